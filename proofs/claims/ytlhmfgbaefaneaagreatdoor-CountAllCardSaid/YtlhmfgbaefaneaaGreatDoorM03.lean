/-
  The steps of the walks, part 3: DateB, Words, Win, Bits.
-/
import Derived.Test.YtlhmfgbaefaneaaGreatDoorProg
import Derived.WalkKit
import Derived.WalkSpells
import Derived.Lib.Hide
import Derived.OwnWalk
import Derived.Below
import Derived.Carry
import Derived.Outline
import Derived.Deep.Draws
import Derived.Laws.Externs
import Derived.Laws.Bits64b
import Derived.Lib.Mul64
import Derived.BigQuiet
import Derived.Deep.QuietTactic
import Derived.Test.YtlhmfgbaefaneaaGreatDoorM01
import Derived.Test.YtlhmfgbaefaneaaGreatDoorM02
set_option maxHeartbeats 4000000
set_option maxRecDepth 100000
namespace Go.Proofs.YtlhmfgbaefaneaaGreatDoor.date
open Go Go.RowKit Go.Proofs.YtlhmfgbaefaneaaGreatDoor.day
open Go.Proofs.YtlhmfgbaefaneaaGreatDoor.ref6 (CAt aW aH)
def bI (c:Int):Value:= .iface 128 (.int .i64 c)
theorem OfE (c:Int)(hc: (c==0)=false)(w:World):Calls Tryz.prog 71 #[.int .i64 c] w fun e w'=>e= .returned (.iface 128 (.int .i64 c))∧w=w':=flt.vN c w hc
theorem Lens.drewN {w:World}(h:Lens w)(k:Nat):Lens (w.drewN k):=h.keep (aH (Below.refl _ _) k)
theorem Lens.alloc {w:World}(h:Lens w)(o:Obj):Lens (w.alloc o):=h.keep ((Below.refl _ _).alloc (Nat.le_refl _) o)
theorem uW (y m d:Int)(w:World)(hL:Lens w):
  Calls Tryz.prog 75 #[.agg #[.int .i64 y,.int .i64 m,.int .i64 d]] w fun e w'=>e= .returned (.bool (decide (aI y m d)))∧Below w.heap.size w w':=by
 have HL:=Lib.hid (fun (n:Nat)(o:Obj)=>dV y m ((w.alloc o).drewN n) ((hL.alloc o).drewN n))
 have HK:=Lib.hid (show aI y m d↔(1900≤y∧y≤2199∧1≤d∧d≤mlen y m) from Iff.rfl)
 generalize mlen y m=L at *
 clear hL
 rcases(show(decide (1900≤y)=false∧¬aI y m d)∨(decide (1900≤y)=true∧decide (y≤2199)=false∧¬aI y m d)∨(decide (1900≤y)=true∧decide (y≤2199)=true∧decide (1≤d)=false∧¬aI y m d)∨(decide (1900≤y)=true∧decide (y≤2199)=true∧decide (1≤d)=true∧decide (d≤L)=false∧¬aI y m d)∨(decide (1900≤y)=true∧decide (y≤2199)=true∧decide (1≤d)=true∧decide (d≤L)=true∧aI y m d) by simp only[decide_eq_true_eq,decide_eq_false_iff_not];rw[HK.out];omega) with ⟨d1,h⟩|⟨d1,d2,h⟩|⟨d1,d2,d3,h⟩|⟨d1,d2,d3,d4,h⟩|⟨d1,d2,d3,d4,h⟩
 all_goals
  have HE:=Lib.hid h
  clear h HK
  go_enter Tryz.func75,Tryz.ntmps75
  go_wp2
  go_quiet (first|(go_at_call 33;with_reducible exact aW (HL.out _ _)))
  go_wp2
  go_ret
  have:=HE.out
  refine⟨by simp[this],aH ((Below.refl _ _).alloc (Nat.le_refl _) _) nq⟩
theorem Md (y m d:Int)(h:¬aI y m d)(w:World)(hL:Lens w):
  Calls Tryz.prog 22 #[.agg #[.int .i64 y,.int .i64 m,.int .i64 d]] w fun e w'=>e= .returned (.tuple #[.int .i64 0,bI 4])∧Below w.heap.size w w':=by
 unfold bI
 have hi:=uW y m d (w.alloc (.cells #[.int .i64 y,.int .i64 m,.int .i64 d] 23)) (hL.alloc _)
 rw[decide_eq_false h] at hi
 have HI:=Lib.hid hi
 have HO:=Lib.hid (fun W=>OfE 4 rfl W)
 have HB0:=Lib.hid ((Below.refl w.heap.size w).alloc (Nat.le_refl _) (.cells #[.int .i64 y,.int .i64 m,.int .i64 d] 23))
 clear hi h hL
 go_enter Tryz.func22,Tryz.ntmps22
 go_wp2_with (first
  |(go_at_call 75;(with_reducible refine(HI.out).mono ?_);rintro e w1 ⟨rfl,hb⟩
    have HB:=Lib.hid (HB0.out.trans (hb.mono HB0.out.size));clear HI hb)
  |(go_at_call 71;(with_reducible refine(HO.out _).mono ?_);rintro e w9 ⟨rfl,rfl⟩)
  |(fail "no arm"))
 go_ret2
 exact⟨rfl,HB.out⟩
def EU (y d:Int)(K M:Nat)(V:World)(dv mv:Value)(wr:World):Prop:=
 ∃j:Nat,j≤M∧dv= .int .i64 (bD K+d - 1+bL y j)∧mv= .int .i64 ((j:Nat)+1)∧V=wr
theorem wH (y m d:Int)(h:aI y m d)(w:World)(hL:Lens w):
  Calls Tryz.prog 22 #[.agg #[.int .i64 y,.int .i64 m,.int .i64 d]] w fun e w'=>e= .returned (.tuple #[.int .i64 (aG y m d),.nilIface])∧Below w.heap.size w w':=by
 obtain⟨h1,h2,h3,h4⟩:=id h
 obtain⟨m1,m2⟩:=h.month
 have l31:=dO y m
 have hi:=uW y m d (w.alloc (.cells #[.int .i64 y,.int .i64 m,.int .i64 d] 23)) (hL.alloc _)
 rw[decide_eq_true h] at hi
 have HI:=Lib.hid hi
 have HB0:=Lib.hid ((Below.refl w.heap.size w).alloc (Nat.le_refl _) (.cells #[.int .i64 y,.int .i64 m,.int .i64 d] 23))
 have HCA:=Lib.hid (CAt.new w y m d)
 obtain⟨K,hK⟩:∃K:Nat,y=1900+K:=⟨(y - 1900).toNat,by omega⟩
 obtain⟨M,hM⟩:∃M:Nat,m=M+1:=⟨(m - 1).toNat,by omega⟩
 have HE:=Lib.hid (show aG y m d=bD K+bL y M+d - 1 from by unfold aG;rw[show(y - 1900).toNat=K by omega,show(m - 1).toNat=M by omega])
 have hK2:K≤299:=by omega
 have hM2:M≤11:=by omega
 have hd:d≤31:=by omega
 have HY:=Lib.hid (fun W=>lC K (by omega) W)
 rw[show(1900:Int)+(K:Nat)=y by omega] at HY
 have HLn:=Lib.hid hL
 have HMM:=Lib.hid hM
 obtain⟨b1,b2⟩:=ref6.mP (show K≤300 by omega)
 clear h hi hM hK hL h4 l31
 go_enter Tryz.func22,Tryz.ntmps22
 go_wp2_with (first
  |(go_at_call 75;(with_reducible refine(HI.out).mono ?_);rintro e w1 ⟨rfl,hb⟩
    have HB:=Lib.hid (HB0.out.trans (hb.mono HB0.out.size))
    have HC:=Lib.hid (HCA.out.below hb);clear HI hb HB0 HCA)
  |(fail "no arm"))
 obtain⟨c0,c1,c2,f0,f1,f2⟩:=HC.out.cells
 go_quiet (first|(go_at_call 73;with_reducible exact aW (HY.out _)))
 go_wp2
 obtain⟨V,hV⟩:∃V,V=w1.drewN nq:=⟨_,rfl⟩
 rw[←hV]
 have HV0:=Lib.hid (show Below w.heap.size w V from by rw[hV];exact aH HB.out nq)
 have d0:V.cell? ⟨w.heap.size,0,none⟩=some (.int .i64 y):=by rw[hV];simpa using c0
 have d1:V.cell? ⟨w.heap.size,1,none⟩=some (.int .i64 m):=by rw[hV];simpa using c1
 have HLV:=Lib.hid (HLn.out.keep HV0.out)
 clear hV c0 c1 c2 f0 f1 f2 HC HY
 go_loopw [4,5] (fun dv mv wr=>EU y d K M V dv mv wr) (fun _ mv _=>((M:Nat)+1 - intOf mv).toNat)
 case atStart=>exact⟨0,Nat.zero_le _,by simp[bL],rfl,rfl⟩
 case round=>
  obtain⟨j,hj,rfl,rfl,rfl⟩:=hrel
  obtain⟨b5,b6⟩:=ref6.xQ (y:=y) (show j≤12 by omega)
  by_cases hlt:j<M
  ·have hg: (j:Int)+1<m:=by have:=HMM.out;omega
   have b3:=rV y ((j:Nat)+1)
   have b4:=dO y ((j:Nat)+1)
   have HS:=Lib.hid (jG y j)
   have HM1:=Lib.hid (dV y ((j:Nat)+1) V HLV.out)
   generalize mlen y ((j:Nat)+1)=ml at *
   generalize hyd:bL y j=n at *
   generalize hyd2:bD K=n2 at *
   have HY2:=Lib.hid hyd2
   clear hyd hyd2
   go_wp2_with (go_at_call 33;(with_reducible refine(HM1.out).mono ?_);rintro e w2 ⟨rfl,rfl⟩;clear HM1)
   go_roundw
   case rel=>exact⟨j+1,by omega,by rw[HS.out,HY2.out];go_num,by go_num,rfl⟩
   case measure=>simp[intOf]<;>omega
  ·have hg:¬(j:Int)+1<m:=by have:=HMM.out;omega
   obtain rfl:j=M:=by omega
   generalize hyd:bL y j=n at *
   generalize hyd2:bD K=n2 at *
   clear hyd hyd2
   go_wp2
   go_ret2
   exact⟨by rw[HE.out];go_num,HV0.out⟩
theorem wB (n:Int)(h:¬aF n)(w:World):
  Calls Tryz.prog 20 #[.int .i64 n] w fun e w'=>e= .returned (.tuple #[.agg #[.int .i64 0,.int .i64 0,.int .i64 0],bI 4])∧Below w.heap.size w w':=by
 unfold bI
 have HI:=Lib.hid (fun W=>Am h W)
 have HO:=Lib.hid (fun W=>OfE 4 rfl W)
 have HB0:=Lib.hid ((Below.refl w.heap.size w).alloc (Nat.le_refl _) (.cells #[.int .i64 0,.int .i64 0,.int .i64 0] 23))
 obtain⟨c0,c1,c2,f0,f1,f2⟩:=(CAt.new w 0 0 0).cells
 have HCA:=Lib.hid (CAt.new w 0 0 0)
 clear h
 go_enter Tryz.func20,Tryz.ntmps20
 go_wp2_with (first
  |(go_at_call 70;(with_reducible refine(HI.out _).mono ?_);rintro e w1 ⟨rfl,rfl⟩)
  |(go_at_call 71;(with_reducible refine(HO.out _).mono ?_);rintro e w9 ⟨rfl,rfl⟩)
  |(fail "no arm"))
 refine bodyPost_ret (v:= .tuple #[.agg #[.int .i64 0,.int .i64 0,.int .i64 0],.iface 128 (.int .i64 4)]) ?_ rfl ?_
 ·simp[results,Tryz.results20,go_sem,c0,c1,c2]
 ·exact⟨rfl,HB0.out⟩
def BU (n y:Int)(B M:Nat)(w:World)(dv:Value)(wr:World):Prop:=
 (∃j:Nat,j≤M∧dv= .int .i64 (n - bL y j)∧CAt wr (B+1) y ((j:Nat)+1) 0)∧CAt wr B 0 0 0∧Below B w wr
theorem dU (y m d:Int)(h:aI y m d)(w:World)(hL:Lens w):
  Calls Tryz.prog 20 #[.int .i64 (aG y m d)] w fun e w'=>e= .returned (.tuple #[.agg #[.int .i64 y,.int .i64 m,.int .i64 d],.nilIface])∧Below w.heap.size w w':=by
 obtain⟨h1,h2,h3,h4⟩:=id h
 obtain⟨m1,m2⟩:=h.month
 have l31:=dO y m
 obtain⟨K,rfl⟩:∃K:Nat,y=1900+K:=⟨(y - 1900).toNat,by omega⟩
 obtain⟨M,rfl⟩:∃M:Nat,m=M+1:=⟨(m - 1).toNat,by omega⟩
 have e1: ((1900:Int)+(K:Nat) - 1900).toNat=K:=by omega
 have e2: (((M:Nat):Int)+1 - 1).toNat=M:=by omega
 have e3: (((M:Nat):Int)+1).toNat=M+1:=by omega
 have hE:aG (1900+(K:Nat)) ((M:Nat)+1) d=bD K+bL (1900+(K:Nat)) M+d - 1:=by unfold aG;rw[e1,e2]
 have hyr:=dZ h
 rw[e1] at hyr
 have hyi:=kT h
 rw[e1,e2,e3] at hyi
 have hK2:K≤299:=by omega
 have hM2:M≤11:=by omega
 have hn1:=(aT h).1
 have hn2:=(aT h).2
 have HI:=Lib.hid (fun W=>Ao (aT h) W)
 have HYO:=Lib.hid (fun W=>Ro K hK2 _ hyr.1 hyr.2 W)
 have HNY:=Lib.hid (fun W=>lC K (by omega) W)
 have HE:=Lib.hid hE
 have HYI:=Lib.hid hyi
 have HLn:=Lib.hid hL
 obtain⟨b1,b2⟩:=ref6.mP (show K≤300 by omega)
 clear h hE hyr hyi e1 e2 e3 h4 l31 h1 h2 m1 m2 hL
 generalize aG (1900+(K:Nat)) ((M:Nat)+1) d=n at *
 go_enter Tryz.func20,Tryz.ntmps20
 go_wp2_with (first
  |(go_at_call 70;(with_reducible refine(HI.out _).mono ?_);rintro e w1 ⟨rfl,rfl⟩)
  |(go_at_call 72;(with_reducible refine(HYO.out _).mono ?_);rintro e w9 ⟨rfl,rfl⟩)
  |(go_at_call 73;(with_reducible refine(HNY.out _).mono ?_);rintro e w9 ⟨rfl,rfl⟩)
  |(fail "no arm"))
 go_loopw [5] (fun dv wr=>BU (n - bD K) (1900+(K:Nat)) w.heap.size M w dv wr) (fun dv _=>(intOf dv).toNat)
 case atStart=>
  have e: (w.alloc (.cells #[.int .i64 0,.int .i64 0,.int .i64 0] 23)).heap.size=w.heap.size+1:=ref6.qK _ _
  have h:=CAt.new (w.alloc (.cells #[.int .i64 0,.int .i64 0,.int .i64 0] 23)) (1900+(K:Nat)) 1 0
  rw[e] at h
  exact⟨⟨0,Nat.zero_le _,by simp[bL],h⟩,(CAt.new w 0 0 0).below ((Below.refl _ _).alloc (Nat.le_refl _) _),((Below.refl _ _).alloc (Nat.le_refl _) _).alloc (by omega) _⟩
 case round=>
  obtain⟨⟨j,hj,rfl,hc⟩,ha,hb⟩:=hrel
  obtain⟨c0,c1,c2,f0,f1,f2⟩:=hc.cells
  have HC:=Lib.hid hc
  have HA:=Lib.hid ha
  have HB:=Lib.hid hb
  obtain⟨a0,a1,a2,g0,g1,g2⟩:=ha.cells
  obtain⟨b1,b2⟩:=ref6.xQ (y:=1900+(K:Nat)) (show j≤12 by omega)
  have b5:=rV (1900+(K:Nat)) ((j:Nat)+1)
  have b6:=dO (1900+(K:Nat)) ((j:Nat)+1)
  have HS:=Lib.hid (jG (1900+(K:Nat)) j)
  have HM1:=Lib.hid (dV (1900+(K:Nat)) ((j:Nat)+1) wr (HLn.out.keep hb))
  clear hc ha hb
  by_cases hlt:j<M
  ·have b7:28≤mlen (1900+(K:Nat)) ((j:Nat)+1):=kG (by omega) (by omega)
   have hg:mlen (1900+(K:Nat)) ((j:Nat)+1)≤n - bD K - bL (1900+(K:Nat)) j:=by
    have h5:=fJ (y:=1900+(K:Nat)) (show j+1≤M by omega)
    have:=HYI.out.1
    rw[HS.out] at h5
    omega
   generalize mlen (1900+(K:Nat)) ((j:Nat)+1)=ml at *
   generalize hyd:bL (1900+(K:Nat)) j=n1 at *
   generalize hyd2:bD K=n0 at *
   clear hyd hyd2
   go_wp2_with (go_at_call 33;(with_reducible refine(HM1.out).mono ?_);rintro e w1 ⟨rfl,rfl⟩)
   go_roundw
   case rel=>exact⟨⟨j+1,by omega,by rw[HS.out];go_num,by have:=HC.out.set1 ((j:Nat)+1+1);rwa [show((j:Nat):Int)+1+1=((j+1:Nat):Int)+1 by omega] at this⟩,HA.out.far _ _ (by simp only;omega),HB.out.setCell (by simp only;omega) _⟩
   case measure=>simp[intOf]<;>omega
  ·obtain rfl:j=M:=by omega
   have hg:n - bD K - bL (1900+(K:Nat)) j<mlen (1900+(K:Nat)) ((j:Nat)+1):=by
    have:=HYI.out.2
    rw[HS.out] at this
    omega
   have hd:n - bD K - bL (1900+(K:Nat)) j+1=d:=by have:=HE.out;omega
   have HD:=Lib.hid hd
   clear hd
   generalize mlen (1900+(K:Nat)) ((j:Nat)+1)=ml at *
   generalize hyd:bL (1900+(K:Nat)) j=n1 at *
   generalize hyd2:bD K=n0 at *
   clear hyd hyd2
   go_wp2_with (go_at_call 33;(with_reducible refine(HM1.out).mono ?_);rintro e w1 ⟨rfl,rfl⟩)
   obtain⟨q0,q1,q2,-⟩:=((((HA.out.far ⟨w.heap.size+1,2,none⟩ (.int .i64 (n - n0 - n1+1)) (by simp only;omega)).set0 (1900+(K:Nat))).set1 ((j:Nat)+1)).set2 (n - n0 - n1+1)).cells
   refine bodyPost_ret (v:= .tuple #[.agg #[.int .i64 (1900+(K:Nat)),.int .i64 ((j:Nat)+1),.int .i64 (n - n0 - n1+1)],.nilIface]) ?_ rfl ?_
   ·simp[results,Tryz.results20,go_sem,q0,q1,q2]
   ·exact⟨by rw[HD.out],(((HB.out.setCell (by simp only;omega) _).setCell (Nat.le_refl _) _).setCell (Nat.le_refl _) _).setCell (Nat.le_refl _) _⟩
theorem gF (n:Int)(h:aF n)(w:World):
  Calls Tryz.prog 26 #[.int .i64 n] w fun e w'=>e= .returned (.int .i64 (wday n))∧w=w':=by
 have HI:=Lib.hid (fun W=>Ao h W)
 obtain⟨h1,h2⟩:=h
 go_enter Tryz.func26,Tryz.ntmps26
 go_wp2_with (first
  |(go_at_call 70;(with_reducible refine(HI.out _).mono ?_);rintro e w9 ⟨rfl,rfl⟩)
  |(fail "no arm"))
 go_ret
 exact⟨rfl,rfl⟩
theorem rA (n:Int)(h:¬aF n)(w:World):
  Calls Tryz.prog 26 #[.int .i64 n] w fun e w'=>e= .returned (.int .i64 (-1))∧w=w':=by
 have HI:=Lib.hid (fun W=>Am h W)
 clear h
 go_enter Tryz.func26,Tryz.ntmps26
 go_wp2_with (first
  |(go_at_call 70;(with_reducible refine(HI.out _).mono ?_);rintro e w9 ⟨rfl,rfl⟩)
  |(fail "no arm"))
 go_ret
 exact⟨rfl,rfl⟩
end Go.Proofs.YtlhmfgbaefaneaaGreatDoor.date
namespace Go.Proofs.YtlhmfgbaefaneaaGreatDoor.nat
def val:List Nat→Nat
 |[]=>0
 |d::r=>d+18446744073709551616*val r
def Dig (l:List Nat):Prop:=∀d∈l,d<18446744073709551616
def Norm (l:List Nat):Prop:=Dig l∧l.getLast?≠some 0
theorem Dig.nil:Dig []:=fun _ h=>by cases h
theorem Dig.cons {d:Nat}{l:List Nat}(h:d<18446744073709551616)(hl:Dig l):Dig (d::l):=fun x hx=>by
 rcases List.mem_cons.1 hx with rfl|hx
 ·exact h
 ·exact hl x hx
theorem Dig.tail {d:Nat}{l:List Nat}(h:Dig (d::l)):Dig l:=fun x hx=>h x (List.mem_cons_of_mem _ hx)
theorem Dig.head {d:Nat}{l:List Nat}(h:Dig (d::l)):d<18446744073709551616:=h d (List.mem_cons_self)
theorem Dig.append {a b:List Nat}(ha:Dig a)(hb:Dig b):Dig (a++b):=fun x hx=>by
 rcases List.mem_append.1 hx with h|h
 ·exact ha x h
 ·exact hb x h
theorem Dig.take {l:List Nat}(h:Dig l)(k:Nat):Dig (l.take k):=fun x hx=>h x (List.mem_of_mem_take hx)
theorem Dig.drop {l:List Nat}(h:Dig l)(k:Nat):Dig (l.drop k):=fun x hx=>h x (List.mem_of_mem_drop hx)
theorem Dig.get {l:List Nat}(h:Dig l)(k:Nat)(hk:k<l.length):l[k]<18446744073709551616:=h _ (List.getElem_mem hk)
theorem val_append (a b:List Nat):val (a++b)=val a+18446744073709551616 ^ a.length*val b:=by
 induction a with
 |nil=>simp[val]
 |cons d a ih=>
  simp only[List.cons_append,val,List.length_cons,ih,Nat.pow_succ]
  rw[Nat.mul_add,Nat.mul_comm (18446744073709551616 ^ a.length) 18446744073709551616,Nat.mul_assoc,Nat.add_assoc]
theorem dR {l:List Nat}(h:Dig l):val l<18446744073709551616 ^ l.length:=by
 induction l with
 |nil=>simp[val]
 |cons d l ih=>
  have h1:=ih h.tail
  have h2:=h.head
  simp only[val,List.length_cons,Nat.pow_succ]
  omega
theorem pE (l:List Nat)(k:Nat)(hk:k<l.length):val l=val (l.take k)+18446744073709551616 ^ k*(l[k]+18446744073709551616*val (l.drop (k+1))):=by
 have h:l=l.take k++(l[k]::l.drop (k+1)):=by
  rw[←List.drop_eq_getElem_cons hk,List.take_append_drop]
 have h2:=val_append (l.take k) (l[k]::l.drop (k+1))
 rw[←h,List.length_take,Nat.min_eq_left (by omega)] at h2
 exact h2
theorem iD (l:List Nat)(d:Nat):val (l++[d])=val l+18446744073709551616 ^ l.length*d:=by
 rw[val_append]
 simp[val]
theorem Norm.nil:Norm []:=⟨Dig.nil,by simp⟩
theorem tV {l:List Nat}{d:Nat}(h:Dig l)(hd:d<18446744073709551616)(h0:d≠0):Norm (l++[d]):=
 ⟨h.append (Dig.cons hd Dig.nil),by simp[h0]⟩
theorem pow_pos (k:Nat):0<18446744073709551616 ^ k:=Nat.pow_pos (by omega)
theorem Norm.low {l:List Nat}(h:Norm l)(hne:l≠[]):18446744073709551616 ^ (l.length - 1)≤val l:=by
 obtain⟨a,d,rfl⟩:∃a d,l=a++[d]:=⟨l.dropLast,l.getLast hne,(List.dropLast_concat_getLast hne).symm⟩
 have h0:d≠0:=fun e=>h.2 (by simp[e])
 rw[iD]
 simp only[List.length_append,List.length_cons,List.length_nil,Nat.add_sub_cancel]
 have:=Nat.le_mul_of_pos_right (18446744073709551616 ^ a.length) (Nat.pos_of_ne_zero h0)
 omega
theorem Norm.zero {l:List Nat}(h:Norm l):val l=0↔l=[]:=by
 constructor
 ·intro h0
  by_cases hne:l=[]
  ·exact hne
  ·have:=h.low hne
   have:=pow_pos (l.length - 1)
   omega
 ·rintro rfl
  rfl
theorem Norm.short {a b:List Nat}(ha:Norm a)(hb:Norm b)(h:a.length<b.length):val a<val b:=by
 have h1:=dR ha.1
 have hne:b≠[]:=by rintro rfl;simp at h
 have h2:=hb.low hne
 have h3:18446744073709551616 ^ a.length≤18446744073709551616 ^ (b.length - 1):=Nat.pow_le_pow_right (by omega) (by omega)
 omega
theorem sQ {a b:List Nat}(ha:Dig a)(k:Nat)(hka:k<a.length)(hkb:k<b.length)(hup:a.drop (k+1)=b.drop (k+1))(h:a[k]<b[k]):val a<val b:=by
 rw[pE a k hka,pE b k hkb,hup]
 have h1:=dR (ha.take k)
 rw[List.length_take,Nat.min_eq_left (by omega)] at h1
 have h2:18446744073709551616 ^ k*(a[k]+18446744073709551616*val (b.drop (k+1)))+18446744073709551616 ^ k≤18446744073709551616 ^ k*(b[k]+18446744073709551616*val (b.drop (k+1))):=by
  rw[←Nat.mul_succ]
  exact Nat.mul_le_mul_left _ (by omega)
 omega
theorem Norm.inj:∀{a b:List Nat},Norm a→Norm b→val a=val b→a=b
 |[],b,_,hb,h=>((hb.zero).1 h.symm).symm
 |a,[],ha,_,h=>(ha.zero).1 h
 |d::a,e::b,ha,hb,h=>by
  have h1:=ha.1.head
  have h2:=hb.1.head
  simp only[val] at h
  have hd:d=e:=by omega
  have hv:val a=val b:=by omega
  have na:Norm a:=⟨ha.1.tail,fun hl=>ha.2 (by rw[List.getLast?_cons,hl];rfl)⟩
  have nb:Norm b:=⟨hb.1.tail,fun hl=>hb.2 (by rw[List.getLast?_cons,hl];rfl)⟩
  rw[hd,Norm.inj na nb hv]
def dg (l:List Nat)(k:Nat):Nat:=l.getD k 0
theorem dL {l:List Nat}{k:Nat}(h:k<l.length):dg l k=l[k]:=by simp[dg,h]
theorem iV {l:List Nat}{k:Nat}(h:l.length≤k):dg l k=0:=by simp[dg,h]
theorem bS {l:List Nat}(h:Dig l)(k:Nat):dg l k<18446744073709551616:=by
 by_cases hk:k<l.length
 ·rw[dL hk];exact h.get k hk
 ·rw[iV (by omega)];omega
theorem kE {l:List Nat}{k n:Nat}(h:k<n):dg (l.take n) k=dg l k:=by simp[dg,h]
theorem Jl {a b:List Nat}(hl:a.length=b.length)(h:∀k,k<a.length→dg a k=dg b k):a=b:=by
 apply List.ext_getElem hl
 intro k h1 h2
 have:=h k h1
 rwa [dL h1,dL h2] at this
theorem oF {l:List Nat}{k:Nat}(h:k<l.length){α:Type}(f:Nat→α): (l.map f)[k]?=some (f (dg l k)):=by simp[dg,h]
theorem pF (l:List Nat)(k:Nat)(hk:k<l.length):val l=val (l.take k)+18446744073709551616 ^ k*(dg l k+18446744073709551616*val (l.drop (k+1))):=by rw[dL hk];exact pE l k hk
theorem qC (l:List Nat)(k:Nat)(hk:k<l.length):l.take (k+1)=l.take k++[dg l k]:=by rw[dL hk,List.take_succ_eq_append_getElem hk]
theorem gX (l:List Nat)(k:Nat)(hk:k<l.length):l.drop k=dg l k::l.drop (k+1):=by rw[dL hk,List.drop_eq_getElem_cons hk]
theorem jT {l:List Nat}(h:Norm l)(hl:0<l.length):dg l (l.length - 1)≠0:=fun h0=>h.2 (by
 rw[List.getLast?_eq_getElem?,List.getElem?_eq_getElem (by omega),←dL (by omega),h0])
theorem oN {l:List Nat}(h:Dig l)(ht:0<l.length→dg l (l.length - 1)≠0):Norm l:=⟨h,fun hl=>by
 by_cases hn:0<l.length
 ·rw[List.getLast?_eq_getElem?,List.getElem?_eq_getElem (by omega),←dL (by omega)] at hl
  exact ht hn (by simpa using hl)
 ·obtain rfl:=List.eq_nil_of_length_eq_zero (show l.length=0 by omega)
  simp at hl⟩
theorem aQ (l:List Nat)(k:Nat):val (l.take (k+1))=val (l.take k)+18446744073709551616 ^ k*dg l k:=by
 by_cases h:k<l.length
 ·rw[qC l k h,iD,List.length_take,Nat.min_eq_left (by omega)]
 ·rw[iV (by omega),List.take_of_length_le (by omega),List.take_of_length_le (by omega)]
  omega
theorem gH {l:List Nat}{j d:Nat}(h:j<l.length):dg (l.set j d) j=d:=by simp[dg,h]
theorem cO {l:List Nat}{j k d:Nat}(h:j≠k):dg (l.set j d) k=dg l k:=by simp[dg,h]
theorem Dig.set {l:List Nat}{j d:Nat}(h:Dig l)(hd:d<18446744073709551616):Dig (l.set j d):=fun x hx=>by
 rcases List.mem_or_eq_of_mem_set hx with h1|h1
 ·exact h x h1
 ·rw[h1];exact hd
theorem gB {l:List Nat}{j d:Nat}(h:j<l.length):val (l.set j d)+18446744073709551616 ^ j*dg l j=val l+18446744073709551616 ^ j*d:=by
 have h1:=pF l j h
 have h2:=pF (l.set j d) j (by simpa using h)
 rw[gH h] at h2
 have e1: (l.set j d).take j=l.take j:=by rw[List.take_set,List.set_eq_of_length_le (by rw[List.length_take];omega)]
 have e2: (l.set j d).drop (j+1)=l.drop (j+1):=by rw[List.drop_set_of_lt (by omega)]
 rw[e1,e2] at h2
 rw[Nat.mul_add] at h1 h2
 omega
theorem fU (n:Nat):val (List.replicate n 0)=0:=by
 induction n with
 |zero=>rfl
 |succ n ih=>simp[List.replicate_succ,val,ih]
theorem fQ (n:Nat):Dig (List.replicate n 0):=fun x hx=>by rw[(List.mem_replicate.1 hx).2];omega
theorem jR (n k:Nat):dg (List.replicate n 0) k=0:=by
 unfold dg
 rw[List.getD_eq_getElem?_getD,List.getElem?_replicate]
 split<;>rfl
theorem qU {o:List Nat}{k V D:Nat}(hd:Dig o)(h:val o+D=V+18446744073709551616 ^ k)(hV:D≤V):k<o.length:=by
 have h1:=dR hd
 by_cases hk:k<o.length
 ·exact hk
 ·have h2:18446744073709551616 ^ o.length≤18446744073709551616 ^ k:=Nat.pow_le_pow_right (by omega) (by omega)
  omega
def digs (x:Nat):List Nat:=if h:x=0 then [] else x%18446744073709551616::digs (x/18446744073709551616)
termination_by x
decreasing_by omega
theorem aX:digs 0=[]:=by rw[digs];simp
theorem gI {x:Nat}(h:x≠0):digs x=x%18446744073709551616::digs (x/18446744073709551616):=by rw[digs];simp[h]
theorem aA (x:Nat):val (digs x)=x:=by
 induction x using Nat.strongRecOn with
 |_ x ih=>
  by_cases h:x=0
  ·subst h;rw[aX];rfl
  ·rw[gI h,val,ih (x/18446744073709551616) (by omega)]
   omega
theorem aB (x:Nat):Norm (digs x):=by
 induction x using Nat.strongRecOn with
 |_ x ih=>
  by_cases h:x=0
  ·subst h;rw[aX];exact Norm.nil
  ·rw[gI h]
   obtain⟨h1,h2⟩:=ih (x/18446744073709551616) (by omega)
   refine⟨Dig.cons (Nat.mod_lt _ (by omega)) h1,?_⟩
   by_cases hq:x/18446744073709551616=0
   ·rw[hq,aX]
    simp
    omega
   ·rw[List.getLast?_cons]
    rw[gI hq] at h2 ⊢
    rw[List.getLast?_cons] at h2
    rw[List.getLast?_cons]
    simpa using h2
theorem Norm.fI {l:List Nat}(h:Norm l):l=digs (val l):=h.inj (aB _) (aA _).symm
end Go.Proofs.YtlhmfgbaefaneaaGreatDoor.nat
namespace Go.Proofs.YtlhmfgbaefaneaaGreatDoor.nat
open Go.RowKit
theorem jP: (Tryz.prog.info? 104).map (fun i=>(i.zero,i.size,i.bytes))=some (some (.int .u64 0),1,8):=by kernel_rfl
def Rd (w:World)(sv:Value)(l:List Nat):Prop:=
 ∃ao cap,sv= .slice ao l.length cap∧(l.length≤cap∧(ao=none→cap=0))∧cap≤maxLen∧(l=[]∨∃g off,ao=some ⟨g,off,none⟩∧∀k,k<l.length→w.cell? ⟨g,off+k,none⟩=some (.int .u64 (dg l k:Nat)))
def Apart (g:Nat)(sv:Value):Prop:=∀a n cap,sv= .slice (some a) n cap→0<n→a.block≠g
def Row (w:World)(g:Nat)(L:List Nat):Prop:=∃R,w.heap[g]?=some (.cells ((L.map fun d=>Value.int .u64 (d:Nat))++R).toArray 104 (0,0))
def Own (w:World)(B:Nat)(sv:Value)(l:List Nat):Prop:=
 ∃ao cap,sv= .slice ao l.length cap∧(l.length≤cap∧(ao=none→cap=0))∧cap≤maxLen∧(l=[]∨∃g,ao=some ⟨g,0,none⟩∧B≤g∧Row w g l)
theorem aO {w:World}{a:Addr}{v:Value}(h:w.cell? a=some v):a.block<w.heap.size:=by
 rcases Nat.lt_or_ge a.block w.heap.size with h'|h'
 ·exact h'
 ·simp[World.cell?,Array.getElem?_eq_none h'] at h
theorem Row.lt {w:World}{g:Nat}{L:List Nat}(h:Row w g L):g<w.heap.size:=by
 obtain⟨R,h⟩:=h
 exact(Array.getElem?_eq_some_iff.1 h).1
theorem Row.cell {w:World}{g:Nat}{L:List Nat}(h:Row w g L)(k:Nat)(hk:k<L.length):w.cell? ⟨g,k,none⟩=some (.int .u64 (dg L k:Nat)):=by
 obtain⟨R,h⟩:=h
 simp only[World.cell?,h,Option.isSome_none,Bool.false_eq_true,if_false]
 rw[List.getElem?_toArray,List.getElem?_append_left (by simpa using hk)]
 exact oF hk _
theorem Row.free {w:World}{g:Nat}{L:List Nat}(h:Row w g L)(k:Nat):w.frozen? ⟨g,k,none⟩=false:=by
 obtain⟨R,h⟩:=h
 simp[World.frozen?,h]
theorem Row.set {w:World}{g:Nat}{L:List Nat}(h:Row w g L)(k:Nat)(hk:k<L.length){u:Int}{d:Nat}(hu:u=(d:Nat)):Row (w.setCell ⟨g,k,none⟩ (.int .u64 u)) g (L.set k d):=by
 obtain⟨R,h⟩:=h
 refine⟨R,?_⟩
 rw[heap_setCell_same w g k _ _ _ h,hu]
 congr 2
 rw[List.setIfInBounds_toArray,List.set_append_left _ _ (by simpa using hk),List.map_set]
theorem Row.kept {w w':World}{g:Nat}{L:List Nat}{row:Option Nat}(h:Row w g L)(hg:w.grownBy w' row)(hne:some g≠row):Row w' g L:=by
 obtain⟨R,hR⟩:=h
 exact⟨R,(hg.block g (Array.getElem?_eq_some_iff.1 hR).1 hne).trans hR⟩
theorem Row.below {w w':World}{B g:Nat}{L:List Nat}(h:Row w g L)(hb:Below B w w')(hg:g<B):Row w' g L:=by
 obtain⟨R,hR⟩:=h
 exact⟨R,(hb.block g hg).trans hR⟩
theorem Row.append {w:World}{g:Nat}{A B:List Nat}(h:Row w g (A++B)):Row w g A:=by
 obtain⟨R,h⟩:=h
 exact⟨B.map (fun d=>Value.int .u64 (d:Nat))++R,by rw[h,List.map_append,List.append_assoc]⟩
theorem Row.take {w:World}{g:Nat}{L:List Nat}(h:Row w g L)(k:Nat):Row w g (L.take k):=Row.append (B:=L.drop k) (by rwa [List.take_append_drop])
theorem Row.rd {w:World}{g:Nat}{L:List Nat}(h:Row w g L)(off n cap:Nat)(h1:off+n≤L.length)(h2:n≤cap)(h3:cap≤maxLen):Rd w (.slice (some ⟨g,off,none⟩) n cap) ((L.drop off).take n):=by
 have hl: ((L.drop off).take n).length=n:=by simp;omega
 refine⟨some ⟨g,off,none⟩,cap,by rw[hl],⟨by omega,fun h=>by cases h⟩,h3,Or.inr ⟨g,off,rfl,fun k hk=> ?_⟩⟩
 rw[hl] at hk
 rw[h.cell (off+k) (by omega),kE hk]
 simp[dg]
theorem iK (w:World)(row:Option Nat):w.grownBy w row:=⟨rfl,rfl,rfl,Nat.le_refl _,fun _ _ _=>rfl⟩
theorem bF {a b c:World}{row:Option Nat}(h:a.grownBy b row)(k:b.grownBy c row):a.grownBy c row:=
 ⟨k.os.trans h.os,k.tape.trans h.tape,k.output.trans h.output,Nat.le_trans h.size k.size,fun i hi hne=>(k.block i (Nat.lt_of_lt_of_le hi h.size) hne).trans (h.block i hi hne)⟩
theorem bZ (w:World)(g k:Nat)(u:Value):w.grownBy (w.setCell ⟨g,k,none⟩ u) (some g):=
 ⟨rfl,rfl,rfl,by simp,fun i _ hi=>heap_setCell_other w ⟨g,k,none⟩ i u (fun e=>hi (by simp[e]))⟩
theorem bE {w w':World}(h:Below w.heap.size w w')(row:Option Nat):w.grownBy w' row:=⟨h.os,h.tape,h.output,h.size,fun k hk _=>h.block k hk⟩
theorem below_grown {B g:Nat}{w0 w w':World}(h:Below B w0 w)(hg:w.grownBy w' (some g))(h1:B≤w.heap.size)(h2:B≤g):Below B w0 w':=h.grown hg h1 (fun k hk=>by cases hk;exact h2)
theorem Rd.kept {w w':World}{sv:Value}{l:List Nat}{g:Nat}(h:Rd w sv l)(hg:w.grownBy w' (some g))(ha:Apart g sv):Rd w' sv l:=by
 obtain⟨ao,cap,rfl,h1,h2,h3⟩:=h
 refine⟨ao,cap,rfl,h1,h2,h3.imp id fun ⟨b,off,hb,hc⟩=>⟨b,off,hb,fun k hk=> ?_⟩⟩
 subst hb
 have hne:=ha _ _ _ rfl (by omega)
 exact hg.cell (hc k hk) (by simpa using hne)
theorem Rd.below {w w':World}{sv:Value}{l:List Nat}(h:Rd w sv l)(hb:Below w.heap.size w w'):Rd w' sv l:=by
 obtain⟨ao,cap,rfl,h1,h2,h3⟩:=h
 refine⟨ao,cap,rfl,h1,h2,h3.imp id fun ⟨g,off,hg,hc⟩=>⟨g,off,hg,fun k hk=>(hb.cell (p:=⟨g,off+k,none⟩) (aO (hc k hk))).trans (hc k hk)⟩⟩
theorem Rd.apart {w:World}{sv:Value}{l:List Nat}{g:Nat}(h:Rd w sv l)(hg:w.heap.size≤g):Apart g sv:=by
 obtain⟨ao,cap,rfl,h1,h2,h3⟩:=h
 rintro a n c he hn
 simp only[Value.slice.injEq] at he
 obtain⟨rfl,rfl,rfl⟩:=he
 rcases h3 with rfl|⟨b,off,hb,hc⟩
 ·simp at hn
 ·simp only[Option.some.injEq] at hb
  subst hb
  have:=aO (hc 0 hn)
  simp only at this ⊢
  omega
theorem Rd.nil (w:World):Rd w (.slice none 0 0) []:=⟨none,0,rfl,⟨Nat.le_refl _,fun _=>rfl⟩,Nat.zero_le _,Or.inl rfl⟩
theorem Rd.inj {w:World}{sv:Value}{l l':List Nat}(h:Rd w sv l)(h':Rd w sv l'):l=l':=by
 obtain⟨ao,cap,rfl,_,_,h3⟩:=h
 obtain⟨ao',cap',he,_,_,h3'⟩:=h'
 simp only[Value.slice.injEq] at he
 obtain⟨rfl,hl,rfl⟩:=he
 rcases h3 with rfl|⟨g,off,rfl,hc⟩
 ·exact(List.eq_nil_of_length_eq_zero hl.symm).symm
 ·rcases h3' with rfl|⟨g',off',hg',hc'⟩
  ·exact List.eq_nil_of_length_eq_zero hl
  ·simp only[Option.some.injEq,Addr.mk.injEq,and_true] at hg'
   obtain⟨rfl,rfl⟩:=hg'
   refine Jl hl fun k h1=> ?_
   have:=(hc k h1).symm.trans (hc' k (by omega))
   simp only[Option.some.injEq,Value.int.injEq,true_and] at this
   omega
theorem Rd.part {w:World}{g off n cap:Nat}{l:List Nat}(h:Rd w (.slice (some ⟨g,off,none⟩) n cap) l)(a m c:Nat)(h1:a+m≤l.length)(h2:m≤c)(h3:c≤cap):Rd w (.slice (some ⟨g,off+a,none⟩) m c) ((l.drop a).take m):=by
 obtain⟨ao,cap',he,h4,h5,h6⟩:=h
 simp only[Value.slice.injEq] at he
 obtain⟨rfl,rfl,rfl⟩:=he
 have hl: ((l.drop a).take m).length=m:=by simp;omega
 refine⟨_,c,by rw[hl],⟨by omega,fun h=>by cases h⟩,by omega,?_⟩
 rcases h6 with rfl|⟨b,o,hb,hc⟩
 ·simp at h1
  left
  simp
 ·simp only[Option.some.injEq,Addr.mk.injEq,and_true] at hb
  obtain⟨rfl,rfl⟩:=hb
  refine Or.inr ⟨g,off+a,rfl,fun k hk=> ?_⟩
  rw[hl] at hk
  rw[Nat.add_assoc,hc (a+k) (by omega),kE hk]
  simp[dg]
theorem Own.rd {w:World}{B:Nat}{sv:Value}{l:List Nat}(h:Own w B sv l):Rd w sv l:=by
 obtain⟨ao,cap,rfl,h1,h2,h3⟩:=h
 refine⟨ao,cap,rfl,h1,h2,h3.imp id fun ⟨g,hg,_,hr⟩=>⟨g,0,hg,fun k hk=>by rw[Nat.zero_add];exact hr.cell k hk⟩⟩
theorem Own.mono {w:World}{B B':Nat}{sv:Value}{l:List Nat}(h:Own w B sv l)(hb:B'≤B):Own w B' sv l:=by
 obtain⟨ao,cap,h0,h1,h2,h3⟩:=h
 exact⟨ao,cap,h0,h1,h2,h3.imp id fun ⟨g,hg,h4,hr⟩=>⟨g,hg,by omega,hr⟩⟩
theorem Own.nil (w:World)(B:Nat):Own w B (.slice none 0 0) []:=⟨none,0,rfl,⟨Nat.le_refl _,fun _=>rfl⟩,Nat.zero_le _,Or.inl rfl⟩
theorem Own.gK {w:World}{B g cap:Nat}{l:List Nat}(h:Row w g l)(hB:B≤g)(h1:l.length≤cap)(h2:cap≤maxLen):Own w B (.slice (some ⟨g,0,none⟩) l.length cap) l:=
 ⟨_,cap,rfl,⟨h1,fun h=>by cases h⟩,h2,Or.inr ⟨g,rfl,hB,h⟩⟩
theorem Own.below {w w':World}{B:Nat}{sv:Value}{l:List Nat}(h:Own w B sv l)(hb:Below w.heap.size w w'):Own w' B sv l:=by
 obtain⟨ao,cap,h0,h1,h2,h3⟩:=h
 exact⟨ao,cap,h0,h1,h2,h3.imp id fun ⟨g,hg,h4,hr⟩=>⟨g,hg,h4,hr.below hb hr.lt⟩⟩
theorem Own.apart {w:World}{B:Nat}{sv:Value}{l:List Nat}{g:Nat}(h:Own w B sv l)(hg:g<B):Apart g sv:=by
 obtain⟨ao,cap,rfl,h1,h2,h3⟩:=h
 rintro a n c he hn
 simp only[Value.slice.injEq] at he
 obtain⟨rfl,rfl,rfl⟩:=he
 rcases h3 with rfl|⟨b,hb,hB,hr⟩
 ·simp at hn
 ·simp only[Option.some.injEq] at hb
  subst hb
  simp only
  omega
theorem Row.rX {w:World}{base g n cap:Nat}{l:List Nat}(h:w.ownsRow base 104 1 (.slice (some ⟨g,0,none⟩) n cap) n (l.map fun d=>Value.int .u64 (d:Nat))):Row w g l∧base≤g∧n≤cap∧cap≤maxLen:=by
 rcases h.2 with ⟨h',_⟩|⟨g',cap',cur,h',hb,hh,hnc,hcm,hsz,htk⟩
 ·simp at h'
 ·simp only[Value.slice.injEq,Option.some.injEq,Addr.mk.injEq,and_true,true_and] at h'
  obtain⟨rfl,rfl⟩:=h'
  refine⟨⟨cur.toList.drop (n*1),?_⟩,hb,hnc,hcm⟩
  rw[←htk,List.take_append_drop,Array.toArray_toList]
  exact hh
theorem Own.rX {w:World}{base n:Nat}{sv:Value}{l:List Nat}(h:w.ownsRow base 104 1 sv n (l.map fun d=>Value.int .u64 (d:Nat))):Own w base sv l:=by
 have hl:l.length=n:=by simpa using h.1
 rcases h.2 with ⟨rfl,hn⟩|⟨g,cap,cur,rfl,_⟩
 ·subst hn
  obtain rfl:=List.eq_nil_of_length_eq_zero hl
  exact Own.nil _ _
 ·obtain⟨h1,h2,h3,h4⟩:=Row.rX h
  subst hl
  exact Own.gK h1 h2 h3 h4
theorem Kc (n:Nat): (madeCells (Value.int .u64 0).cells (n*1)).toList=(List.replicate n 0).map fun d=>Value.int .u64 (d:Nat):=by
 rw[Nat.mul_one,show(Value.int .u64 0).cells=#[Value.int .u64 0] from rfl,toList_madeCells_one]
 simp
theorem Bu {w w' w'':World}{B:Nat}(h:Below B w w')(hB:B≤w'.heap.size)(k:Below w'.heap.size w' w''):Below B w w'':=h.trans (k.mono hB)
theorem dN {l:List Nat}{ao:Option Addr}{n cap:Nat}{w:World}(h:Rd w (.slice ao n cap) l)(hn:0<n):∃g off,ao=some ⟨g,off,none⟩∧∀k,k<n→w.cell? ⟨g,off+k,none⟩=some (.int .u64 (dg l k:Nat)):=by
 obtain⟨ao',cap',he,h4,h5,h6⟩:=h
 simp only[Value.slice.injEq] at he
 obtain⟨rfl,rfl,rfl⟩:=he
 rcases h6 with rfl|h
 ·simp at hn
 ·exact h
theorem aU {B:Nat}{a w:World}(h:Below B a w)(n:Nat):Below B a (w.drewN n):=⟨h.os,h.tape,h.output,h.size,h.block⟩
theorem aK (w:World)(n:Nat):Below w.heap.size w (w.drewN n):=aU (Below.refl _ _) n
end Go.Proofs.YtlhmfgbaefaneaaGreatDoor.nat
namespace Go.Proofs.YtlhmfgbaefaneaaGreatDoor.nat
open Go.RowKit Go.Lib
theorem Oo (x y c:Int)(hx:0≤x)(hy:0≤y)(hc0:0≤c)(hc:c≤1)(w:World): (callFunc 225 #[.int .u64 x,.int .u64 y,.int .u64 c]).run Tryz.prog w=
  .ok (.value (.tuple #[.int .u64 ((x+y+c)%18446744073709551616),.int .u64 ((x+y+c)/18446744073709551616)])) w:=by
 rw[run_callFunc_extern Tryz.func225 (by kernel_rfl) (by kernel_rfl) (by kernel_rfl) (e:=add64Entry) (by kernel_rfl),run_add64 x y c hx hy hc0 hc]
 rfl
def sub64Entry:Array Value→Sem Value:=fun args=>do
 let (x,y,b) ←Extern.MathBitsCarry.three "Sub64" args
 pure (Extern.MathBitsCarry.pair ((x+Extern.MathBitsCarry.m64 - y - b)%Extern.MathBitsCarry.m64) (if x<y+b then 1 else 0))
theorem run_sub64 (x y b:Nat)(hb:b≤1)(w:World):
  (sub64Entry #[.int .u64 x,.int .u64 y,.int .u64 b]).run Tryz.prog w=
    .ok (.tuple #[.int .u64 (((x+18446744073709551616 - y - b)%18446744073709551616:Nat):Int),.int .u64 ((if x<y+b then 1 else 0:Nat):Int)]) w:=by
 have:b=0∨b=1:=by omega
 rcases this with rfl|rfl<;>rfl
theorem fO (x y c:Nat)(hx:x<18446744073709551616)(hy:y<18446744073709551616)(hc:c≤1):∃s k:Nat,s<18446744073709551616∧k≤1∧s+18446744073709551616*k=x+y+c∧
  ∀w,(callFunc 225 #[.int .u64 (x:Int),.int .u64 (y:Int),.int .u64 (c:Int)]).run Tryz.prog w= .ok (.value (.tuple #[.int .u64 (s:Int),.int .u64 (k:Int)])) w:=by
 refine⟨(x+y+c)%18446744073709551616,(x+y+c)/18446744073709551616,by omega,by omega,by omega,fun w=> ?_⟩
 rw[Oo _ _ _ (by omega) (by omega) (by omega) (by omega)]
 congr 5<;>omega
theorem sK (x y b:Nat)(hx:x<18446744073709551616)(hy:y<18446744073709551616)(hb:b≤1):∃s k:Nat,s<18446744073709551616∧k≤1∧s+y+b=x+18446744073709551616*k∧
  ∀w,(callFunc 261 #[.int .u64 (x:Int),.int .u64 (y:Int),.int .u64 (b:Int)]).run Tryz.prog w= .ok (.value (.tuple #[.int .u64 (s:Int),.int .u64 (k:Int)])) w:=by
 refine⟨(x+18446744073709551616 - y - b)%18446744073709551616,if x<y+b then 1 else 0,by omega,by split<;>omega,by split<;>omega,fun w=> ?_⟩
 rw[run_callFunc_extern Tryz.func261 (by kernel_rfl) (by kernel_rfl) (by kernel_rfl) (e:=sub64Entry) (by kernel_rfl),run_sub64 x y b hb]
 rfl
theorem maskN (a:Nat)(ha:a<18446744073709551616):bits .and .u64 (a:Int) 4294967295=((a%4294967296:Nat):Int):=by
 have h:=bits_and_u64_nat a 4294967295 ha (by omega)
 have e:a&&&4294967295=a%4294967296:=Nat.and_two_pow_sub_one_eq_mod a 32
 rw[e] at h
 exact h
theorem divN (a:Nat): (a:Int)/4294967296=((a/4294967296:Nat):Int):=by omega
theorem mulN (a b:Nat): (a:Int)*(b:Int)=((a*b:Nat):Int):=(Int.natCast_mul a b).symm
theorem addN (a b:Nat): (a:Int)+(b:Int)=((a+b:Nat):Int):=(Int.natCast_add a b).symm
theorem wrapN (a:Nat)(ha:a<18446744073709551616):IntKind.u64.wrap (a:Int)=(a:Int):=by rw[IntKind.wrap_u64];omega
theorem wrapM (a:Nat):IntKind.u64.wrap (a:Int)=((a%18446744073709551616:Nat):Int):=by rw[IntKind.wrap_u64];omega
theorem zX (x y:Nat)(hx:x<18446744073709551616)(hy:y<18446744073709551616)(w:World):
  Calls Tryz.prog 201 #[.int .u64 x,.int .u64 y] w fun e w'=>e= .returned (.tuple #[.int .u64 ((x*y/18446744073709551616:Nat):Int),.int .u64 ((x*y%18446744073709551616:Nat):Int)])∧w'=w:=by
 obtain⟨bd,bt,bw,hhi⟩:=Lib.mul64_hi x y hx hy
 have ba:=Lib.half_mul_le (a:=x/4294967296) (b:=y/4294967296) (by omega) (by omega)
 have bb:=Lib.half_mul_le (a:=x/4294967296) (b:=y%4294967296) (by omega) (by omega)
 have bc:=Lib.half_mul_le (a:=x%4294967296) (b:=y/4294967296) (by omega) (by omega)
 have ba':x/4294967296*(y/4294967296)<18446744073709551616:=by omega
 have bb':x/4294967296*(y%4294967296)<18446744073709551616:=by omega
 have bc':x%4294967296*(y/4294967296)<18446744073709551616:=by omega
 have bh1:x/4294967296*(y/4294967296)+(x/4294967296*(y%4294967296)+x%4294967296*(y%4294967296)/4294967296)/4294967296<18446744073709551616:=by omega
 have bh:x/4294967296*(y/4294967296)+(x/4294967296*(y%4294967296)+x%4294967296*(y%4294967296)/4294967296)/4294967296+((x/4294967296*(y%4294967296)+x%4294967296*(y%4294967296)/4294967296)%4294967296+x%4294967296*(y/4294967296))/4294967296<18446744073709551616:=by omega
 go_enter Tryz.func201,Tryz.ntmps201
 go_wp2
 simp only[maskN x hx,maskN y hy,divN,mulN,addN,wrapN _ bd,wrapN _ bb',wrapN _ bt,maskN _ bt,wrapN _ bc',wrapN _ bw,wrapN _ ba',wrapN _ bh1,wrapN _ bh,wrapM]
 rw[hhi]
 go_ret2
 exact⟨rfl,rfl⟩
theorem Gv {P:Program}{f:FuncId}{args:Array Value}{w:World}{c n:Nat}{v:Value}
  (h:Calls P f args (w.drewN (c+n)) fun e w'=>e= .returned v∧w'=w.drewN (c+n)):Calls P f args (w.drewN (c+n)) fun e w''=>e= .returned v∧∃m,w''=w.drewN (c+m):=
 h.mono fun _ _ ⟨he,hm⟩=>⟨he,n,hm⟩
def cmp3 (x y:Int):Int:=if x<y then -1 else if y<x then 1 else 0
theorem wC (x y:Int)(w:World):Calls Tryz.prog 132 #[.int .i64 x,.int .i64 y] w fun e w'=>e= .returned (.int .i64 (cmp3 x y))∧w'=w:=by
 unfold cmp3
 rcases(show x<y∨y<x∨x=y by omega) with h|h|h
 ·go_enter Tryz.func132,Tryz.ntmps132
  go_wp2_with go_in
  go_ret
  simp
 ·have h':¬x<y:=by omega
  go_enter Tryz.func132,Tryz.ntmps132
  go_wp2_with go_in
  go_ret
  simp
 ·subst h
  go_enter Tryz.func132,Tryz.ntmps132
  go_wp2_with go_in
  go_ret
  simp
theorem Rz (x y:Int)(w:World):Calls Tryz.prog 213 #[.int .u64 x,.int .u64 y] w fun e w'=>e= .returned (.int .i64 (cmp3 x y))∧w'=w:=by
 unfold cmp3
 rcases(show x<y∨y<x∨x=y by omega) with h|h|h
 ·go_enter Tryz.func213,Tryz.ntmps213
  go_wp2_with go_in
  go_ret
  simp
 ·have h':¬x<y:=by omega
  go_enter Tryz.func213,Tryz.ntmps213
  go_wp2_with go_in
  go_ret
  simp
 ·subst h
  go_enter Tryz.func213,Tryz.ntmps213
  go_wp2_with go_in
  go_ret
  simp
end Go.Proofs.YtlhmfgbaefaneaaGreatDoor.nat
