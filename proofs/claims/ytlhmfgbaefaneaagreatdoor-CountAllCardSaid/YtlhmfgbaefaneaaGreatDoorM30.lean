/-
  The steps of the walks, part 30: CalA, CalB, CalC, CalD, CalE.
-/
import Derived.StillTailTactics
import Derived.BigRegion
import Derived.BigQuiet
import Derived.Deep.QuietTactic
import Derived.Test.YtlhmfgbaefaneaaGreatDoorM29
set_option maxHeartbeats 4000000
set_option maxRecDepth 100000
namespace Go.Proofs.YtlhmfgbaefaneaaGreatDoor.cal
open Go Go.RowKit Go.Proofs.YtlhmfgbaefaneaaGreatDoor.day Go.Proofs.YtlhmfgbaefaneaaGreatDoor.date Go.Proofs.YtlhmfgbaefaneaaGreatDoor.law6
open Go.Proofs.YtlhmfgbaefaneaaGreatDoor.ref6 (CalT aZ aW aH)
def CRow (w:World)(g:Nat)(L:List Nat):Prop:=
 L.length=1713∧(∀x∈L,x<18446744073709551616)∧w.heap[g]?=some (.cells (L.map fun d=>Value.int .u64 (d:Nat)).toArray 107 (0,0))
theorem CRow.lt {w:World}{g:Nat}{L:List Nat}(h:CRow w g L):g<w.heap.size:=(Array.getElem?_eq_some_iff.1 h.2.2).1
theorem CRow.cell {w:World}{g:Nat}{L:List Nat}(h:CRow w g L)(k:Nat)(hk:k<1713):w.cell? ⟨g,k,none⟩=some (.int .u64 (wd L k:Nat)):=by
 obtain⟨hl,-,h⟩:=h
 simp only[World.cell?,h,Option.isSome_none,Bool.false_eq_true,if_false]
 rw[List.getElem?_toArray,List.getElem?_map]
 unfold wd
 rw[List.getD_eq_getElem?_getD,List.getElem?_eq_getElem (by omega)]
 rfl
theorem CRow.free {w:World}{g:Nat}{L:List Nat}(h:CRow w g L)(k:Nat):w.frozen? ⟨g,k,none⟩=false:=by
 simp[World.frozen?,h.2.2]
theorem CRow.set {w:World}{g:Nat}{L:List Nat}(h:CRow w g L)(k:Nat){v:Nat}(hv:v<18446744073709551616){u:Int}(hu:u=(v:Nat)):CRow (w.setCell ⟨g,k,none⟩ (.int .u64 u)) g (L.set k v):=by
 obtain⟨hl,ha,h⟩:=h
 refine⟨by rw[List.length_set,hl],Yp ha hv,?_⟩
 rw[heap_setCell_same w g k _ _ _ h,hu]
 congr 2
 rw[List.setIfInBounds_toArray,List.map_set]
theorem CRow.below {w w':World}{B g:Nat}{L:List Nat}(h:CRow w g L)(hb:Below B w w')(hg:g<B):CRow w' g L:=⟨h.1,h.2.1,(hb.block g hg).trans h.2.2⟩
theorem CRow.keep {w w':World}{g:Nat}{L:List Nat}(h:CRow w g L)(hb:Below w.heap.size w w'):CRow w' g L:=h.below hb h.lt
def dF (w:World)(v:Value)(cs:List CalT):Prop:=
 (v= .pointer none∧∀D,aF D→¬shut cs D)∨∃g L,v= .pointer (some ⟨g,0,none⟩)∧CRow w g L∧∀D:Nat,D≤109572→(bitN L D=true↔shut cs (D:Nat))
theorem dF.keep {w w':World}{v:Value}{cs:List CalT}(h:dF w v cs)(hb:Below w.heap.size w w'):dF w' v cs:=
 h.imp id fun ⟨g,L,e,hr,hD⟩=>⟨g,L,e,hr.keep hb,hD⟩
theorem Er (n:Nat)(hn:n≤109572)(w:World):Calls Tryz.prog 91 #[.int .i64 (n:Int)] w fun e w'=>e= .returned (.int .u64 ((2 ^ (n%64):Nat):Int))∧w=w':=by
 have hp:=Kk n
 have h1: ((n:Int)).tmod 64=((n%64:Nat):Int):=by rw[Int.tmod_eq_emod_of_nonneg (by omega)];omega
 have h2: (((n%64:Nat):Int)).toNat=n%64:=by omega
 have h3:n%64<64:=Nat.mod_lt _ (by decide)
 have HG:=Lib.hid (show IntKind.u64.wrap (2 ^ (n%64))=((2 ^ (n%64):Nat):Int) from by
  have e: (2:Int) ^ (n%64)=((2 ^ (n%64):Nat):Int):=(Int.natCast_pow 2 _).symm
  rw[e,IntKind.wrap_u64]
  clear e
  revert hp
  generalize 2 ^ (n%64)=P
  intro hp
  omega)
 generalize n%64=k at *
 clear hp
 go_enter Tryz.func91,Tryz.ntmps91
 go_wp2
 go_ret
 exact⟨congrArg (fun z=>Ending.returned (Value.int .u64 z)) HG.out,rfl⟩
theorem kJ (D:Int)(w:World):Calls Tryz.prog 89 #[.int .i64 D] w fun e w'=>e= .returned (.bool (decide (aF D)))∧w=w':=by
 by_cases h:aF D
 ·have HW:=Lib.hid (fun W=>gF D h W)
  have hb:¬(wday D= -1):=by unfold wday;omega
  rw[decide_eq_true h]
  clear h
  generalize wday D=d at *
  go_enter Tryz.func89,Tryz.ntmps89
  go_wp2_with (first
   |(go_at_call 26;(with_reducible refine(HW.out _).mono ?_);rintro e w1 ⟨rfl,rfl⟩)
   |(fail "no arm"))
  go_ret
  exact⟨by simp[hb],rfl⟩
 ·have HW:=Lib.hid (fun W=>rA D h W)
  rw[decide_eq_false h]
  clear h
  go_enter Tryz.func89,Tryz.ntmps89
  go_wp2_with (first
   |(go_at_call 26;(with_reducible refine(HW.out _).mono ?_);rintro e w1 ⟨rfl,rfl⟩)
   |(fail "no arm"))
  go_ret
  exact⟨rfl,rfl⟩
end Go.Proofs.YtlhmfgbaefaneaaGreatDoor.cal
namespace Go.Proofs.YtlhmfgbaefaneaaGreatDoor.cal
open Go Go.RowKit Go.Proofs.YtlhmfgbaefaneaaGreatDoor.day Go.Proofs.YtlhmfgbaefaneaaGreatDoor.date Go.Proofs.YtlhmfgbaefaneaaGreatDoor.law6
open Go.Proofs.YtlhmfgbaefaneaaGreatDoor.ref6 (CalT aZ aW aH)
theorem wR (g:Nat)(L:List Nat)(n:Nat)(hn:n≤109572)(w:World)(hr:CRow w g L):
  Calls Tryz.prog 90 #[.pointer (some ⟨g,0,none⟩),.int .i64 (n:Int)] w fun e w'=>e= .returned (.tuple #[])∧CRow w' g (oP L n)∧w.grownBy w' (some g):=by
 have HB:=Lib.hid (fun W=>(Er n hn W).mono fun _ _ h=>(⟨h.1,h.2.symm⟩:_∧_=W))
 obtain⟨k,hk⟩:∃k,k=n/64:=⟨_,rfl⟩
 have hk2:k<1713:=by omega
 have hq: ((n:Int)).tdiv 64=(k:Int):=by rw[Int.tdiv_eq_ediv_of_nonneg (by omega)];omega
 have hwk:IntKind.i64.wrap (k:Int)=(k:Int):=by rw[IntKind.wrap_i64];omega
 have hk3: (k:Int)<1713:=by omega
 have hkn: ((k:Int)).toNat=k:=by omega
 have hk4:0≤(k:Int):=by omega
 have hp:=Kk n
 have hx:=Ba hr.2.1 k
 have c1:=hr.cell k hk2
 have f1:=hr.free k
 have HO:=Lib.hid (show bits .or .u64 (wd L k:Nat) ((2 ^ (n%64):Nat):Int)=((wd L k|||2 ^ (n%64):Nat):Int) from bits_or_u64_nat _ _ hx hp)
 have HS:=Lib.hid (fun (W:World)(u:Int)(h:CRow W g L)(hu:u=((wd L k|||2 ^ (n%64):Nat):Int))=>(show CRow (W.setCell ⟨g,k,none⟩ (.int .u64 u)) g (oP L n) from by unfold oP;rw[←hk];exact h.set k (BN hx hp) hu))
 have HR:=Lib.hid hr
 generalize 2 ^ (n%64)=P at *
 generalize wd L k=x at *
 clear hr hp hx hk hn
 go_enter Tryz.func90,Tryz.ntmps90
 go_wp2
 refine wp_region_still_tail 13 (by kernel_rfl) (by kernel_rfl) ?_
 simp only[List.take_succ_cons,List.take_zero,List.drop_succ_cons,List.drop_zero]
 repeat still_step
 still_call (HB.out _)
 repeat still_step
 refine wpStill_nil ?_
 change wpList _ _ _ _ _ w.drew
 have c2:w.drew.cell? ⟨g,k,none⟩=some (.int .u64 x):=c1
 have f2:w.drew.frozen? ⟨g,k,none⟩=false:=f1
 have hg:=Lib.hid (show w.grownBy w.drew (some g) from⟨rfl,rfl,rfl,Nat.le_refl _,fun _ _ _=>rfl⟩)
 have HR2:=Lib.hid (HR.out.keep (Below.refl _ _).drew)
 clear c1 f1 HR
 generalize w.drew=w2 at *
 go_wp2
 go_end0
 exact⟨rfl,HS.out w2 _ HR2.out HO.out,nat.bF hg.out (nat.bZ _ _ _ _)⟩
end Go.Proofs.YtlhmfgbaefaneaaGreatDoor.cal
namespace Go.Proofs.YtlhmfgbaefaneaaGreatDoor.cal
open Go Go.RowKit Go.Proofs.YtlhmfgbaefaneaaGreatDoor.day Go.Proofs.YtlhmfgbaefaneaaGreatDoor.date Go.Proofs.YtlhmfgbaefaneaaGreatDoor.law6
open Go.Proofs.YtlhmfgbaefaneaaGreatDoor.ref6 (CalT aZ aW aH)
theorem Eb (v:Value)(D:Int)(d:Int)(hd:d= -1∨d=6∨d=0)(w:World)(HW:∀W,Calls Tryz.prog 26 #[.int .i64 D] W fun e w'=>e= .returned (.int .i64 d)∧W=w'):
  Calls Tryz.prog 50 #[v,.int .i64 D] w fun e w'=>e= .returned (.bool false)∧Below w.heap.size w w':=by
 have HW:=Lib.hid HW
 rcases hd with rfl|rfl|rfl
 all_goals
  go_enter Tryz.func50,Tryz.ntmps50
  go_wp2_with (first
   |(go_at_call 26;(with_reducible refine(HW.out _).mono ?_);rintro e w1 ⟨rfl,rfl⟩)
   |(fail "no arm"))
  go_ret
  exact⟨rfl,Below.refl _ _⟩
theorem Tg (D:Int)(d:Int)(h1: (d== -1)=false)(h2: (d==6)=false)(h3: (d==0)=false)(w:World)(HW:∀W,Calls Tryz.prog 26 #[.int .i64 D] W fun e w'=>e= .returned (.int .i64 d)∧W=w'):
  Calls Tryz.prog 50 #[.pointer none,.int .i64 D] w fun e w'=>e= .returned (.bool true)∧Below w.heap.size w w':=by
 have HW:=Lib.hid HW
 go_enter Tryz.func50,Tryz.ntmps50
 go_wp2_with (first
  |(go_at_call 26;(with_reducible refine(HW.out _).mono ?_);rintro e w1 ⟨rfl,rfl⟩)
  |(fail "no arm"))
 go_quiet (fail)
 go_wp2
 go_ret
 exact⟨rfl,aH (Below.refl _ _) nq⟩
theorem Ti (g:Nat)(L:List Nat)(n:Nat)(hn:n≤109572)(d:Int)(h1: (d== -1)=false)(h2: (d==6)=false)(h3: (d==0)=false)(w:World)(hr:CRow w g L)(HW:∀W,Calls Tryz.prog 26 #[.int .i64 (n:Int)] W fun e w'=>e= .returned (.int .i64 d)∧W=w'):
  Calls Tryz.prog 50 #[.pointer (some ⟨g,0,none⟩),.int .i64 (n:Int)] w fun e w'=>e= .returned (.bool (!bitN L n))∧Below w.heap.size w w':=by
 have HW:=Lib.hid HW
 have HB:=Lib.hid (fun W=>Er n hn W)
 obtain⟨k,hk⟩:∃k,k=n/64:=⟨_,rfl⟩
 have hk2:k<1713:=by omega
 have hq: ((n:Int)).tdiv 64=(k:Int):=by rw[Int.tdiv_eq_ediv_of_nonneg (by omega)];omega
 have hwk:IntKind.i64.wrap (k:Int)=(k:Int):=by rw[IntKind.wrap_i64];omega
 have hk3: (k:Int)<1713:=by omega
 have hkn: ((k:Int)).toNat=k:=by omega
 have hk4:0≤(k:Int):=by omega
 have hp:=Kk n
 have hx:=Ba hr.2.1 k
 have c1:=hr.cell k hk2
 have HO:=bits_and_u64_nat _ _ hx hp
 have HE:=Lib.hid (show((((wd L k&&&2 ^ (n%64):Nat):Int))==0)=!bitN L n from by
  unfold bitN
  rw[←hk]
  have:=Yq (wd L k) (n%64)
  cases hb: (wd L k).testBit (n%64)
  ·rw[this.2 hb];rfl
  ·have h0:¬(wd L k&&&2 ^ (n%64))=0:=fun e=>by rw[this.1 e] at hb;cases hb
   generalize wd L k&&&2 ^ (n%64)=Z at *
   simp only[Bool.not_true,beq_eq_false_iff_ne]
   omega)
 generalize (wd L k&&&2 ^ (n%64))=Z at *
 generalize 2 ^ (n%64)=P at *
 generalize wd L k=x at *
 generalize bitN L n=b at *
 clear hr hp hx hk hn
 go_enter Tryz.func50,Tryz.ntmps50
 go_wp2_with (first
  |(go_at_call 26;(with_reducible refine(HW.out _).mono ?_);rintro e w1 ⟨rfl,rfl⟩)
  |(fail "no arm"))
 go_quiet (first|(go_at_call 91;with_reducible exact aW (HB.out _)))
 go_wp2
 go_ret
 exact⟨congrArg (fun z=>Ending.returned (Value.bool z)) HE.out,aH (Below.refl _ _) nq⟩
theorem kQ (v:Value)(cs:List CalT)(D:Int)(w:World)(hc:dF w v cs):
  Calls Tryz.prog 50 #[v,.int .i64 D] w fun e w'=>e= .returned (.bool (aZ cs D))∧Below w.heap.size w w':=by
 by_cases hD:aF D
 ·by_cases h:wday D=6∨wday D=0
  ·have hf:aZ cs D=false:=by
    cases ho:aZ cs D
    ·rfl
    ·have:=(yB cs D).1 ho
     unfold wday at h
     omega
   rw[hf]
   exact Eb v D (wday D) (Or.inr h) w (fun W=>gF D hD W)
  ·have h1: (wday D== -1)=false:=by simp only[beq_eq_false_iff_ne];unfold wday;omega
   have h2: (wday D==6)=false:=by simp only[beq_eq_false_iff_ne];omega
   have h3: (wday D==0)=false:=by simp only[beq_eq_false_iff_ne];omega
   have hw:=fun W=>gF D hD W
   rcases hc with ⟨rfl,hs⟩|⟨g,L,rfl,hr,hs⟩
   ·rw[(yB cs D).2 ⟨hD,by unfold wday at h;omega,by unfold wday at h;omega,hs D hD⟩]
    exact Tg D _ h1 h2 h3 w hw
   ·obtain⟨n,rfl⟩:∃n:Nat,D=n:=⟨D.toNat,by have:=hD.1;omega⟩
    have hn:n≤109572:=by have:=hD.2;omega
    have e:aZ cs (n:Int)=!bitN L n:=by
     have hi:=yB cs (n:Int)
     have hb:=hs n hn
     cases hbb:bitN L n
     ·rw[hi.2 ⟨hD,by unfold wday at h;omega,by unfold wday at h;omega,fun hh=>by rw[hb.2 hh] at hbb;cases hbb⟩];rfl
     ·cases ho:aZ cs (n:Int)
      ·rfl
      ·exact absurd (hb.1 hbb) (hi.1 ho).2.2.2
    rw[e]
    exact Ti g L n hn _ h1 h2 h3 w hr hw
 ·have hf:aZ cs D=false:=by
   cases ho:aZ cs D
   ·rfl
   ·exact absurd (ref6.dH ho) hD
  rw[hf]
  exact Eb v D (-1) (Or.inl rfl) w (fun W=>rA D hD W)
end Go.Proofs.YtlhmfgbaefaneaaGreatDoor.cal
namespace Go.Proofs.YtlhmfgbaefaneaaGreatDoor.cal
open Go Go.RowKit Go.Proofs.YtlhmfgbaefaneaaGreatDoor.day Go.Proofs.YtlhmfgbaefaneaaGreatDoor.date Go.Proofs.YtlhmfgbaefaneaaGreatDoor.law6
open Go.Proofs.YtlhmfgbaefaneaaGreatDoor.ref6 (CalT aZ bB addN cntO cntN aW aH)
theorem Qk {cs:List CalT}{s x:Int}(hs:s=1∨s= -1)(h:aZ cs x=true):bB cs s x=some x:=by
 have hd:=ref6.dH h
 rcases hs with rfl|rfl
 ·exact ref6.iM hd (Int.le_refl _) h fun y h1 h2=>by omega
 ·exact ref6.gZ hd (Int.le_refl _) h fun y h1 h2=>by omega
theorem Qm {cs:List CalT}{s x:Int}(hs:s=1∨s= -1)(hx:aF x)(h:aZ cs x=false):bB cs s x=bB cs s (x+s):=by
 rcases hs with rfl|rfl
 ·cases h2:bB cs 1 (x+1) with
  |some t=>
   obtain⟨a,b,c⟩:=ref6.nH h2
   refine ref6.iM hx (by omega) b fun y h1 h3=> ?_
   by_cases e:y=x
   ·rw[e];exact h
   ·exact c y (by omega) h3
  |none=>
   cases h3:bB cs 1 x with
   |none=>rfl
   |some t=>
    obtain⟨a,b,c⟩:=ref6.nH h3
    by_cases e:t=x
    ·rw[e,h] at b;cases b
    ·have ht:=ref6.dH b
     have:=ref6.Dc (D:=x+1) ⟨by have:=hx.1;omega,by have:=ht.2;omega⟩ h2 t (by omega)
     rw[this] at b;cases b
 ·cases h2:bB cs (-1) (x+ -1) with
  |some t=>
   obtain⟨a,b,c⟩:=ref6.jH h2
   refine ref6.gZ hx (by omega) b fun y h1 h3=> ?_
   by_cases e:y=x
   ·rw[e];exact h
   ·exact c y h1 (by omega)
  |none=>
   cases h3:bB cs (-1) x with
   |none=>rfl
   |some t=>
    obtain⟨a,b,c⟩:=ref6.jH h3
    by_cases e:t=x
    ·rw[e,h] at b;cases b
    ·have ht:=ref6.dH b
     have:=ref6.xW (D:=x+ -1) ⟨by have:=ht.1;omega,by have:=hx.2;omega⟩ h2 t (by omega)
     rw[this] at b;cases b
theorem El {cs:List CalT}{s d:Int}(hs:s=1∨s= -1)(m:Nat)(h:aZ cs (d+s)=true):addN cs s (m+1) d=addN cs s m (d+s):=by
 rw[addN,Qk hs h]
theorem Em {cs:List CalT}{s d:Int}(hs:s=1∨s= -1)(m:Nat)(hx:aF (d+s))(h:aZ cs (d+s)=false):addN cs s (m+1) d=addN cs s (m+1) (d+s):=by
 rw[addN,Qm hs hx h,←addN]
theorem Mi {cs:List CalT}{s d:Int}(m:Nat)(hx:¬aF (d+s)):addN cs s (m+1) d=none:=by
 rw[addN,ref6.oM hx]
def Rp (o:Option Int)(w:World)(e:Ending)(w':World):Prop:=
 (∀t,o=some t→e= .returned (.tuple #[.int .i64 t,.nilIface]))∧(o=none→e= .returned (.tuple #[.int .i64 0,.iface 128 (.int .i64 4)]))∧Below w.heap.size w w'
def zU (cs:List CalT)(s:Int)(o:Option Int)(w:World)(dv nv:Value)(wr:World):Prop:=
 ∃(d:Int)(m:Nat),dv= .int .i64 d∧nv= .int .i64 (m:Nat)∧m≤1000∧(aF d∧addN cs s m d=o∨¬aF d∧o=none)∧Below w.heap.size w wr
theorem Ig (v:Value)(cs:List CalT)(D:Int)(K:Nat)(o:Option Int)(hD:aF D∧addN cs 1 K D=o∨¬aF D∧o=none)(hK:K≤1000)(w:World)(hc:dF w v cs):
  Calls Tryz.prog 52 #[v,.int .i64 D,.int .i64 (K:Nat)] w fun e w'=>Rp o w e w':=by
 have HI:=Lib.hid (fun (x:Int) W=>kJ x W)
 have HO:=Lib.hid (fun (x:Int) W (hb:Below w.heap.size w W)=>kQ v cs x W (hc.keep hb))
 have HE:=Lib.hid (fun W=>OfE 4 rfl W)
 have HS:=Lib.hid (show zU cs 1 o w (.int .i64 D) (.int .i64 (K:Nat)) w from⟨D,K,rfl,rfl,hK,hD,Below.refl _ _⟩)
 have k1:decide ((1000:Int)<(K:Int))=false:=by simp only[decide_eq_false_iff_not];omega
 have k2:decide ((K:Int)<0)=false:=by simp only[decide_eq_false_iff_not];omega
 have k4:decide ((1000:Int)< -(K:Int))=false:=by simp only[decide_eq_false_iff_not];omega
 have k3:decide ((K:Int)< -1000)=false:=by simp only[decide_eq_false_iff_not];omega
 clear hD hc
 go_enter Tryz.func52,Tryz.ntmps52
 go_wp2
 go_loopw [1,2] (fun dv nv wr=>zU cs 1 o w dv nv wr) (fun dv _ _=>(109573 - intOf dv).toNat)
 case atStart=>exact HS.out
 case round=>
  obtain⟨d,m,rfl,rfl,hm,hr,hb⟩:=hrel
  have HB:=Lib.hid hb
  clear hb HS
  have HR:=Lib.hid hr
  clear hr
  by_cases hd:aF d
  ·have HId:=HI.out d
   rw[decide_eq_true hd] at HId
   have HId:=Lib.hid HId
   cases m with
   |zero=>
    have HF:=Lib.hid (show o=some d from by
     rcases HR.out with ⟨-,h⟩|⟨h,-⟩
     ·exact h.symm
     ·exact absurd hd h)
    clear HR hd HI
    go_wp2_with (first
     |(go_at_call 89;(with_reducible refine(HId.out _).mono ?_);rintro e w1 ⟨rfl,rfl⟩)
     |(fail "no arm"))
    go_ret2
    exact⟨fun t ht=>(by rw[HF.out] at ht;cases ht;rfl),fun h=>(by rw[HF.out] at h;cases h),HB.out⟩
   |succ m=>
    have HD:=Lib.hid hd
    have HOd:=HO.out (d+1)
    have HN:=Lib.hid (show ∀(m':Nat)(x z:Int),x=d+1→z=(m':Nat)→(m'=m∧aZ cs (d+1)=true∨m'=m+1∧aZ cs (d+1)=false)→∀W,Below w.heap.size w W→zU cs 1 o w (.int .i64 x) (.int .i64 z) W from by
     rintro m' x z rfl rfl hm' W hW
     refine⟨_,m',rfl,rfl,by omega,?_,hW⟩
     have ho:addN cs 1 (m+1) d=o:=by
      rcases HR.out with ⟨-,h⟩|⟨h,-⟩
      ·exact h
      ·exact absurd hd h
     rcases hm' with ⟨rfl,h⟩|⟨rfl,h⟩
     ·exact Or.inl ⟨ref6.dH h,by rw[←ho,El (by omega) _ h]⟩
     ·by_cases hx:aF (d+1)
      ·exact Or.inl ⟨hx,by rw[←ho,Em (by omega) _ hx h]⟩
      ·exact Or.inr ⟨hx,by rw[←ho,Mi _ hx]⟩)
    have q1:decide ((0:Int)<((m+1:Nat):Int))=true:=by simp only[decide_eq_true_eq];omega
    have hdd:0≤d∧d≤109572:=hd
    cases hob:aZ cs (d+1)
    ·rw[hob] at HOd HN
     have HOd:=Lib.hid HOd
     clear HO HR hd hob HI
     go_wp2_with (first
      |(go_at_call 89;(with_reducible refine(HId.out _).mono ?_);rintro e w1 ⟨rfl,rfl⟩)
      |(go_at_call 50;(with_reducible refine(HOd.out _ HB.out).mono ?_);rintro e w2 ⟨rfl,hb2⟩
        have HB2:=Lib.hid (HB.out.trans (hb2.mono HB.out.size));clear hb2)
      |(fail "no arm"))
     go_roundw
     case rel=>refine HN.out (m+1) _ _ ?_ ?_ (Or.inr ⟨rfl,by trivial⟩) _ HB2.out<;>omega
     case measure=>simp[intOf];omega
    ·rw[hob] at HOd HN
     have HOd:=Lib.hid HOd
     clear HO HR hd hob HI
     go_wp2_with (first
      |(go_at_call 89;(with_reducible refine(HId.out _).mono ?_);rintro e w1 ⟨rfl,rfl⟩)
      |(go_at_call 50;(with_reducible refine(HOd.out _ HB.out).mono ?_);rintro e w2 ⟨rfl,hb2⟩
        have HB2:=Lib.hid (HB.out.trans (hb2.mono HB.out.size));clear hb2)
      |(fail "no arm"))
     go_roundw
     case rel=>refine HN.out m _ _ ?_ ?_ (Or.inl ⟨rfl,by trivial⟩) _ HB2.out<;>omega
     case measure=>simp[intOf];omega
  ·have HId:=HI.out d
   rw[decide_eq_false hd] at HId
   have HId:=Lib.hid HId
   have HF:=Lib.hid (show o=none from by
    rcases HR.out with ⟨h,-⟩|⟨-,h⟩
    ·exact absurd h hd
    ·exact h)
   clear HR hd HI
   cases m with
   |zero=>
    go_wp2_with (first
     |(go_at_call 89;(with_reducible refine(HId.out _).mono ?_);rintro e w1 ⟨rfl,rfl⟩)
     |(go_at_call 71;(with_reducible refine(HE.out _).mono ?_);rintro e w9 ⟨rfl,rfl⟩)
     |(fail "no arm"))
    go_ret2
    exact⟨fun t ht=>(by rw[HF.out] at ht;cases ht),fun h=>rfl,HB.out⟩
   |succ m=>
    go_wp2_with (first
     |(go_at_call 89;(with_reducible refine(HId.out _).mono ?_);rintro e w1 ⟨rfl,rfl⟩)
     |(go_at_call 71;(with_reducible refine(HE.out _).mono ?_);rintro e w9 ⟨rfl,rfl⟩)
     |(fail "no arm"))
    go_ret2
    exact⟨fun t ht=>(by rw[HF.out] at ht;cases ht),fun h=>rfl,HB.out⟩
theorem vZ (v:Value)(cs:List CalT)(D:Int)(K:Nat)(o:Option Int)(hD:aF D∧addN cs (-1) K D=o∨¬aF D∧o=none)(hK:K≤1000)(hK0:1≤K)(w:World)(hc:dF w v cs):
  Calls Tryz.prog 52 #[v,.int .i64 D,.int .i64 (-(K:Nat))] w fun e w'=>Rp o w e w':=by
 have HI:=Lib.hid (fun (x:Int) W=>kJ x W)
 have HO:=Lib.hid (fun (x:Int) W (hb:Below w.heap.size w W)=>kQ v cs x W (hc.keep hb))
 have HE:=Lib.hid (fun W=>OfE 4 rfl W)
 have HS:=Lib.hid (show zU cs (-1) o w (.int .i64 D) (.int .i64 (K:Nat)) w from⟨D,K,rfl,rfl,hK,hD,Below.refl _ _⟩)
 have k1:decide ((1000:Int)<(K:Int))=false:=by simp only[decide_eq_false_iff_not];omega
 have k2:decide ((K:Int)<0)=false:=by simp only[decide_eq_false_iff_not];omega
 have k4:decide ((1000:Int)< -(K:Int))=false:=by simp only[decide_eq_false_iff_not];omega
 have k3:decide (0<K)=true:=decide_eq_true (by omega)
 clear hD hc
 go_enter Tryz.func52,Tryz.ntmps52
 go_wp2
 go_loopw [1,2] (fun dv nv wr=>zU cs (-1) o w dv nv wr) (fun dv _ _=>(intOf dv+1).toNat)
 case atStart=>exact HS.out
 case round=>
  obtain⟨d,m,rfl,rfl,hm,hr,hb⟩:=hrel
  have HB:=Lib.hid hb
  clear hb HS
  have HR:=Lib.hid hr
  clear hr
  by_cases hd:aF d
  ·have HId:=HI.out d
   rw[decide_eq_true hd] at HId
   have HId:=Lib.hid HId
   cases m with
   |zero=>
    have HF:=Lib.hid (show o=some d from by
     rcases HR.out with ⟨-,h⟩|⟨h,-⟩
     ·exact h.symm
     ·exact absurd hd h)
    clear HR hd HI
    go_wp2_with (first
     |(go_at_call 89;(with_reducible refine(HId.out _).mono ?_);rintro e w1 ⟨rfl,rfl⟩)
     |(fail "no arm"))
    go_ret2
    exact⟨fun t ht=>(by rw[HF.out] at ht;cases ht;rfl),fun h=>(by rw[HF.out] at h;cases h),HB.out⟩
   |succ m=>
    have HD:=Lib.hid hd
    have HOd:=HO.out (d+(-1))
    have HN:=Lib.hid (show ∀(m':Nat)(x z:Int),x=d+(-1)→z=(m':Nat)→(m'=m∧aZ cs (d+(-1))=true∨m'=m+1∧aZ cs (d+(-1))=false)→∀W,Below w.heap.size w W→zU cs (-1) o w (.int .i64 x) (.int .i64 z) W from by
     rintro m' x z rfl rfl hm' W hW
     refine⟨_,m',rfl,rfl,by omega,?_,hW⟩
     have ho:addN cs (-1) (m+1) d=o:=by
      rcases HR.out with ⟨-,h⟩|⟨h,-⟩
      ·exact h
      ·exact absurd hd h
     rcases hm' with ⟨rfl,h⟩|⟨rfl,h⟩
     ·exact Or.inl ⟨ref6.dH h,by rw[←ho,El (by omega) _ h]⟩
     ·by_cases hx:aF (d+(-1))
      ·exact Or.inl ⟨hx,by rw[←ho,Em (by omega) _ hx h]⟩
      ·exact Or.inr ⟨hx,by rw[←ho,Mi _ hx]⟩)
    have q1:decide ((0:Int)<((m+1:Nat):Int))=true:=by simp only[decide_eq_true_eq];omega
    have hdd:0≤d∧d≤109572:=hd
    cases hob:aZ cs (d+(-1))
    ·rw[hob] at HOd HN
     have HOd:=Lib.hid HOd
     clear HO HR hd hob HI
     go_wp2_with (first
      |(go_at_call 89;(with_reducible refine(HId.out _).mono ?_);rintro e w1 ⟨rfl,rfl⟩)
      |(go_at_call 50;(with_reducible refine(HOd.out _ HB.out).mono ?_);rintro e w2 ⟨rfl,hb2⟩
        have HB2:=Lib.hid (HB.out.trans (hb2.mono HB.out.size));clear hb2)
      |(fail "no arm"))
     go_roundw
     case rel=>refine HN.out (m+1) _ _ ?_ ?_ (Or.inr ⟨rfl,by trivial⟩) _ HB2.out<;>omega
     case measure=>simp[intOf];omega
    ·rw[hob] at HOd HN
     have HOd:=Lib.hid HOd
     clear HO HR hd hob HI
     go_wp2_with (first
      |(go_at_call 89;(with_reducible refine(HId.out _).mono ?_);rintro e w1 ⟨rfl,rfl⟩)
      |(go_at_call 50;(with_reducible refine(HOd.out _ HB.out).mono ?_);rintro e w2 ⟨rfl,hb2⟩
        have HB2:=Lib.hid (HB.out.trans (hb2.mono HB.out.size));clear hb2)
      |(fail "no arm"))
     go_roundw
     case rel=>refine HN.out m _ _ ?_ ?_ (Or.inl ⟨rfl,by trivial⟩) _ HB2.out<;>omega
     case measure=>simp[intOf];omega
  ·have HId:=HI.out d
   rw[decide_eq_false hd] at HId
   have HId:=Lib.hid HId
   have HF:=Lib.hid (show o=none from by
    rcases HR.out with ⟨h,-⟩|⟨-,h⟩
    ·exact absurd h hd
    ·exact h)
   clear HR hd HI
   cases m with
   |zero=>
    go_wp2_with (first
     |(go_at_call 89;(with_reducible refine(HId.out _).mono ?_);rintro e w1 ⟨rfl,rfl⟩)
     |(go_at_call 71;(with_reducible refine(HE.out _).mono ?_);rintro e w9 ⟨rfl,rfl⟩)
     |(fail "no arm"))
    go_ret2
    exact⟨fun t ht=>(by rw[HF.out] at ht;cases ht),fun h=>rfl,HB.out⟩
   |succ m=>
    go_wp2_with (first
     |(go_at_call 89;(with_reducible refine(HId.out _).mono ?_);rintro e w1 ⟨rfl,rfl⟩)
     |(go_at_call 71;(with_reducible refine(HE.out _).mono ?_);rintro e w9 ⟨rfl,rfl⟩)
     |(fail "no arm"))
    go_ret2
    exact⟨fun t ht=>(by rw[HF.out] at ht;cases ht),fun h=>rfl,HB.out⟩
theorem Bc (v:Value)(D k:Int)(hk:decide (k< -1000)=true∨decide (k< -1000)=false∧decide (1000<k)=true)(w:World):
  Calls Tryz.prog 52 #[v,.int .i64 D,.int .i64 k] w fun e w'=>e= .returned (.tuple #[.int .i64 0,.iface 128 (.int .i64 2)])∧Below w.heap.size w w':=by
 have HE:=Lib.hid (fun W=>OfE 2 rfl W)
 rcases hk with h|⟨h,h2⟩
 ·go_enter Tryz.func52,Tryz.ntmps52
  go_wp2_with (first
   |(go_at_call 71;(with_reducible refine(HE.out _).mono ?_);rintro e w9 ⟨rfl,rfl⟩)
   |(fail "no arm"))
  go_ret2
  exact⟨rfl,Below.refl _ _⟩
 ·go_enter Tryz.func52,Tryz.ntmps52
  go_wp2_with (first
   |(go_at_call 71;(with_reducible refine(HE.out _).mono ?_);rintro e w9 ⟨rfl,rfl⟩)
   |(fail "no arm"))
  go_ret2
  exact⟨rfl,Below.refl _ _⟩
theorem Uj (cs:List CalT)(a b:Int):cntO cs (max a 0) (min b 109573)=cntO cs a b:=by
 have off:∀x,x<0∨109573≤x→aZ cs x=false:=fun x hx=>by
  cases ho:aZ cs x
  ·rfl
  ·have:=ref6.dH ho
   obtain⟨h1,h2⟩:=this
   omega
 by_cases h:min b 109573≤max a 0
 ·rw[ref6.pU cs h]
  exact(ref6.wS cs fun x h1 h2=>off x (by omega)).symm
 ·rw[ref6.tK cs (show a≤max a 0 by omega) (show max a 0≤b by omega),ref6.tK cs (show max a 0≤min b 109573 by omega) (show min b 109573≤b by omega),
   ref6.wS cs (a:=a) (b:=max a 0) (fun x h1 h2=>off x (by omega)),ref6.wS cs (a:=min b 109573) (b:=b) (fun x h1 h2=>off x (by omega))]
  omega
def BF (cs:List CalT)(M N:Int)(w:World)(nv dv:Value)(wr:World):Prop:=
 ∃d n:Int,dv= .int .i64 d∧nv= .int .i64 n∧(n=cntO cs M d∧0≤n∧n≤d - M)∧M≤d∧(d≤N∨d=M)∧Below w.heap.size w wr
theorem Nv (v:Value)(cs:List CalT)(a b:Int)(a1: -1000000000≤a)(a2:a≤1000000000)(b1: -1000000000≤b)(b2:b≤1000000000)(w:World)(hc:dF w v cs):
  Calls Tryz.prog 54 #[v,.int .i64 a,.int .i64 b] w fun e w'=>e= .returned (.int .i64 (cntO cs a b))∧Below w.heap.size w w':=by
 have HO:=Lib.hid (fun (x:Int) W (hb:Below w.heap.size w W)=>kQ v cs x W (hc.keep hb))
 have HC:=Lib.hid (Uj cs a b)
 obtain⟨M,hM⟩:∃M,max a 0=M:=⟨_,rfl⟩
 obtain⟨N,hN⟩:∃N,min b 109573=N:=⟨_,rfl⟩
 rw[hM,hN] at HC
 have M1:0≤M∧M≤1000000000:=by omega
 have N1: -1000000000≤N∧N≤109573:=by omega
 obtain⟨M1,M2⟩:=M1
 obtain⟨N1,N2⟩:=N1
 have wM:IntKind.i64.wrap M=M:=by rw[IntKind.wrap_i64];omega
 have wN:IntKind.i64.wrap N=N:=by rw[IntKind.wrap_i64];omega
 have HS:=Lib.hid (show BF cs M N w (.int .i64 0) (.int .i64 M) w from⟨M,0,rfl,rfl,⟨(ref6.pU cs (Int.le_refl _)).symm,Int.le_refl _,by omega⟩,Int.le_refl _,Or.inr rfl,Below.refl _ _⟩)
 generalize cntO cs a b=C at *
 clear hc
 go_enter Tryz.func54,Tryz.ntmps54
 go_wp2
 go_loopw [7,8] (fun nv dv wr=>BF cs M N w nv dv wr) (fun _ dv _=>(N - intOf dv).toNat)
 case atStart=>exact HS.out
 case round=>
  obtain⟨d,n,rfl,rfl,⟨hn,n0,n1⟩,hd,hdn,hb⟩:=hrel
  have HB:=Lib.hid hb
  have HNn:=Lib.hid hn
  clear hb HS hn
  by_cases hlt:d<N
  ·have HOd:=HO.out d
   have HL:=Lib.hid (ref6.Uk cs hd)
   have hd5:d≤109572:=by omega
   have hd6:0≤d:=by omega
   have hn6:n≤109572:=by omega
   cases hob:aZ cs d
   ·rw[hob] at HOd HL
    have HOd:=Lib.hid HOd
    clear HO hob
    go_wp2_with (first
     |(go_at_call 50;(with_reducible refine(HOd.out _ HB.out).mono ?_);rintro e w2 ⟨rfl,hb2⟩
       have HB2:=Lib.hid (HB.out.trans (hb2.mono HB.out.size));clear hb2)
     |(fail "no arm"))
    go_roundw
    case rel=>exact⟨d+1,n,rfl,rfl,⟨by rw[HL.out,HNn.out];simp,n0,by omega⟩,by omega,Or.inl (by omega),HB2.out⟩
    case measure=>simp[intOf];omega
   ·rw[hob] at HOd HL
    have HOd:=Lib.hid HOd
    clear HO hob
    go_wp2_with (first
     |(go_at_call 50;(with_reducible refine(HOd.out _ HB.out).mono ?_);rintro e w2 ⟨rfl,hb2⟩
       have HB2:=Lib.hid (HB.out.trans (hb2.mono HB.out.size));clear hb2)
     |(fail "no arm"))
    go_roundw
    case rel=>exact⟨d+1,n+1,rfl,rfl,⟨by rw[HL.out,HNn.out];simp,by omega,by omega⟩,by omega,Or.inl (by omega),HB2.out⟩
    case measure=>simp[intOf];omega
  ·have HF:=Lib.hid (show n=C from by
    rw[←HC.out,HNn.out]
    rcases hdn with h|h
    ·rw[show d=N by omega]
    ·rw[ref6.pU cs (show N≤M by omega),ref6.pU cs (show d≤M by omega)])
   clear HO HNn
   go_wp2
   go_ret
   exact⟨congrArg (fun z=>Ending.returned (Value.int .i64 z)) HF.out,HB.out⟩
end Go.Proofs.YtlhmfgbaefaneaaGreatDoor.cal
namespace Go.Proofs.YtlhmfgbaefaneaaGreatDoor.cal
open Go Go.RowKit Go.Proofs.YtlhmfgbaefaneaaGreatDoor.day Go.Proofs.YtlhmfgbaefaneaaGreatDoor.date Go.Proofs.YtlhmfgbaefaneaaGreatDoor.law6
open Go.Proofs.YtlhmfgbaefaneaaGreatDoor.ref6 (CalT aZ Rule May bR RAt aW aH)
def Bits (L L':List Nat)(p:Int→Prop):Prop:=∀D:Nat,D≤109572→(bitN L' D=true↔bitN L D=true∨p (D:Int))
theorem Bits.none {L:List Nat}{p:Int→Prop}(h:∀D,¬p D):Bits L L p:=fun _ _=>⟨Or.inl,fun h'=>h'.elim id fun h2=>absurd h2 (h _)⟩
theorem Bits.same {L L':List Nat}{p q:Int→Prop}(h:Bits L L' p)(e:∀D,q D↔p D):Bits L L' q:=fun D hD=>by rw[h D hD,e]
theorem Bits.add {L L':List Nat}{p q:Int→Prop}{n:Nat}(h:Bits L L' p)(hl:L'.length=1713)(hn:n≤109572)(e:∀D,q D↔p D∨D=(n:Int)):Bits L (oP L' n) q:=fun D hD=>by
 rw[Yw (by omega),Bool.or_eq_true,h D hD,e,decide_eq_true_eq,or_assoc]
 have:D=n↔(D:Int)=(n:Int):=by omega
 rw[this]
theorem Bits.trans {L L1 L2:List Nat}{p q:Int→Prop}(h:Bits L L1 p)(k:Bits L1 L2 q):Bits L L2 (fun D=>p D∨q D):=fun D hD=>by rw[k D hD,h D hD,or_assoc]
def YRel (g:Nat)(L:List Nat)(r:Rule)(w:World)(yv:Value)(wr:World):Prop:=
 ∃(y:Int)(L':List Nat),yv= .int .i64 y∧(1900≤y∧y≤2200)∧CRow wr g L'∧Bits L L' (iZ r y)∧RAt wr w.heap.size r.kind r.month r.day r.n r.wd r.shift∧w.grownBy wr (some g)
theorem Jk (g:Nat)(L:List Nat)(r:Rule)(w0 w:World)(hw0:Wd w0)(hb0:Below w0.heap.size w0 w)(hg:w0.heap.size≤g)(hr:CRow w g L):
  Calls Tryz.prog 88 #[.pointer (some ⟨g,0,none⟩),.agg #[.int .i64 r.kind,.int .i64 r.month,.int .i64 r.day,.int .i64 r.n,.int .i64 r.wd,.bool r.shift]] w fun e w'=>
   e= .returned (.tuple #[])∧(∃L',CRow w' g L'∧Bits L L' (iZ r 2200))∧w.grownBy w' (some g):=by
 have HD:=Lib.hid (fun (y:Int) W (hb:Below w0.heap.size w0 W)=>holi.cK r.kind r.month r.day r.n r.wd r.shift y W (hw0.keep hb))
 have HC:=Lib.hid (fun (n:Nat)(hn:n≤109572) W L (h:CRow W g L)=>wR g L n hn W h)
 have HG:=Lib.hid (fun W (h:w.grownBy W (some g))=>nat.below_grown hb0 h hb0.size hg)
 have hlt:=Lib.hid hr.lt
 have HS:=Lib.hid (show YRel g L r w (.int .i64 1900) (w.alloc (.cells #[.int .i64 r.kind,.int .i64 r.month,.int .i64 r.day,.int .i64 r.n,.int .i64 r.wd,.bool r.shift] 60)) from
  ⟨1900,L,rfl,by omega,hr.keep ((Below.refl _ _).alloc (Nat.le_refl _) _),Bits.none fun D=>zN,RAt.new _ _ _ _ _ _ _,nat.bE ((Below.refl _ _).alloc (Nat.le_refl _) _) _⟩)
 clear hr hw0 hb0
 go_enter Tryz.func88,Tryz.ntmps88
 go_wp2
 go_loopw [4] (fun yv wr=>YRel g L r w yv wr) (fun yv _=>(2200 - intOf yv).toNat)
 case atStart=>exact HS.out
 case round=>
  obtain⟨y,L',rfl,⟨y1,y2⟩,hc,hbits,hra,hgr⟩:=hrel
  have HR:=Lib.hid hc
  have HBt:=Lib.hid hbits
  have HGr:=Lib.hid hgr
  have HRA:=Lib.hid hra
  clear hc hbits hgr HS
  by_cases hy:y≤2199
  ·obtain⟨c0,c1,c2,c3,c4,c5⟩:=hra.at
   clear hra
   have HDy:=Lib.hid (HD.out y wr (HG.out _ HGr.out))
   clear HD
   obtain⟨o,ho⟩:∃o,bR r.kind r.month r.day r.n r.wd r.shift y=o:=⟨_,rfl⟩
   have HN:=Lib.hid (fun D=>zM (r:=r) (y:=y) (D:=D))
   rw[ho] at HDy HN
   rcases o with _|z
   ·go_wp2_with (first
     |(go_at_call 118;(with_reducible refine(HDy.out).mono ?_);rintro e w1 ⟨-,he,hb⟩
       obtain rfl:=he rfl
       have HB1:=Lib.hid hb
       clear hb he c0 c1 c2 c3 c4 c5)
     |(fail "no arm"))
    go_roundw
    case rel=>exact⟨y+1,L',rfl,⟨by omega,by omega⟩,HR.out.keep HB1.out,HBt.out.same (fun D=>by rw[HN.out];simp),HRA.out.below HB1.out,nat.bF HGr.out (nat.bE HB1.out _)⟩
    case measure=>simp[intOf];omega
   ·obtain⟨hz1,hz2⟩:=(pW ho).2.2.2
    clear ho
    obtain⟨n,rfl⟩:∃n:Nat,z=(n:Nat):=⟨z.toNat,by omega⟩
    have HCn:=Lib.hid (HC.out n (by omega))
    have hn:=Lib.hid (show n≤109572 by omega)
    clear HC hz1 hz2
    go_wp2_with (first
     |(go_at_call 118;(with_reducible refine(HDy.out).mono ?_);rintro e w1 ⟨he,-,hb⟩
       obtain rfl:=he _ rfl
       have HB1:=Lib.hid hb
       have HR1:=Lib.hid (HR.out.keep hb)
       clear hb he c0 c1 c2 c3 c4 c5)
     |(go_at_call 90;(with_reducible refine(HCn.out _ _ HR1.out).mono ?_);rintro e w2 ⟨rfl,hr2,hg2⟩
       have HR2:=Lib.hid hr2
       have HG2:=Lib.hid hg2
       clear hr2 hg2)
     |(fail "no arm"))
    go_roundw
    case rel=>exact⟨y+1,oP L' n,rfl,⟨by omega,by omega⟩,HR2.out,HBt.out.add HR.out.1 hn.out (fun D=>by rw[HN.out];simp[eq_comm]),(HRA.out.below HB1.out).grown HG2.out (by have:=hlt.out;simp;omega),nat.bF (nat.bF HGr.out (nat.bE HB1.out _)) HG2.out⟩
    case measure=>simp[intOf];omega
  ·have hy3:y=2200:=by omega
   subst hy3
   go_wp2
   go_end0
   exact⟨rfl,⟨L',HR.out,HBt.out⟩,HGr.out⟩
end Go.Proofs.YtlhmfgbaefaneaaGreatDoor.cal
