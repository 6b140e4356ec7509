/-
  The steps of the walks, part 1: DayM, RefDay, RefOf6, RefCivil6, DateM, DateA, Facts.
-/
import Derived.KernelRfl
import Derived.Test.YtlhmfgbaefaneaaGreatDoorProg
import Derived.WalkKit
import Derived.WalkSpells
import Derived.Lib.Hide
import Derived.OwnWalk
import Derived.Below
import Derived.Carry
import Derived.Outline
import Derived.Deep.Draws
import Derived.BigQuiet
import Derived.Deep.QuietTactic
import Derived.Laws.Rows
import Derived.LaidEql
import Derived.LaidEqlPtr
import Derived.Lib.IfaceEq
import Derived.Stop.Asserts
import Derived.Stop.IfaceNil
import Derived.RowKitTokens
set_option maxHeartbeats 4000000
set_option maxRecDepth 100000
namespace Go.Proofs.YtlhmfgbaefaneaaGreatDoor.day
def leap (y:Int):Bool:=decide (y%4=0)&&(!decide (y%100=0)||decide (y%400=0))
def ylen (y:Int):Int:=if leap y then 366 else 365
def mlen (y m:Int):Int:=
 if m=1∨m=3∨m=5∨m=7∨m=8∨m=10∨m=12 then 31
 else if m=4∨m=6∨m=9∨m=11 then 30
 else if m=2 then (if leap y then 29 else 28) else 0
def bD:Nat→Int
 |0=>0
 |k+1=>bD k+ylen (1900+(k:Nat))
def bL (y:Int):Nat→Int
 |0=>0
 |k+1=>bL y k+mlen y ((k:Nat)+1)
def aI (y m d:Int):Prop:=1900≤y∧y≤2199∧1≤d∧d≤mlen y m
instance (y m d:Int):Decidable (aI y m d):=by unfold aI;infer_instance
def aG (y m d:Int):Int:=bD (y - 1900).toNat+bL y (m - 1).toNat+d - 1
def aF (n:Int):Prop:=0≤n∧n≤109572
instance (n:Int):Decidable (aF n):=by unfold aF;infer_instance
theorem Dt (y:Int):365≤ylen y:=by unfold ylen;split<;>omega
theorem Nt (y:Int):ylen y≤366:=by unfold ylen;split<;>omega
theorem kG {y m:Int}(h1:1≤m)(h2:m≤12):28≤mlen y m:=by unfold mlen;repeat' split<;>omega
theorem dO (y m:Int):mlen y m≤31:=by unfold mlen;repeat' split<;>omega
theorem rV (y m:Int):0≤mlen y m:=by unfold mlen;repeat' split<;>omega
theorem Gl {y m:Int}(h:1≤mlen y m):1≤m∧m≤12:=by unfold mlen at h;repeat' split at h<;>omega
theorem aI.month {y m d:Int}(h:aI y m d):1≤m∧m≤12:=Gl (y:=y) (by have:=h.2.2;omega)
theorem qQ (y:Int):bL y 12=ylen y:=by
 simp only[bL,mlen,ylen]
 cases leap y<;>decide
theorem uK:bD 300=109573:=by decide+kernel
theorem dA {a b:Nat}(h:a≤b):bD a+365*((b:Int) - a)≤bD b:=by
 induction h with
 |refl=>omega
 |step h ih=>simp only[bD];rename_i m;have:=Dt (1900+(m:Nat));omega
theorem fJ {y:Int}{a b:Nat}(h:a≤b):bL y a≤bL y b:=by
 induction h with
 |refl=>omega
 |step h ih=>rename_i m;have:=rV y ((m:Nat)+1);simp only[bL];omega
theorem jG (y:Int)(k:Nat):bL y (k+1)=bL y k+mlen y ((k:Nat)+1):=rfl
theorem kX (k:Nat):bD (k+1)=bD k+ylen (1900+(k:Nat)):=rfl
theorem kT {y m d:Int}(h:aI y m d):bD (y - 1900).toNat+bL y (m - 1).toNat≤aG y m d∧aG y m d<bD (y - 1900).toNat+bL y m.toNat:=by
 obtain⟨m1,m2⟩:=h.month
 obtain⟨k,hk⟩:∃k:Nat,m=k+1:=⟨(m - 1).toNat,by omega⟩
 subst hk
 have e1: ((k:Int)+1 - 1).toNat=k:=by omega
 have e2: ((k:Int)+1).toNat=k+1:=by omega
 unfold aG
 rw[e1,e2,jG]
 have:=h.2.2
 omega
theorem dZ {y m d:Int}(h:aI y m d):bD (y - 1900).toNat≤aG y m d∧aG y m d<bD ((y - 1900).toNat+1):=by
 obtain⟨m1,m2⟩:=h.month
 have h1:=kT h
 have h2:=fJ (y:=y) (show 0≤(m - 1).toNat by omega)
 have h3:=fJ (y:=y) (show m.toNat≤12 by omega)
 rw[qQ] at h3
 rw[kX]
 have e: (1900:Int)+((y - 1900).toNat:Nat)=y:=by have:=h.1;omega
 rw[e]
 simp only[bL] at h2
 omega
theorem aT {y m d:Int}(h:aI y m d):aF (aG y m d):=by
 have h1:=dZ h
 have h2:=dA (show 0≤(y - 1900).toNat by omega)
 have h3:=dA (show(y - 1900).toNat+1≤300 by have:=h.1;have:=h.2.1;omega)
 rw[uK] at h3
 simp only[bD] at h2
 have:=h.1
 have:=h.2.1
 unfold aF
 omega
theorem Ib {a b:Nat}{n:Int}(h1:bD a≤n)(h2:n<bD (a+1))(h3:bD b≤n)(h4:n<bD (b+1)):a=b:=by
 rcases Nat.lt_trichotomy a b with h|h|h
 ·have:=dA (show a+1≤b by omega);omega
 ·exact h
 ·have:=dA (show b+1≤a by omega);omega
theorem Cz {y:Int}{a b:Nat}{n:Int}(h1:bL y a≤n)(h2:n<bL y (a+1))(h3:bL y b≤n)(h4:n<bL y (b+1)):a=b:=by
 rcases Nat.lt_trichotomy a b with h|h|h
 ·have:=fJ (y:=y) (show a+1≤b by omega);omega
 ·exact h
 ·have:=fJ (y:=y) (show b+1≤a by omega);omega
theorem Ag {y m d y' m' d':Int}(h:aI y m d)(h':aI y' m' d')(e:aG y m d=aG y' m' d'):y=y'∧m=m'∧d=d':=by
 have a:=dZ h
 have b:=dZ h'
 rw[←e] at b
 have hy:=Ib a.1 a.2 b.1 b.2
 have hyy:y=y':=by have:=h.1;have:=h'.1;omega
 subst hyy
 have a2:=kT h
 have b2:=kT h'
 rw[←e] at b2
 obtain⟨m1,m2⟩:=h.month
 obtain⟨n1,n2⟩:=h'.month
 obtain⟨k,rfl⟩:∃k:Nat,m=k+1:=⟨(m - 1).toNat,by omega⟩
 obtain⟨j,rfl⟩:∃k:Nat,m'=k+1:=⟨(m' - 1).toNat,by omega⟩
 rw[show((k:Int)+1 - 1).toNat=k by omega,show((k:Int)+1).toNat=k+1 by omega] at a2
 rw[show((j:Int)+1 - 1).toNat=j by omega,show((j:Int)+1).toNat=j+1 by omega] at b2
 have hm:=Cz (y:=y) (n:=aG y ((k:Int)+1) d - bD (y - 1900).toNat) (show bL y k≤_ by omega) (show _<bL y (k+1) by omega) (show bL y j≤_ by omega) (show _<bL y (j+1) by omega)
 subst hm
 unfold aG at e
 omega
theorem find (f:Nat→Int)(n:Int):∀N:Nat,f 0≤n→n<f N→∃k,k<N∧f k≤n∧n<f (k+1)
 |0,h0,hN=>by omega
 |N+1,h0,hN=>by
  by_cases h:f N≤n
  ·exact⟨N,by omega,h,hN⟩
  ·obtain⟨k,hk,h1,h2⟩:=find f n N h0 (by omega)
   exact⟨k,by omega,h1,h2⟩
theorem aF.civil {n:Int}(h:aF n):∃y m d,aI y m d∧aG y m d=n:=by
 obtain⟨h1,h2⟩:=h
 obtain⟨K,hK,k1,k2⟩:=find bD n 300 (by simpa[bD] using h1) (by rw[uK];omega)
 rw[kX] at k2
 obtain⟨M,hM,m1,m2⟩:=find (bL (1900+(K:Nat))) (n - bD K) 12 (by simp only[bL];omega) (by rw[qQ];omega)
 rw[jG] at m2
 refine⟨1900+(K:Nat),(M:Nat)+1,n - bD K - bL (1900+(K:Nat)) M+1,⟨by omega,by omega,by omega,by omega⟩,?_⟩
 unfold aG
 rw[show((1900:Int)+(K:Nat) - 1900).toNat=K by omega,show(((M:Nat):Int)+1 - 1).toNat=M by omega]
 omega
end Go.Proofs.YtlhmfgbaefaneaaGreatDoor.day
namespace Go.Proofs.YtlhmfgbaefaneaaGreatDoor.ref6
open Go Go.RowKit Go.Proofs.YtlhmfgbaefaneaaGreatDoor.day
theorem tmod_zero (y k:Int): (y.tmod k==0)=decide (y%k=0):=by
 rw[Bool.eq_iff_iff]
 simp only[beq_iff_eq,decide_eq_true_eq]
 rw[←Int.dvd_iff_tmod_eq_zero,←Int.dvd_iff_emod_eq_zero]
theorem Dk (y k:Int): (y.tmod k !=0)=!decide (y%k=0):=by
 rw[bne,tmod_zero]
theorem qY (y:Int)(w:World):
  Calls Tryz.prog 32 #[.int .i64 y] w fun e w'=>e= .returned (.bool (leap y))∧w=w':=by
 have KEY:=Lib.hid (show leap y=(y.tmod 4==0&&(y.tmod 100 !=0||y.tmod 400==0)) from by rw[tmod_zero,Dk,tmod_zero];rfl)
 go_enter Tryz.func32,Tryz.ntmps32
 go_wp2
 all_goals
  go_ret
  refine⟨?_,rfl⟩
  rw[KEY.out]
  simp[*]
theorem Xy (y:Int)(w:World):
  Calls Tryz.prog 74 #[.int .i64 y] w fun e w'=>e= .returned (.int .i64 (ylen y))∧w=w':=by
 have HL:=Lib.hid (fun W=>qY y W)
 cases hl:leap y
 all_goals
  rw[hl] at HL
  have HY:=Lib.hid hl
  clear hl
  go_enter Tryz.func74,Tryz.ntmps74
  go_wp2_with (go_at_call 32;(with_reducible refine(HL.out _).mono ?_);rintro e w1 ⟨rfl,rfl⟩;clear HL)
  go_ret
  refine⟨?_,rfl⟩
  simp[ylen,HY.out]
theorem dV (y m:Int)(w:World):
  Calls Tryz.prog 34 #[.int .i64 y,.int .i64 m] w fun e w'=>e= .returned (.int .i64 (mlen y m))∧w=w':=by
 have HL:=Lib.hid (fun W=>qY y W)
 cases hl:leap y
 all_goals
  rw[hl] at HL
  have HY:=Lib.hid hl
  clear hl
  go_enter Tryz.func34,Tryz.ntmps34
  go_wp2_with (go_at_call 32;(with_reducible refine(HL.out _).mono ?_);rintro e w1 ⟨rfl,rfl⟩;clear HL)
  all_goals
   go_ret
   refine⟨?_,rfl⟩
   simp only[beq_iff_eq,beq_eq_false_iff_ne,ne_eq] at *
   simp[mlen,HY.out, *]
end Go.Proofs.YtlhmfgbaefaneaaGreatDoor.ref6
namespace Go.Proofs.YtlhmfgbaefaneaaGreatDoor.ref6
open Go Go.RowKit Go.Proofs.YtlhmfgbaefaneaaGreatDoor.day
theorem aW {P:Program}{f:FuncId}{args:Array Value}{w:World}{n:Nat}{v:Value}
  (h:Calls P f args (w.drewN n) fun e w'=>e= .returned v∧w.drewN n=w'):Calls P f args (w.drewN n) fun e w''=>e= .returned v∧∃m,w''=w.drewN m:=
 h.mono fun _ _ ⟨he,hm⟩=>⟨he,n,hm.symm⟩
theorem aH {n:Nat}{w w':World}(h:Below n w w')(k:Nat):Below n w (w'.drewN k):=by
 induction k with
 |zero=>exact h
 |succ k ih=>exact ih.drew
theorem mP {k:Nat}(h:k≤300):0≤bD k∧bD k≤109573:=by
 have h1:=dA (Nat.zero_le k)
 have h2:=dA h
 rw[uK] at h2
 simp only[bD] at h1
 omega
theorem xQ {y:Int}{k:Nat}(h:k≤12):0≤bL y k∧bL y k≤366:=by
 have h1:=fJ (y:=y) (Nat.zero_le k)
 have h2:=fJ (y:=y) h
 rw[qQ] at h2
 have:=Nt y
 simp only[bL] at h1
 omega
end Go.Proofs.YtlhmfgbaefaneaaGreatDoor.ref6
namespace Go.Proofs.YtlhmfgbaefaneaaGreatDoor.ref6
open Go Go.RowKit Go.Proofs.YtlhmfgbaefaneaaGreatDoor.day
def CAt (w:World)(b:Nat)(y m d:Int):Prop:=w.heap[b]?=some (.cells #[.int .i64 y,.int .i64 m,.int .i64 d] 23 (0,0))
theorem CAt.cells {w:World}{g:Nat}{y m d:Int}(h3:CAt w g y m d):
  w.cell? ⟨g,0,none⟩=some (.int .i64 y)∧w.cell? ⟨g,1,none⟩=some (.int .i64 m)∧w.cell? ⟨g,2,none⟩=some (.int .i64 d)∧w.frozen? ⟨g,0,none⟩=false∧w.frozen? ⟨g,1,none⟩=false∧w.frozen? ⟨g,2,none⟩=false:=by
 unfold CAt at h3
 refine⟨?_,?_,?_,?_,?_,?_⟩
 ·rw[cell_of_row _ g 0 _ _ (0,0) h3];rfl
 ·rw[cell_of_row _ g 1 _ _ (0,0) h3];rfl
 ·rw[cell_of_row _ g 2 _ _ (0,0) h3];rfl
 all_goals
  unfold World.frozen?
  rw[h3]
  rfl
theorem CAt.set0 {w:World}{g:Nat}{y m d:Int}(h:CAt w g y m d)(y':Int):CAt (w.setCell ⟨g,0,none⟩ (.int .i64 y')) g y' m d:=by
 unfold CAt at *
 rw[heap_setCell_same w g 0 _ _ _ h]
 rfl
theorem CAt.set1 {w:World}{g:Nat}{y m d:Int}(h:CAt w g y m d)(m':Int):CAt (w.setCell ⟨g,1,none⟩ (.int .i64 m')) g y m' d:=by
 unfold CAt at *
 rw[heap_setCell_same w g 1 _ _ _ h]
 rfl
theorem CAt.set2 {w:World}{g:Nat}{y m d:Int}(h:CAt w g y m d)(d':Int):CAt (w.setCell ⟨g,2,none⟩ (.int .i64 d')) g y m d':=by
 unfold CAt at *
 rw[heap_setCell_same w g 2 _ _ _ h]
 rfl
theorem CAt.far {w:World}{g:Nat}{y m d:Int}(h:CAt w g y m d)(a:Addr)(v:Value)(hn:g≠a.block):CAt (w.setCell a v) g y m d:=by
 unfold CAt at *
 rw[heap_setCell_other w a g v hn,h]
theorem CAt.new (w:World)(y m d:Int):CAt (w.alloc (.cells #[.int .i64 y,.int .i64 m,.int .i64 d] 23)) w.heap.size y m d:=heap_alloc_new _ _
theorem CAt.below {w w':World}{g:Nat}{y m d:Int}(h:CAt w g y m d)(hb:Below w.heap.size w w'):CAt w' g y m d:=
 (hb.block g (Array.getElem?_eq_some_iff.1 h).1).trans h
theorem qK (w:World)(o:Obj): (w.alloc o).heap.size=w.heap.size+1:=World.size_alloc _ _
def YRel (n:Int)(B K:Nat)(w:World)(dv:Value)(wr:World):Prop:=
 (∃k:Nat,k≤K∧dv= .int .i64 (n - bD k)∧CAt wr (B+1) (1900+(k:Nat)) 1 0)∧CAt wr B 0 0 0∧Below B w wr
def MRel (n y:Int)(B M:Nat)(w:World)(dv:Value)(wr:World):Prop:=
 (∃j:Nat,j≤M∧dv= .int .i64 (n - bL y j)∧CAt wr (B+1) y ((j:Nat)+1) 0)∧CAt wr B 0 0 0∧Below B w wr
theorem dU (y m d:Int)(h:aI y m d)(w:World):
  Calls Tryz.prog 21 #[.int .i64 (aG y m d)] w fun e w'=>e= .returned (.agg #[.int .i64 y,.int .i64 m,.int .i64 d])∧Below w.heap.size w w':=by
 obtain⟨h1,h2,h3,h4⟩:=id h
 obtain⟨m1,m2⟩:=h.month
 have l31:=dO y m
 obtain⟨K,rfl⟩:∃K:Nat,y=1900+K:=⟨(y - 1900).toNat,by omega⟩
 obtain⟨M,rfl⟩:∃M:Nat,m=M+1:=⟨(m - 1).toNat,by omega⟩
 have e1: ((1900:Int)+(K:Nat) - 1900).toNat=K:=by omega
 have e2: (((M:Nat):Int)+1 - 1).toNat=M:=by omega
 have e3: (((M:Nat):Int)+1).toNat=M+1:=by omega
 have hE:aG (1900+(K:Nat)) ((M:Nat)+1) d=bD K+bL (1900+(K:Nat)) M+d - 1:=by unfold aG;rw[e1,e2]
 have hyr:=dZ h
 rw[e1] at hyr
 have hyi:=kT h
 rw[e1,e2,e3] at hyi
 have hK2:K≤299:=by omega
 have hM2:M≤11:=by omega
 have hn1:=(aT h).1
 have hn2:=(aT h).2
 have HM:=Lib.hid (fun W k=>dV (1900+(K:Nat)) k W)
 have HY:=Lib.hid (fun W k=>Xy k W)
 have HE:=Lib.hid hE
 have HYR:=Lib.hid hyr
 have HYI:=Lib.hid hyi
 clear h hE hyr hyi e1 e2 e3 h4 l31 h1 h2 m1 m2
 generalize aG (1900+(K:Nat)) ((M:Nat)+1) d=n at *
 go_enter Tryz.func21,Tryz.ntmps21
 go_wp2
 go_loopw [0] (fun dv wr=>YRel n w.heap.size K w dv wr) (fun dv _=>(intOf dv).toNat)
 case atStart=>
  have e: (w.alloc (.cells #[.int .i64 0,.int .i64 0,.int .i64 0] 23)).heap.size=w.heap.size+1:=qK _ _
  have h:=CAt.new (w.alloc (.cells #[.int .i64 0,.int .i64 0,.int .i64 0] 23)) 1900 1 0
  rw[e] at h
  exact⟨⟨0,Nat.zero_le _,by simp[bD],h⟩,(CAt.new w 0 0 0).below ((Below.refl _ _).alloc (Nat.le_refl _) _),((Below.refl _ _).alloc (Nat.le_refl _) _).alloc (by omega) _⟩
 case round=>
  obtain⟨⟨k,hk,rfl,hc⟩,ha,hb⟩:=hrel
  obtain⟨c0,c1,c2,f0,f1,f2⟩:=hc.cells
  have HC:=Lib.hid hc
  have HA:=Lib.hid ha
  have HB:=Lib.hid hb
  obtain⟨b1,b2⟩:=mP (show k≤300 by omega)
  obtain⟨b3,b4⟩:=mP (show k+1≤300 by omega)
  have b5:=Dt (1900+(k:Nat))
  have b6:=Nt (1900+(k:Nat))
  have HS:=Lib.hid (kX k)
  have HY1:=Lib.hid (fun W=>HY.out W (1900+(k:Nat)))
  clear hc ha hb HY
  by_cases hlt:k<K
  ·have hg:ylen (1900+(k:Nat))≤n - bD k:=by
    have h5:=dA (show k+1≤K by omega)
    have:=HYR.out.1
    rw[HS.out] at h5
    omega
   have HG:=Lib.hid hg
   generalize ylen (1900+(k:Nat))=yl at *
   generalize hyd:bD k=n0 at *
   clear hyd
   go_wp2_with (go_at_call 74;(with_reducible refine(HY1.out _).mono ?_);rintro e w1 ⟨rfl,rfl⟩)
   go_roundw
   case rel=>exact⟨⟨k+1,by omega,by rw[HS.out];go_num,by have:=HC.out.set0 (1900+(k:Nat)+1);rwa [show(1900:Int)+(k:Nat)+1=1900+((k+1:Nat):Int) by omega] at this⟩,HA.out.far _ _ (by simp only;omega),HB.out.setCell (by simp only;omega) _⟩
   case measure=>simp[intOf]<;>omega
  ·obtain rfl:k=K:=by omega
   have hg:n - bD k<ylen (1900+(k:Nat)):=by
    have:=HYR.out.2
    rw[HS.out] at this
    omega
   go_wp2_with (go_at_call 74;(with_reducible refine(HY1.out _).mono ?_);rintro e w1 ⟨rfl,rfl⟩;clear HY1)
   clear HS
   generalize ylen (1900+(k:Nat))=yl at *
   go_loopw [0] (fun dv wr=>MRel (n - bD k) (1900+(k:Nat)) w.heap.size M w dv wr) (fun dv _=>(intOf dv).toNat)
   case atStart=>exact⟨⟨0,Nat.zero_le _,by simp[bL],HC.out⟩,HA.out,HB.out⟩
   case round=>
    obtain⟨⟨j,hj,rfl,hc⟩,ha,hb⟩:=hrel
    clear c0 c1 c2 f0 f1 f2 HC HA HB
    obtain⟨c0,c1,c2,f0,f1,f2⟩:=hc.cells
    have HC:=Lib.hid hc
    have HA:=Lib.hid ha
    have HB:=Lib.hid hb
    obtain⟨a0,a1,a2,g0,g1,g2⟩:=ha.cells
    obtain⟨b1,b2⟩:=xQ (y:=1900+(k:Nat)) (show j≤12 by omega)
    have b5:=rV (1900+(k:Nat)) ((j:Nat)+1)
    have b6:=dO (1900+(k:Nat)) ((j:Nat)+1)
    have HS:=Lib.hid (jG (1900+(k:Nat)) j)
    have HM1:=Lib.hid (fun W=>HM.out W ((j:Nat)+1))
    clear hc ha hb HM
    by_cases hlt:j<M
    ·have b7:28≤mlen (1900+(k:Nat)) ((j:Nat)+1):=kG (by omega) (by omega)
     have hg:mlen (1900+(k:Nat)) ((j:Nat)+1)≤n - bD k - bL (1900+(k:Nat)) j:=by
      have h5:=fJ (y:=1900+(k:Nat)) (show j+1≤M by omega)
      have:=HYI.out.1
      rw[HS.out] at h5
      omega
     generalize mlen (1900+(k:Nat)) ((j:Nat)+1)=ml at *
     generalize hyd:bL (1900+(k:Nat)) j=n1 at *
     generalize hyd2:bD k=n0 at *
     clear hyd hyd2
     go_wp2_with (go_at_call 34;(with_reducible refine(HM1.out _).mono ?_);rintro e w1 ⟨rfl,rfl⟩)
     go_roundw
     case rel=>exact⟨⟨j+1,by omega,by rw[HS.out];go_num,by have:=HC.out.set1 ((j:Nat)+1+1);rwa [show((j:Nat):Int)+1+1=((j+1:Nat):Int)+1 by omega] at this⟩,HA.out.far _ _ (by simp only;omega),HB.out.setCell (by simp only;omega) _⟩
     case measure=>simp[intOf]<;>omega
    ·obtain rfl:j=M:=by omega
     have hg:n - bD k - bL (1900+(k:Nat)) j<mlen (1900+(k:Nat)) ((j:Nat)+1):=by
      have:=HYI.out.2
      rw[HS.out] at this
      omega
     have hd:n - bD k - bL (1900+(k:Nat)) j+1=d:=by have:=HE.out;omega
     have HD:=Lib.hid hd
     clear hd
     generalize mlen (1900+(k:Nat)) ((j:Nat)+1)=ml at *
     generalize hyd:bL (1900+(k:Nat)) j=n1 at *
     generalize hyd2:bD k=n0 at *
     clear hyd hyd2
     go_wp2_with (go_at_call 34;(with_reducible refine(HM1.out _).mono ?_);rintro e w1 ⟨rfl,rfl⟩)
     obtain⟨q0,q1,q2,-⟩:=((((HA.out.far ⟨w.heap.size+1,2,none⟩ (.int .i64 (n - n0 - n1+1)) (by simp only;omega)).set0 (1900+(k:Nat))).set1 ((j:Nat)+1)).set2 (n - n0 - n1+1)).cells
     refine bodyPost_ret (v:= .agg #[.int .i64 (1900+(k:Nat)),.int .i64 ((j:Nat)+1),.int .i64 (n - n0 - n1+1)]) ?_ rfl ?_
     ·simp[results,Tryz.results21,go_sem,q0,q1,q2]
     ·exact⟨by rw[HD.out],(((HB.out.setCell (by simp only;omega) _).setCell (Nat.le_refl _) _).setCell (Nat.le_refl _) _).setCell (Nat.le_refl _) _⟩
end Go.Proofs.YtlhmfgbaefaneaaGreatDoor.ref6
namespace Go.Proofs.YtlhmfgbaefaneaaGreatDoor.day
def lW (n:Int):Int:=n/4 - n/100+n/400
theorem Lf (y:Int):ylen y=365+lW y - lW (y - 1):=by
 unfold ylen leap lW
 by_cases h4:y%4=0<;>by_cases h1:y%100=0<;>by_cases h2:y%400=0<;>simp[h4,h1,h2]<;>omega
theorem sV (k:Nat):bD k=365*k+lW (1899+k) - 460:=by
 induction k with
 |zero=>decide
 |succ k ih=>
  rw[kX,ih,Lf,show(1900:Int)+(k:Nat) - 1=1899+k by omega,show(1899:Int)+((k+1:Nat):Int)=1900+k by omega]
  omega
theorem Gb {k:Nat} :460≤lW (1899+k):=by unfold lW;omega
theorem Ga {k:Nat}(h:k≤301):lW (1899+k)≤540:=by unfold lW;omega
theorem Le {k:Nat}(hk:k≤299){n:Int}(h1:bD k≤n)(h2:n<bD (k+1)):n/365=k∨n/365=k+1:=by
 rw[sV] at h1 h2
 have a1:=Gb (k:=k)
 have a2:=Ga (k:=k+1) (by omega)
 generalize lW (1899+(k:Nat))=p at *
 generalize lW (1899+((k+1:Nat):Int))=q at *
 omega
def wday (n:Int):Int:=(n+1)%7
theorem Gj (y m:Int)(hl:¬(m=2∧leap y=true)):mlen y m=mlen 1901 m:=by
 unfold mlen
 by_cases h:m=2
 ·subst h
  have:leap y=false:=by cases hy:leap y<;>simp_all
  rw[this]
  decide
 ·simp[h]
end Go.Proofs.YtlhmfgbaefaneaaGreatDoor.day
namespace Go.Proofs.YtlhmfgbaefaneaaGreatDoor.date
open Go Go.RowKit Go.Proofs.YtlhmfgbaefaneaaGreatDoor.day
open Go.Proofs.YtlhmfgbaefaneaaGreatDoor.ref6 (tmod_zero Dk)
def Lens (w:World):Prop:=∀i:Nat,i<12→w.cell? ⟨0,i,none⟩=some (.int .i64 (mlen 1901 ((i:Nat)+1)))
theorem Ud {w:World}{a:Addr}{v:Value}(h:w.cell? a=some v):a.block<w.heap.size:=by
 rcases Nat.lt_or_ge a.block w.heap.size with h'|h'
 ·exact h'
 ·unfold World.cell? at h
  rw[Array.getElem?_eq_none (by omega)] at h
  simp at h
theorem Lens.below {w w':World}{n:Nat}(h:Lens w)(hb:Below n w w')(hn:n=w.heap.size):Lens w':=fun i hi=>by
 rw[hb.cell (p:=⟨0,i,none⟩) (by have:=Ud (h 0 (by omega));simp only at this ⊢;omega)]
 exact h i hi
theorem Lens.keep {w w':World}(h:Lens w)(hb:Below w.heap.size w w'):Lens w':=h.below hb rfl
theorem qY (y:Int)(w:World):
  Calls Tryz.prog 31 #[.int .i64 y] w fun e w'=>e= .returned (.bool (leap y))∧w=w':=by
 have KEY:=Lib.hid (show leap y=(y.tmod 4==0&&(y.tmod 100 !=0||y.tmod 400==0)) from by rw[tmod_zero,Dk,tmod_zero];rfl)
 go_enter Tryz.func31,Tryz.ntmps31
 go_wp2
 all_goals
  go_ret
  refine⟨?_,rfl⟩
  rw[KEY.out]
  simp[*]
theorem dV (y m:Int)(w:World)(hL:Lens w):
  Calls Tryz.prog 33 #[.int .i64 y,.int .i64 m] w fun e w'=>e= .returned (.int .i64 (mlen y m))∧w=w':=by
 have HL:=Lib.hid (fun W=>qY y W)
 have H1:w.cell? ⟨0,1,none⟩=some (.int .i64 28):=hL 1 (by omega)
 have HC:=Lib.hid (fun h:1≤m∧m≤12=>(show w.cell? ⟨0,m.toNat - 1,none⟩=some (.int .i64 (mlen 1901 m)) from by
  rw[hL (m.toNat - 1) (by omega),show((m.toNat - 1:Nat):Int)+1=m by omega]))
 by_cases hm:1≤m∧m≤12
 ·have HK:=Lib.hid (Gj y m)
  obtain⟨m1,m2⟩:=hm
  have c:=HC.out ⟨m1,m2⟩
  clear HC hL
  cases hl:leap y
  all_goals
   rw[hl] at HL
   by_cases h2:m=2
  all_goals
   have HY:=Lib.hid hl
   clear hl
  ·subst h2
   go_enter Tryz.func33,Tryz.ntmps33
   go_wp2_with (go_at_call 31;(with_reducible refine(HL.out _).mono ?_);rintro e w1 ⟨rfl,rfl⟩;clear HL)
   go_ret
   refine⟨?_,rfl⟩
   rw[HK.out (by simp[HY.out])]
   rfl
  ·have HE:=Lib.hid (HK.out (by simp[HY.out]))
   go_enter Tryz.func33,Tryz.ntmps33
   go_wp2_with (go_at_call 31;(with_reducible refine(HL.out _).mono ?_);rintro e w1 ⟨rfl,rfl⟩;clear HL)
   go_ret
   refine⟨?_,rfl⟩
   rw[HE.out]
   rfl
  ·subst h2
   go_enter Tryz.func33,Tryz.ntmps33
   go_wp2_with (go_at_call 31;(with_reducible refine(HL.out _).mono ?_);rintro e w1 ⟨rfl,rfl⟩;clear HL)
   go_ret
   refine⟨?_,rfl⟩
   simp[mlen,HY.out]
  ·have HE:=Lib.hid (HK.out (by simp[h2]))
   go_enter Tryz.func33,Tryz.ntmps33
   go_wp2_with (go_at_call 31;(with_reducible refine(HL.out _).mono ?_);rintro e w1 ⟨rfl,rfl⟩;clear HL)
   go_ret
   refine⟨?_,rfl⟩
   rw[HE.out]
   rfl
 ·have HE:=Lib.hid (show mlen y m=0 from by
   have:=rV y m
   by_cases h:1≤mlen y m
   ·exact absurd (Gl h) hm
   ·omega)
  clear HC hL HL
  rcases(show m<1∨(1≤m∧12<m) by omega) with h|⟨h,h'⟩
  all_goals
   clear hm
   go_enter Tryz.func33,Tryz.ntmps33
   go_wp2
   go_ret
   refine⟨?_,rfl⟩
   rw[HE.out]
   rfl
theorem kJ (n:Int)(w:World):Calls Tryz.prog 70 #[.int .i64 n] w fun e w'=>e= .returned (.bool (decide (aF n)))∧w=w':=by
 rcases(show(n<0∧¬aF n)∨(0≤n∧109572<n∧¬aF n)∨(0≤n∧n≤109572∧aF n) by unfold aF;omega) with ⟨h1,h⟩|⟨h1,h2,h⟩|⟨h1,h2,h⟩
 all_goals
  have HE:=Lib.hid h
  clear h
  go_enter Tryz.func70,Tryz.ntmps70
  go_wp2
  go_ret
  refine⟨?_,rfl⟩
  have:=HE.out
  simp[this]<;>omega
theorem Ao {n:Int}(h:aF n)(w:World):Calls Tryz.prog 70 #[.int .i64 n] w fun e w'=>e= .returned (.bool true)∧w=w':=by
 have:=kJ n w
 rwa [show decide (aF n)=true from decide_eq_true h] at this
theorem Am {n:Int}(h:¬aF n)(w:World):Calls Tryz.prog 70 #[.int .i64 n] w fun e w'=>e= .returned (.bool false)∧w=w':=by
 have:=kJ n w
 rwa [show decide (aF n)=false from decide_eq_false h] at this
theorem oK (y:Int)(h1:1≤y)(h2:y≤1000000)(w:World):
  Calls Tryz.prog 119 #[.int .i64 y] w fun e w'=>e= .returned (.int .i64 (lW (y - 1)))∧w=w':=by
 go_enter Tryz.func119,Tryz.ntmps119
 go_wp2
 go_ret
 exact⟨rfl,rfl⟩
theorem lC (K:Nat)(h:K≤301)(w:World):
  Calls Tryz.prog 73 #[.int .i64 (1900+(K:Nat))] w fun e w'=>e= .returned (.int .i64 (bD K))∧w=w':=by
 have HE:=Lib.hid (sV K)
 have HA:=Lib.hid (fun W=>oK (1900+(K:Nat)) (by omega) (by omega) W)
 have HB:=Lib.hid (fun W=>oK 1900 (by omega) (by omega) W)
 have a1:=Gb (k:=K)
 have a2:=Ga (k:=K) h
 rw[show(1900:Int)+(K:Nat) - 1=1899+(K:Nat) by omega] at HA
 rw[show lW ((1900:Int) - 1)=460 by decide] at HB
 generalize lW (1899+(K:Nat))=p at *
 go_enter Tryz.func73,Tryz.ntmps73
 go_wp2_with (first
  |(go_at_call 119;(with_reducible refine(HA.out _).mono ?_);rintro e w1 ⟨rfl,rfl⟩;clear HA)
  |(go_at_call 119;(with_reducible refine(HB.out _).mono ?_);rintro e w1 ⟨rfl,rfl⟩;clear HB)
  |(fail "no arm"))
 go_ret
 refine⟨?_,rfl⟩
 rw[HE.out]
 go_num
theorem Ro (K:Nat)(hK:K≤299)(n:Int)(h1:bD K≤n)(h2:n<bD (K+1))(w:World):
  Calls Tryz.prog 72 #[.int .i64 n] w fun e w'=>e= .returned (.int .i64 (1900+(K:Nat)))∧w=w':=by
 have hg:=Le hK h1 h2
 have h0:=(ref6.mP (show K≤300 by omega)).1
 have h3:=(ref6.mP (show K+1≤300 by omega)).2
 rcases hg with hg|hg
 ·have HA:=Lib.hid (fun W=>lC K (by omega) W)
  have hd:n.tdiv 365=K:=by rw[Int.tdiv_eq_ediv_of_nonneg (by omega)];exact hg
  generalize bD K=y1 at *
  generalize bD (K+1)=y2 at *
  go_enter Tryz.func72,Tryz.ntmps72
  go_wp2_with (go_at_call 73;(with_reducible refine(HA.out _).mono ?_);rintro e w1 ⟨rfl,rfl⟩;clear HA)
  go_ret
  exact⟨rfl,rfl⟩
 ·have HA:=Lib.hid (fun W=>lC (K+1) (by omega) W)
  rw[show((K+1:Nat):Int)=(K:Int)+1 by omega] at HA
  generalize bD K=y1 at *
  generalize bD (K+1)=y2 at *
  go_enter Tryz.func72,Tryz.ntmps72
  go_wp2_with (go_at_call 73;(with_reducible refine(HA.out _).mono ?_);rintro e w1 ⟨rfl,rfl⟩;clear HA)
  go_ret
  exact⟨by go_num,rfl⟩
end Go.Proofs.YtlhmfgbaefaneaaGreatDoor.date
namespace Go.Proofs.YtlhmfgbaefaneaaGreatDoor.flt
open Go.RowKit Go.Extern.Stop Go.Stop Go.Extern
theorem Rl (t:Addr)(w:World): (ReflectliteValue.unpack (.iface 173 (.pointer (some t)))).run Tryz.prog w
  = .ok (.agg #[.pointer (some ⟨10,173,none⟩),.pointer (some ⟨w.heap.size,0,none⟩),.int .u64 150]) (w.alloc (.cells #[.pointer (some t)] 173)):=by kernel_rfl
theorem EL (a:Addr)(w:World): (ReflectliteValue.methodAny (ReflectliteValue.valueError "reflectlite.Value.Type" 0) (fun t _ _ _=>ReflectliteType.toType t) #[.agg #[.pointer (some ⟨10,173,none⟩),.pointer (some a),.int .u64 150]]).run Tryz.prog w
  = .ok (.iface 258 (.agg #[.pointer (some ⟨10,173,none⟩)])) w:=by kernel_rfl
theorem Kh (h:Value)(w:World): (Go.method 433 258 (.agg #[h]) "Kind").run Tryz.prog w= .ok (304,h) w:=by kernel_rfl
theorem DI (w:World): ((ReflectliteType.abiMethod fun t=>(fun a:Nat=>Value.int IntKind.u8 (a:Int))<$>Rtype.kind t) #[.pointer (some ⟨10,173,none⟩)]).run Tryz.prog w= .ok (.int .u8 22) w:=by kernel_rfl
theorem FH (w:World): ((ReflectliteType.abiMethod fun t=>(fun a:Nat=>Value.int IntKind.u8 (a:Int))<$>Rtype.kind t) #[.pointer (some ⟨10,131,none⟩)]).run Tryz.prog w= .ok (.int .u8 22) w:=by kernel_rfl
theorem rlm (z:Sem Value)(f:TypeId→Addr→Nat→Nat→Sem Value)(v:Value):
  ReflectliteValue.method z f #[v]=(do match ←ReflectliteValue.parts v with|none=>z|some (t,a,fl)=>f t a fl (fl%32)):=rfl
theorem Nk (a:Addr)(w:World): (ReflectliteValue.parts (.agg #[.pointer (some ⟨10,173,none⟩),.pointer (some a),.int .u64 150])).run Tryz.prog w= .ok (some (173,a,150)) w:=by kernel_rfl
theorem Zp (a p:Addr)(W:World)(ha:W.cell? a=some (.pointer (some p))):
  (ReflectliteValue.method (ReflectliteValue.valueError "reflectlite.Value.IsNil" 0) ReflectliteValue.isNil #[.agg #[.pointer (some ⟨10,173,none⟩),.pointer (some a),.int .u64 150]]).run Tryz.prog W= .ok (.bool false) W:=by
 rw[rlm]
 simp only[Sem.run_bind,Nk,Result.andThen]
 simp[ReflectliteValue.isNil,loadVar,isAgg,underlying,Tryz.underlying173,ha,Result.andThen]
theorem Kg (h:Value)(w:World): (Go.method 433 258 (.agg #[h]) "Elem").run Tryz.prog w= .ok (321,.agg #[h]) w:=by kernel_rfl
theorem tN (h:Value)(w:World): (Go.method 433 258 (.agg #[h]) "Implements").run Tryz.prog w= .ok (322,.agg #[h]) w:=by kernel_rfl
theorem iL (h:Value)(w:World): (Go.method 433 258 (.agg #[h]) "AssignableTo").run Tryz.prog w= .ok (319,.agg #[h]) w:=by kernel_rfl
theorem tL (h:Value)(w:World): (Go.method 433 258 (.agg #[h]) "Comparable").run Tryz.prog w= .ok (320,.agg #[h]) w:=by kernel_rfl
theorem CW (w:World): (ReflectliteType.method ReflectliteType.elem #[.agg #[.pointer (some ⟨10,173,none⟩)]]).run Tryz.prog w= .ok (.iface 258 (.agg #[.pointer (some ⟨10,131,none⟩)])) w:=by kernel_rfl
theorem Fy (w:World): (ReflectliteType.relation "Implements" ReflectliteType.implements_ #[.agg #[.pointer (some ⟨10,131,none⟩)],.iface 258 (.agg #[.pointer (some ⟨10,28,none⟩)])]).run Tryz.prog w= .ok (.bool true) w:=by kernel_rfl
theorem BB (v:Value)(w:World): (ReflectliteType.typeOf #[.iface 131 v]).run Tryz.prog w= .ok (.iface 258 (.agg #[.pointer (some ⟨10,131,none⟩)])) w:=by kernel_rfl
theorem Nr (v:Value)(w:World): (ReflectliteType.typeOf #[.iface 128 v]).run Tryz.prog w= .ok (.iface 258 (.agg #[.pointer (some ⟨10,128,none⟩)])) w:=by kernel_rfl
theorem BD (v:Value)(w:World): (ReflectliteType.typeOf #[.iface 302 v]).run Tryz.prog w= .ok (.iface 258 (.agg #[.pointer (some ⟨10,302,none⟩)])) w:=by kernel_rfl
theorem Yt (w:World): (ReflectliteType.relation "AssignableTo" ReflectliteType.assignableTo #[.agg #[.pointer (some ⟨10,131,none⟩)],.iface 258 (.agg #[.pointer (some ⟨10,131,none⟩)])]).run Tryz.prog w= .ok (.bool true) w:=by kernel_rfl
theorem Yr (w:World): (ReflectliteType.relation "AssignableTo" ReflectliteType.assignableTo #[.agg #[.pointer (some ⟨10,128,none⟩)],.iface 258 (.agg #[.pointer (some ⟨10,131,none⟩)])]).run Tryz.prog w= .ok (.bool false) w:=by kernel_rfl
theorem Yu (w:World): (ReflectliteType.relation "AssignableTo" ReflectliteType.assignableTo #[.agg #[.pointer (some ⟨10,302,none⟩)],.iface 258 (.agg #[.pointer (some ⟨10,131,none⟩)])]).run Tryz.prog w= .ok (.bool false) w:=by kernel_rfl
theorem Xv (e:Addr)(w:World): (ReflectliteValue.unpack (.iface 131 (.pointer (some e)))).run Tryz.prog w
  = .ok (.agg #[.pointer (some ⟨10,131,none⟩),.pointer (some ⟨w.heap.size,0,none⟩),.int .u64 150]) (w.alloc (.cells #[.pointer (some e)] 131)):=by kernel_rfl
theorem Uu (w:World): (Rtype.elem? 173).run Tryz.prog w= .ok (some 131) w:=by kernel_rfl
theorem mkP (p:Addr)(w:World): (ReflectliteValue.mk 131 p ReflectliteValue.flagAddr).run Tryz.prog w= .ok (.agg #[.pointer (some ⟨10,131,none⟩),.pointer (some p),.int .u64 406]) w:=by kernel_rfl
theorem elemV (a p:Addr)(W:World)(ha:W.cell? a=some (.pointer (some p))):
  (ReflectliteValue.method (ReflectliteValue.valueError "reflectlite.Value.Elem" 0) ReflectliteValue.elem #[.agg #[.pointer (some ⟨10,173,none⟩),.pointer (some a),.int .u64 150]]).run Tryz.prog W
    = .ok (.agg #[.pointer (some ⟨10,131,none⟩),.pointer (some p),.int .u64 406]) W:=by
 rw[rlm]
 simp only[Sem.run_bind,Nk,Result.andThen]
 simp[ReflectliteValue.elem,loadVar,isAgg,underlying,Tryz.underlying173,ha,Result.andThen,Uu,mkP]
theorem rls (v x:Value):ReflectliteValue.set #[v,x]=(do
  let (some (dst,a,fl),some (src,b,_)):=(←ReflectliteValue.parts v,←ReflectliteValue.parts x)
   |unsupported (.noEntry "extern/(internal/reflectlite.Value).Set.zeroValue")
  if fl/ReflectliteValue.flagAddr%2==0 then unsupported (.noEntry "extern/(internal/reflectlite.Value).Set.unaddressable")
  let val ←loadVar src b
  if ←Rtype.directlyAssignable dst src then storeVar dst a val
  else if ←Rtype.implements dst src then
   if (←Rtype.kind src)==20 then
    match val with
    | .nilIface=>unsupported (.noEntry "extern/reflectlite: a nil value of one interface type handed on as a value of another")
    |_=>storeVar dst a val
   else storeVar dst a (.iface src val)
  else panicString ("reflectlite.Set: value of type " ++(←Rtype.spelt src)++ " is not assignable to type " ++(←Rtype.spelt dst))
  pure (.tuple #[])):=rfl
theorem AA (a:Addr)(w:World): (ReflectliteValue.parts (.agg #[.pointer (some ⟨10,131,none⟩),.pointer (some a),.int .u64 406])).run Tryz.prog w= .ok (some (131,a,406)) w:=by kernel_rfl
theorem DU (a:Addr)(w:World): (ReflectliteValue.parts (.agg #[.pointer (some ⟨10,131,none⟩),.pointer (some a),.int .u64 150])).run Tryz.prog w= .ok (some (131,a,150)) w:=by kernel_rfl
theorem Zh (w:World): (Rtype.directlyAssignable 131 131).run Tryz.prog w= .ok true w:=by kernel_rfl
theorem setP (ta b e:Addr)(old:Value)(W:World)(hb:W.cell? b=some (.pointer (some e)))(ht:W.cell? ta=some old)(hf:W.frozen? ta=false):
  (ReflectliteValue.set #[.agg #[.pointer (some ⟨10,131,none⟩),.pointer (some ta),.int .u64 406],.agg #[.pointer (some ⟨10,131,none⟩),.pointer (some b),.int .u64 150]]).run Tryz.prog W
    = .ok (.tuple #[]) (W.setCell ta (.pointer (some e))):=by
 rw[rls]
 simp only[Sem.run_bind,AA,DU,Result.andThen]
 simp[ReflectliteValue.flagAddr,loadVar,isAgg,underlying,Tryz.underlying131,hb,Result.andThen,Zh,storeVar,Value.cells,storeCells,Addr.add]
 rw[run_store Tryz.prog W ta _ _ (by rfl)]
 simp[ht,hf]
theorem CY (v:Value)(xT:TypeId)(w:World): (Instr.typeAssert (.iface 131 v) xT 289 true).run Tryz.prog w= .ok (.tuple #[.iface 131 v,.bool true]) w:=run_typeAssert_hasB Tryz.underlying289 (by kernel_rfl) v xT w
theorem BM (v:Value)(xT:TypeId)(w:World): (Instr.typeAssert (.iface 128 v) xT 289 true).run Tryz.prog w= .ok (.tuple #[.nilIface,.bool false]) w:=run_typeAssert_lacksB Tryz.underlying289 (by kernel_rfl) (by kernel_rfl) v xT w
theorem FJ (v:Value)(xT:TypeId)(w:World): (Instr.typeAssert (.iface 302 v) xT 289 true).run Tryz.prog w= .ok (.tuple #[.nilIface,.bool false]) w:=run_typeAssert_lacksB Tryz.underlying289 (by kernel_rfl) (by kernel_rfl) v xT w
theorem Vg (v:Value)(xT:TypeId)(w:World): (Instr.typeAssert (.iface 131 v) xT 266 true).run Tryz.prog w= .ok (.tuple #[.iface 131 v,.bool true]) w:=run_typeAssert_hasB Tryz.underlying266 (by kernel_rfl) v xT w
theorem Vy (v:Value)(xT:TypeId)(w:World): (Instr.typeAssert (.iface 128 v) xT 266 true).run Tryz.prog w= .ok (.tuple #[.nilIface,.bool false]) w:=run_typeAssert_lacksB Tryz.underlying266 (by kernel_rfl) (by kernel_rfl) v xT w
theorem Vz (v:Value)(xT:TypeId)(w:World): (Instr.typeAssert (.iface 302 v) xT 266 true).run Tryz.prog w= .ok (.tuple #[.nilIface,.bool false]) w:=run_typeAssert_lacksB Tryz.underlying266 (by kernel_rfl) (by kernel_rfl) v xT w
theorem Wh (v:Value)(xT:TypeId)(w:World): (Instr.typeAssert (.iface 128 v) xT 268 true).run Tryz.prog w= .ok (.tuple #[.nilIface,.bool false]) w:=run_typeAssert_lacksB Tryz.underlying268 (by kernel_rfl) (by kernel_rfl) v xT w
theorem Wi (v:Value)(xT:TypeId)(w:World): (Instr.typeAssert (.iface 302 v) xT 268 true).run Tryz.prog w= .ok (.tuple #[.nilIface,.bool false]) w:=run_typeAssert_lacksB Tryz.underlying268 (by kernel_rfl) (by kernel_rfl) v xT w
theorem CX (v:Value)(xT:TypeId)(w:World): (Instr.typeAssert (.iface 128 v) xT 263 true).run Tryz.prog w= .ok (.tuple #[.iface 128 v,.bool true]) w:=run_typeAssert_hasB Tryz.underlying263 (by kernel_rfl) v xT w
theorem FI (v:Value)(xT:TypeId)(w:World): (Instr.typeAssert (.iface 302 v) xT 263 true).run Tryz.prog w= .ok (.tuple #[.nilIface,.bool false]) w:=run_typeAssert_lacksB Tryz.underlying263 (by kernel_rfl) (by kernel_rfl) v xT w
theorem Ty (v:Value)(w:World): (Instr.typeAssert (.iface 173 v) 20 173 true).run Tryz.prog w= .ok (.tuple #[v,.bool true]) w:=by kernel_rfl
theorem Vs (v:Value)(w:World): (Go.method 433 131 v "Is").run Tryz.prog w= .ok (312,v) w:=by kernel_rfl
theorem rU (v:Value)(w:World): (Go.method 433 131 v "Unwrap").run Tryz.prog w= .ok (313,v) w:=by kernel_rfl
theorem Gi (v:Value)(w:World): (Go.method 433 131 v "Error").run Tryz.prog w= .ok (311,v) w:=by kernel_rfl
theorem Vr (v:Value)(w:World): (Go.method 433 128 v "As").run Tryz.prog w= .ok (308,v) w:=by kernel_rfl
theorem FC: (Tryz.prog.info? 131).map (·.comparable)=some true:=by kernel_rfl
theorem FB: (Tryz.prog.info? 128).map (·.comparable)=some true:=by kernel_rfl
theorem BO: (Tryz.prog.info? 134).map (·.size)=some 3:=by kernel_rfl
end Go.Proofs.YtlhmfgbaefaneaaGreatDoor.flt
