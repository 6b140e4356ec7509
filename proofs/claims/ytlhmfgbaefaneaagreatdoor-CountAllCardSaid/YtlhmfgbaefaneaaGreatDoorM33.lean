/-
  The steps of the walks, part 33: RolB, CntA, DecM.
-/
import Derived.Deep.RegionHeld3
import Derived.BigQuiet
import Derived.Deep.QuietTactic
import Derived.Test.YtlhmfgbaefaneaaGreatDoorM32
import Derived.Test.YtlhmfgbaefaneaaGreatDoorM25
import Derived.Test.YtlhmfgbaefaneaaGreatDoorM24
import Derived.Test.YtlhmfgbaefaneaaGreatDoorM31
import Derived.Test.YtlhmfgbaefaneaaGreatDoorM07
import Derived.Test.YtlhmfgbaefaneaaGreatDoorM23
set_option maxHeartbeats 4000000
set_option maxRecDepth 100000
namespace Go.Proofs.YtlhmfgbaefaneaaGreatDoor.roll
open Go Go.RowKit Go.Proofs.YtlhmfgbaefaneaaGreatDoor.day Go.Proofs.YtlhmfgbaefaneaaGreatDoor.date Go.Proofs.YtlhmfgbaefaneaaGreatDoor.law6
open Go.Proofs.YtlhmfgbaefaneaaGreatDoor.ref6 (CalT aZ bB addN iY fB Near)
theorem OEnd.none_ {cs:List CalT}{s D:Int}{w w':World}{e:Ending}(h:OEnd cs s D w e w')(ht:bB cs s D=none):e= .returned (.tuple #[.int .i64 0,.iface 128 (.int .i64 4)])∧Below w.heap.size w w':=⟨h.2.1 ht,h.2.2⟩
def ansO:Option Int→Value
 |some t=> .tuple #[.int .i64 t,.nilIface]
 |none=> .tuple #[.int .i64 0,bI 4]
theorem OEnd.ans {cs:List CalT}{s D:Int}{w w':World}{e:Ending}(h:OEnd cs s D w e w'):e= .returned (ansO (bB cs s D))∧Below w.heap.size w w':=by
 cases ho:bB cs s D with
 |none=>exact⟨h.2.1 ho,h.2.2⟩
 |some t=>exact⟨h.1 t ho,h.2.2⟩
theorem pI (v:Value)(cs:List CalT)(D r s:Int)(hr: (r=1∧s=1)∨(r=3∧s= -1))(w:World)(hw:Wd w)(hc:cal.dF w v cs):
  Calls Tryz.prog 55 #[v,.int .i64 D,.int .i64 r] w fun e w'=>e= .returned (ansO (bB cs s D))∧Below w.heap.size w w':=by
 have HO:=Lib.hid (fun W hw hc=>(yA v cs D s (by omega) W hw hc).mono fun _ _ h=>h.ans)
 have HW:=Lib.hid hw
 have HC:=Lib.hid hc
 clear hw hc
 unfold ansO bI at *
 generalize bB cs s D=o at *
 rcases hr with ⟨rfl,rfl⟩|⟨rfl,rfl⟩
 all_goals
  cases o
  all_goals
   go_enter Tryz.func55,Tryz.ntmps55
   go_wp2_with (first
    |(go_at_call 93;(with_reducible refine(HO.out _ HW.out HC.out).mono ?_);rintro e w1 ⟨rfl,hb⟩;have HB:=Lib.hid hb;clear hb HO)
    |(fail "no arm"))
   go_ret2
   exact⟨rfl,HB.out⟩
theorem vL (v:Value)(cs:List CalT)(D r s s':Int)(hr: (r=2∧s=1∧s'= -1)∨(r=4∧s= -1∧s'=1))(hn:aF D→Near cs)(w:World)(hw:Wd w)(hc:cal.dF w v cs):
  Calls Tryz.prog 55 #[v,.int .i64 D,.int .i64 r] w fun e w'=>e= .returned (ansO (match bB cs s D with
   |some t=>if fB t≠fB D then bB cs s' D else some t
   |none=>bB cs s' D))∧Below w.heap.size w w':=by
 have HO:=Lib.hid (fun W hw hc=>(yA v cs D s (by omega) W hw hc).mono fun _ _ h=>h.ans)
 have HO2:=Lib.hid (fun W hw hc=>(yA v cs D s' (by omega) W hw hc).mono fun _ _ h=>h.ans)
 have HM:=Lib.hid (fun t (ht:bB cs s D=some t) W (hW:Wd W)=>(by
  have hd:aF D:=Classical.byContradiction fun h=>(by rw[ref6.oM h] at ht;cases ht)
  exact zO (hn hd) (s:=s) (by omega) hd ht W hW))
 have HW:=Lib.hid hw
 have HC:=Lib.hid hc
 have HK:=Lib.hid (fun W (hb:Below w.heap.size w W)=>hw.keep hb)
 have HCk:=Lib.hid (fun W (hb:Below w.heap.size w W)=>cal.nQ.keep w W v cs hc hb)
 clear hw hc hn
 cases hu:bB cs s D with
 |none=>
  rw[hu] at HO
  clear HM
  unfold ansO bI at *
  simp only at *
  generalize bB cs s' D=o at *
  rcases hr with ⟨rfl,rfl,rfl⟩|⟨rfl,rfl,rfl⟩
  all_goals
   cases o
   all_goals
    go_enter Tryz.func55,Tryz.ntmps55
    go_wp2_with (first
     |(go_at_call 93;(with_reducible refine(HO.out _ HW.out HC.out).mono ?_);rintro e w1 ⟨rfl,hb⟩;have HB:=Lib.hid hb;clear hb HO)
     |(go_at_call 93;(with_reducible refine(HO2.out _ (HK.out _ HB.out) (HCk.out _ HB.out)).mono ?_);rintro e w2 ⟨rfl,hb⟩;have HB2:=Lib.hid (HB.out.trans (hb.mono HB.out.size));clear hb HO2)
     |(fail "no arm"))
    go_ret2
    exact⟨rfl,HB2.out⟩
 |some t=>
  rw[hu] at HO
  have HMt:=Lib.hid (HM.out t hu)
  clear HM hu
  by_cases hm:fB t=fB D
  ·simp only
   rw[if_neg (fun h=>h hm)]
   rw[decide_eq_true hm] at HMt
   clear hm HO2
   unfold ansO bI at *
   simp only at *
   rcases hr with ⟨rfl,rfl,rfl⟩|⟨rfl,rfl,rfl⟩
   all_goals
    go_enter Tryz.func55,Tryz.ntmps55
    go_wp2_with (first
     |(go_at_call 93;(with_reducible refine(HO.out _ HW.out HC.out).mono ?_);rintro e w1 ⟨rfl,hb⟩;have HB:=Lib.hid hb;clear hb HO)
     |(go_at_call 94;(with_reducible refine(HMt.out _ (HK.out _ HB.out)).mono ?_);rintro e w2 ⟨rfl,hb⟩;have HB2:=Lib.hid (HB.out.trans (hb.mono HB.out.size));clear hb HMt)
     |(fail "no arm"))
    go_ret2
    exact⟨rfl,HB2.out⟩
  ·simp only
   rw[if_pos hm]
   rw[decide_eq_false hm] at HMt
   clear hm
   unfold ansO bI at *
   simp only at *
   generalize bB cs s' D=o at *
   rcases hr with ⟨rfl,rfl,rfl⟩|⟨rfl,rfl,rfl⟩
   all_goals
    cases o
    all_goals
     go_enter Tryz.func55,Tryz.ntmps55
     go_wp2_with (first
      |(go_at_call 93;(with_reducible refine(HO.out _ HW.out HC.out).mono ?_);rintro e w1 ⟨rfl,hb⟩;have HB:=Lib.hid hb;clear hb HO)
      |(go_at_call 94;(with_reducible refine(HMt.out _ (HK.out _ HB.out)).mono ?_);rintro e w2 ⟨rfl,hb⟩;have HB2:=Lib.hid (HB.out.trans (hb.mono HB.out.size));clear hb HMt)
      |(go_at_call 93;(with_reducible refine(HO2.out _ (HK.out _ HB2.out) (HCk.out _ HB2.out)).mono ?_);rintro e w3 ⟨rfl,hb⟩;have HB3:=Lib.hid (HB2.out.trans (hb.mono HB2.out.size));clear hb HO2)
      |(fail "no arm"))
     go_ret2
     exact⟨rfl,HB3.out⟩
theorem Dw (v:Value)(cs:List CalT)(D:Int)(w:World)(hw:Wd w)(hc:cal.dF w v cs):
  Calls Tryz.prog 55 #[v,.int .i64 D,.int .i64 0] w fun e w'=>(aF D→e= .returned (.tuple #[.int .i64 D,.nilIface]))∧(¬aF D→e= .returned (.tuple #[.int .i64 0,bI 4]))∧Below w.heap.size w w':=by
 by_cases hd:aF D
 ·have HA:=Lib.hid (cal.nQ.add v cs D 0 D w hw hc hd (by decide) (by decide) rfl)
  have HD:=Lib.hid hd
  clear hw hc hd
  go_enter Tryz.func55,Tryz.ntmps55
  go_wp2_with (first
   |(go_at_call 52;(with_reducible refine(HA.out).mono ?_);rintro e w1 ⟨rfl,hb⟩;have HB:=Lib.hid hb;clear hb HA)
   |(fail "no arm"))
  go_ret2
  exact⟨fun _=>rfl,fun h=>absurd HD.out h,HB.out⟩
 ·have HA:=Lib.hid (cal.nQ.addDay v cs D 0 w hw hc hd (by decide) (by decide))
  have HD:=Lib.hid hd
  clear hw hc hd
  unfold bI at *
  go_enter Tryz.func55,Tryz.ntmps55
  go_wp2_with (first
   |(go_at_call 52;(with_reducible refine(HA.out).mono ?_);rintro e w1 ⟨rfl,hb⟩;have HB:=Lib.hid hb;clear hb HA)
   |(fail "no arm"))
  go_ret2
  exact⟨fun h=>absurd h HD.out,fun _=>rfl,HB.out⟩
theorem Sg (v:Value)(D r:Int)(hr:r<0∨4<r)(w:World):
  Calls Tryz.prog 55 #[v,.int .i64 D,.int .i64 r] w fun e w'=>e= .returned (.tuple #[.int .i64 0,bI 1])∧Below w.heap.size w w':=by
 have HO:=Lib.hid (fun W=>OfE 1 rfl W)
 unfold bI
 have r0: (r==0)=false:=beq_eq_false_iff_ne.2 (by omega)
 have r1: (r==1)=false:=beq_eq_false_iff_ne.2 (by omega)
 have r2: (r==2)=false:=beq_eq_false_iff_ne.2 (by omega)
 have r3: (r==3)=false:=beq_eq_false_iff_ne.2 (by omega)
 have r4: (r==4)=false:=beq_eq_false_iff_ne.2 (by omega)
 clear hr
 go_enter Tryz.func55,Tryz.ntmps55
 go_wp2_with (first
  |(go_at_call 71;(with_reducible refine(HO.out _).mono ?_);rintro e w1 ⟨rfl,rfl⟩)
  |(fail "no arm"))
 go_ret2
 exact⟨rfl,Below.refl _ _⟩
theorem Oq {o:Option Int}{t:Int}(h:o=some t):ansO o= .tuple #[.int .i64 t,.nilIface]:=by rw[h];rfl
theorem lN {o:Option Int}(h:o=none):ansO o= .tuple #[.int .i64 0,bI 4]:=by rw[h];rfl
theorem cK (v:Value)(cs:List CalT)(D r:Int)(w:World)(hw:Wd w)(hc:cal.dF w v cs)(hn:r=2∨r=4→Near cs)(hd:aF D)(r0:0≤r)(r4:r≤4):
  Calls Tryz.prog 55 #[v,.int .i64 D,.int .i64 r] w fun e w'=>e= .returned (ansO (iY cs D r))∧Below w.heap.size w w':=by
 rcases(show r=0∨r=1∨r=2∨r=3∨r=4 by omega) with rfl|rfl|rfl|rfl|rfl
 ·exact(Dw v cs D w hw hc).mono fun _ _ h=>⟨h.1 hd,h.2.2⟩
 ·rw[ref6.Xb];exact pI v cs D 1 1 (Or.inl ⟨rfl,rfl⟩) w hw hc
 ·rw[ref6.DX];exact vL v cs D 2 1 (-1) (Or.inl ⟨rfl,rfl,rfl⟩) (fun _=>hn (Or.inl rfl)) w hw hc
 ·rw[ref6.DY];exact pI v cs D 3 (-1) (Or.inr ⟨rfl,rfl⟩) w hw hc
 ·rw[ref6.DZ];exact vL v cs D 4 (-1) 1 (Or.inr ⟨rfl,rfl,rfl⟩) (fun _=>hn (Or.inr rfl)) w hw hc
theorem FK:RolC cal.dF where
 yes v cs D r t w hw hc hn hd r0 r4 ht:=by
  have:=cK v cs D r w hw hc hn hd r0 r4
  rwa [Oq ht] at this
 no v cs D r w hw hc hn hd r0 r4 ht:=by
  have:=cK v cs D r w hw hc hn hd r0 r4
  rwa [lN ht] at this
 day v cs D r w hw hc hd r0 r4:=by
  have h1:bB cs 1 D=none:=ref6.oM hd
  have h2:bB cs (-1) D=none:=ref6.oM hd
  rcases(show r=0∨r=1∨r=2∨r=3∨r=4 by omega) with rfl|rfl|rfl|rfl|rfl
  ·exact(Dw v cs D w hw hc).mono fun _ _ h=>⟨h.2.1 hd,h.2.2⟩
  ·have:=pI v cs D 1 1 (Or.inl ⟨rfl,rfl⟩) w hw hc
   rwa [lN h1] at this
  ·have:=vL v cs D 2 1 (-1) (Or.inl ⟨rfl,rfl,rfl⟩) (fun h=>absurd h hd) w hw hc
   rw[h1] at this
   rwa [lN h2] at this
  ·have:=pI v cs D 3 (-1) (Or.inr ⟨rfl,rfl⟩) w hw hc
   rwa [lN h2] at this
  ·have:=vL v cs D 4 (-1) 1 (Or.inr ⟨rfl,rfl,rfl⟩) (fun h=>absurd h hd) w hw hc
   rw[h2] at this
   rwa [lN h1] at this
 form v cs D r w _ _ hr:=Sg v D r hr w
end Go.Proofs.YtlhmfgbaefaneaaGreatDoor.roll
namespace Go.Proofs.YtlhmfgbaefaneaaGreatDoor.count
open Go Go.RowKit Go.Proofs.YtlhmfgbaefaneaaGreatDoor.day Go.Proofs.YtlhmfgbaefaneaaGreatDoor.date Go.Proofs.YtlhmfgbaefaneaaGreatDoor.law6
open Go.Proofs.YtlhmfgbaefaneaaGreatDoor.ref6 (CAt thirty aW aH)
open Go.Proofs.YtlhmfgbaefaneaaGreatDoor.num (IsZ Lz)
theorem iF (k:Int)(w:World):Calls Tryz.prog 61 #[.int .i64 k] w fun e w'=>e= .returned (.bool (decide (1≤k∧k≤4)))∧w=w':=by
 by_cases h1:1≤k
 ·by_cases h2:k≤4
  ·rw[decide_eq_true ⟨h1,h2⟩]
   go_enter Tryz.func61,Tryz.ntmps61
   go_wp2
   go_ret
   exact⟨rfl,rfl⟩
  ·rw[decide_eq_false (fun h=>h2 h.2)]
   go_enter Tryz.func61,Tryz.ntmps61
   go_wp2
   go_ret
   exact⟨rfl,rfl⟩
 ·rw[decide_eq_false (fun h=>h1 h.1)]
  go_enter Tryz.func61,Tryz.ntmps61
  go_wp2
  go_ret
  exact⟨rfl,rfl⟩
def Uf (v:Bool):Value:=if v then .nilIface else .iface 128 (.int .i64 4)
theorem Mt (n:Int):∃y m d:Int,∀w,Wd w→Calls Tryz.prog 20 #[.int .i64 n] w fun e w'=>e= .returned (.tuple #[.agg #[.int .i64 y,.int .i64 m,.int .i64 d],Uf (decide (aF n))])∧Below w.heap.size w w':=by
 by_cases h:aF n
 ·rw[decide_eq_true h]
  obtain⟨y,m,d,hc,rfl⟩:=h.civil
  exact⟨y,m,d,fun w hw=>dU y m d hc w hw.lens⟩
 ·rw[decide_eq_false h]
  exact⟨0,0,0,fun w _=>wB n h w⟩
theorem eO (a b:Int)(w:World)(hw:Wd w):
  Calls Tryz.prog 95 #[.int .i64 a,.int .i64 b] w fun e w'=>e= .returned (.bool (decide (aF a∧aF b)))∧Below w.heap.size w w':=by
 obtain⟨ya,ma,da,HA⟩:=Mt a
 obtain⟨yb,mb,db,HB⟩:=Mt b
 have hA:=Lib.hid (HA w hw)
 have hB:=Lib.hid (fun W (h:Below w.heap.size w W)=>HB W (hw.keep h))
 rw[show decide (aF a∧aF b)=(decide (aF a)&&decide (aF b)) by simp]
 clear hw HA HB
 generalize decide (aF a)=va at *
 generalize decide (aF b)=vb at *
 unfold Uf at hA hB
 cases va<;>cases vb
 all_goals
  simp only[Bool.false_eq_true,if_true,if_false] at hA hB
  go_enter Tryz.func95,Tryz.ntmps95
  go_wp2_with (first
   |(go_at_call 20;(with_reducible refine(hA.out).mono ?_);rintro e w1 ⟨rfl,hb⟩;have HC:=Lib.hid (hb.alloc hb.size (.cells #[.int .i64 ya,.int .i64 ma,.int .i64 da] 23));clear hb hA)
   |(go_at_call 20;(with_reducible refine(hB.out _ HC.out).mono ?_);rintro e w2 ⟨rfl,hb⟩;have HC2:=Lib.hid ((HC.out.trans (hb.mono HC.out.size)).alloc (HC.out.trans (hb.mono HC.out.size)).size (.cells #[.int .i64 yb,.int .i64 mb,.int .i64 db] 23));clear hb hB)
   |(fail "no arm"))
  go_ret
  exact⟨rfl,HC2.out⟩
theorem qI (y m d:Int)(h:aI y m d)(w:World)(hw:Wd w):
  Calls Tryz.prog 100 #[.int .i64 (aG y m d)] w fun e w'=>e= .returned (.int .i64 (360*y+30*m+min d 30))∧Below w.heap.size w w':=by
 have HC:=Lib.hid (dU y m d h w hw.lens)
 obtain⟨a1,a2,a5,a6⟩:=id h
 obtain⟨a3,a4⟩:=h.month
 have a7:=dO y m
 have a8:d≤31:=by omega
 clear h hw a6 a7
 generalize aG y m d=n at *
 go_enter Tryz.func100,Tryz.ntmps100
 go_wp2_with (first
  |(go_at_call 20;(with_reducible refine(HC.out).mono ?_);rintro e w1 ⟨rfl,hb⟩
    obtain⟨c0,c1,c2,-⟩:=(CAt.new w1 y m d).cells
    have HB:=Lib.hid (hb.alloc hb.size (.cells #[.int .i64 y,.int .i64 m,.int .i64 d] 23));clear hb HC)
  |(fail "no arm"))
 go_ret
 exact⟨by go_num,HB.out⟩
theorem Be (k y m d y' m' d':Int)(k0:1≤k)(k1:k≤4)(h:aI y m d)(h':aI y' m' d')(w:World)(hw:Wd w):
  Calls Tryz.prog 59 #[.int .i64 k,.int .i64 (aG y m d),.int .i64 (aG y' m' d')] w fun e w'=>e= .returned (.int .i64 (fG k y m d y' m' d'))∧Below w.heap.size w w':=by
 have HM:=Lib.hid (by have H:=iF k w;rw[decide_eq_true ⟨k0,k1⟩] at H;exact H)
 have HD:=Lib.hid (by have H:=eO (aG y m d) (aG y' m' d') w hw;rw[decide_eq_true ⟨aT h,aT h'⟩] at H;exact H)
 have HT:=Lib.hid (fun W (hb:Below w.heap.size w W)=>qI y' m' d' h' W (hw.keep hb))
 have HT2:=Lib.hid (fun W (hb:Below w.heap.size w W)=>qI y m d h W (hw.keep hb))
 have i1:=aT h
 have i2:=aT h'
 obtain⟨i1,i3⟩:=i1
 obtain⟨i2,i4⟩:=i2
 obtain⟨a1,a2,a5,a6⟩:=id h
 obtain⟨b1,b2,b5,b6⟩:=id h'
 obtain⟨a3,a4⟩:=h.month
 obtain⟨b3,b4⟩:=h'.month
 have a7:=dO y m
 have b7:=dO y' m'
 have a8:d≤31:=by omega
 have b8:d'≤31:=by omega
 have hX:0≤360*y+30*m+min d 30∧360*y+30*m+min d 30≤1000000:=by omega
 have hX':0≤360*y'+30*m'+min d' 30∧360*y'+30*m'+min d' 30≤1000000:=by omega
 have hE:thirty y m d y' m' d'=(360*y'+30*m'+min d' 30) - (360*y+30*m+min d 30):=by unfold thirty;omega
 unfold fG
 rw[hE]
 clear h h' a1 a2 a5 a6 b1 b2 b5 b6 a3 a4 b3 b4 a7 b7 a8 b8 hw hE
 generalize 360*y+30*m+min d 30=X at *
 generalize 360*y'+30*m'+min d' 30=X' at *
 generalize aG y m d=n at *
 generalize aG y' m' d'=n' at *
 obtain⟨x0,x1⟩:=hX
 obtain⟨x2,x3⟩:=hX'
 by_cases hk:k=1
 ·rw[if_pos hk]
  subst hk
  clear k0 k1
  go_enter Tryz.func59,Tryz.ntmps59
  go_wp2_with (first
   |(go_at_call 61;(with_reducible refine(HM.out).mono ?_);rintro e w0 ⟨rfl,rfl⟩;clear HM)
   |(go_at_call 95;(with_reducible refine(HD.out).mono ?_);rintro e w1 ⟨rfl,hb⟩;have HB:=Lib.hid hb;clear hb HD)
   |(go_at_call 100;(with_reducible refine(HT.out _ HB.out).mono ?_);rintro e w2 ⟨rfl,hb⟩;have HB2:=Lib.hid (HB.out.trans (hb.mono HB.out.size));clear hb HT)
   |(go_at_call 100;(with_reducible refine(HT2.out _ HB2.out).mono ?_);rintro e w3 ⟨rfl,hb⟩;have HB3:=Lib.hid (HB2.out.trans (hb.mono HB2.out.size));clear hb HT2)
   |(fail "no arm"))
  go_ret
  exact⟨by go_num,HB3.out⟩
 ·rw[if_neg hk]
  go_enter Tryz.func59,Tryz.ntmps59
  go_wp2_with (first
   |(go_at_call 61;(with_reducible refine(HM.out).mono ?_);rintro e w0 ⟨rfl,rfl⟩;clear HM)
   |(go_at_call 95;(with_reducible refine(HD.out).mono ?_);rintro e w1 ⟨rfl,hb⟩;have HB:=Lib.hid hb;clear hb HD)
   |(fail "no arm"))
  go_ret
  exact⟨by go_num,HB.out⟩
theorem Bf (k a b:Int)(h:¬(1≤k∧k≤4∧aF a∧aF b))(w:World)(hw:Wd w):
  Calls Tryz.prog 59 #[.int .i64 k,.int .i64 a,.int .i64 b] w fun e w'=>e= .returned (.int .i64 0)∧Below w.heap.size w w':=by
 have HM:=Lib.hid (iF k w)
 have HD:=Lib.hid (eO a b w hw)
 have HR:=Lib.hid (Below.refl w.heap.size w)
 clear hw
 by_cases hk:1≤k∧k≤4
 ·rw[decide_eq_true hk] at HM
  rw[decide_eq_false (fun hd=>h ⟨hk.1,hk.2,hd.1,hd.2⟩)] at HD
  clear h hk
  go_enter Tryz.func59,Tryz.ntmps59
  go_wp2_with (first
   |(go_at_call 61;(with_reducible refine(HM.out).mono ?_);rintro e w0 ⟨rfl,rfl⟩;clear HM)
   |(go_at_call 95;(with_reducible refine(HD.out).mono ?_);rintro e w1 ⟨rfl,hb⟩;have HB:=Lib.hid hb;clear hb HD)
   |(fail "no arm"))
  go_ret
  exact⟨rfl,HB.out⟩
 ·rw[decide_eq_false hk] at HM
  clear h hk HD
  go_enter Tryz.func59,Tryz.ntmps59
  go_wp2_with (first
   |(go_at_call 61;(with_reducible refine(HM.out).mono ?_);rintro e w0 ⟨rfl,rfl⟩;clear HM)
   |(fail "no arm"))
  go_ret
  exact⟨rfl,HR.out⟩
theorem jJ (n:Int)(h0: -9223372036854775808≤n)(h1:n<9223372036854775808)(w:World):
  Calls Tryz.prog 96 #[.int .i64 n] w fun e w'=>∃u,e= .returned u∧(IsZ w' u n∧u≠ .pointer none)∧Below w.heap.size w w':=by
 have HO:=Lib.hid (num.gD n w h0 h1)
 go_enter Tryz.func96,Tryz.ntmps96
 go_wp2_with (first
  |(go_at_call 103;(with_reducible refine(HO.out).mono ?_);rintro e w1 ⟨u,rfl,hz,hb⟩;have HZ:=Lib.hid (And.intro hz hb);clear hz hb HO)
  |(fail "no arm"))
 go_ret
 exact⟨u,rfl,HZ.out.1,HZ.out.2⟩
theorem Ld (k:Int)(w:World):Calls Tryz.prog 99 #[.int .i64 k] w fun e w'=>e= .returned (.int .i64 (if k=3 then 365 else 360))∧w=w':=by
 by_cases h:k=3
 ·rw[if_pos h]
  subst h
  go_enter Tryz.func99,Tryz.ntmps99
  go_wp2
  go_ret
  exact⟨rfl,rfl⟩
 ·rw[if_neg h]
  go_enter Tryz.func99,Tryz.ntmps99
  go_wp2
  go_ret
  exact⟨rfl,rfl⟩
theorem wO {k y m d y' m' d':Int}(h:aI y m d)(h':aI y' m' d'): -1000000≤fG k y m d y' m' d'∧fG k y m d y' m' d'≤1000000:=by
 obtain⟨a1,a2,a5,a6⟩:=id h
 obtain⟨b1,b2,b5,b6⟩:=id h'
 obtain⟨a3,a4⟩:=h.month
 obtain⟨b3,b4⟩:=h'.month
 have a7:=dO y m
 have b7:=dO y' m'
 obtain⟨i1,i3⟩:=aT h
 obtain⟨i2,i4⟩:=aT h'
 unfold fG thirty
 split<;>omega
theorem Jc (k y m d y' m' d' s t f:Int)(k0:1≤k)(k1:k≤3)(h:aI y m d)(h':aI y' m' d')(hle:aG y m d≤aG y' m' d')(w:World)(hw:Wd w):
  Calls Tryz.prog 57 #[.int .i64 k,.int .i64 (aG y m d),.int .i64 (aG y' m' d'),.int .i64 s,.int .i64 t,.int .i64 f] w fun e w'=>∃u,e= .returned (.tuple #[u,.nilIface])∧(rat.IsR w' u ((fG k y m d y' m' d':Rat)/((if k=3 then 365 else 360:Int):Rat))∧u≠ .pointer none)∧Below w.heap.size w w':=by
 have hk4:k≤4:=by omega
 have HM:=Lib.hid (by have H:=iF k w;rw[decide_eq_true ⟨k0,hk4⟩] at H;exact H)
 have HA:=Lib.hid (by have H:=eO (aG y m d) (aG y' m' d') w hw;rw[decide_eq_true ⟨aT h,aT h'⟩] at H;exact H)
 have HD:=Lib.hid (fun W (hb:Below w.heap.size w W)=>Be k y m d y' m' d' k0 hk4 h h' W (hw.keep hb))
 obtain⟨c0,c1⟩:=wO (k:=k) h h'
 have HN:=Lib.hid (fun W=>jJ (fG k y m d y' m' d') (by omega) (by omega) W)
 have HS:=Lib.hid (show Lz (fG k y m d y' m' d') 300000 from(num.fF (by omega)).le (by decide))
 obtain⟨Y,hY,hY2⟩:∃Y:Int,(if k=3 then 365 else 360:Int)=Y∧(Y=365∨Y=360):=⟨_,rfl,by split<;>simp⟩
 have HY:=Lib.hid (fun W=>Ld k W)
 rw[hY] at HY
 rw[hY]
 have HN2:=Lib.hid (fun W=>jJ Y (by omega) (by omega) W)
 have HS2:=Lib.hid (show Lz Y 300000∧Y≠0 from⟨(num.fF (by omega)).le (by decide),by omega⟩)
 have hkn:k≠4:=by omega
 clear h h' hw k0 k1 hk4 c0 c1 hY hY2
 generalize fG k y m d y' m' d'=z at *
 generalize aG y m d=n at *
 generalize aG y' m' d'=n' at *
 have hnl:¬n'<n:=by omega
 clear hle
 go_enter Tryz.func57,Tryz.ntmps57
 go_wp2_with (first
  |(go_at_call 61;(with_reducible refine(HM.out).mono ?_);rintro e w0 ⟨rfl,rfl⟩;clear HM)
  |(go_at_call 95;(with_reducible refine(HA.out).mono ?_);rintro e w1 ⟨rfl,hb⟩;have HB:=Lib.hid hb;clear hb HA)
  |(go_at_call 59;(with_reducible refine(HD.out _ HB.out).mono ?_);rintro e w2 ⟨rfl,hb⟩;have HB2:=Lib.hid (HB.out.trans (hb.mono HB.out.size));clear hb HD)
  |(go_at_call 96;(with_reducible refine(HN.out _).mono ?_);rintro e w3 ⟨u1,rfl,⟨hz,-⟩,hb⟩;have HZ:=Lib.hid hz;have HB3:=Lib.hid (HB2.out.trans (hb.mono HB2.out.size));clear hz hb HN)
  |(go_at_call 99;(with_reducible refine(HY.out _).mono ?_);rintro e w4 ⟨rfl,rfl⟩;clear HY)
  |(go_at_call 96;(with_reducible refine(HN2.out _).mono ?_);rintro e w5 ⟨u2,rfl,⟨hz,-⟩,hb⟩;have HZ2:=Lib.hid (And.intro (HZ.out.below hb) hz);have HB4:=Lib.hid (HB3.out.trans (hb.mono HB3.out.size));clear hz hb HN2)
  |(go_at_call 97;(with_reducible refine(rat.wG u1 u2 z Y _ HZ2.out.1 HZ2.out.2 HS.out HS2.out.1 HS2.out.2).mono ?_);rintro e w6 ⟨u3,rfl,hr,hb⟩;have HR:=Lib.hid hr;have HB5:=Lib.hid (HB4.out.trans (hb.mono HB4.out.size));clear hr hb)
  |(fail "no arm"))
 go_ret2
 exact⟨_,rfl,HR.out,HB5.out⟩
theorem Tm (y m d y' m' d' s t f:Int)(h:aI y m d)(h':aI y' m' d')(hle:aG y m d≤aG y' m' d')(hs:aF s)(ht:aF t)(hst:s<t)(f0:1≤f)(f1:f<9223372036854775808)(w:World)(hw:Wd w):
  Calls Tryz.prog 57 #[.int .i64 4,.int .i64 (aG y m d),.int .i64 (aG y' m' d'),.int .i64 s,.int .i64 t,.int .i64 f] w fun e w'=>∃u,e= .returned (.tuple #[u,.nilIface])∧(rat.IsR w' u (((aG y' m' d' - aG y m d:Int):Rat)/((f*(t - s):Int):Rat))∧u≠ .pointer none)∧Below w.heap.size w w':=by
 have HM:=Lib.hid (by have H:=iF 4 w;rw[decide_eq_true (show(1:Int)≤4∧(4:Int)≤4 by decide)] at H;exact H)
 have HA:=Lib.hid (by have H:=eO (aG y m d) (aG y' m' d') w hw;rw[decide_eq_true ⟨aT h,aT h'⟩] at H;exact H)
 have HA2:=Lib.hid (fun W (hb:Below w.heap.size w W)=>(by have H:=eO s t W (hw.keep hb);rw[decide_eq_true ⟨hs,ht⟩] at H;exact H))
 have HD:=Lib.hid (fun W (hb:Below w.heap.size w W)=>(by have H:=Be 4 y m d y' m' d' (by decide) (by decide) h h' W (hw.keep hb);unfold fG at H;rw[if_neg (by decide)] at H;exact H))
 obtain⟨i1,i3⟩:=aT h
 obtain⟨i2,i4⟩:=aT h'
 obtain⟨s0,s1⟩:=hs
 obtain⟨t0,t1⟩:=ht
 clear h h' hw
 generalize aG y m d=n at *
 generalize aG y' m' d'=n' at *
 have HN:=Lib.hid (fun W=>jJ (n' - n) (by omega) (by omega) W)
 have HS:=Lib.hid (show Lz (n' - n) 300000 from(num.fF (by omega)).le (by decide))
 have HN1:=Lib.hid (fun W=>jJ f (by omega) (by omega) W)
 have HN2:=Lib.hid (fun W=>jJ (t - s) (by omega) (by omega) W)
 have hL1:Lz f 1:=num.fF (by omega)
 have hL2:Lz (t - s) 1:=num.fF (by omega)
 have HS2:=Lib.hid (show Lz (f*(t - s)) 300000∧f*(t - s)≠0 from⟨(num.Ta hL1 hL2).le (by decide),fun e=>by rcases Int.mul_eq_zero.1 e with e|e<;>omega⟩)
 have HMu:=Lib.hid (fun a b W ha hb=>num.iG a b f (t - s) W ha hb (Nat.le_trans hL1 (by decide)) (Nat.le_trans hL2 (by decide)))
 have hnl:¬n'<n:=by omega
 have hsl:¬t≤s:=by omega
 have hfl:¬f<1:=by omega
 generalize hq:f*(t - s)=q at *
 clear hle hL1 hL2 hst f0 f1 hq
 go_enter Tryz.func57,Tryz.ntmps57
 go_wp2_with (first
  |(go_at_call 61;(with_reducible refine(HM.out).mono ?_);rintro e w0 ⟨rfl,rfl⟩;clear HM)
  |(go_at_call 95;(with_reducible refine(HA.out).mono ?_);rintro e w1 ⟨rfl,hb⟩;have HB:=Lib.hid hb;clear hb HA)
  |(go_at_call 95;(with_reducible refine(HA2.out _ HB.out).mono ?_);rintro e w1b ⟨rfl,hb⟩;have HB1:=Lib.hid (HB.out.trans (hb.mono HB.out.size));clear hb HA2)
  |(go_at_call 59;(with_reducible refine(HD.out _ HB1.out).mono ?_);rintro e w2 ⟨rfl,hb⟩;have HB2:=Lib.hid (HB1.out.trans (hb.mono HB1.out.size));clear hb HD)
  |(go_at_call 96;(with_reducible refine(HN.out _).mono ?_);rintro e w3 ⟨u1,rfl,⟨hz,-⟩,hb⟩;have HZ:=Lib.hid hz;have HB3:=Lib.hid (HB2.out.trans (hb.mono HB2.out.size));clear hz hb HN)
  |(go_at_call 96;(with_reducible refine(HN1.out _).mono ?_);rintro e w4 ⟨u2,rfl,⟨hz,-⟩,hb⟩;have HZ1:=Lib.hid (And.intro (HZ.out.below hb) hz);have HB4:=Lib.hid (HB3.out.trans (hb.mono HB3.out.size));clear hz hb HN1)
  |(go_at_call 96;(with_reducible refine(HN2.out _).mono ?_);rintro e w5 ⟨u3,rfl,⟨hz,-⟩,hb⟩;have HZ2:=Lib.hid (And.intro (HZ1.out.1.below hb) (And.intro (HZ1.out.2.below hb) hz));have HB5:=Lib.hid (HB4.out.trans (hb.mono HB4.out.size));clear hz hb HN2)
  |(go_at_call 98;(with_reducible refine(HMu.out _ _ _ HZ2.out.2.1 HZ2.out.2.2).mono ?_);rintro e w6 ⟨u4,rfl,⟨hz,-⟩,hb⟩;have HZ3:=Lib.hid (And.intro (HZ2.out.1.below hb) hz);have HB6:=Lib.hid (HB5.out.trans (hb.mono HB5.out.size));clear hz hb HMu)
  |(go_at_call 97;(with_reducible refine(rat.wG u1 u4 (n' - n) q _ HZ3.out.1 HZ3.out.2 HS.out HS2.out.1 HS2.out.2).mono ?_);rintro e w7 ⟨u5,rfl,hr,hb⟩;have HR:=Lib.hid hr;have HB7:=Lib.hid (HB6.out.trans (hb.mono HB6.out.size));clear hr hb)
  |(fail "no arm"))
 go_ret2
 exact⟨_,rfl,HR.out,HB7.out⟩
theorem pK (k a b s t f:Int)(h:k<1∨4<k)(w:World):
  Calls Tryz.prog 57 #[.int .i64 k,.int .i64 a,.int .i64 b,.int .i64 s,.int .i64 t,.int .i64 f] w fun e w'=>e= .returned (.tuple #[.pointer none,bI 1])∧Below w.heap.size w w':=by
 unfold bI
 have HM:=Lib.hid (by have H:=iF k w;rw[decide_eq_false (by omega)] at H;exact H)
 have HO:=Lib.hid (fun W=>OfE 1 rfl W)
 have hk4:k≠4:=by omega
 have HR:=Lib.hid (Below.refl w.heap.size w)
 clear h
 go_enter Tryz.func57,Tryz.ntmps57
 go_wp2_with (first
  |(go_at_call 61;(with_reducible refine(HM.out).mono ?_);rintro e w0 ⟨rfl,rfl⟩;clear HM)
  |(go_at_call 71;(with_reducible refine(HO.out _).mono ?_);rintro e w9 ⟨rfl,rfl⟩)
  |(fail "no arm"))
 go_ret2
 exact⟨rfl,HR.out⟩
theorem Oe (k a b s t f:Int)(k0:1≤k)(k1:k≤4)(h:¬(aF a∧aF b∧a≤b∧(k=4→aF s∧aF t)))(w:World)(hw:Wd w):
  Calls Tryz.prog 57 #[.int .i64 k,.int .i64 a,.int .i64 b,.int .i64 s,.int .i64 t,.int .i64 f] w fun e w'=>e= .returned (.tuple #[.pointer none,bI 4])∧Below w.heap.size w w':=by
 unfold bI
 have HM:=Lib.hid (by have H:=iF k w;rw[decide_eq_true ⟨k0,k1⟩] at H;exact H)
 have HA:=Lib.hid (eO a b w hw)
 have HO:=Lib.hid (fun W=>OfE 4 rfl W)
 by_cases hd:aF a∧aF b
 ·rw[decide_eq_true hd] at HA
  by_cases hab:b<a
  ·clear h hd hw k0 k1
   by_cases hk:k=4
   ·subst hk
    go_enter Tryz.func57,Tryz.ntmps57
    go_wp2_with (first
     |(go_at_call 61;(with_reducible refine(HM.out).mono ?_);rintro e w0 ⟨rfl,rfl⟩;clear HM)
     |(go_at_call 95;(with_reducible refine(HA.out).mono ?_);rintro e w1 ⟨rfl,hb⟩;have HB:=Lib.hid hb;clear hb HA)
     |(go_at_call 71;(with_reducible refine(HO.out _).mono ?_);rintro e w9 ⟨rfl,rfl⟩)
     |(fail "no arm"))
    go_ret2
    exact⟨rfl,HB.out⟩
   ·go_enter Tryz.func57,Tryz.ntmps57
    go_wp2_with (first
     |(go_at_call 61;(with_reducible refine(HM.out).mono ?_);rintro e w0 ⟨rfl,rfl⟩;clear HM)
     |(go_at_call 95;(with_reducible refine(HA.out).mono ?_);rintro e w1 ⟨rfl,hb⟩;have HB:=Lib.hid hb;clear hb HA)
     |(go_at_call 71;(with_reducible refine(HO.out _).mono ?_);rintro e w9 ⟨rfl,rfl⟩)
     |(fail "no arm"))
    go_ret2
    exact⟨rfl,HB.out⟩
  ·have hk:k=4∧¬(aF s∧aF t):=by
    by_cases hk:k=4
    ·exact⟨hk,fun hst=>h ⟨hd.1,hd.2,by omega,fun _=>hst⟩⟩
    ·exact absurd ⟨hd.1,hd.2,by omega,fun e=>absurd e hk⟩ h
   obtain⟨rfl,hst⟩:=hk
   have HA2:=Lib.hid (fun W (hb:Below w.heap.size w W)=>(by have H:=eO s t W (hw.keep hb);rw[decide_eq_false hst] at H;exact H))
   clear h hd hw k0 k1 hst
   go_enter Tryz.func57,Tryz.ntmps57
   go_wp2_with (first
    |(go_at_call 61;(with_reducible refine(HM.out).mono ?_);rintro e w0 ⟨rfl,rfl⟩;clear HM)
    |(go_at_call 95;(with_reducible refine(HA.out).mono ?_);rintro e w1 ⟨rfl,hb⟩;have HB:=Lib.hid hb;clear hb HA)
    |(go_at_call 95;(with_reducible refine(HA2.out _ HB.out).mono ?_);rintro e w1b ⟨rfl,hb⟩;have HB1:=Lib.hid (HB.out.trans (hb.mono HB.out.size));clear hb HA2)
    |(go_at_call 71;(with_reducible refine(HO.out _).mono ?_);rintro e w9 ⟨rfl,rfl⟩)
    |(fail "no arm"))
   go_ret2
   exact⟨rfl,HB1.out⟩
 ·rw[decide_eq_false hd] at HA
  clear h hd hw k0 k1
  by_cases hk:k=4
  ·subst hk
   go_enter Tryz.func57,Tryz.ntmps57
   go_wp2_with (first
    |(go_at_call 61;(with_reducible refine(HM.out).mono ?_);rintro e w0 ⟨rfl,rfl⟩;clear HM)
    |(go_at_call 95;(with_reducible refine(HA.out).mono ?_);rintro e w1 ⟨rfl,hb⟩;have HB:=Lib.hid hb;clear hb HA)
    |(go_at_call 71;(with_reducible refine(HO.out _).mono ?_);rintro e w9 ⟨rfl,rfl⟩)
    |(fail "no arm"))
   go_ret2
   exact⟨rfl,HB.out⟩
  ·go_enter Tryz.func57,Tryz.ntmps57
   go_wp2_with (first
    |(go_at_call 61;(with_reducible refine(HM.out).mono ?_);rintro e w0 ⟨rfl,rfl⟩;clear HM)
    |(go_at_call 95;(with_reducible refine(HA.out).mono ?_);rintro e w1 ⟨rfl,hb⟩;have HB:=Lib.hid hb;clear hb HA)
    |(go_at_call 71;(with_reducible refine(HO.out _).mono ?_);rintro e w9 ⟨rfl,rfl⟩)
    |(fail "no arm"))
   go_ret2
   exact⟨rfl,HB.out⟩
theorem Jd (a b s t f:Int)(ha:aF a)(hb:aF b)(hab:a≤b)(hs:aF s)(ht:aF t)(h:¬(s<t∧1≤f))(w:World)(hw:Wd w):
  Calls Tryz.prog 57 #[.int .i64 4,.int .i64 a,.int .i64 b,.int .i64 s,.int .i64 t,.int .i64 f] w fun e w'=>e= .returned (.tuple #[.pointer none,bI 2])∧Below w.heap.size w w':=by
 unfold bI
 have HM:=Lib.hid (by have H:=iF 4 w;rw[decide_eq_true (show(1:Int)≤4∧(4:Int)≤4 by decide)] at H;exact H)
 have HA:=Lib.hid (by have H:=eO a b w hw;rw[decide_eq_true ⟨ha,hb⟩] at H;exact H)
 have HA2:=Lib.hid (fun W (hb:Below w.heap.size w W)=>(by have H:=eO s t W (hw.keep hb);rw[decide_eq_true ⟨hs,ht⟩] at H;exact H))
 have HO:=Lib.hid (fun W=>OfE 2 rfl W)
 have hnl:¬b<a:=by omega
 clear ha hb hs ht hw hab
 by_cases hst:t≤s
 ·clear h
  go_enter Tryz.func57,Tryz.ntmps57
  go_wp2_with (first
   |(go_at_call 61;(with_reducible refine(HM.out).mono ?_);rintro e w0 ⟨rfl,rfl⟩;clear HM)
   |(go_at_call 95;(with_reducible refine(HA.out).mono ?_);rintro e w1 ⟨rfl,hb⟩;have HB:=Lib.hid hb;clear hb HA)
   |(go_at_call 95;(with_reducible refine(HA2.out _ HB.out).mono ?_);rintro e w1b ⟨rfl,hb⟩;have HB1:=Lib.hid (HB.out.trans (hb.mono HB.out.size));clear hb HA2)
   |(go_at_call 71;(with_reducible refine(HO.out _).mono ?_);rintro e w9 ⟨rfl,rfl⟩)
   |(fail "no arm"))
  go_ret2
  exact⟨rfl,HB1.out⟩
 ·have hf:f<1:=by omega
  clear h
  go_enter Tryz.func57,Tryz.ntmps57
  go_wp2_with (first
   |(go_at_call 61;(with_reducible refine(HM.out).mono ?_);rintro e w0 ⟨rfl,rfl⟩;clear HM)
   |(go_at_call 95;(with_reducible refine(HA.out).mono ?_);rintro e w1 ⟨rfl,hb⟩;have HB:=Lib.hid hb;clear hb HA)
   |(go_at_call 95;(with_reducible refine(HA2.out _ HB.out).mono ?_);rintro e w1b ⟨rfl,hb⟩;have HB1:=Lib.hid (HB.out.trans (hb.mono HB.out.size));clear hb HA2)
   |(go_at_call 71;(with_reducible refine(HO.out _).mono ?_);rintro e w9 ⟨rfl,rfl⟩)
   |(fail "no arm"))
  go_ret2
  exact⟨rfl,HB1.out⟩
theorem EZ:CntC where
 may:=fun k w _=>(iF k w).mono fun _ _ ⟨he,hw⟩=>⟨he,hw▸Below.refl _ _⟩
 days:=fun k y m d y' m' d' k0 k1 h h' w hw=>Be k y m d y' m' d' k0 k1 h h' w hw
 daysNo:=fun k a b h w hw=>Bf k a b h w hw
 part:=fun k y m d y' m' d' s t f k0 k1 h h' hle hp w hw=>by
  unfold uS
  by_cases hk:k=4
  ·rw[if_pos hk]
   obtain⟨p1,p2,p3,p4,p5⟩:=hp hk
   subst hk
   exact Tm y m d y' m' d' s t f h h' hle p1 p2 p3 p4 (by omega) w hw
  ·rw[if_neg hk]
   exact Jc k y m d y' m' d' s t f k0 (by omega) h h' hle w hw
 partForm:=fun k a b s t f h w _=>pK k a b s t f h w
 partDate:=fun k a b s t f k0 k1 h w hw=>Oe k a b s t f k0 k1 h w hw
 partRange:=fun a b s t f ha hb hab hs ht h w hw=>Jd a b s t f ha hb hab hs ht h w hw
end Go.Proofs.YtlhmfgbaefaneaaGreatDoor.count
namespace Go.Proofs.YtlhmfgbaefaneaaGreatDoor.dec
open Go.RowKit Go.Proofs.YtlhmfgbaefaneaaGreatDoor.nat Go.Proofs.YtlhmfgbaefaneaaGreatDoor.num Go.Proofs.YtlhmfgbaefaneaaGreatDoor.ch
open Go.Proofs.YtlhmfgbaefaneaaGreatDoor.rat (IsR Lr)
open Go.Proofs.YtlhmfgbaefaneaaGreatDoor.ref (str aD aJ cB iX signed bQ)
def upB (mode C:Int)(odd:Bool):Bool:=((mode==1)&&decide (0≤C))||((mode==2)&&(decide (0<C)||((C==0)&&odd)))
theorem Ns (x d:Nat)(mode:Int):upB mode (cmp3 ((x%d+x%d:Nat):Int) (d:Int)) (decide (x/d%2=1))=iX x d mode:=by
 have hC:cmp3 ((x%d+x%d:Nat):Int) (d:Int)=ref.cmpN (x%d*2) d:=by
  rw[show x%d+x%d=x%d*2 by omega]
  unfold cmp3 ref.cmpN
  (repeat' split)<;>omega
 rw[hC,ref.Zt (x:=x) (d:=d) (mode:=mode) rfl]
 rfl
def Dh (q:Rat)(k:Nat)(mode:Int):List UInt8:=bQ (signed (decide (q.num<0)) (cB (q.num.natAbs*10 ^ k) q.den mode)) k
theorem jA (below:Bool)(x k:Nat):bQ (signed below x) k=if below=true∧x≠0 then 45::ref.dJ x k else ref.dJ x k:=by
 unfold bQ signed
 cases below
 ·simp
 ·by_cases h:x=0
  ·subst h;simp
  ·simp[h]
theorem mR {k:Nat}(hk:k≤20):Ln (10 ^ k) 21:=rat.vM (n:=21) (Nat.lt_of_lt_of_le (show 10 ^ k<10 ^ (k+1) by rw[Nat.pow_succ];have:0<10 ^ k:=Nat.pow_pos (by omega);omega) (Nat.pow_le_pow_right (by omega) (by omega))) (Nat.le_refl _)
theorem Bo {x d n:Nat}(mode:Int)(h:Ln x n):Ln (cB x d mode) (n+2):=by
 have h1:cB x d mode≤x+1:=by
  unfold cB
  have:=Nat.div_le_self x d
  split<;>omega
 exact(jL h1 (Iq h (dW (x:=1) (by decide)))).le (by omega)
theorem Vx {x d:Nat}{mode:Int}(h:iX x d mode=true):cB x d mode=x/d+1:=by unfold cB;rw[h];rfl
theorem Vw {x d:Nat}{mode:Int}(h:iX x d mode=false):cB x d mode=x/d:=by unfold cB;rw[h];rfl
theorem Ay (z:Int): (sg z= -1∧decide (z<0)=true)∨(sg z=0∧decide (z<0)=false)∨(sg z=1∧decide (z<0)=false):=by
 unfold sg cmp3
 rcases Int.lt_trichotomy z 0 with h|h|h
 ·exact Or.inl ⟨by rw[if_pos h],by simpa using h⟩
 ·subst h;exact Or.inr (Or.inl ⟨rfl,rfl⟩)
 ·exact Or.inr (Or.inr ⟨by rw[if_neg (by omega),if_pos h],by simp;omega⟩)
theorem kW (p:Bool)(x:Nat):num.sgn p x=signed p x:=rfl
end Go.Proofs.YtlhmfgbaefaneaaGreatDoor.dec
