/-
  The steps of the walks, part 39: Join, Begun, Law2Begun, Law6Begun, Laid6, Law6Facts, Stay6, Arg6, C6CountAll.
-/
import Derived.Laws.MakeOwn
import Derived.Lib.Builder
import Derived.Test.YtlhmfgbaefaneaaGreatDoorRows
import Derived.Lib.LaidU8
import Derived.ChangeSame
import Derived.ChangeVars
import Derived.JoinedOf
import Derived.RowKit
import Derived.RowKitTokens
import Derived.LaidLaws
import Derived.LaidHandle
import Derived.Stop.Joined
import Derived.Lay
import Derived.Test.YtlhmfgbaefaneaaGreatDoorChecked
import Derived.ReadAgain
import Derived.ChangeBears
import Derived.Below
import Derived.Deep.Slices
import Derived.ChangeArms
import Derived.OpenShut
import Derived.ProofKit
import Derived.Test.YtlhmfgbaefaneaaGreatDoorTie
import Derived.Test.YtlhmfgbaefaneaaGreatDoorCards
import Derived.Carry
import Derived.SizedLaws
import Derived.Test.YtlhmfgbaefaneaaGreatDoorM38
import Derived.Test.YtlhmfgbaefaneaaGreatDoorM36
import Derived.Test.YtlhmfgbaefaneaaGreatDoorM32
import Derived.Test.YtlhmfgbaefaneaaGreatDoorM33
import Derived.Test.YtlhmfgbaefaneaaGreatDoorM02
import Derived.Test.YtlhmfgbaefaneaaGreatDoorM05
import Derived.Test.YtlhmfgbaefaneaaGreatDoorM27
import Derived.Test.YtlhmfgbaefaneaaGreatDoorM31
import Derived.Test.YtlhmfgbaefaneaaGreatDoorM29
import Derived.Test.YtlhmfgbaefaneaaGreatDoorM28
set_option maxHeartbeats 4000000
set_option maxRecDepth 100000
namespace Go.Proofs.YtlhmfgbaefaneaaGreatDoor.flt
open Go.RowKit Go.Extern.Stop Go.Stop Go.Extern
def Joined (w:World)(j:Nat)(v0 v1:Value):Prop:=∃g cap,w.cell? ⟨j,0,none⟩=some (.slice (some ⟨g,0,none⟩) 2 cap)∧w.cell? ⟨g,0,none⟩=some v0∧w.cell? ⟨g,1,none⟩=some v1
theorem Joined.below {w w':World}{j:Nat}{v0 v1:Value}(h:Joined w j v0 v1)(hb:Below w.heap.size w w'):Joined w' j v0 v1:=by
 obtain⟨g,cap,h1,h2,h3⟩:=h
 exact⟨g,cap,(hb.cell (aO h1)).trans h1,(hb.cell (aO h2)).trans h2,(hb.cell (aO h3)).trans h3⟩
theorem rM (c d:Int)(w:World):iC w (.iface 128 (.int .i64 c)) (.iface 128 (.int .i64 d)) (c==d):=
 Lib.run_eql_iface_int (P:=Tryz.prog) w c d Tryz.underlying28 FB Tryz.underlying128
theorem xC (u u':TypeId)(x y:Value)(h:u≠u')(w:World):iC w (.iface u x) (.iface u' y) false:=
 run_eql_iface_types (P:=Tryz.prog) u u' x y Tryz.underlying28 h w
theorem Jy {w:World}{b B:Nat}{d:Int}{s:ByteArray}{l:List (Nat×Int×ByteArray)}(h:Chain w (.iface 131 (.pointer (some ⟨b,0,none⟩))) B ((b,d,s)::l))(h0: (d==0)=false):nR w (.iface 128 (.int .i64 d)) (.iface 131 (.pointer (some ⟨b,0,none⟩))) true:=by
 cases h with
 |link _ _ _ e _ _ hf _ _=>exact .code b d s e hf h0 (xC _ _ _ _ (by decide) w) (by have:=rM d d w;rwa [show(d==d)=true from by simp] at this)
end Go.Proofs.YtlhmfgbaefaneaaGreatDoor.flt
namespace Go.Proofs.YtlhmfgbaefaneaaGreatDoor.flt
open Go.RowKit Go.Extern.Stop Go.Stop Go.Extern
theorem Ad (b0 b1:Nat):ats [(b1,4,⟨#[97]⟩),(b0,4,⟨#[98]⟩)]=[⟨#[97]⟩,⟨#[98]⟩]:=by
 have h1: (⟨#[97]⟩:ByteArray).toList=[97]:=by decide+kernel
 have h2: (⟨#[98]⟩:ByteArray).toList=[98]:=by decide+kernel
 simp[ats,h1,h2]
theorem La: (⟨(render [⟨#[97]⟩,⟨#[98]⟩]++(msg 4).data.toList).toArray⟩:ByteArray)=⟨#[97,58,32,98,58,32,101,114,114,111,114,32,52]⟩:=by decide+kernel
theorem Places.two {w w':World}{x y:ByteArray}{e:Ending}(h:Places w [x,y] e w'):∃g cap,e= .returned (.slice (some ⟨g,0,none⟩) 2 cap)∧w'.cell? ⟨g,0,none⟩=some (.string x)∧w'.cell? ⟨g,1,none⟩=some (.string y)∧Below w.heap.size w w':=by
 obtain⟨sv,rfl,hown,hb⟩:=h
 obtain⟨g,cap,rfl⟩:∃g cap,sv= .slice (some ⟨g,0,none⟩) 2 cap:=by
  rcases hown.2 with ⟨_,h⟩|⟨g,cap,cur,hv,_⟩
  ·simp at h
  ·exact⟨g,cap,hv⟩
 have hown':w'.ownsRow w.heap.size 9 1 (.slice (some ⟨g,0,none⟩) 2 cap) 2 [.string x,.string y]:=hown
 exact⟨g,cap,rfl,by rw[hown'.cellAt 0 (by omega)];rfl,by rw[hown'.cellAt 1 (by omega)];rfl,hb⟩
theorem Ox (w:World)(hg:Handle w):Calls Tryz.prog 193 #[] w fun e w'=>e= .returned (.bool true)∧Below w.heap.size w w':=by
 have HG:=Lib.hid hg
 clear hg
 have mE:=Gi
 have HN:=Lib.hid (Tf 4 ⟨#[98]⟩ w (by decide))
 have B1:Below w.heap.size w (w.alloc (.cells #[.int .i64 4,.string ⟨#[98]⟩,.nilIface] 134)):=(Below.refl _ _).alloc (Nat.le_refl _) _
 have F1:bH (w.alloc (.cells #[.int .i64 4,.string ⟨#[98]⟩,.nilIface] 134)) w.heap.size 4 ⟨#[98]⟩ .nilIface:=by show(w.heap.push _)[w.heap.size]?=_;simp
 have HW:=Lib.hid (Yn ⟨#[97]⟩ _ _ 4 _ (wE w.heap.size 4 _ (HG.out.below B1 HG.out.pos) F1.cell0))
 have HB1:=Lib.hid B1
 have HF1:=Lib.hid F1
 clear B1 F1
 go_enter Tryz.func193,Tryz.ntmps193
 go_wp2_with (first|(go_at_call 234;refine(HN.out).mono ?_;rintro e' w' ⟨rfl,rfl⟩)|(go_at_call 233;refine(HW.out).mono ?_;rintro e' W2 ⟨b1,rfl,hle,hF2,hB2⟩;have HLE:=Lib.hid hle;have HF2:=Lib.hid hF2;have HB2:=Lib.hid hB2;clear hle hF2 hB2))
 have B2:Below w.heap.size w W2:=HB1.out.trans (HB2.out.mono HB1.out.size)
 have F0:bH W2 w.heap.size 4 ⟨#[98]⟩ .nilIface:=HF1.out.below HB2.out HF1.out.lt
 have CH:Chain W2 (.iface 131 (.pointer (some ⟨b1,0,none⟩))) W2.heap.size [(b1,4,⟨#[97]⟩),(w.heap.size,4,⟨#[98]⟩)]:=
  .link b1 4 _ _ _ _ HF2.out HF2.out.lt (.link w.heap.size 4 _ _ _ _ F0 (by have:=HLE.out;simp at this;omega) (.none _))
 have HWh:=Lib.hid (show Calls Tryz.prog 235 #[.iface 131 (.pointer (some ⟨b1,0,none⟩))] W2 fun e w'=>∃g cap,e= .returned (.slice (some ⟨g,0,none⟩) 2 cap)∧w'.cell? ⟨g,0,none⟩=some (.string ⟨#[97]⟩)∧w'.cell? ⟨g,1,none⟩=some (.string ⟨#[98]⟩)∧Below W2.heap.size W2 w' from by
  have h:=uO _ _ _ W2 (HG.out.below B2 HG.out.pos) CH (Nat.le_refl _) (by simp)
  rw[Ad] at h
  exact h.mono fun _ _ h=>h.two)
 have HB2w:=Lib.hid B2
 have HCH:=Lib.hid CH
 clear B2 F0 CH
 go_wp2_with (go_at_call 235;refine(HWh.out).mono ?_;rintro e' W3 ⟨g,cap,rfl,hc0,hc1,hb3⟩;have HB3:=Lib.hid hb3;clear hb3)
 have HCo:=Lib.hid (wE b1 4 W3 (HG.out.below (HB2w.out.trans (HB3.out.mono HB2w.out.size)) HG.out.pos) ((HF2.out.below HB3.out HF2.out.lt).cell0))
 go_wp2_with (go_at_call 80;refine(HCo.out).mono ?_;rintro e' W4 ⟨rfl,hb4⟩;have HB4:=Lib.hid hb4;clear hb4)
 have B24:Below W2.heap.size W2 W4:=HB3.out.trans (HB4.out.mono HB3.out.size)
 have HE:=Lib.hid (show Calls Tryz.prog 311 #[.pointer (some ⟨b1,0,none⟩)] W4 fun e w'=>e= .returned (.string ⟨#[97,58,32,98,58,32,101,114,114,111,114,32,52]⟩)∧Below W4.heap.size W4 w' from by
  have h:=Dy b1 4 ⟨#[97]⟩ W2.heap.size [(w.heap.size,4,⟨#[98]⟩)] W4 (HG.out.below (HB2w.out.trans (B24.mono HB2w.out.size)) HG.out.pos) (HCH.out.keep B24 (Nat.le_refl _)) B24.size (by simp) (by
   intro x hx
   simp at hx
   rcases hx with rfl|rfl<;>exact(show(1:Nat)≤100000 by omega)) (by omega) (by omega)
  rw[Ad,La] at h
  exact h)
 have HB24:=Lib.hid B24
 clear B24
 go_wp2_with (go_at_call 311;refine(HE.out).mono ?_;rintro e' W5 ⟨rfl,hb5⟩;have HB5:=Lib.hid hb5;clear hb5)
 have B25:Below W2.heap.size W2 W5:=HB24.out.trans (HB5.out.mono HB24.out.size)
 have CH5:=HCH.out.keep B25 (Nat.le_refl _)
 have F1:bH W5 b1 4 ⟨#[97]⟩ _:=HF2.out.below B25 HF2.out.lt
 have F0:bH W5 w.heap.size 4 ⟨#[98]⟩ .nilIface:=((HF1.out.below HB2.out HF1.out.lt).below B25 (Nat.lt_of_lt_of_le HF1.out.lt HB2.out.size))
 have lt01:w.heap.size<b1:=by have:=HLE.out;simp at this;omega
 have HI1:=Lib.hid (Na _ _ _ _ true W5 Af (Jy CH5 (by decide)))
 have HI2:=Lib.hid (Na _ _ _ _ false W5 Af (.on (tgt:= .iface 128 (.int .i64 1)) b1 4 _ _ _ false F1 (by decide) (xC _ _ _ _ (by decide) W5) (rM 4 1 W5) (by simp[errM];omega) (.last w.heap.size 4 _ F0 (by decide) (xC _ _ _ _ (by decide) W5) (rM 4 1 W5))))
 have heq: (binOp .eql 28 (.iface 128 (.int .i64 3)) (.iface 128 (.int .i64 3))).run Tryz.prog W5= .ok (.bool true) W5:=rM 3 3 W5
 have HBe:=Lib.hid (HB2w.out.trans (B25.mono HB2w.out.size))
 clear B25 CH5 F1 F0 lt01
 go_wp2_with (first|(go_at_call 71;refine(vN _ _ (by decide)).mono ?_;rintro e' w' ⟨rfl,rfl⟩)|(go_at_call 236;refine(HI1.out).mono ?_;rintro e' w' ⟨rfl,rfl⟩;clear HI1)|(go_at_call 236;refine(HI2.out).mono ?_;rintro e' w' ⟨rfl,rfl⟩;clear HI2)|(go_at_call 71;refine(Yk _).mono ?_;rintro e' w' ⟨rfl,rfl⟩))
 go_ret
 exact⟨rfl,HBe.out⟩
end Go.Proofs.YtlhmfgbaefaneaaGreatDoor.flt
namespace Go.Proofs.YtlhmfgbaefaneaaGreatDoor.law2
open Go.RowKit Go.Proofs.YtlhmfgbaefaneaaGreatDoor.nat
open Go.Proofs.YtlhmfgbaefaneaaGreatDoor.ref (str signed bQ)
theorem Ep:str (Lib.decDigits 123456789012345678901234567890)=⟨#[49,50,51,52,53,54,55,56,57,48,49,50,51,52,53,54,55,56,57,48,49,50,51,52,53,54,55,56,57,48]⟩:=by decide+kernel
theorem Yv (w:World):Calls Tryz.prog 143 #[.string ⟨#[49,50,51,52,53,54,55,56,57,48,49,50,51,52,53,54,55,56,57,48,49,50,51,52,53,54,55,56,57,48]⟩] w fun e w'=>∃v,e= .returned (.tuple #[v,.nilIface])∧(nat.IsN w' v 123456789012345678901234567890∧v≠ .pointer none)∧Below w.heap.size w w':=by
 obtain⟨h1,h2,-⟩:=ref.iO (x:=123456789012345678901234567890) (p:=29) (by decide) (by decide)
 have:=nat.wF (Lib.decDigits 123456789012345678901234567890) w h1
 rwa [h2,Ep] at this
theorem Py:str (dec.Dh (-3/2) 2 1)=⟨#[45,49,46,53,48]⟩:=by decide+kernel
theorem Pw:ref.eG (bQ (-150) 2) (decide ((-150:Int)<0)) (Int.natAbs (-150)) 2:=dec.Vk (p:=3) (by decide) (by decide) (by decide)
theorem Vf:str (bQ (-150) 2)=⟨#[45,49,46,53,48]⟩:=by decide+kernel
theorem Ve (w:World):Calls Tryz.prog 147 #[.string ⟨#[45,49,46,53,48]⟩] w fun e w'=>∃u,e= .returned (.tuple #[u,.int .i64 2,.nilIface])∧(rat.IsR w' u (-3/2)∧u≠ .pointer none)∧Below w.heap.size w w':=by
 have:=Sd _ _ _ _ (-3/2) w (by decide+kernel) Pw
 rwa [Vf] at this
theorem qP:signed (decide ((-3/2:Rat).num<0)) (ref.cB (-3/2:Rat).num.natAbs (-3/2:Rat).den 2)= -2:=by decide+kernel
theorem rP:Br (-3/2:Rat) 20:=⟨by unfold Bz;decide+kernel,by unfold Bn;decide+kernel⟩
theorem Qj:str (Lib.itoa (-7))=⟨#[45,55]⟩:=by decide+kernel
theorem Px:str (rat.rtxt (-3/2))=⟨#[45,51,47,50]⟩:=by decide+kernel
theorem Qv:str (Lib.decDigits 10000000000)=⟨#[49,48,48,48,48,48,48,48,48,48,48]⟩:=by decide+kernel
theorem Xf {r:Nat}(h:nat.jC (10 ^ 20) (Int.toNat 2) r):r=10000000000:=by
 unfold nat.jC at h
 rw[show Int.toNat 2=2 from rfl] at h
 obtain⟨h1,h2⟩:=h
 rcases Nat.lt_trichotomy r 10000000000 with h3|h3|h3
 ·have:=Nat.pow_le_pow_left (show r+1≤10000000000 from h3) 2
  rw[show 10000000000 ^ 2=10 ^ 20 by decide] at this
  omega
 ·exact h3
 ·have:=Nat.pow_le_pow_left (show 10000000001≤r from h3) 2
  rw[show 10000000001 ^ 2=10 ^ 20+20000000001 by decide] at this
  omega
theorem Nu (w:World)(h:Hd w):Calls Tryz.prog 149 #[] w fun e w'=>e= .returned (.bool true)∧Below w.heap.size w w':=by
 have HB:=Lib.hid (flt.Ox w h)
 clear h
 go_enter Tryz.func149,Tryz.ntmps149
 go_wp2_with (first
  |(go_at_call 193;(with_reducible refine(HB.out).mono ?_);rintro e w1 ⟨rfl,hb⟩)
  |(fail "no arm"))
 go_ret
 exact⟨rfl,hb⟩
theorem Oy (w:World)(t:TypeId):rat.IsR (w.alloc (.cells #[.bool false,.slice none 0 0,.bool false,.slice none 0 0] t)) (.pointer (some ⟨w.heap.size,0,none⟩)) 0:=by
 obtain⟨c0,c1,c2,c3⟩:=rat.row4 (heap_alloc_new w (.cells #[.bool false,.slice none 0 0,.bool false,.slice none 0 0] t))
 have hr:nat.Rd (w.alloc (.cells #[.bool false,.slice none 0 0,.bool false,.slice none 0 0] t)) (.slice none 0 0) (nat.digs 0):=by
  rw[nat.aX]
  exact⟨none,0,rfl,⟨Nat.le_refl _,fun _=>rfl⟩,by decide,Or.inl rfl⟩
 exact Or.inr ⟨_,0,0,rfl,rat.IsZ.of_cells c0 c1 hr rfl (fun h=>by cases h),rat.IsZ.of_cells c2 c3 hr rfl (fun h=>by cases h),Or.inr ⟨rfl,rfl⟩⟩
theorem tJ (w:World)(hd:Hd w):
  Calls Tryz.prog 117 #[] w fun e w'=>e= .returned (.bool true)∧Below w.heap.size w w':=by
 have HG:=Lib.hid hd
 clear hd
 have RD:=fun W v (h:rat.IsR W v (-3/2))=>dec.Tp v (-3/2) 2 1 W h (rP.rat (by decide)) (by decide) (Or.inl rfl)
 rw[Py,show((2:Nat):Int)=2 from rfl] at RD
 have RD:=Lib.hid RD
 have UN:=fun W v (h:rat.IsR W v (-3/2))=>dec.Tw v (-3/2) 2 W h (rP.rat (by decide)) (Or.inr (Or.inl rfl)) (by rw[qP];decide) (by rw[qP];decide)
 rw[qP] at UN
 have UN:=Lib.hid UN
 have c1:=fun (W:World)=>nat.lJ 7 7 rfl (by decide) W
 have C1:=Lib.hid c1
 clear c1
 have c2:=fun (W:World)(v0:Value)(v1:Value)(hh0:nat.IsN W v0 (123456789012345678901234567890))(hh1:nat.IsN W v1 (7:Nat))=>nat.sW v0 v1 (123456789012345678901234567890) (7:Nat) W hh0 hh1 (by decide) ((show Bn 123456789012345678901234567890 30 from by unfold Bn;decide).nat (by decide)) ((kM (by decide)).nat (by decide))
 have C2:=Lib.hid c2
 clear c2
 have c3:=fun (W:World)=>num.gD (-7) W (by decide) (by decide)
 have C3:=Lib.hid c3
 clear c3
 have c4:=fun (W:World)=>rat.EW (-6) 4 W (by decide) (by decide) (by decide) (by decide) (by decide)
 rw[show((((-6):Int):Rat)/((4:Int):Rat))=(-3/2:Rat) from by decide+kernel] at c4
 have C4:=Lib.hid c4
 clear c4
 have c5:=fun (W:World)(v0:Value)(v1:Value)(hh0:nat.IsN W v0 ((123456789012345678901234567890)/(7:Nat)))(hh1:nat.IsN W v1 (7:Nat))=>nat.iG v0 v1 ((123456789012345678901234567890)/(7:Nat)) (7:Nat) W hh0 hh1 ((Ik (show Bn 123456789012345678901234567890 30 from by unfold Bn;decide)).nat (by decide)) ((kM (by decide)).nat (by decide))
 have C5:=Lib.hid c5
 clear c5
 have c6:=fun (W:World)(v0:Value)(v1:Value)(hh0:nat.IsN W v0 (((123456789012345678901234567890)/(7:Nat))*(7:Nat)))(hh1:nat.IsN W v1 ((123456789012345678901234567890)%(7:Nat)))=>nat.kY v0 v1 (((123456789012345678901234567890)/(7:Nat))*(7:Nat)) ((123456789012345678901234567890)%(7:Nat)) W hh0 hh1 ((Rw (Ik (show Bn 123456789012345678901234567890 30 from by unfold Bn;decide)) (kM (by decide))).nat (by decide)) ((Rv (show Bn 123456789012345678901234567890 30 from by unfold Bn;decide)).nat (by decide))
 have C6:=Lib.hid c6
 clear c6
 have c7:=fun (W:World)(v0:Value)(v1:Value)(hh0:nat.IsN W v0 ((((123456789012345678901234567890)/(7:Nat))*(7:Nat))+((123456789012345678901234567890)%(7:Nat))))(hh1:nat.IsN W v1 (123456789012345678901234567890))=>nat.wD v0 v1 ((((123456789012345678901234567890)/(7:Nat))*(7:Nat))+((123456789012345678901234567890)%(7:Nat))) (123456789012345678901234567890) W hh0 hh1 ((BS (Rw (Ik (show Bn 123456789012345678901234567890 30 from by unfold Bn;decide)) (kM (by decide))) (Rv (show Bn 123456789012345678901234567890 30 from by unfold Bn;decide))).nat (by decide)) ((show Bn 123456789012345678901234567890 30 from by unfold Bn;decide).nat (by decide))
 rw[Uh (show((((123456789012345678901234567890)/(7:Nat))*(7:Nat))+((123456789012345678901234567890)%(7:Nat)))=(123456789012345678901234567890) from(by decide))] at c7
 have C7:=Lib.hid c7
 clear c7
 have c8:=fun (W:World)(v0:Value)(hh0:nat.IsN W v0 (123456789012345678901234567890))=>nat.bP v0 (123456789012345678901234567890) W hh0 ((show Bn 123456789012345678901234567890 30 from by unfold Bn;decide).nat (by decide))
 rw[Ep] at c8
 have C8:=Lib.hid c8
 clear c8
 have c9:=fun (W:World)(v0:Value)(hh0:num.IsZ W v0 (-7:Int))=>num.bP v0 (-7:Int) W hh0 ((Rx (by decide) (by decide)).nat (by decide))
 rw[Qj] at c9
 have C9:=Lib.hid c9
 clear c9
 have c10:=fun (W:World)(v0:Value)(hh0:rat.IsR W v0 ((0:Rat)))=>rat.dX v0 ((0:Rat)) W hh0
 rw[show num.sg (0:Rat).num=0 by decide+kernel] at c10
 have C10:=Lib.hid c10
 clear c10
 have c11:=fun (W:World)(v0:Value)(hh0:rat.IsR W v0 ((-3/2:Rat)))=>rat.bP v0 ((-3/2:Rat)) W hh0 (rP.rat (by decide))
 rw[Px] at c11
 have C11:=Lib.hid c11
 clear c11
 have c12:=fun (W:World)(v0:Value)(v1:Value)(hh0:rat.IsR W v0 ((-3/2:Rat)))(hh1:rat.IsR W v1 ((-3/2:Rat)))=>rat.gT v0 v1 ((-3/2:Rat)) ((-3/2:Rat)) W hh0 hh1 (rP.rat (by decide)) (rP.rat (by decide))
 rw[Zb (show((-3/2:Rat))=((-3/2:Rat)) from rfl)] at c12
 have C12:=Lib.hid c12
 clear c12
 have c13:=fun (W:World)=>nat.lJ 10 10 rfl (by decide) W
 have C13:=Lib.hid c13
 clear c13
 have c14:=fun (W:World)(v0:Value)(hh0:nat.IsN W v0 (10:Nat))=>Yh v0 10 20 20 rfl (by decide) W hh0 ((kM (x:=10) (by decide)).nat (by decide)) ((show Bn (10 ^ 20) 21 from by unfold Bn;decide).nat (by decide))
 have C14:=Lib.hid c14
 clear c14
 have c15:=fun (W:World)(v0:Value)(hh0:nat.IsN W v0 (10 ^ 20))=>nat.Oj v0 (10 ^ 20) 2 W hh0 ((show Bn (10 ^ 20) 21 from by unfold Bn;decide).nat (by decide)) (by decide) (by decide)
 have C15:=Lib.hid c15
 clear c15
 have c16:=fun (W:World)(v0:Value)(hh0:nat.IsN W v0 (10000000000:Nat))=>nat.bP v0 (10000000000:Nat) W hh0 ((kM (by decide)).nat (by decide))
 rw[Qv] at c16
 have C16:=Lib.hid c16
 clear c16
 go_enter Tryz.func117,Tryz.ntmps117
 go_wp2_with (first
  |(go_at_call 143;(with_reducible refine(Yv _).mono ?_);rintro e W1 ⟨a,rfl,⟨h_a,n_a⟩,hb⟩
    obtain⟨p_a,rfl⟩:=h_a.some n_a
    have H_a:=Lib.hid h_a
    have N_a:=Lib.hid n_a
    have HB1:=Lib.hid hb
    clear h_a n_a hb)
  |(go_at_call 134;(with_reducible refine(C1.out _).mono ?_);rintro e W2 ⟨b,rfl,⟨h_b,n_b⟩,hb⟩
    obtain⟨p_b,rfl⟩:=nat.IsN.some h_b n_b
    have H_b:=Lib.hid h_b
    have N_b:=Lib.hid n_b
    have HB2:=Lib.hid hb
    clear h_b n_b hb C1)
  |(go_at_call 144;(with_reducible refine(C2.out _ _ _ (H_a.out.below HB2.out) H_b.out).mono ?_);rintro e W3 ⟨q,r,rfl,⟨h_q,n_q⟩,⟨h_r,n_r⟩,hb⟩
    obtain⟨p_q,rfl⟩:=h_q.some n_q
    obtain⟨p_r,rfl⟩:=h_r.some n_r
    have H_q:=Lib.hid h_q
    have N_q:=Lib.hid n_q
    have H_r:=Lib.hid h_r
    have N_r:=Lib.hid n_r
    have HB3:=Lib.hid hb
    clear h_q n_q h_r n_r hb C2)
  |(go_at_call 103;(with_reducible refine(C3.out _).mono ?_);rintro e W4 ⟨x,rfl,⟨h_x,n_x⟩,hb⟩
    obtain⟨p_x,rfl⟩:=num.IsZ.some h_x n_x
    have H_x:=Lib.hid h_x
    have N_x:=Lib.hid n_x
    have HB4:=Lib.hid hb
    have HB5:=Lib.hid (show Below W4.heap.size W4 (W4.alloc (.cells #[.bool false,.slice none 0 0,.bool false,.slice none 0 0] 144)) from(Below.refl _ _).alloc (Nat.le_refl _) _)
    have H_y:=Lib.hid (Oy W4 144)
    clear h_x n_x hb C3)
  |(go_at_call 145;(with_reducible refine(C4.out _).mono ?_);rintro e W6 ⟨z,rfl,⟨h_z,n_z⟩,hb⟩
    obtain⟨p_z,rfl⟩:=h_z.some n_z
    have H_z:=Lib.hid h_z
    have N_z:=Lib.hid n_z
    have HB6:=Lib.hid hb
    clear h_z n_z hb C4)
  |(go_at_call 146;(with_reducible refine(RD.out _ _ H_z.out).mono ?_);rintro e W7 ⟨rfl,hb⟩
    have HB7:=Lib.hid hb
    clear hb)
  |(go_at_call 147;(with_reducible refine(Ve _).mono ?_);rintro e W8 ⟨p,rfl,⟨h_p,n_p⟩,hb⟩
    obtain⟨p_p,rfl⟩:=h_p.some n_p
    have H_p:=Lib.hid h_p
    have N_p:=Lib.hid n_p
    have HB8:=Lib.hid hb
    clear h_p n_p hb)
  |(go_at_call 148;(with_reducible refine(UN.out _ _ ((H_z.out.below HB7.out).below HB8.out)).mono ?_);rintro e W9 ⟨rfl,hb⟩
    have HB9:=Lib.hid hb
    clear hb)
  |(go_at_call 149;(with_reducible refine(Nu _ (((((((((HG.out.below HB1.out).below HB2.out).below HB3.out).below HB4.out).below HB5.out).below HB6.out).below HB7.out).below HB8.out).below HB9.out)).mono ?_);rintro e W10 ⟨rfl,hb⟩
    have HB10:=Lib.hid hb
    clear hb)
  |(go_at_call 131;(with_reducible refine(C5.out _ _ _ (((((((H_q.out.below HB4.out).below HB5.out).below HB6.out).below HB7.out).below HB8.out).below HB9.out).below HB10.out) ((((((((H_b.out.below HB3.out).below HB4.out).below HB5.out).below HB6.out).below HB7.out).below HB8.out).below HB9.out).below HB10.out)).mono ?_);rintro e W11 ⟨m1,rfl,⟨h_m1,n_m1⟩,hb⟩
    have H_m1:=Lib.hid h_m1
    have N_m1:=Lib.hid n_m1
    have HB11:=Lib.hid hb
    clear h_m1 n_m1 hb C5)
  |(go_at_call 141;(with_reducible refine(C6.out _ _ _ H_m1.out ((((((((H_r.out.below HB4.out).below HB5.out).below HB6.out).below HB7.out).below HB8.out).below HB9.out).below HB10.out).below HB11.out)).mono ?_);rintro e W12 ⟨m2,rfl,⟨h_m2,n_m2⟩,hb⟩
    have H_m2:=Lib.hid h_m2
    have N_m2:=Lib.hid n_m2
    have HB12:=Lib.hid hb
    clear h_m2 n_m2 hb C6)
  |(go_at_call 133;(with_reducible refine(C7.out _ _ _ H_m2.out (((((((((((H_a.out.below HB2.out).below HB3.out).below HB4.out).below HB5.out).below HB6.out).below HB7.out).below HB8.out).below HB9.out).below HB10.out).below HB11.out).below HB12.out)).mono ?_);rintro e W13 ⟨rfl,hb⟩
    have HB13:=Lib.hid hb
    clear hb C7)
  |(go_at_call 135;(with_reducible refine(C8.out _ _ ((((((((((((H_a.out.below HB2.out).below HB3.out).below HB4.out).below HB5.out).below HB6.out).below HB7.out).below HB8.out).below HB9.out).below HB10.out).below HB11.out).below HB12.out).below HB13.out)).mono ?_);rintro e W14 ⟨rfl,hb⟩
    have HB14:=Lib.hid hb
    clear hb C8)
  |(go_at_call 105;(with_reducible refine(C9.out _ _ ((((((((((H_x.out.below HB5.out).below HB6.out).below HB7.out).below HB8.out).below HB9.out).below HB10.out).below HB11.out).below HB12.out).below HB13.out).below HB14.out)).mono ?_);rintro e W15 ⟨rfl,hb⟩
    have HB15:=Lib.hid hb
    clear hb C9)
  |(go_at_call 150;(with_reducible refine(C10.out _ _ ((((((((((H_y.out.below HB6.out).below HB7.out).below HB8.out).below HB9.out).below HB10.out).below HB11.out).below HB12.out).below HB13.out).below HB14.out).below HB15.out)).mono ?_);rintro e W16 ⟨rfl,hb⟩
    have HB16:=Lib.hid hb
    clear hb C10)
  |(go_at_call 62;(with_reducible refine(C11.out _ _ ((((((((((H_z.out.below HB7.out).below HB8.out).below HB9.out).below HB10.out).below HB11.out).below HB12.out).below HB13.out).below HB14.out).below HB15.out).below HB16.out)).mono ?_);rintro e W17 ⟨rfl,hb⟩
    have HB17:=Lib.hid hb
    clear hb C11)
  |(go_at_call 65;(with_reducible refine(C12.out _ _ _ (((((((((H_p.out.below HB9.out).below HB10.out).below HB11.out).below HB12.out).below HB13.out).below HB14.out).below HB15.out).below HB16.out).below HB17.out) (((((((((((H_z.out.below HB7.out).below HB8.out).below HB9.out).below HB10.out).below HB11.out).below HB12.out).below HB13.out).below HB14.out).below HB15.out).below HB16.out).below HB17.out)).mono ?_);rintro e W18 ⟨rfl,hb⟩
    have HB18:=Lib.hid hb
    clear hb C12)
  |(go_at_call 134;(with_reducible refine(C13.out _).mono ?_);rintro e W19 ⟨t,rfl,⟨h_t,n_t⟩,hb⟩
    have H_t:=Lib.hid h_t
    have N_t:=Lib.hid n_t
    have HB19:=Lib.hid hb
    clear h_t n_t hb C13)
  |(go_at_call 151;(with_reducible refine(C14.out _ _ H_t.out).mono ?_);rintro e W20 ⟨t2,rfl,⟨h_t2,n_t2⟩,hb⟩
    have H_t2:=Lib.hid h_t2
    have N_t2:=Lib.hid n_t2
    have HB20:=Lib.hid hb
    clear h_t2 n_t2 hb C14)
  |(go_at_call 152;(with_reducible refine(C15.out _ _ H_t2.out).mono ?_);rintro e W21 ⟨t3,rfl,⟨rr,hrr,h_t3,n_t3⟩,hb⟩
    have H_t3:=Lib.hid (show nat.IsN _ _ 10000000000 from by rw[←Xf hrr];exact h_t3)
    have HB21:=Lib.hid hb
    clear hb C15)
  |(go_at_call 135;(with_reducible refine(C16.out _ _ H_t3.out).mono ?_);rintro e W22 ⟨rfl,hb⟩
    have HB22:=Lib.hid hb
    clear hb C16)
  |(fail "no arm"))
 skip
 all_goals (go_ret;exact⟨rfl,(nat.aM (nat.aM (nat.aM (nat.aM (nat.aM (nat.aM (nat.aM (nat.aM (nat.aM (nat.aM (nat.aM (nat.aM (nat.aM (nat.aM (nat.aM (nat.aM (nat.aM (nat.aM (nat.aM (nat.aM (nat.aM HB1.out HB2.out) HB3.out) HB4.out) HB5.out) HB6.out) HB7.out) HB8.out) HB9.out) HB10.out) HB11.out) HB12.out) HB13.out) HB14.out) HB15.out) HB16.out) HB17.out) HB18.out) HB19.out) HB20.out) HB21.out) HB22.out)⟩)
end Go.Proofs.YtlhmfgbaefaneaaGreatDoor.law2
namespace Go.Proofs.YtlhmfgbaefaneaaGreatDoor.law6
open Go Go.RowKit
theorem AJ:RolC cal.dF:=roll.FK
theorem Mv:CntC:=count.EZ
theorem tJ:iT:=Jj AJ Mv law2.tJ
end Go.Proofs.YtlhmfgbaefaneaaGreatDoor.law6
namespace Go.Proofs.YtlhmfgbaefaneaaGreatDoor.law6
open Go Go.ChangeShapes Go.WideShapes Go.RowKit Go.Lib Go.Proofs.YtlhmfgbaefaneaaGreatDoor.date
theorem own:ownKnob Tryz.prog.godebug=none:=by kernel_rfl
theorem et:Tryz.prog.globalNamed "errors.errorType" =some 1:=by kernel_rfl
theorem rt: (Tryz.prog.cutTypes.find? (·.1== "internal/reflectlite.rtype")).map (·.2)=some 258:=by kernel_rfl
theorem DT: ((List.range 333).filter fun t=>Tryz.prog.rowNamed t [101,114,114,111,114])=[28]:=by kernel_rfl
theorem FU:Tryz.prog.types.size=333:=by kernel_rfl
theorem Pz {W:World}(h:handlesMet Tryz.prog [("errors.errorType",Rows.laid_errors_errorType)] W):flt.Handle W:=by
 obtain⟨name,u,ty,e1,e2,e3,e4,e5⟩:=h _ (List.mem_singleton.2 rfl)
 have en:name=[101,114,114,111,114]:=(Option.some.inj e1).symm
 subst en
 obtain rfl:=Option.some.inj (rt.symm.trans e2)
 have hm:ty∈(List.range 333).filter fun t=>Tryz.prog.rowNamed t [101,114,114,111,114]:=List.mem_filter.2 ⟨List.mem_range.2 (by rw[←FU];exact e3),e4⟩
 rw[DT] at hm
 obtain rfl:=List.mem_singleton.1 hm
 have hh:typeHandle Tryz.prog 28= .pointer (some ⟨10,28,none⟩):=by kernel_rfl
 rw[hh] at e5
 unfold flt.Handle
 simpa using World.var?_cell et e5 0
def kZ:List (String×DataW Unit):=(Rows.dateAllRow.laid).filter fun x=>x.2.handleName?.isNone
theorem DC: ("internal/strconv.uint64pow10",tabData .u64 pow10Tab)∈kZ:=by
 unfold kZ
 refine List.mem_filter.2 ⟨?_,rfl⟩
 repeat (first|exact .head _|refine .tail _ ?_)
theorem CZ: ("rentier/date.lengths",tabData .i64 [31,28,31,30,31,30,31,31,30,31,30,31])∈kZ:=by
 unfold kZ
 refine List.mem_filter.2 ⟨?_,rfl⟩
 repeat (first|exact .head _|refine .tail _ ?_)
theorem Xo {W:World}{n:String}{k:IntKind}{zs:List Int}{g t e c:Nat}(h:VarReads Tryz.prog W n (tabData k zs))(hg:Tryz.prog.globalNamed n=some g)(hty: (Tryz.prog.globals[g]?).map (·.type)=some t) (ht:Tryz.prog.underlying t=some (.array c e)) (he:Tryz.prog.underlying e=some (.int k)) (hce:Tryz.prog.cellsOf e=1) (hct:Tryz.prog.cellsOf t=c):
  ∃u fr,W.heap[g]?=some (.cells (zs.map fun z=>Value.int k z).toArray u fr):=by
 obtain⟨g',t',cs,fuel,p,hg',ht',hvar,hd⟩:=h
 obtain rfl:=Option.some.inj (hg.symm.trans hg')
 obtain rfl:=Option.some.inj (hty.symm.trans ht')
 have hc:=cells_of_tab ht he hce hct hd
 unfold World.var? at hvar
 rw[hg,Option.bind_some] at hvar
 split at hvar
 ·rename_i cs' u fr hh
  cases hvar
  refine⟨u,fr,?_⟩
  rw[hh,←hc]
 ·cases hvar
theorem FV {W:World}(hL:laidMet Tryz.prog kZ W)(hH:handlesMet Tryz.prog [("errors.errorType",Rows.laid_errors_errorType)] W):Wd W:=by
 obtain⟨u1,f1,h1⟩:=Xo (laidMet.reads hL DC) (g:=2) (t:=285) (e:=104) (c:=20) (by kernel_rfl) (by kernel_rfl) (by kernel_rfl) (by kernel_rfl) (by kernel_rfl) (by kernel_rfl)
 obtain⟨u2,f2,h2⟩:=Xo (laidMet.reads hL CZ) (g:=0) (t:=102) (e:=3) (c:=12) (by kernel_rfl) (by kernel_rfl) (by kernel_rfl) (by kernel_rfl) (by kernel_rfl) (by kernel_rfl)
 refine⟨Pz hH,fun i hi=> ?_,⟨u1,f1,h1⟩⟩
 rw[cell_of_row _ _ i _ _ f2 h2]
 match i,hi with
 |0,_|1,_|2,_|3,_|4,_|5,_|6,_|7,_|8,_|9,_|10,_|11,_=>rfl
noncomputable def Fz (os:Os):World:=
 {World.holding Tryz.prog os ⟨#[],#[],[]⟩ with heap:=(World.holding Tryz.prog os ⟨#[],#[],[]⟩).heap.modify 1 fun
   | .cells _ t frozen=> .cells #[.iface 258 (.agg #[.pointer (some ⟨10,28,none⟩)])] t frozen
   |o=>o}
noncomputable def kK (os:Os):World:=(Fz os).layVars Tryz.prog kZ
theorem Cy (os:Os): (kK os).os=os:=World.layVars_os _ _ _
theorem zI (os:Os)(args:Array Value):laidMetH Tryz.prog Rows.dateAllRow.laid ((kK os).forCall (fun _ _=>0) ⟨#[],args,[]⟩).memory:=by
 refine laidMetH_of_parts ?_ (by kernel_rfl)
 have e1: (kZ.filter fun x=>(kZ.map (·.1)).contains x.1)=kZ:=List.filter_eq_self.2 fun x hx=>List.contains_iff_mem.2 (List.mem_map.2 ⟨x,hx,rfl⟩)
 have e2: (kZ.filter fun x=>!(kZ.map (·.1)).contains x.1)=[]:=List.filter_eq_nil_iff.2 fun x hx=>by rw[List.contains_iff_mem.2 (List.mem_map.2 ⟨x,hx,rfl⟩)];simp
 have h:laidMet Tryz.prog kZ (kK os):=laidMet_layVars (w0:=Fz os) (kZ.map (·.1)) [] (by rw[e1];rfl) (by rw[e1];kernel_rfl) (by rw[e1];kernel_rfl) (by rw[e2];exact LaidIn.none)
 exact h.of_heap (by simp[World.memory,World.forCall,Input.heap])
theorem Qf (os:Os)(args:Array Value): ((kK os).forCall (fun _ _=>0) ⟨#[],args,[]⟩).variablesB Tryz.checked.prog=true:=by kernel_rfl
theorem Qe (os:Os)(args:Array Value): (((kK os).forCall (fun _ _=>0) ⟨#[],args,[]⟩).heap.toList.drop Tryz.checked.prog.globals.size).take ((begin Tryz.checked.prog (fun _ _=>0) default).world.heap.size - Tryz.checked.prog.globals.size)=
   (begin Tryz.checked.prog (fun _ _=>0) default).world.heap.toList.drop Tryz.checked.prog.globals.size:=by kernel_rfl
end Go.Proofs.YtlhmfgbaefaneaaGreatDoor.law6
namespace Go.Proofs.YtlhmfgbaefaneaaGreatDoor.law6
open Go.RowKit
theorem band {a b:Bool}(ha:a=true)(hb:b=true): (a&&b)=true:=by rw[ha,hb];rfl
theorem Nb: (laidOutB Tryz.prog)=true:=by kernel_rfl
theorem Nc: (mapsRowed Tryz.prog)=true:=by kernel_rfl
theorem Zk: ((Tryz.prog.stops==[]))=true:=by kernel_rfl
theorem Zl: ((Tryz.prog.stopKnobs==[]))=true:=by kernel_rfl
theorem Ux: ((Rows.dateAllRow.plainKeys==Tryz.prog.plainKeys))=true:=by kernel_rfl
theorem Uy: (Tryz.prog.stopsHeard)=true:=by kernel_rfl
theorem Uz: (Tryz.prog.mayEnter)=true:=by kernel_rfl
theorem Va: ((Rows.dateAllRow.lifted==Tryz.prog.liftsFinal))=true:=by kernel_rfl
theorem Vb: ((Tryz.prog.make==some Rows.dateAllRow.make))=true:=by kernel_rfl
end Go.Proofs.YtlhmfgbaefaneaaGreatDoor.law6
namespace Go.Proofs.YtlhmfgbaefaneaaGreatDoor.law6
open Go Go.ChangeShapes Go.RowKit
theorem kids:Kids Tryz.prog (·<Tryz.prog.types.size):=kids_rows Nb Nc
theorem full:∀t e,t<Tryz.prog.types.size→Tryz.prog.underlying t=some (.slice e)→0<Tryz.prog.cellsOf e:=slices_full_of Tryz.prog (by kernel_rfl)
section
variable {H:Type} {enc:TypeId×Value→H} {P:Program} {W W':World} {base:Nat} {sp:Nat→Bool} {held:Bool}
theorem oZ (hs:∀p:MemPlace,p.block<W.heap.size→W.sameAt W' p):∀{ts:List TypeId}{vs:List Value}{ds:List (DataW H)}{ps:List MemPlace},DataW.TrodAll enc P W base sp held ts vs ds ps→(∀p∈ps,p.block<W.heap.size)→DataW.TrodAll enc P W' base sp held ts vs ds ps
 |[],[],[],_,h,_=>h
 |_::_,_::_,_::_,_,⟨p,q,⟨n,h1⟩,h2,e⟩,hp=>⟨p,q,⟨n,DataW.trod_carry n _ _ _ h1 fun x hx=>hs x (hp x (by rw[e];exact List.mem_append_left _ hx))⟩,oZ hs h2 (fun x hx=>hp x (by rw[e];exact List.mem_append_right _ hx)),e⟩
theorem Gt (hb:Below W.heap.size W W')(p:MemPlace)(hp:p.block<W.heap.size):W.sameAt W' p:=by
 cases p with
 |cell b off=>exact hb.cell (p:=⟨b,off,none⟩) hp
 |map b=>exact hb.block b hp
theorem Ou {ts:List TypeId}{vs:List Value}{ds:List (DataW H)}{ps:List MemPlace}(hT:∀t∈ts,t<Tryz.prog.types.size)(h:DataW.TrodAll enc Tryz.prog W 0 (fun _=>true) true ts vs ds ps)(hp:∀p∈ps,p.block<W.heap.size)(hb:Below W.heap.size W W'):
  DataW.TrodAll enc Tryz.prog W' 0 (fun b=>decide (b<W.heap.size)) true ts vs ds ps:=
 oZ (Gt hb) (h.respare kids full hT fun p h1=>decide_eq_true (hp p h1)) hp
end
end Go.Proofs.YtlhmfgbaefaneaaGreatDoor.law6
namespace Go.Proofs.YtlhmfgbaefaneaaGreatDoor.law6
open Go Go.ChangeShapes Go.WideShapes Go.RowKit Go.Deep
open Go.Proofs.YtlhmfgbaefaneaaGreatDoor.ref6 (Rule)
instance:Inhabited Rule:=⟨⟨0,0,0,0,0,false⟩⟩
section
set_option maxRecDepth 100000
variable {H:Type} {enc:TypeId×Value→H} {W:World} {base:Nat} {sp:Nat→Bool} {held:Bool}
end
end Go.Proofs.YtlhmfgbaefaneaaGreatDoor.law6
namespace Go.Proofs.YtlhmfgbaefaneaaGreatDoor.law6
open Go.ChangeShapes Go.WideShapes Go.RowKit
open Go.ChangeMaps (open_string shut_string)
theorem vF (os:Os)(started:os.Started)(H:Type)(enc:TypeId×Value→H):
  ReturnsInHanded {} Tryz.checked os 15 .any (fun w args=>(Rows.countAllSpec.pre enc Tryz.prog Tryz.f15 [] false w args∧laidMetH Tryz.prog Rows.countAllRow.laid w)∧sizedMet enc Tryz.prog Tryz.f15 (OpenSpec.ofChange Rows.countAllSpec) false w args)
   (Rows.countAllSpec.post enc Tryz.prog Tryz.f15 false true false false):=by
 refine returnsInHanded_of_change_and (C:=Tryz.checked) (X:=fun w _=>laidMetH Tryz.prog Rows.countAllRow.laid w) (fun _ _ _ hh h=>h.of_heap hh) own started (by kernel_rfl) Tryz.func15
  (ChangeSpec.witness_at (enc:=enc) (C:=Tryz.checked) (os:=os) (X:=fun w _=>laidMetH Tryz.prog Rows.countAllRow.laid w) false (kK os) #[.int .i64 0,.int .i64 0,.int .i64 0,.int .i64 0,.int .i64 0,.int .i64 0] 8 (Cy os) (Qf os _) (Qe os _) (by kernel_rfl) (by kernel_rfl) (by kernel_rfl) (zI os _)) ?_
 intro W base args ds gs before hval0 hW _ hsz hL _
 have hval:∀(j:Nat) t v,Tryz.f15.params[j]?=some t→args[j]?=some v→Value.okWide Tryz.prog W .any base t v:=hval0
 have hW':=hW
 obtain⟨p,q,hA00,hV0,rfl,hfz,hnd⟩:=hW
 have hlt:∀x∈p,x.block<W.heap.size:=fun x hx=>hW'.lt x (List.mem_append_left _ hx)
 have hstay:∃ps,∀W',Below W.heap.size W W'→DataW.TrodAll enc Tryz.prog W' 0 (fun b=>decide (b<W.heap.size)) true Tryz.f15.params.toList args.toList ds ps:=
  ⟨p,fun W' hb=>Ou (by rw[Tryz.params15];simp) hA00 hlt hb⟩
 have hA0:DataW.TrodAll enc Tryz.prog W 0 (fun _=>true) true Tryz.f15.params.toList args.toList ds p:=hA00
 have hV:DataW.TrodVars enc Tryz.prog W (fun _=>true) [] gs q:=hV0
 rw[Tryz.params15] at hA0 hval hsz
 obtain⟨v0,w0,d0,e0,p0,q0,g0,rfl,rfl,h0,hA1⟩:=trodAll_cons hA0
 obtain⟨v1,w1,d1,e1,p1,q1,g1,rfl,rfl,h1,hA2⟩:=trodAll_cons hA1
 obtain⟨v2,w2,d2,e2,p2,q2,g2,rfl,rfl,h2,hA3⟩:=trodAll_cons hA2
 obtain⟨v3,w3,d3,e3,p3,q3,g3,rfl,rfl,h3,hA4⟩:=trodAll_cons hA3
 obtain⟨v4,w4,d4,e4,p4,q4,g4,rfl,rfl,h4,hA5⟩:=trodAll_cons hA4
 obtain⟨v5,w5,d5,e5,p5,q5,g5,rfl,rfl,h5,hA6⟩:=trodAll_cons hA5
 obtain⟨g6,rfl,rfl⟩:=trodAll_nil hA6
 obtain rfl:args=#[v0,v1,v2,v3,v4,v5]:=by cases args;simp_all
 obtain⟨a0,rfl,rfl,rfl,u0⟩:=open_int Tryz.underlying3 (hval 0 3 v0 rfl rfl) h0
 obtain⟨a1,rfl,rfl,rfl,u1⟩:=open_int Tryz.underlying3 (hval 1 3 v1 rfl rfl) h1
 obtain⟨a2,rfl,rfl,rfl,u2⟩:=open_int Tryz.underlying3 (hval 2 3 v2 rfl rfl) h2
 obtain⟨a3,rfl,rfl,rfl,u3⟩:=open_int Tryz.underlying3 (hval 3 3 v3 rfl rfl) h3
 obtain⟨a4,rfl,rfl,rfl,u4⟩:=open_int Tryz.underlying3 (hval 4 3 v4 rfl rfl) h4
 obtain⟨a5,rfl,rfl,rfl,u5⟩:=open_int Tryz.underlying3 (hval 5 3 v5 rfl rfl) h5
 have y0:=bounds_i64 u0
 have y1:=bounds_i64 u1
 have y2:=bounds_i64 u2
 have y3:=bounds_i64 u3
 have y4:=bounds_i64 u4
 have y5:=bounds_i64 u5
 have hL':laidMet Tryz.prog kZ W∧handlesMet Tryz.prog [("errors.errorType",Rows.laid_errors_errorType)] W:=hL
 have hg:=FV hL'.1 hL'.2
 obtain⟨rfl,rfl⟩:gs=[]∧q=[]:=by
  cases gs with
  |nil=>exact⟨rfl,hV⟩
  |cons g r=>exact absurd hV (by intro h;cases h)
 have e1:Rows.countAllSpec.fn H ([.lit (.int .i64 a0),.lit (.int .i64 a1),.lit (.int .i64 a2),.lit (.int .i64 a3),.lit (.int .i64 a4),.lit (.int .i64 a5)]++[])={results:=[.lit (.bool true)],args:=[.lit (.int .i64 a0),.lit (.int .i64 a1),.lit (.int .i64 a2),.lit (.int .i64 a3),.lit (.int .i64 a4),.lit (.int .i64 a5)]} :=by simp[Rows.countAllSpec]
 refine(zB tJ Mv a0 a1 a2 a3 a4 a5 y1.1 (by omega) y2.1 (by omega) y3.1 (by omega) y4.1 (by omega) W hg).mono fun e W' ⟨he,hb⟩=> ?_
 subst he
 obtain⟨ps,hs⟩:=hstay
 refine⟨_,rfl,_,_,_,[],ps,[],hW',?_,?_,?_,hb.frame _,fun h=>by cases h⟩
 ·rw[e1];exact trodAll_mk1 (shut_bool Tryz.underlying4 true)
 ·rw[e1];exact hs W' hb
 ·rw[e1];rfl
theorem Ew: (Rows.countAllRow.wf (OpenSpec.ofChange Rows.countAllSpec))=true:=by kernel_rfl
theorem Ey: (Tryz.f15.params.all (Tryz.prog.readableRec ·))=true:=by kernel_rfl
theorem Ez: (namedTie Tryz.prog Rows.countAllRow.named Rows.countAllSpec.vars)=true:=by kernel_rfl
theorem Fa: ((Rows.countAllRow.stops==[]))=true:=by kernel_rfl
theorem Fb: ((Rows.countAllRow.knobs==[]))=true:=by kernel_rfl
theorem Fe: ((Rows.countAllRow.inPlace==Tryz.prog.inPlace 15))=true:=by kernel_rfl
theorem Bw: ((Rows.countAllRow.unfollowed==Tryz.prog.unfollowed 15))=true:=by kernel_rfl
theorem Ca: ((Rows.countAllRow.recurses==Tryz.prog.recurses 15))=true:=by kernel_rfl
theorem Cb: ((Rows.countAllRow.named==Tryz.prog.varsNamed 15))=true:=by kernel_rfl
theorem Cc: ((Rows.countAllRow.maps==(Tryz.f15.params.toList++Rows.countAllSpec.plain.varTypes Tryz.prog).any (Tryz.prog.mapsRec ·)))=true:=by kernel_rfl
theorem Ce: ((Rows.countAllRow.ifaces==(Tryz.f15.params.toList++Rows.countAllSpec.plain.varTypes Tryz.prog).any (Tryz.prog.ifacesRec ·)))=true:=by kernel_rfl
theorem Cf: ((Rows.countAllRow.mapsOut==Tryz.prog.mapsAmong Tryz.f15.resultTypes.toList))=true:=by kernel_rfl
theorem Cg: ((Rows.countAllRow.loops==(Tryz.f15.params.toList++Rows.countAllSpec.plain.varTypes Tryz.prog).any (Tryz.prog.loopsFrom ·)))=true:=by kernel_rfl
theorem Ch: ((Rows.countAllRow.wideKeys==(Tryz.f15.params.toList++Rows.countAllSpec.plain.varTypes Tryz.prog++Tryz.f15.resultTypes.toList).any (Tryz.prog.wideKeysFrom ·)))=true:=by kernel_rfl
theorem Ci: (Rows.countAllSpec.vars.all (Tryz.prog.varReadable ·))=true:=by kernel_rfl
theorem Cj: (Tryz.f15.resultTypes.all (fun t=>Tryz.prog.readableRec t&&decide (t<Tryz.prog.types.size)))=true:=by kernel_rfl
theorem Ck: ((Rows.countAllRow.ifacesOut==Tryz.f15.resultTypes.toList.any (Tryz.prog.ifacesRec ·)))=true:=by kernel_rfl
theorem Cm: ((Rows.countAllRow.loopsOut==Tryz.f15.resultTypes.toList.any (Tryz.prog.loopsFrom ·)))=true:=by kernel_rfl
theorem Cn: (Rows.countAllRow.shortTexts.isNone)=true:=by kernel_rfl
theorem Co: ((Rows.countAllRow.kinds==(if Rows.countAllRow.domain.isEmpty then [] else Tryz.f15.params.toList.map fun t=>match Tryz.prog.underlying t with|some (.int k)=>some k|_=>none)))=true:=by kernel_rfl
theorem Cq: ((Rows.countAllRow.pinned==Rows.countAllRow.pinnedBy))=true:=by kernel_rfl
theorem Cr: ((Rows.countAllRow.veiled==(Tryz.f15.params.toList++Rows.countAllSpec.plain.varTypes Tryz.prog++Tryz.f15.resultTypes.toList).any (Tryz.prog.veiledRec ·)))=true:=by kernel_rfl
theorem Cs: (Rows.countAllRow.veiledFits Tryz.prog Tryz.f15.params.toList (Tryz.f15.params.toList++Rows.countAllSpec.plain.varTypes Tryz.prog++Tryz.f15.resultTypes.toList))=true:=by kernel_rfl
theorem wU:joinedFacts Tryz.prog 15 Tryz.f15 Rows.countAllSpec Rows.countAllRow=true:=by
 unfold joinedFacts
 exact band (band (band (band (band (band (band (band (band (band (band (band (band (band (band (band (band (band (band (band (band (band (band (band (band (band (band (band (band (band (band Ew Nb) Nc) Ey) Ez) Fa) Zk) Fb) Zl) Fe) Bw) Ca) Cb) Cc) Ce) Cf) Cg) Ch) Ci) Cj) Ck) Cm) Ux) Cn) Uy) Uz) Va) Vb) Co) Cq) Cr) Cs
theorem zH:false=Rows.countAllRow.goesBy Tryz.prog:=by kernel_rfl
theorem wV:Rows.CountAllSaid:=
 OpenClaim.holds_of_wide 15 Tryz.f15 rfl rfl rfl rfl rfl rfl rfl ⟨rfl,rfl,rfl,rfl,rfl⟩ rfl rfl rfl rfl rfl (by kernel_rfl) Tryz.func15 wU
  (of_decide_eq_true (by kernel_rfl)) (by unfold Func.isWrapper;rw[if_neg (of_decide_eq_false (by kernel_rfl))];exact⟨rfl,rfl⟩)
  (fun os started H enc _=>vF os started H enc)
theorem wW (f:FuncId)(fn:Func)(hf:Tryz.pinned.checked.prog.funcNamed "rentier/rentierlaw6.CountAll" =some f)(hfn:Tryz.pinned.checked.prog.funcs[f]?=some fn):
  true=Tryz.pinned.checked.prog.looks []∧∀(j:Nat) t,fn.params[j]?=some t→Tryz.pinned.checked.prog.wantsStandIn t=false:=by
 obtain rfl:f=15:=Option.some.inj ((show Tryz.prog.funcNamed "rentier/rentierlaw6.CountAll" =some 15 by kernel_rfl).symm.trans hf) |>.symm
 obtain rfl:fn=Tryz.f15:=(Option.some.inj (Tryz.func15.symm.trans hfn)).symm
 refine⟨by kernel_rfl,fun j t ht=> ?_⟩
 rw[Tryz.params15] at ht
 have hm:=Array.mem_of_getElem? ht
 simp at hm
 have t_i:Tryz.pinned.checked.prog.wantsStandIn 3=false:=by kernel_rfl
 rcases hm with rfl
 exact t_i
theorem countAll_card:Rows.CountAllCardSaid:=
 Claim7.holds_tied_plain_at .later [] _ _ _ _ (wV) (fun _ h=>by cases h) (by kernel_rfl) (fun _ h=>by cases h) countAll_row_tie rfl ⟨rfl,rfl⟩ (by kernel_rfl) rfl wW zH
end Go.Proofs.YtlhmfgbaefaneaaGreatDoor.law6
