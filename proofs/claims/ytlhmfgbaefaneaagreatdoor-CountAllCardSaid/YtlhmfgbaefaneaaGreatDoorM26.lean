/-
  The steps of the walks, part 26: Lw6CountAllW.
-/
import Derived.BigQuiet
import Derived.Deep.QuietTactic
import Derived.Test.YtlhmfgbaefaneaaGreatDoorM05
import Derived.Test.YtlhmfgbaefaneaaGreatDoorM25
import Derived.Test.YtlhmfgbaefaneaaGreatDoorM08
set_option maxHeartbeats 4000000
set_option maxRecDepth 100000
namespace Go.Proofs.YtlhmfgbaefaneaaGreatDoor.law6
open Go Go.RowKit Go.Proofs.YtlhmfgbaefaneaaGreatDoor.day Go.Proofs.YtlhmfgbaefaneaaGreatDoor.date
open Go.Proofs.YtlhmfgbaefaneaaGreatDoor.ref (str aD)
open Go.Proofs.YtlhmfgbaefaneaaGreatDoor.ref6 (CAt iH iE aW aH)
theorem yZ (HBg:iT)(kind a b s t f:Int)(φ:Int)(HF:f.tmod 100=φ)(hf: -100<φ)(hf2:φ<100)(hk:1≤kind)(hk2:kind≤4)(a0: -9223372036854775808≤a)(a1:a≤9223372036854775807)(b0: -9223372036854775808≤b)(b1:b≤9223372036854775807)(s0: -9223372036854775808≤s)(s1:s≤9223372036854775807)(t0: -9223372036854775808≤t)(t1:t≤9223372036854775807)(A B S T:Int)(hha:a%109573=A)(hhb:b%109573=B)(hhs:s%109573=S)(hht:t%109573=T)(h7:0<a%8)(N:Int)(q:Rat)(z:Int)(d:Nat)(tx:ByteArray)
  (P1: (∀W,Wd W→Calls Tryz.prog 57 #[.int .i64 kind,.int .i64 A,.int .i64 B,.int .i64 S,.int .i64 T,.int .i64 (φ - 3)] W fun e w'=>∃u,e= .returned (.tuple #[u,.nilIface])∧(rat.IsR w' u (q)∧u≠ .pointer none)∧Below W.heap.size W w'))
  (P2: (∀W,Wd W→Calls Tryz.prog 58 #[.int .i64 kind,.int .i64 A,.int .i64 B,.int .i64 S,.int .i64 T,.int .i64 (φ - 3)] W fun e w'=>∃v,e= .returned (.tuple #[v,.int .i64 0])∧ref.IsQ w' v z d∧Below W.heap.size W w'))
  (P3: (∀W,Wd W→Calls Tryz.prog 29 #[.nilIface,.int .i64 0] W fun e w'=>e= .returned (.bool true)∧Below W.heap.size W w'))
  (P4: (∀W,Wd W→Calls Tryz.prog 59 #[.int .i64 kind,.int .i64 A,.int .i64 B] W fun e w'=>e= .returned (.int .i64 N)∧Below W.heap.size W w'))
  (P5: (∀W,Wd W→Calls Tryz.prog 60 #[.int .i64 kind,.int .i64 A,.int .i64 B] W fun e w'=>e= .returned (.int .i64 N)∧Below W.heap.size W w'))
  (P6: (∀W,Wd W→Calls Tryz.prog 61 #[.int .i64 kind] W fun e w'=>e= .returned (.bool true)∧Below W.heap.size W w'))
  (P7: (∀(W:World)(u:Value),rat.IsR W u q→Calls Tryz.prog 62 #[u] W fun e w'=>e= .returned (.string tx)∧Below W.heap.size W w'))
  (P8: (∀(W:World)(u:Value),ref.IsQ W u z d→Calls Tryz.prog 63 #[u] W fun e w'=>e= .returned (.string tx)∧Below W.heap.size W w')) (w:World) (hw:Wd w):
  Calls Tryz.prog 15 #[.int .i64 kind,.int .i64 a,.int .i64 b,.int .i64 s,.int .i64 t,.int .i64 f] w fun e w'=>e= .returned (.bool true)∧Below w.heap.size w w':=by
 have h77:=and7 a
 have hDaya:=fun W=>cK a a0 a1 W
 rw[hha] at hDaya
 have hDayb:=fun W=>cK b b0 b1 W
 rw[hhb] at hDayb
 have hDays:=fun W=>cK s s0 s1 W
 rw[hhs] at hDays
 have hDayt:=fun W=>cK t t0 t1 W
 rw[hht] at hDayt
 have _:=hf
 have _:=hf2
 have _:=hk
 have _:=hk2
 have _:=hha
 have _:=hhb
 have _:=hhs
 have _:=hht
 have _:=h7
 have HW:=Lib.hid (fun W (h:Below w.heap.size w W)=>hw.keep h)
 have C1:=Lib.hid (fun (W:World)(hW:Wd W)=>HBg W hW)
 have C2:=Lib.hid (fun (W:World)(hW:Wd W)=>hDaya W)
 have C3:=Lib.hid (fun (W:World)(hW:Wd W)=>hDayb W)
 have C4:=Lib.hid (fun (W:World)(hW:Wd W)=>hDays W)
 have C5:=Lib.hid (fun (W:World)(hW:Wd W)=>hDayt W)
 have C6:=Lib.hid (fun (W:World)(hW:Wd W)=>P1 W hW)
 have C7:=Lib.hid (fun (W:World)(hW:Wd W)=>P2 W hW)
 have C8:=Lib.hid (fun (W:World)(hW:Wd W)=>P3 W hW)
 have C9:=Lib.hid (fun (W:World)(hW:Wd W)=>P4 W hW)
 have C10:=Lib.hid (fun (W:World)(hW:Wd W)=>P5 W hW)
 have C11:=Lib.hid (fun (W:World)(hW:Wd W)=>P6 W hW)
 have HR0:=Lib.hid (Below.refl w.heap.size w)
 clear P1 P2 P3 P4 P5 P6 hDaya hha hDayb hhb hDays hhs hDayt hht
 clear hw
 go_enter Tryz.func15,Tryz.ntmps15
 go_wp2_with (first
  |(go_at_call 17;(with_reducible refine(C1.out _ (HW.out _ HR0.out)).mono ?_);rintro e W1 ⟨rfl,hb⟩
    have HR1:=Lib.hid (aC HR0.out hb rfl)
    clear C1 hb)
  |(go_at_call 19;(with_reducible refine(C2.out _ (HW.out _ HR1.out)).mono ?_);rintro e w9 ⟨rfl,rfl⟩
    have HR2:=Lib.hid HR1.out
    clear C2)
  |(go_at_call 19;(with_reducible refine(C3.out _ (HW.out _ HR2.out)).mono ?_);rintro e w9 ⟨rfl,rfl⟩
    have HR3:=Lib.hid HR2.out
    clear C3)
  |(go_at_call 19;(with_reducible refine(C4.out _ (HW.out _ HR3.out)).mono ?_);rintro e w9 ⟨rfl,rfl⟩
    have HR4:=Lib.hid HR3.out
    clear C4)
  |(go_at_call 19;(with_reducible refine(C5.out _ (HW.out _ HR4.out)).mono ?_);rintro e w9 ⟨rfl,rfl⟩
    have HR5:=Lib.hid HR4.out
    clear C5)
  |(go_at_call 57;(with_reducible refine(C6.out _ (HW.out _ HR5.out)).mono ?_);rintro e W6 ⟨u,rfl,⟨h_u,n_u⟩,hb⟩
    have Gu_6:=Lib.hid h_u
    have HR6:=Lib.hid (aC HR5.out hb rfl)
    clear n_u
    clear C6 hb h_u)
  |(go_at_call 58;(with_reducible refine(C7.out _ (HW.out _ HR6.out)).mono ?_);rintro e W7 ⟨v,rfl,h_q,hb⟩
    obtain⟨s1,t1,rfl,i1,i2⟩:=id h_q
    obtain⟨so1,sc1,rfl,-⟩:=id i1
    obtain⟨so2,sc2,rfl,-⟩:=id i2
    clear i1 i2
    have Gu_7:=Lib.hid (Gu_6.out.below hb)
    have Gq_7:=Lib.hid h_q
    have M7_0:=Lib.hid (QAt.new W7 (.bool (decide (z<0))) (.slice so1 (ref.digs z.natAbs).length sc1) (.slice so2 (ref.digs d).length sc2))
    have HR7:=Lib.hid (Below.alloc (aC HR6.out hb rfl) (Below.size (aC HR6.out hb rfl)) (.cells #[.bool (decide (z<0)),.slice so1 (ref.digs z.natAbs).length sc1,.slice so2 (ref.digs d).length sc2] 83))
    have Gu_7a:=Lib.hid (Gu_7.out.below ((Below.refl _ _).alloc (Nat.le_refl _) (.cells #[.bool (decide (z<0)),.slice so1 (ref.digs z.natAbs).length sc1,.slice so2 (ref.digs d).length sc2] 83)))
    clear Gu_7;have Gu_7:=Gu_7a;clear Gu_7a
    have Gq_7a:=Lib.hid (Gq_7.out.below ((Below.refl _ _).alloc (Nat.le_refl _) (.cells #[.bool (decide (z<0)),.slice so1 (ref.digs z.natAbs).length sc1,.slice so2 (ref.digs d).length sc2] 83)))
    clear Gq_7;have Gq_7:=Gq_7a;clear Gq_7a
    obtain⟨q7_0_0,q7_0_1,q7_0_2,-⟩:=M7_0.out.cells
    clear C7 hb h_q)
  |(go_at_call 29;(with_reducible refine(C8.out _ (HW.out _ HR7.out)).mono ?_);rintro e W8 ⟨rfl,hb⟩
    have M8_0:=Lib.hid (M7_0.out.below hb)
    have Gu_8:=Lib.hid (Gu_7.out.below hb)
    have Gq_8:=Lib.hid (Gq_7.out.below hb)
    have HR8:=Lib.hid (aC HR7.out hb rfl)
    obtain⟨q8_0_0,q8_0_1,q8_0_2,-⟩:=M8_0.out.cells
    clear q7_0_0 q7_0_1 q7_0_2 C8 hb)
  |(go_at_call 59;(with_reducible refine(C9.out _ (HW.out _ HR8.out)).mono ?_);rintro e W9 ⟨rfl,hb⟩
    have M9_0:=Lib.hid (M8_0.out.below hb)
    have Gu_9:=Lib.hid (Gu_8.out.below hb)
    have Gq_9:=Lib.hid (Gq_8.out.below hb)
    have HR9:=Lib.hid (aC HR8.out hb rfl)
    obtain⟨q9_0_0,q9_0_1,q9_0_2,-⟩:=M9_0.out.cells
    clear q8_0_0 q8_0_1 q8_0_2 C9 hb)
  |(go_at_call 60;(with_reducible refine(C10.out _ (HW.out _ HR9.out)).mono ?_);rintro e W10 ⟨rfl,hb⟩
    have M10_0:=Lib.hid (M9_0.out.below hb)
    have Gu_10:=Lib.hid (Gu_9.out.below hb)
    have Gq_10:=Lib.hid (Gq_9.out.below hb)
    have HR10:=Lib.hid (aC HR9.out hb rfl)
    obtain⟨q10_0_0,q10_0_1,q10_0_2,-⟩:=M10_0.out.cells
    clear q9_0_0 q9_0_1 q9_0_2 C10 hb)
  |(go_at_call 61;(with_reducible refine(C11.out _ (HW.out _ HR10.out)).mono ?_);rintro e W11 ⟨rfl,hb⟩
    have M11_0:=Lib.hid (M10_0.out.below hb)
    have Gu_11:=Lib.hid (Gu_10.out.below hb)
    have Gq_11:=Lib.hid (Gq_10.out.below hb)
    have HR11:=Lib.hid (aC HR10.out hb rfl)
    obtain⟨q11_0_0,q11_0_1,q11_0_2,-⟩:=M11_0.out.cells
    clear q10_0_0 q10_0_1 q10_0_2 C11 hb)
  |(fail "no arm"))
 have HOLD:=Lib.hid (fun w' (hW:Below W11.heap.size W11 w')=>(show Below W11.heap.size W11 w'∧w'.cell? ⟨W7.heap.size,0,none⟩=some (.bool (decide (z<0)))∧w'.cell? ⟨W7.heap.size,1,none⟩=some (.slice so1 (ref.digs z.natAbs).length sc1)∧w'.cell? ⟨W7.heap.size,2,none⟩=some (.slice so2 (ref.digs d).length sc2) from⟨hW,(M11_0.out.below hW).cells.1,(M11_0.out.below hW).cells.2.1,(M11_0.out.below hW).cells.2.2.1⟩))
 have CP:=Lib.hid (fun (W:World)(hW:Below W11.heap.size W11 W)=>P7 W u (Gu_11.out.below hW))
 have CQ:=Lib.hid (fun (W:World)(hW:Below W11.heap.size W11 W)=>P8 W _ (Gq_11.out.below hW))
 clear P7 P8
 refine plan.rg (S:=fun w'=>Below W11.heap.size W11 w'∧w'.cell? ⟨W7.heap.size,0,none⟩=some (.bool (decide (z<0)))∧w'.cell? ⟨W7.heap.size,1,none⟩=some (.slice so1 (ref.digs z.natAbs).length sc1)∧w'.cell? ⟨W7.heap.size,2,none⟩=some (.slice so2 (ref.digs d).length sc2)) (plan.tr [0,3,6,11,14,15,18,21,24,27,30,36,34,40,42,45,48,51] .done) ?_ (fun hHeld=> ?_)
 ·exact HOLD.out _ (Below.refl _ _).drew
 iterate 3 (refine plan.tk ?_)
 iterate 2 (refine plan.sk ?_)
 iterate 7 (refine plan.tk ?_)
 refine plan.on (fun K hK=> ?_)
 go_simp
 (go_at_call 62;(with_reducible refine(CP.out _ (Below.refl _ _).drew).mono ?_);rintro e X1 ⟨rfl,hb⟩
  have HR901:=Lib.hid ((Below.refl _ _).drew.trans (hb.mono (Below.refl W11.heap.size W11).drew.size))
  clear hb CP)
 (try dsimp only)
 refine hK.out _ _ (HOLD.out _ HR901.out) (fun hHeld=> ?_)
 clear hK K
 refine plan.on (fun K hK=> ?_)
 go_simp
 (go_at_call 63;(with_reducible refine(CQ.out _ HR901.out).mono ?_);rintro e X2 ⟨rfl,hb⟩
  have HR902:=Lib.hid (HR901.out.trans (hb.mono HR901.out.size))
  clear hb CQ)
 (try dsimp only)
 refine hK.out _ _ (HOLD.out _ HR902.out) (fun hHeld=> ?_)
 clear hK K
 iterate 4 (refine plan.tk ?_)
 refine plan.tn ?_
 go_wp2
 go_ret
 exact⟨rfl,HR11.out.trans (HR902.out.mono HR11.out.size)⟩
theorem yY (HBg:iT)(kind a b s t f:Int)(φ:Int)(HF:f.tmod 100=φ)(hf: -100<φ)(hf2:φ<100)(hk:1≤kind)(hk2:kind≤4)(a0: -9223372036854775808≤a)(a1:a≤9223372036854775807)(b0: -9223372036854775808≤b)(b1:b≤9223372036854775807)(s0: -9223372036854775808≤s)(s1:s≤9223372036854775807)(t0: -9223372036854775808≤t)(t1:t≤9223372036854775807)(A B S T:Int)(hha:a%109573=A)(hhb:b%109573=B)(hhs:s%109573=S)(hht:t%109573=T)(h7:0<a%8)(N:Int)(er:Value)(c:Int)(hc:¬c=0)
  (P1: (∀W,Wd W→Calls Tryz.prog 57 #[.int .i64 kind,.int .i64 A,.int .i64 B,.int .i64 S,.int .i64 T,.int .i64 (φ - 3)] W fun e w'=>e= .returned (.tuple #[.pointer none,er])∧Below W.heap.size W w'))
  (P2: (∀W,Wd W→Calls Tryz.prog 58 #[.int .i64 kind,.int .i64 A,.int .i64 B,.int .i64 S,.int .i64 T,.int .i64 (φ - 3)] W fun e w'=>e= .returned (.tuple #[.agg #[.bool false,.slice none 0 0,.slice none 0 0],.int .i64 c])∧Below W.heap.size W w'))
  (P3: (∀W,Wd W→Calls Tryz.prog 29 #[er,.int .i64 c] W fun e w'=>e= .returned (.bool true)∧Below W.heap.size W w'))
  (P4: (∀W,Wd W→Calls Tryz.prog 59 #[.int .i64 kind,.int .i64 A,.int .i64 B] W fun e w'=>e= .returned (.int .i64 N)∧Below W.heap.size W w'))
  (P5: (∀W,Wd W→Calls Tryz.prog 60 #[.int .i64 kind,.int .i64 A,.int .i64 B] W fun e w'=>e= .returned (.int .i64 N)∧Below W.heap.size W w'))
  (P6: (∀W,Wd W→Calls Tryz.prog 61 #[.int .i64 kind] W fun e w'=>e= .returned (.bool true)∧Below W.heap.size W w')) (w:World) (hw:Wd w):
  Calls Tryz.prog 15 #[.int .i64 kind,.int .i64 a,.int .i64 b,.int .i64 s,.int .i64 t,.int .i64 f] w fun e w'=>e= .returned (.bool true)∧Below w.heap.size w w':=by
 have h77:=and7 a
 have hDaya:=fun W=>cK a a0 a1 W
 rw[hha] at hDaya
 have hDayb:=fun W=>cK b b0 b1 W
 rw[hhb] at hDayb
 have hDays:=fun W=>cK s s0 s1 W
 rw[hhs] at hDays
 have hDayt:=fun W=>cK t t0 t1 W
 rw[hht] at hDayt
 have _:=hf
 have _:=hf2
 have _:=hk
 have _:=hk2
 have _:=hha
 have _:=hhb
 have _:=hhs
 have _:=hht
 have _:=h7
 have _:=hc
 have HW:=Lib.hid (fun W (h:Below w.heap.size w W)=>hw.keep h)
 have C1:=Lib.hid (fun (W:World)(hW:Wd W)=>HBg W hW)
 have C2:=Lib.hid (fun (W:World)(hW:Wd W)=>hDaya W)
 have C3:=Lib.hid (fun (W:World)(hW:Wd W)=>hDayb W)
 have C4:=Lib.hid (fun (W:World)(hW:Wd W)=>hDays W)
 have C5:=Lib.hid (fun (W:World)(hW:Wd W)=>hDayt W)
 have C6:=Lib.hid (fun (W:World)(hW:Wd W)=>P1 W hW)
 have C7:=Lib.hid (fun (W:World)(hW:Wd W)=>P2 W hW)
 have C8:=Lib.hid (fun (W:World)(hW:Wd W)=>P3 W hW)
 have C9:=Lib.hid (fun (W:World)(hW:Wd W)=>P4 W hW)
 have C10:=Lib.hid (fun (W:World)(hW:Wd W)=>P5 W hW)
 have C11:=Lib.hid (fun (W:World)(hW:Wd W)=>P6 W hW)
 have HR0:=Lib.hid (Below.refl w.heap.size w)
 clear P1 P2 P3 P4 P5 P6 hDaya hha hDayb hhb hDays hhs hDayt hht
 clear hw
 go_enter Tryz.func15,Tryz.ntmps15
 go_wp2_with (first
  |(go_at_call 17;(with_reducible refine(C1.out _ (HW.out _ HR0.out)).mono ?_);rintro e W1 ⟨rfl,hb⟩
    have HR1:=Lib.hid (aC HR0.out hb rfl)
    clear C1 hb)
  |(go_at_call 19;(with_reducible refine(C2.out _ (HW.out _ HR1.out)).mono ?_);rintro e w9 ⟨rfl,rfl⟩
    have HR2:=Lib.hid HR1.out
    clear C2)
  |(go_at_call 19;(with_reducible refine(C3.out _ (HW.out _ HR2.out)).mono ?_);rintro e w9 ⟨rfl,rfl⟩
    have HR3:=Lib.hid HR2.out
    clear C3)
  |(go_at_call 19;(with_reducible refine(C4.out _ (HW.out _ HR3.out)).mono ?_);rintro e w9 ⟨rfl,rfl⟩
    have HR4:=Lib.hid HR3.out
    clear C4)
  |(go_at_call 19;(with_reducible refine(C5.out _ (HW.out _ HR4.out)).mono ?_);rintro e w9 ⟨rfl,rfl⟩
    have HR5:=Lib.hid HR4.out
    clear C5)
  |(go_at_call 57;(with_reducible refine(C6.out _ (HW.out _ HR5.out)).mono ?_);rintro e W6 ⟨rfl,hb⟩
    have HR6:=Lib.hid (aC HR5.out hb rfl)
    clear C6 hb)
  |(go_at_call 58;(with_reducible refine(C7.out _ (HW.out _ HR6.out)).mono ?_);rintro e W7 ⟨rfl,hb⟩
    have M7_0:=Lib.hid (QAt.new W7 (.bool false) (.slice none 0 0) (.slice none 0 0))
    have HR7:=Lib.hid (Below.alloc (aC HR6.out hb rfl) (Below.size (aC HR6.out hb rfl)) (.cells #[.bool false,.slice none 0 0,.slice none 0 0] 83))
    obtain⟨q7_0_0,q7_0_1,q7_0_2,-⟩:=M7_0.out.cells
    clear C7 hb)
  |(go_at_call 29;(with_reducible refine(C8.out _ (HW.out _ HR7.out)).mono ?_);rintro e W8 ⟨rfl,hb⟩
    have M8_0:=Lib.hid (M7_0.out.below hb)
    have HR8:=Lib.hid (aC HR7.out hb rfl)
    obtain⟨q8_0_0,q8_0_1,q8_0_2,-⟩:=M8_0.out.cells
    clear q7_0_0 q7_0_1 q7_0_2 C8 hb)
  |(go_at_call 59;(with_reducible refine(C9.out _ (HW.out _ HR8.out)).mono ?_);rintro e W9 ⟨rfl,hb⟩
    have M9_0:=Lib.hid (M8_0.out.below hb)
    have HR9:=Lib.hid (aC HR8.out hb rfl)
    obtain⟨q9_0_0,q9_0_1,q9_0_2,-⟩:=M9_0.out.cells
    clear q8_0_0 q8_0_1 q8_0_2 C9 hb)
  |(go_at_call 60;(with_reducible refine(C10.out _ (HW.out _ HR9.out)).mono ?_);rintro e W10 ⟨rfl,hb⟩
    have M10_0:=Lib.hid (M9_0.out.below hb)
    have HR10:=Lib.hid (aC HR9.out hb rfl)
    obtain⟨q10_0_0,q10_0_1,q10_0_2,-⟩:=M10_0.out.cells
    clear q9_0_0 q9_0_1 q9_0_2 C10 hb)
  |(go_at_call 61;(with_reducible refine(C11.out _ (HW.out _ HR10.out)).mono ?_);rintro e W11 ⟨rfl,hb⟩
    have M11_0:=Lib.hid (M10_0.out.below hb)
    have HR11:=Lib.hid (aC HR10.out hb rfl)
    obtain⟨q11_0_0,q11_0_1,q11_0_2,-⟩:=M11_0.out.cells
    clear q10_0_0 q10_0_1 q10_0_2 C11 hb)
  |(fail "no arm"))
 go_quiet (fail)
 go_wp2
 go_ret
 exact⟨rfl,aH HR11.out nq⟩
theorem zA (HBg:iT)(kind a b s t f:Int)(φ:Int)(HF:f.tmod 100=φ)(hf: -100<φ)(hf2:φ<100)(hk:kind<1)(a0: -9223372036854775808≤a)(a1:a≤9223372036854775807)(b0: -9223372036854775808≤b)(b1:b≤9223372036854775807)(s0: -9223372036854775808≤s)(s1:s≤9223372036854775807)(t0: -9223372036854775808≤t)(t1:t≤9223372036854775807)(A B S T:Int)(hha:a%109573=A)(hhb:b%109573=B)(hhs:s%109573=S)(hht:t%109573=T)(h7:0<a%8)(N:Int)(er:Value)(c:Int)(hc:¬c=0)
  (P1: (∀W,Wd W→Calls Tryz.prog 57 #[.int .i64 kind,.int .i64 A,.int .i64 B,.int .i64 S,.int .i64 T,.int .i64 (φ - 3)] W fun e w'=>e= .returned (.tuple #[.pointer none,er])∧Below W.heap.size W w'))
  (P2: (∀W,Wd W→Calls Tryz.prog 58 #[.int .i64 kind,.int .i64 A,.int .i64 B,.int .i64 S,.int .i64 T,.int .i64 (φ - 3)] W fun e w'=>e= .returned (.tuple #[.agg #[.bool false,.slice none 0 0,.slice none 0 0],.int .i64 c])∧Below W.heap.size W w'))
  (P3: (∀W,Wd W→Calls Tryz.prog 29 #[er,.int .i64 c] W fun e w'=>e= .returned (.bool true)∧Below W.heap.size W w'))
  (P4: (∀W,Wd W→Calls Tryz.prog 59 #[.int .i64 kind,.int .i64 A,.int .i64 B] W fun e w'=>e= .returned (.int .i64 N)∧Below W.heap.size W w'))
  (P5: (∀W,Wd W→Calls Tryz.prog 60 #[.int .i64 kind,.int .i64 A,.int .i64 B] W fun e w'=>e= .returned (.int .i64 N)∧Below W.heap.size W w'))
  (P6: (∀W,Wd W→Calls Tryz.prog 61 #[.int .i64 kind] W fun e w'=>e= .returned (.bool false)∧Below W.heap.size W w')) (w:World) (hw:Wd w):
  Calls Tryz.prog 15 #[.int .i64 kind,.int .i64 a,.int .i64 b,.int .i64 s,.int .i64 t,.int .i64 f] w fun e w'=>e= .returned (.bool true)∧Below w.heap.size w w':=by
 have h77:=and7 a
 have hDaya:=fun W=>cK a a0 a1 W
 rw[hha] at hDaya
 have hDayb:=fun W=>cK b b0 b1 W
 rw[hhb] at hDayb
 have hDays:=fun W=>cK s s0 s1 W
 rw[hhs] at hDays
 have hDayt:=fun W=>cK t t0 t1 W
 rw[hht] at hDayt
 have _:=hf
 have _:=hf2
 have _:=hk
 have _:=hha
 have _:=hhb
 have _:=hhs
 have _:=hht
 have _:=h7
 have _:=hc
 have HW:=Lib.hid (fun W (h:Below w.heap.size w W)=>hw.keep h)
 have C1:=Lib.hid (fun (W:World)(hW:Wd W)=>HBg W hW)
 have C2:=Lib.hid (fun (W:World)(hW:Wd W)=>hDaya W)
 have C3:=Lib.hid (fun (W:World)(hW:Wd W)=>hDayb W)
 have C4:=Lib.hid (fun (W:World)(hW:Wd W)=>hDays W)
 have C5:=Lib.hid (fun (W:World)(hW:Wd W)=>hDayt W)
 have C6:=Lib.hid (fun (W:World)(hW:Wd W)=>P1 W hW)
 have C7:=Lib.hid (fun (W:World)(hW:Wd W)=>P2 W hW)
 have C8:=Lib.hid (fun (W:World)(hW:Wd W)=>P3 W hW)
 have C9:=Lib.hid (fun (W:World)(hW:Wd W)=>P4 W hW)
 have C10:=Lib.hid (fun (W:World)(hW:Wd W)=>P5 W hW)
 have C11:=Lib.hid (fun (W:World)(hW:Wd W)=>P6 W hW)
 have HR0:=Lib.hid (Below.refl w.heap.size w)
 clear P1 P2 P3 P4 P5 P6 hDaya hha hDayb hhb hDays hhs hDayt hht
 clear hw
 go_enter Tryz.func15,Tryz.ntmps15
 go_wp2_with (first
  |(go_at_call 17;(with_reducible refine(C1.out _ (HW.out _ HR0.out)).mono ?_);rintro e W1 ⟨rfl,hb⟩
    have HR1:=Lib.hid (aC HR0.out hb rfl)
    clear C1 hb)
  |(go_at_call 19;(with_reducible refine(C2.out _ (HW.out _ HR1.out)).mono ?_);rintro e w9 ⟨rfl,rfl⟩
    have HR2:=Lib.hid HR1.out
    clear C2)
  |(go_at_call 19;(with_reducible refine(C3.out _ (HW.out _ HR2.out)).mono ?_);rintro e w9 ⟨rfl,rfl⟩
    have HR3:=Lib.hid HR2.out
    clear C3)
  |(go_at_call 19;(with_reducible refine(C4.out _ (HW.out _ HR3.out)).mono ?_);rintro e w9 ⟨rfl,rfl⟩
    have HR4:=Lib.hid HR3.out
    clear C4)
  |(go_at_call 19;(with_reducible refine(C5.out _ (HW.out _ HR4.out)).mono ?_);rintro e w9 ⟨rfl,rfl⟩
    have HR5:=Lib.hid HR4.out
    clear C5)
  |(go_at_call 57;(with_reducible refine(C6.out _ (HW.out _ HR5.out)).mono ?_);rintro e W6 ⟨rfl,hb⟩
    have HR6:=Lib.hid (aC HR5.out hb rfl)
    clear C6 hb)
  |(go_at_call 58;(with_reducible refine(C7.out _ (HW.out _ HR6.out)).mono ?_);rintro e W7 ⟨rfl,hb⟩
    have M7_0:=Lib.hid (QAt.new W7 (.bool false) (.slice none 0 0) (.slice none 0 0))
    have HR7:=Lib.hid (Below.alloc (aC HR6.out hb rfl) (Below.size (aC HR6.out hb rfl)) (.cells #[.bool false,.slice none 0 0,.slice none 0 0] 83))
    obtain⟨q7_0_0,q7_0_1,q7_0_2,-⟩:=M7_0.out.cells
    clear C7 hb)
  |(go_at_call 29;(with_reducible refine(C8.out _ (HW.out _ HR7.out)).mono ?_);rintro e W8 ⟨rfl,hb⟩
    have M8_0:=Lib.hid (M7_0.out.below hb)
    have HR8:=Lib.hid (aC HR7.out hb rfl)
    obtain⟨q8_0_0,q8_0_1,q8_0_2,-⟩:=M8_0.out.cells
    clear q7_0_0 q7_0_1 q7_0_2 C8 hb)
  |(go_at_call 59;(with_reducible refine(C9.out _ (HW.out _ HR8.out)).mono ?_);rintro e W9 ⟨rfl,hb⟩
    have M9_0:=Lib.hid (M8_0.out.below hb)
    have HR9:=Lib.hid (aC HR8.out hb rfl)
    obtain⟨q9_0_0,q9_0_1,q9_0_2,-⟩:=M9_0.out.cells
    clear q8_0_0 q8_0_1 q8_0_2 C9 hb)
  |(go_at_call 60;(with_reducible refine(C10.out _ (HW.out _ HR9.out)).mono ?_);rintro e W10 ⟨rfl,hb⟩
    have M10_0:=Lib.hid (M9_0.out.below hb)
    have HR10:=Lib.hid (aC HR9.out hb rfl)
    obtain⟨q10_0_0,q10_0_1,q10_0_2,-⟩:=M10_0.out.cells
    clear q9_0_0 q9_0_1 q9_0_2 C10 hb)
  |(go_at_call 61;(with_reducible refine(C11.out _ (HW.out _ HR10.out)).mono ?_);rintro e W11 ⟨rfl,hb⟩
    have M11_0:=Lib.hid (M10_0.out.below hb)
    have HR11:=Lib.hid (aC HR10.out hb rfl)
    obtain⟨q11_0_0,q11_0_1,q11_0_2,-⟩:=M11_0.out.cells
    clear q10_0_0 q10_0_1 q10_0_2 C11 hb)
  |(fail "no arm"))
 go_quiet (fail)
 go_wp2
 go_ret
 exact⟨rfl,aH HR11.out nq⟩
theorem yX (HBg:iT)(kind a b s t f:Int)(φ:Int)(HF:f.tmod 100=φ)(hf: -100<φ)(hf2:φ<100)(hk:4<kind)(a0: -9223372036854775808≤a)(a1:a≤9223372036854775807)(b0: -9223372036854775808≤b)(b1:b≤9223372036854775807)(s0: -9223372036854775808≤s)(s1:s≤9223372036854775807)(t0: -9223372036854775808≤t)(t1:t≤9223372036854775807)(A B S T:Int)(hha:a%109573=A)(hhb:b%109573=B)(hhs:s%109573=S)(hht:t%109573=T)(h7:0<a%8)(N:Int)(er:Value)(c:Int)(hc:¬c=0)
  (P1: (∀W,Wd W→Calls Tryz.prog 57 #[.int .i64 kind,.int .i64 A,.int .i64 B,.int .i64 S,.int .i64 T,.int .i64 (φ - 3)] W fun e w'=>e= .returned (.tuple #[.pointer none,er])∧Below W.heap.size W w'))
  (P2: (∀W,Wd W→Calls Tryz.prog 58 #[.int .i64 kind,.int .i64 A,.int .i64 B,.int .i64 S,.int .i64 T,.int .i64 (φ - 3)] W fun e w'=>e= .returned (.tuple #[.agg #[.bool false,.slice none 0 0,.slice none 0 0],.int .i64 c])∧Below W.heap.size W w'))
  (P3: (∀W,Wd W→Calls Tryz.prog 29 #[er,.int .i64 c] W fun e w'=>e= .returned (.bool true)∧Below W.heap.size W w'))
  (P4: (∀W,Wd W→Calls Tryz.prog 59 #[.int .i64 kind,.int .i64 A,.int .i64 B] W fun e w'=>e= .returned (.int .i64 N)∧Below W.heap.size W w'))
  (P5: (∀W,Wd W→Calls Tryz.prog 60 #[.int .i64 kind,.int .i64 A,.int .i64 B] W fun e w'=>e= .returned (.int .i64 N)∧Below W.heap.size W w'))
  (P6: (∀W,Wd W→Calls Tryz.prog 61 #[.int .i64 kind] W fun e w'=>e= .returned (.bool false)∧Below W.heap.size W w')) (w:World) (hw:Wd w):
  Calls Tryz.prog 15 #[.int .i64 kind,.int .i64 a,.int .i64 b,.int .i64 s,.int .i64 t,.int .i64 f] w fun e w'=>e= .returned (.bool true)∧Below w.heap.size w w':=by
 have h77:=and7 a
 have hDaya:=fun W=>cK a a0 a1 W
 rw[hha] at hDaya
 have hDayb:=fun W=>cK b b0 b1 W
 rw[hhb] at hDayb
 have hDays:=fun W=>cK s s0 s1 W
 rw[hhs] at hDays
 have hDayt:=fun W=>cK t t0 t1 W
 rw[hht] at hDayt
 have _:=hf
 have _:=hf2
 have _:=hk
 have _:=hha
 have _:=hhb
 have _:=hhs
 have _:=hht
 have _:=h7
 have _:=hc
 have HW:=Lib.hid (fun W (h:Below w.heap.size w W)=>hw.keep h)
 have C1:=Lib.hid (fun (W:World)(hW:Wd W)=>HBg W hW)
 have C2:=Lib.hid (fun (W:World)(hW:Wd W)=>hDaya W)
 have C3:=Lib.hid (fun (W:World)(hW:Wd W)=>hDayb W)
 have C4:=Lib.hid (fun (W:World)(hW:Wd W)=>hDays W)
 have C5:=Lib.hid (fun (W:World)(hW:Wd W)=>hDayt W)
 have C6:=Lib.hid (fun (W:World)(hW:Wd W)=>P1 W hW)
 have C7:=Lib.hid (fun (W:World)(hW:Wd W)=>P2 W hW)
 have C8:=Lib.hid (fun (W:World)(hW:Wd W)=>P3 W hW)
 have C9:=Lib.hid (fun (W:World)(hW:Wd W)=>P4 W hW)
 have C10:=Lib.hid (fun (W:World)(hW:Wd W)=>P5 W hW)
 have C11:=Lib.hid (fun (W:World)(hW:Wd W)=>P6 W hW)
 have HR0:=Lib.hid (Below.refl w.heap.size w)
 clear P1 P2 P3 P4 P5 P6 hDaya hha hDayb hhb hDays hhs hDayt hht
 clear hw
 go_enter Tryz.func15,Tryz.ntmps15
 go_wp2_with (first
  |(go_at_call 17;(with_reducible refine(C1.out _ (HW.out _ HR0.out)).mono ?_);rintro e W1 ⟨rfl,hb⟩
    have HR1:=Lib.hid (aC HR0.out hb rfl)
    clear C1 hb)
  |(go_at_call 19;(with_reducible refine(C2.out _ (HW.out _ HR1.out)).mono ?_);rintro e w9 ⟨rfl,rfl⟩
    have HR2:=Lib.hid HR1.out
    clear C2)
  |(go_at_call 19;(with_reducible refine(C3.out _ (HW.out _ HR2.out)).mono ?_);rintro e w9 ⟨rfl,rfl⟩
    have HR3:=Lib.hid HR2.out
    clear C3)
  |(go_at_call 19;(with_reducible refine(C4.out _ (HW.out _ HR3.out)).mono ?_);rintro e w9 ⟨rfl,rfl⟩
    have HR4:=Lib.hid HR3.out
    clear C4)
  |(go_at_call 19;(with_reducible refine(C5.out _ (HW.out _ HR4.out)).mono ?_);rintro e w9 ⟨rfl,rfl⟩
    have HR5:=Lib.hid HR4.out
    clear C5)
  |(go_at_call 57;(with_reducible refine(C6.out _ (HW.out _ HR5.out)).mono ?_);rintro e W6 ⟨rfl,hb⟩
    have HR6:=Lib.hid (aC HR5.out hb rfl)
    clear C6 hb)
  |(go_at_call 58;(with_reducible refine(C7.out _ (HW.out _ HR6.out)).mono ?_);rintro e W7 ⟨rfl,hb⟩
    have M7_0:=Lib.hid (QAt.new W7 (.bool false) (.slice none 0 0) (.slice none 0 0))
    have HR7:=Lib.hid (Below.alloc (aC HR6.out hb rfl) (Below.size (aC HR6.out hb rfl)) (.cells #[.bool false,.slice none 0 0,.slice none 0 0] 83))
    obtain⟨q7_0_0,q7_0_1,q7_0_2,-⟩:=M7_0.out.cells
    clear C7 hb)
  |(go_at_call 29;(with_reducible refine(C8.out _ (HW.out _ HR7.out)).mono ?_);rintro e W8 ⟨rfl,hb⟩
    have M8_0:=Lib.hid (M7_0.out.below hb)
    have HR8:=Lib.hid (aC HR7.out hb rfl)
    obtain⟨q8_0_0,q8_0_1,q8_0_2,-⟩:=M8_0.out.cells
    clear q7_0_0 q7_0_1 q7_0_2 C8 hb)
  |(go_at_call 59;(with_reducible refine(C9.out _ (HW.out _ HR8.out)).mono ?_);rintro e W9 ⟨rfl,hb⟩
    have M9_0:=Lib.hid (M8_0.out.below hb)
    have HR9:=Lib.hid (aC HR8.out hb rfl)
    obtain⟨q9_0_0,q9_0_1,q9_0_2,-⟩:=M9_0.out.cells
    clear q8_0_0 q8_0_1 q8_0_2 C9 hb)
  |(go_at_call 60;(with_reducible refine(C10.out _ (HW.out _ HR9.out)).mono ?_);rintro e W10 ⟨rfl,hb⟩
    have M10_0:=Lib.hid (M9_0.out.below hb)
    have HR10:=Lib.hid (aC HR9.out hb rfl)
    obtain⟨q10_0_0,q10_0_1,q10_0_2,-⟩:=M10_0.out.cells
    clear q9_0_0 q9_0_1 q9_0_2 C10 hb)
  |(go_at_call 61;(with_reducible refine(C11.out _ (HW.out _ HR10.out)).mono ?_);rintro e W11 ⟨rfl,hb⟩
    have M11_0:=Lib.hid (M10_0.out.below hb)
    have HR11:=Lib.hid (aC HR10.out hb rfl)
    obtain⟨q11_0_0,q11_0_1,q11_0_2,-⟩:=M11_0.out.cells
    clear q10_0_0 q10_0_1 q10_0_2 C11 hb)
  |(fail "no arm"))
 go_quiet (fail)
 go_wp2
 go_ret
 exact⟨rfl,aH HR11.out nq⟩
theorem yU (HBg:iT)(kind a b s t f:Int)(φ:Int)(HF:f.tmod 100=φ)(hf: -100<φ)(hf2:φ<100)(hk:1≤kind)(hk2:kind≤4)(h7:¬0<a%8)(N:Int)(q:Rat)(z:Int)(d:Nat)(tx:ByteArray)
  (P1: (∀W,Wd W→Calls Tryz.prog 57 #[.int .i64 kind,.int .i64 a,.int .i64 b,.int .i64 s,.int .i64 t,.int .i64 (φ - 3)] W fun e w'=>∃u,e= .returned (.tuple #[u,.nilIface])∧(rat.IsR w' u (q)∧u≠ .pointer none)∧Below W.heap.size W w'))
  (P2: (∀W,Wd W→Calls Tryz.prog 58 #[.int .i64 kind,.int .i64 a,.int .i64 b,.int .i64 s,.int .i64 t,.int .i64 (φ - 3)] W fun e w'=>∃v,e= .returned (.tuple #[v,.int .i64 0])∧ref.IsQ w' v z d∧Below W.heap.size W w'))
  (P3: (∀W,Wd W→Calls Tryz.prog 29 #[.nilIface,.int .i64 0] W fun e w'=>e= .returned (.bool true)∧Below W.heap.size W w'))
  (P4: (∀W,Wd W→Calls Tryz.prog 59 #[.int .i64 kind,.int .i64 a,.int .i64 b] W fun e w'=>e= .returned (.int .i64 N)∧Below W.heap.size W w'))
  (P5: (∀W,Wd W→Calls Tryz.prog 60 #[.int .i64 kind,.int .i64 a,.int .i64 b] W fun e w'=>e= .returned (.int .i64 N)∧Below W.heap.size W w'))
  (P6: (∀W,Wd W→Calls Tryz.prog 61 #[.int .i64 kind] W fun e w'=>e= .returned (.bool true)∧Below W.heap.size W w'))
  (P7: (∀(W:World)(u:Value),rat.IsR W u q→Calls Tryz.prog 62 #[u] W fun e w'=>e= .returned (.string tx)∧Below W.heap.size W w'))
  (P8: (∀(W:World)(u:Value),ref.IsQ W u z d→Calls Tryz.prog 63 #[u] W fun e w'=>e= .returned (.string tx)∧Below W.heap.size W w')) (w:World) (hw:Wd w):
  Calls Tryz.prog 15 #[.int .i64 kind,.int .i64 a,.int .i64 b,.int .i64 s,.int .i64 t,.int .i64 f] w fun e w'=>e= .returned (.bool true)∧Below w.heap.size w w':=by
 have h77:=and7 a
 have _:=hf
 have _:=hf2
 have _:=hk
 have _:=hk2
 have _:=h7
 have HW:=Lib.hid (fun W (h:Below w.heap.size w W)=>hw.keep h)
 have C1:=Lib.hid (fun (W:World)(hW:Wd W)=>HBg W hW)
 have C2:=Lib.hid (fun (W:World)(hW:Wd W)=>P1 W hW)
 have C3:=Lib.hid (fun (W:World)(hW:Wd W)=>P2 W hW)
 have C4:=Lib.hid (fun (W:World)(hW:Wd W)=>P3 W hW)
 have C5:=Lib.hid (fun (W:World)(hW:Wd W)=>P4 W hW)
 have C6:=Lib.hid (fun (W:World)(hW:Wd W)=>P5 W hW)
 have C7:=Lib.hid (fun (W:World)(hW:Wd W)=>P6 W hW)
 have HR0:=Lib.hid (Below.refl w.heap.size w)
 clear P1 P2 P3 P4 P5 P6
 clear hw
 go_enter Tryz.func15,Tryz.ntmps15
 go_wp2_with (first
  |(go_at_call 17;(with_reducible refine(C1.out _ (HW.out _ HR0.out)).mono ?_);rintro e W1 ⟨rfl,hb⟩
    have HR1:=Lib.hid (aC HR0.out hb rfl)
    clear C1 hb)
  |(go_at_call 57;(with_reducible refine(C2.out _ (HW.out _ HR1.out)).mono ?_);rintro e W2 ⟨u,rfl,⟨h_u,n_u⟩,hb⟩
    have Gu_2:=Lib.hid h_u
    have HR2:=Lib.hid (aC HR1.out hb rfl)
    clear n_u
    clear C2 hb h_u)
  |(go_at_call 58;(with_reducible refine(C3.out _ (HW.out _ HR2.out)).mono ?_);rintro e W3 ⟨v,rfl,h_q,hb⟩
    obtain⟨s1,t1,rfl,i1,i2⟩:=id h_q
    obtain⟨so1,sc1,rfl,-⟩:=id i1
    obtain⟨so2,sc2,rfl,-⟩:=id i2
    clear i1 i2
    have Gu_3:=Lib.hid (Gu_2.out.below hb)
    have Gq_3:=Lib.hid h_q
    have M3_0:=Lib.hid (QAt.new W3 (.bool (decide (z<0))) (.slice so1 (ref.digs z.natAbs).length sc1) (.slice so2 (ref.digs d).length sc2))
    have HR3:=Lib.hid (Below.alloc (aC HR2.out hb rfl) (Below.size (aC HR2.out hb rfl)) (.cells #[.bool (decide (z<0)),.slice so1 (ref.digs z.natAbs).length sc1,.slice so2 (ref.digs d).length sc2] 83))
    have Gu_3a:=Lib.hid (Gu_3.out.below ((Below.refl _ _).alloc (Nat.le_refl _) (.cells #[.bool (decide (z<0)),.slice so1 (ref.digs z.natAbs).length sc1,.slice so2 (ref.digs d).length sc2] 83)))
    clear Gu_3;have Gu_3:=Gu_3a;clear Gu_3a
    have Gq_3a:=Lib.hid (Gq_3.out.below ((Below.refl _ _).alloc (Nat.le_refl _) (.cells #[.bool (decide (z<0)),.slice so1 (ref.digs z.natAbs).length sc1,.slice so2 (ref.digs d).length sc2] 83)))
    clear Gq_3;have Gq_3:=Gq_3a;clear Gq_3a
    obtain⟨q3_0_0,q3_0_1,q3_0_2,-⟩:=M3_0.out.cells
    clear C3 hb h_q)
  |(go_at_call 29;(with_reducible refine(C4.out _ (HW.out _ HR3.out)).mono ?_);rintro e W4 ⟨rfl,hb⟩
    have M4_0:=Lib.hid (M3_0.out.below hb)
    have Gu_4:=Lib.hid (Gu_3.out.below hb)
    have Gq_4:=Lib.hid (Gq_3.out.below hb)
    have HR4:=Lib.hid (aC HR3.out hb rfl)
    obtain⟨q4_0_0,q4_0_1,q4_0_2,-⟩:=M4_0.out.cells
    clear q3_0_0 q3_0_1 q3_0_2 C4 hb)
  |(go_at_call 59;(with_reducible refine(C5.out _ (HW.out _ HR4.out)).mono ?_);rintro e W5 ⟨rfl,hb⟩
    have M5_0:=Lib.hid (M4_0.out.below hb)
    have Gu_5:=Lib.hid (Gu_4.out.below hb)
    have Gq_5:=Lib.hid (Gq_4.out.below hb)
    have HR5:=Lib.hid (aC HR4.out hb rfl)
    obtain⟨q5_0_0,q5_0_1,q5_0_2,-⟩:=M5_0.out.cells
    clear q4_0_0 q4_0_1 q4_0_2 C5 hb)
  |(go_at_call 60;(with_reducible refine(C6.out _ (HW.out _ HR5.out)).mono ?_);rintro e W6 ⟨rfl,hb⟩
    have M6_0:=Lib.hid (M5_0.out.below hb)
    have Gu_6:=Lib.hid (Gu_5.out.below hb)
    have Gq_6:=Lib.hid (Gq_5.out.below hb)
    have HR6:=Lib.hid (aC HR5.out hb rfl)
    obtain⟨q6_0_0,q6_0_1,q6_0_2,-⟩:=M6_0.out.cells
    clear q5_0_0 q5_0_1 q5_0_2 C6 hb)
  |(go_at_call 61;(with_reducible refine(C7.out _ (HW.out _ HR6.out)).mono ?_);rintro e W7 ⟨rfl,hb⟩
    have M7_0:=Lib.hid (M6_0.out.below hb)
    have Gu_7:=Lib.hid (Gu_6.out.below hb)
    have Gq_7:=Lib.hid (Gq_6.out.below hb)
    have HR7:=Lib.hid (aC HR6.out hb rfl)
    obtain⟨q7_0_0,q7_0_1,q7_0_2,-⟩:=M7_0.out.cells
    clear q6_0_0 q6_0_1 q6_0_2 C7 hb)
  |(fail "no arm"))
 have HOLD:=Lib.hid (fun w' (hW:Below W7.heap.size W7 w')=>(show Below W7.heap.size W7 w'∧w'.cell? ⟨W3.heap.size,0,none⟩=some (.bool (decide (z<0)))∧w'.cell? ⟨W3.heap.size,1,none⟩=some (.slice so1 (ref.digs z.natAbs).length sc1)∧w'.cell? ⟨W3.heap.size,2,none⟩=some (.slice so2 (ref.digs d).length sc2) from⟨hW,(M7_0.out.below hW).cells.1,(M7_0.out.below hW).cells.2.1,(M7_0.out.below hW).cells.2.2.1⟩))
 have CP:=Lib.hid (fun (W:World)(hW:Below W7.heap.size W7 W)=>P7 W u (Gu_7.out.below hW))
 have CQ:=Lib.hid (fun (W:World)(hW:Below W7.heap.size W7 W)=>P8 W _ (Gq_7.out.below hW))
 clear P7 P8
 refine plan.rg (S:=fun w'=>Below W7.heap.size W7 w'∧w'.cell? ⟨W3.heap.size,0,none⟩=some (.bool (decide (z<0)))∧w'.cell? ⟨W3.heap.size,1,none⟩=some (.slice so1 (ref.digs z.natAbs).length sc1)∧w'.cell? ⟨W3.heap.size,2,none⟩=some (.slice so2 (ref.digs d).length sc2)) (plan.tr [0,3,6,11,14,15,18,21,24,27,30,36,34,40,42,45,48,51] .done) ?_ (fun hHeld=> ?_)
 ·exact HOLD.out _ (Below.refl _ _).drew
 iterate 3 (refine plan.tk ?_)
 iterate 2 (refine plan.sk ?_)
 iterate 7 (refine plan.tk ?_)
 refine plan.on (fun K hK=> ?_)
 go_simp
 (go_at_call 62;(with_reducible refine(CP.out _ (Below.refl _ _).drew).mono ?_);rintro e X1 ⟨rfl,hb⟩
  have HR901:=Lib.hid ((Below.refl _ _).drew.trans (hb.mono (Below.refl W7.heap.size W7).drew.size))
  clear hb CP)
 (try dsimp only)
 refine hK.out _ _ (HOLD.out _ HR901.out) (fun hHeld=> ?_)
 clear hK K
 refine plan.on (fun K hK=> ?_)
 go_simp
 (go_at_call 63;(with_reducible refine(CQ.out _ HR901.out).mono ?_);rintro e X2 ⟨rfl,hb⟩
  have HR902:=Lib.hid (HR901.out.trans (hb.mono HR901.out.size))
  clear hb CQ)
 (try dsimp only)
 refine hK.out _ _ (HOLD.out _ HR902.out) (fun hHeld=> ?_)
 clear hK K
 iterate 4 (refine plan.tk ?_)
 refine plan.tn ?_
 go_wp2
 go_ret
 exact⟨rfl,HR7.out.trans (HR902.out.mono HR7.out.size)⟩
theorem yT (HBg:iT)(kind a b s t f:Int)(φ:Int)(HF:f.tmod 100=φ)(hf: -100<φ)(hf2:φ<100)(hk:1≤kind)(hk2:kind≤4)(h7:¬0<a%8)(N:Int)(er:Value)(c:Int)(hc:¬c=0)
  (P1: (∀W,Wd W→Calls Tryz.prog 57 #[.int .i64 kind,.int .i64 a,.int .i64 b,.int .i64 s,.int .i64 t,.int .i64 (φ - 3)] W fun e w'=>e= .returned (.tuple #[.pointer none,er])∧Below W.heap.size W w'))
  (P2: (∀W,Wd W→Calls Tryz.prog 58 #[.int .i64 kind,.int .i64 a,.int .i64 b,.int .i64 s,.int .i64 t,.int .i64 (φ - 3)] W fun e w'=>e= .returned (.tuple #[.agg #[.bool false,.slice none 0 0,.slice none 0 0],.int .i64 c])∧Below W.heap.size W w'))
  (P3: (∀W,Wd W→Calls Tryz.prog 29 #[er,.int .i64 c] W fun e w'=>e= .returned (.bool true)∧Below W.heap.size W w'))
  (P4: (∀W,Wd W→Calls Tryz.prog 59 #[.int .i64 kind,.int .i64 a,.int .i64 b] W fun e w'=>e= .returned (.int .i64 N)∧Below W.heap.size W w'))
  (P5: (∀W,Wd W→Calls Tryz.prog 60 #[.int .i64 kind,.int .i64 a,.int .i64 b] W fun e w'=>e= .returned (.int .i64 N)∧Below W.heap.size W w'))
  (P6: (∀W,Wd W→Calls Tryz.prog 61 #[.int .i64 kind] W fun e w'=>e= .returned (.bool true)∧Below W.heap.size W w')) (w:World) (hw:Wd w):
  Calls Tryz.prog 15 #[.int .i64 kind,.int .i64 a,.int .i64 b,.int .i64 s,.int .i64 t,.int .i64 f] w fun e w'=>e= .returned (.bool true)∧Below w.heap.size w w':=by
 have h77:=and7 a
 have _:=hf
 have _:=hf2
 have _:=hk
 have _:=hk2
 have _:=h7
 have _:=hc
 have HW:=Lib.hid (fun W (h:Below w.heap.size w W)=>hw.keep h)
 have C1:=Lib.hid (fun (W:World)(hW:Wd W)=>HBg W hW)
 have C2:=Lib.hid (fun (W:World)(hW:Wd W)=>P1 W hW)
 have C3:=Lib.hid (fun (W:World)(hW:Wd W)=>P2 W hW)
 have C4:=Lib.hid (fun (W:World)(hW:Wd W)=>P3 W hW)
 have C5:=Lib.hid (fun (W:World)(hW:Wd W)=>P4 W hW)
 have C6:=Lib.hid (fun (W:World)(hW:Wd W)=>P5 W hW)
 have C7:=Lib.hid (fun (W:World)(hW:Wd W)=>P6 W hW)
 have HR0:=Lib.hid (Below.refl w.heap.size w)
 clear P1 P2 P3 P4 P5 P6
 clear hw
 go_enter Tryz.func15,Tryz.ntmps15
 go_wp2_with (first
  |(go_at_call 17;(with_reducible refine(C1.out _ (HW.out _ HR0.out)).mono ?_);rintro e W1 ⟨rfl,hb⟩
    have HR1:=Lib.hid (aC HR0.out hb rfl)
    clear C1 hb)
  |(go_at_call 57;(with_reducible refine(C2.out _ (HW.out _ HR1.out)).mono ?_);rintro e W2 ⟨rfl,hb⟩
    have HR2:=Lib.hid (aC HR1.out hb rfl)
    clear C2 hb)
  |(go_at_call 58;(with_reducible refine(C3.out _ (HW.out _ HR2.out)).mono ?_);rintro e W3 ⟨rfl,hb⟩
    have M3_0:=Lib.hid (QAt.new W3 (.bool false) (.slice none 0 0) (.slice none 0 0))
    have HR3:=Lib.hid (Below.alloc (aC HR2.out hb rfl) (Below.size (aC HR2.out hb rfl)) (.cells #[.bool false,.slice none 0 0,.slice none 0 0] 83))
    obtain⟨q3_0_0,q3_0_1,q3_0_2,-⟩:=M3_0.out.cells
    clear C3 hb)
  |(go_at_call 29;(with_reducible refine(C4.out _ (HW.out _ HR3.out)).mono ?_);rintro e W4 ⟨rfl,hb⟩
    have M4_0:=Lib.hid (M3_0.out.below hb)
    have HR4:=Lib.hid (aC HR3.out hb rfl)
    obtain⟨q4_0_0,q4_0_1,q4_0_2,-⟩:=M4_0.out.cells
    clear q3_0_0 q3_0_1 q3_0_2 C4 hb)
  |(go_at_call 59;(with_reducible refine(C5.out _ (HW.out _ HR4.out)).mono ?_);rintro e W5 ⟨rfl,hb⟩
    have M5_0:=Lib.hid (M4_0.out.below hb)
    have HR5:=Lib.hid (aC HR4.out hb rfl)
    obtain⟨q5_0_0,q5_0_1,q5_0_2,-⟩:=M5_0.out.cells
    clear q4_0_0 q4_0_1 q4_0_2 C5 hb)
  |(go_at_call 60;(with_reducible refine(C6.out _ (HW.out _ HR5.out)).mono ?_);rintro e W6 ⟨rfl,hb⟩
    have M6_0:=Lib.hid (M5_0.out.below hb)
    have HR6:=Lib.hid (aC HR5.out hb rfl)
    obtain⟨q6_0_0,q6_0_1,q6_0_2,-⟩:=M6_0.out.cells
    clear q5_0_0 q5_0_1 q5_0_2 C6 hb)
  |(go_at_call 61;(with_reducible refine(C7.out _ (HW.out _ HR6.out)).mono ?_);rintro e W7 ⟨rfl,hb⟩
    have M7_0:=Lib.hid (M6_0.out.below hb)
    have HR7:=Lib.hid (aC HR6.out hb rfl)
    obtain⟨q7_0_0,q7_0_1,q7_0_2,-⟩:=M7_0.out.cells
    clear q6_0_0 q6_0_1 q6_0_2 C7 hb)
  |(fail "no arm"))
 go_quiet (fail)
 go_wp2
 go_ret
 exact⟨rfl,aH HR7.out nq⟩
theorem yV (HBg:iT)(kind a b s t f:Int)(φ:Int)(HF:f.tmod 100=φ)(hf: -100<φ)(hf2:φ<100)(hk:kind<1)(h7:¬0<a%8)(N:Int)(er:Value)(c:Int)(hc:¬c=0)
  (P1: (∀W,Wd W→Calls Tryz.prog 57 #[.int .i64 kind,.int .i64 a,.int .i64 b,.int .i64 s,.int .i64 t,.int .i64 (φ - 3)] W fun e w'=>e= .returned (.tuple #[.pointer none,er])∧Below W.heap.size W w'))
  (P2: (∀W,Wd W→Calls Tryz.prog 58 #[.int .i64 kind,.int .i64 a,.int .i64 b,.int .i64 s,.int .i64 t,.int .i64 (φ - 3)] W fun e w'=>e= .returned (.tuple #[.agg #[.bool false,.slice none 0 0,.slice none 0 0],.int .i64 c])∧Below W.heap.size W w'))
  (P3: (∀W,Wd W→Calls Tryz.prog 29 #[er,.int .i64 c] W fun e w'=>e= .returned (.bool true)∧Below W.heap.size W w'))
  (P4: (∀W,Wd W→Calls Tryz.prog 59 #[.int .i64 kind,.int .i64 a,.int .i64 b] W fun e w'=>e= .returned (.int .i64 N)∧Below W.heap.size W w'))
  (P5: (∀W,Wd W→Calls Tryz.prog 60 #[.int .i64 kind,.int .i64 a,.int .i64 b] W fun e w'=>e= .returned (.int .i64 N)∧Below W.heap.size W w'))
  (P6: (∀W,Wd W→Calls Tryz.prog 61 #[.int .i64 kind] W fun e w'=>e= .returned (.bool false)∧Below W.heap.size W w')) (w:World) (hw:Wd w):
  Calls Tryz.prog 15 #[.int .i64 kind,.int .i64 a,.int .i64 b,.int .i64 s,.int .i64 t,.int .i64 f] w fun e w'=>e= .returned (.bool true)∧Below w.heap.size w w':=by
 have h77:=and7 a
 have _:=hf
 have _:=hf2
 have _:=hk
 have _:=h7
 have _:=hc
 have HW:=Lib.hid (fun W (h:Below w.heap.size w W)=>hw.keep h)
 have C1:=Lib.hid (fun (W:World)(hW:Wd W)=>HBg W hW)
 have C2:=Lib.hid (fun (W:World)(hW:Wd W)=>P1 W hW)
 have C3:=Lib.hid (fun (W:World)(hW:Wd W)=>P2 W hW)
 have C4:=Lib.hid (fun (W:World)(hW:Wd W)=>P3 W hW)
 have C5:=Lib.hid (fun (W:World)(hW:Wd W)=>P4 W hW)
 have C6:=Lib.hid (fun (W:World)(hW:Wd W)=>P5 W hW)
 have C7:=Lib.hid (fun (W:World)(hW:Wd W)=>P6 W hW)
 have HR0:=Lib.hid (Below.refl w.heap.size w)
 clear P1 P2 P3 P4 P5 P6
 clear hw
 go_enter Tryz.func15,Tryz.ntmps15
 go_wp2_with (first
  |(go_at_call 17;(with_reducible refine(C1.out _ (HW.out _ HR0.out)).mono ?_);rintro e W1 ⟨rfl,hb⟩
    have HR1:=Lib.hid (aC HR0.out hb rfl)
    clear C1 hb)
  |(go_at_call 57;(with_reducible refine(C2.out _ (HW.out _ HR1.out)).mono ?_);rintro e W2 ⟨rfl,hb⟩
    have HR2:=Lib.hid (aC HR1.out hb rfl)
    clear C2 hb)
  |(go_at_call 58;(with_reducible refine(C3.out _ (HW.out _ HR2.out)).mono ?_);rintro e W3 ⟨rfl,hb⟩
    have M3_0:=Lib.hid (QAt.new W3 (.bool false) (.slice none 0 0) (.slice none 0 0))
    have HR3:=Lib.hid (Below.alloc (aC HR2.out hb rfl) (Below.size (aC HR2.out hb rfl)) (.cells #[.bool false,.slice none 0 0,.slice none 0 0] 83))
    obtain⟨q3_0_0,q3_0_1,q3_0_2,-⟩:=M3_0.out.cells
    clear C3 hb)
  |(go_at_call 29;(with_reducible refine(C4.out _ (HW.out _ HR3.out)).mono ?_);rintro e W4 ⟨rfl,hb⟩
    have M4_0:=Lib.hid (M3_0.out.below hb)
    have HR4:=Lib.hid (aC HR3.out hb rfl)
    obtain⟨q4_0_0,q4_0_1,q4_0_2,-⟩:=M4_0.out.cells
    clear q3_0_0 q3_0_1 q3_0_2 C4 hb)
  |(go_at_call 59;(with_reducible refine(C5.out _ (HW.out _ HR4.out)).mono ?_);rintro e W5 ⟨rfl,hb⟩
    have M5_0:=Lib.hid (M4_0.out.below hb)
    have HR5:=Lib.hid (aC HR4.out hb rfl)
    obtain⟨q5_0_0,q5_0_1,q5_0_2,-⟩:=M5_0.out.cells
    clear q4_0_0 q4_0_1 q4_0_2 C5 hb)
  |(go_at_call 60;(with_reducible refine(C6.out _ (HW.out _ HR5.out)).mono ?_);rintro e W6 ⟨rfl,hb⟩
    have M6_0:=Lib.hid (M5_0.out.below hb)
    have HR6:=Lib.hid (aC HR5.out hb rfl)
    obtain⟨q6_0_0,q6_0_1,q6_0_2,-⟩:=M6_0.out.cells
    clear q5_0_0 q5_0_1 q5_0_2 C6 hb)
  |(go_at_call 61;(with_reducible refine(C7.out _ (HW.out _ HR6.out)).mono ?_);rintro e W7 ⟨rfl,hb⟩
    have M7_0:=Lib.hid (M6_0.out.below hb)
    have HR7:=Lib.hid (aC HR6.out hb rfl)
    obtain⟨q7_0_0,q7_0_1,q7_0_2,-⟩:=M7_0.out.cells
    clear q6_0_0 q6_0_1 q6_0_2 C7 hb)
  |(fail "no arm"))
 go_quiet (fail)
 go_wp2
 go_ret
 exact⟨rfl,aH HR7.out nq⟩
theorem yS (HBg:iT)(kind a b s t f:Int)(φ:Int)(HF:f.tmod 100=φ)(hf: -100<φ)(hf2:φ<100)(hk:4<kind)(h7:¬0<a%8)(N:Int)(er:Value)(c:Int)(hc:¬c=0)
  (P1: (∀W,Wd W→Calls Tryz.prog 57 #[.int .i64 kind,.int .i64 a,.int .i64 b,.int .i64 s,.int .i64 t,.int .i64 (φ - 3)] W fun e w'=>e= .returned (.tuple #[.pointer none,er])∧Below W.heap.size W w'))
  (P2: (∀W,Wd W→Calls Tryz.prog 58 #[.int .i64 kind,.int .i64 a,.int .i64 b,.int .i64 s,.int .i64 t,.int .i64 (φ - 3)] W fun e w'=>e= .returned (.tuple #[.agg #[.bool false,.slice none 0 0,.slice none 0 0],.int .i64 c])∧Below W.heap.size W w'))
  (P3: (∀W,Wd W→Calls Tryz.prog 29 #[er,.int .i64 c] W fun e w'=>e= .returned (.bool true)∧Below W.heap.size W w'))
  (P4: (∀W,Wd W→Calls Tryz.prog 59 #[.int .i64 kind,.int .i64 a,.int .i64 b] W fun e w'=>e= .returned (.int .i64 N)∧Below W.heap.size W w'))
  (P5: (∀W,Wd W→Calls Tryz.prog 60 #[.int .i64 kind,.int .i64 a,.int .i64 b] W fun e w'=>e= .returned (.int .i64 N)∧Below W.heap.size W w'))
  (P6: (∀W,Wd W→Calls Tryz.prog 61 #[.int .i64 kind] W fun e w'=>e= .returned (.bool false)∧Below W.heap.size W w')) (w:World) (hw:Wd w):
  Calls Tryz.prog 15 #[.int .i64 kind,.int .i64 a,.int .i64 b,.int .i64 s,.int .i64 t,.int .i64 f] w fun e w'=>e= .returned (.bool true)∧Below w.heap.size w w':=by
 have h77:=and7 a
 have _:=hf
 have _:=hf2
 have _:=hk
 have _:=h7
 have _:=hc
 have HW:=Lib.hid (fun W (h:Below w.heap.size w W)=>hw.keep h)
 have C1:=Lib.hid (fun (W:World)(hW:Wd W)=>HBg W hW)
 have C2:=Lib.hid (fun (W:World)(hW:Wd W)=>P1 W hW)
 have C3:=Lib.hid (fun (W:World)(hW:Wd W)=>P2 W hW)
 have C4:=Lib.hid (fun (W:World)(hW:Wd W)=>P3 W hW)
 have C5:=Lib.hid (fun (W:World)(hW:Wd W)=>P4 W hW)
 have C6:=Lib.hid (fun (W:World)(hW:Wd W)=>P5 W hW)
 have C7:=Lib.hid (fun (W:World)(hW:Wd W)=>P6 W hW)
 have HR0:=Lib.hid (Below.refl w.heap.size w)
 clear P1 P2 P3 P4 P5 P6
 clear hw
 go_enter Tryz.func15,Tryz.ntmps15
 go_wp2_with (first
  |(go_at_call 17;(with_reducible refine(C1.out _ (HW.out _ HR0.out)).mono ?_);rintro e W1 ⟨rfl,hb⟩
    have HR1:=Lib.hid (aC HR0.out hb rfl)
    clear C1 hb)
  |(go_at_call 57;(with_reducible refine(C2.out _ (HW.out _ HR1.out)).mono ?_);rintro e W2 ⟨rfl,hb⟩
    have HR2:=Lib.hid (aC HR1.out hb rfl)
    clear C2 hb)
  |(go_at_call 58;(with_reducible refine(C3.out _ (HW.out _ HR2.out)).mono ?_);rintro e W3 ⟨rfl,hb⟩
    have M3_0:=Lib.hid (QAt.new W3 (.bool false) (.slice none 0 0) (.slice none 0 0))
    have HR3:=Lib.hid (Below.alloc (aC HR2.out hb rfl) (Below.size (aC HR2.out hb rfl)) (.cells #[.bool false,.slice none 0 0,.slice none 0 0] 83))
    obtain⟨q3_0_0,q3_0_1,q3_0_2,-⟩:=M3_0.out.cells
    clear C3 hb)
  |(go_at_call 29;(with_reducible refine(C4.out _ (HW.out _ HR3.out)).mono ?_);rintro e W4 ⟨rfl,hb⟩
    have M4_0:=Lib.hid (M3_0.out.below hb)
    have HR4:=Lib.hid (aC HR3.out hb rfl)
    obtain⟨q4_0_0,q4_0_1,q4_0_2,-⟩:=M4_0.out.cells
    clear q3_0_0 q3_0_1 q3_0_2 C4 hb)
  |(go_at_call 59;(with_reducible refine(C5.out _ (HW.out _ HR4.out)).mono ?_);rintro e W5 ⟨rfl,hb⟩
    have M5_0:=Lib.hid (M4_0.out.below hb)
    have HR5:=Lib.hid (aC HR4.out hb rfl)
    obtain⟨q5_0_0,q5_0_1,q5_0_2,-⟩:=M5_0.out.cells
    clear q4_0_0 q4_0_1 q4_0_2 C5 hb)
  |(go_at_call 60;(with_reducible refine(C6.out _ (HW.out _ HR5.out)).mono ?_);rintro e W6 ⟨rfl,hb⟩
    have M6_0:=Lib.hid (M5_0.out.below hb)
    have HR6:=Lib.hid (aC HR5.out hb rfl)
    obtain⟨q6_0_0,q6_0_1,q6_0_2,-⟩:=M6_0.out.cells
    clear q5_0_0 q5_0_1 q5_0_2 C6 hb)
  |(go_at_call 61;(with_reducible refine(C7.out _ (HW.out _ HR6.out)).mono ?_);rintro e W7 ⟨rfl,hb⟩
    have M7_0:=Lib.hid (M6_0.out.below hb)
    have HR7:=Lib.hid (aC HR6.out hb rfl)
    obtain⟨q7_0_0,q7_0_1,q7_0_2,-⟩:=M7_0.out.cells
    clear q6_0_0 q6_0_1 q6_0_2 C7 hb)
  |(fail "no arm"))
 go_quiet (fail)
 go_wp2
 go_ret
 exact⟨rfl,aH HR7.out nq⟩
end Go.Proofs.YtlhmfgbaefaneaaGreatDoor.law6
