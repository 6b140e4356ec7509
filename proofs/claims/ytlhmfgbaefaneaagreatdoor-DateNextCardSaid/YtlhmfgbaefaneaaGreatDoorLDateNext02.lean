/-
  The steps of the walks, part 2: Lw6DateNext.
-/
import Derived.BigQuiet
import Derived.Deep.QuietTactic
import Derived.Test.YtlhmfgbaefaneaaGreatDoorB01
import Derived.Test.YtlhmfgbaefaneaaGreatDoorB02
import Derived.Test.YtlhmfgbaefaneaaGreatDoorB03
import Derived.Test.YtlhmfgbaefaneaaGreatDoorB04
import Derived.Test.YtlhmfgbaefaneaaGreatDoorB05
import Derived.Test.YtlhmfgbaefaneaaGreatDoorB06
import Derived.Test.YtlhmfgbaefaneaaGreatDoorB07
import Derived.Test.YtlhmfgbaefaneaaGreatDoorB08
import Derived.Test.YtlhmfgbaefaneaaGreatDoorB09
import Derived.Test.YtlhmfgbaefaneaaGreatDoorB10
import Derived.Test.YtlhmfgbaefaneaaGreatDoorB11
import Derived.Test.YtlhmfgbaefaneaaGreatDoorB12
import Derived.Test.YtlhmfgbaefaneaaGreatDoorB13
import Derived.Test.YtlhmfgbaefaneaaGreatDoorB14
import Derived.Test.YtlhmfgbaefaneaaGreatDoorB15
import Derived.Test.YtlhmfgbaefaneaaGreatDoorB16
import Derived.Test.YtlhmfgbaefaneaaGreatDoorB17
import Derived.Test.YtlhmfgbaefaneaaGreatDoorB18
import Derived.Test.YtlhmfgbaefaneaaGreatDoorB19
import Derived.Test.YtlhmfgbaefaneaaGreatDoorB20
import Derived.Test.YtlhmfgbaefaneaaGreatDoorB21
import Derived.Test.YtlhmfgbaefaneaaGreatDoorB22
import Derived.Test.YtlhmfgbaefaneaaGreatDoorLDateNext01
namespace Go.Proofs.YtlhmfgbaefaneaaGreatDoor.law6
open Go Go.RowKit Go.Proofs.YtlhmfgbaefaneaaGreatDoor.day Go.Proofs.YtlhmfgbaefaneaaGreatDoor.date
open Go.Proofs.YtlhmfgbaefaneaaGreatDoor.ref (str str_size)
open Go.Proofs.YtlhmfgbaefaneaaGreatDoor.ref6 (CAt dayText DayForm quiet_same drewN_below6)
set_option maxRecDepth 100000 in
set_option maxHeartbeats 4000000 in
theorem DateNext_last (HBg : BegunC) (n : Int) (n0 : -9223372036854775808 ≤ n) (n1 : n ≤ 9223372036854775807) (hl : n % 109573 = 109572) (w : World) (hw : Wd w) :
    Calls Tryz.prog 5 #[.int .i64 n] w fun e w' => e = .returned (.bool true) ∧ Below w.heap.size w w' := by
  have hDay := fun W => Day_any n n0 n1 W
  rw [hl] at hDay
  have i1 : IsCivil 2199 12 30 := by decide
  have i2 : IsCivil 2199 12 31 := by decide
  have e1 : dayOf 2199 12 30 = 109571 := by decide +kernel
  have e2 : dayOf 2199 12 31 = 109572 := by decide +kernel
  have hm : mlen 2199 12 = 31 := by decide
  have hlt : Op.bytesLess (str (dayText 2199 12 30)).toList (str (dayText 2199 12 31)).toList = true := by
    rw [text_less i1 i2, e1, e2]
    exact decide_eq_true (by omega)
  have hC1 := Civil_at 2199 12 30 i1
  have hC2 := Civil_at 2199 12 31 i2
  have hW1 := fun W => Weekday_day _ (dayOf_isDay i1) W
  have hW2 := fun W => Weekday_day _ (dayOf_isDay i2) W
  have hT1 := fun W (hw : Wd W) => Text_at 2199 12 30 i1 W hw.lens hw.tab
  have hT2 := fun W (hw : Wd W) => Text_at 2199 12 31 i2 W hw.lens hw.tab
  rw [e1] at hC1 hW1 hT1
  rw [e2] at hC2 hW2 hT2
  generalize str (dayText 2199 12 30) = t1 at *
  generalize str (dayText 2199 12 31) = t2 at *
  rw [show wday 109571 = 1 by decide] at hW1
  rw [show wday 109572 = 2 by decide] at hW2
  have HW := Lib.hid (fun W (h : Below w.heap.size w W) => hw.keep h)
  have C1 := Lib.hid (fun (W : World) (hW : Wd W) => HBg W hW)
  have C2 := Lib.hid (fun (W : World) (hW : Wd W) => hDay W)
  have C3 := Lib.hid (fun (W : World) (hW : Wd W) => hC1 W hW.lens)
  have C4 := Lib.hid (fun (W : World) (hW : Wd W) => hC2 W hW.lens)
  have C5 := Lib.hid (fun (W : World) (hW : Wd W) => hW2 W)
  have C6 := Lib.hid (fun (W : World) (hW : Wd W) => hW1 W)
  have C7 := Lib.hid (fun (W : World) (hW : Wd W) => hT1 W hW)
  have C8 := Lib.hid (fun (W : World) (hW : Wd W) => hT2 W hW)
  have CL := Lib.hid (fun (W : World) (hW : Wd W) => Length_any 2199 12 W hW.lens)
  have HR0 := Lib.hid (Below.refl w.heap.size w)
  rw [hm] at CL
  clear hl i1 i2 e1 e2 hm hC1 hC2 hW1 hW2 hT1 hT2 hDay
  clear hw
  go_enter Tryz.func5, Tryz.ntmps5
  go_wp2_with (first
    | (go_at_call 17; (with_reducible refine (C1.out _ (HW.out _ HR0.out)).mono ?_); rintro e W1 ⟨rfl, hb⟩
       have HR1 := Lib.hid (below_tr6 HR0.out hb rfl)
       clear C1 hb)
    | (go_at_call 19; (with_reducible refine (C2.out _ (HW.out _ HR1.out)).mono ?_); rintro e w9 ⟨rfl, rfl⟩
       have HR2 := Lib.hid HR1.out
       clear C2)
    | (go_at_call 20; (with_reducible refine (C3.out _ (HW.out _ HR2.out)).mono ?_); rintro e W3 ⟨rfl, hb⟩
       have M3_0 := Lib.hid (CAt.new W3 2199 12 30)
       have HR3 := Lib.hid (Below.alloc (below_tr6 HR2.out hb rfl) (Below.size (below_tr6 HR2.out hb rfl)) (.cells #[.int .i64 2199, .int .i64 12, .int .i64 30] 23))
       obtain ⟨q3_0_0, q3_0_1, q3_0_2, -⟩ := M3_0.out.cells
       clear C3 hb)
    | (go_at_call 20; (with_reducible refine (C4.out _ (HW.out _ HR3.out)).mono ?_); rintro e W4 ⟨rfl, hb⟩
       have M4_0 := Lib.hid (M3_0.out.below hb)
       have N4_0 := Lib.hid (M4_0.out.below ((Below.refl _ _).alloc (Nat.le_refl _) (.cells #[.int .i64 2199, .int .i64 12, .int .i64 31] 23)))
       have M4_1 := Lib.hid (CAt.new W4 2199 12 31)
       have HR4 := Lib.hid (Below.alloc (below_tr6 HR3.out hb rfl) (Below.size (below_tr6 HR3.out hb rfl)) (.cells #[.int .i64 2199, .int .i64 12, .int .i64 31] 23))
       clear M4_0; have M4_0 := N4_0; clear N4_0
       obtain ⟨q4_0_0, q4_0_1, q4_0_2, -⟩ := M4_0.out.cells
       obtain ⟨q4_1_0, q4_1_1, q4_1_2, -⟩ := M4_1.out.cells
       clear q3_0_0 q3_0_1 q3_0_2 C4 hb)
    | (go_at_call 26; (with_reducible refine (C5.out _ (HW.out _ HR4.out)).mono ?_); rintro e w9 ⟨rfl, rfl⟩
       have HR5 := Lib.hid HR4.out
       clear C5)
    | (go_at_call 26; (with_reducible refine (C6.out _ (HW.out _ HR5.out)).mono ?_); rintro e w9 ⟨rfl, rfl⟩
       have HR6 := Lib.hid HR5.out
       clear C6)
    | (go_at_call 23; (with_reducible refine (C7.out _ (HW.out _ HR6.out)).mono ?_); rintro e W7 ⟨rfl, hb⟩
       have M7_0 := Lib.hid (M4_0.out.below hb)
       have M7_1 := Lib.hid (M4_1.out.below hb)
       have HR7 := Lib.hid (below_tr6 HR6.out hb rfl)
       obtain ⟨q7_0_0, q7_0_1, q7_0_2, -⟩ := M7_0.out.cells
       obtain ⟨q7_1_0, q7_1_1, q7_1_2, -⟩ := M7_1.out.cells
       clear q4_0_0 q4_0_1 q4_0_2 q4_1_0 q4_1_1 q4_1_2 C7 hb)
    | (go_at_call 23; (with_reducible refine (C8.out _ (HW.out _ HR7.out)).mono ?_); rintro e W8 ⟨rfl, hb⟩
       have M8_0 := Lib.hid (M7_0.out.below hb)
       have M8_1 := Lib.hid (M7_1.out.below hb)
       have HR8 := Lib.hid (below_tr6 HR7.out hb rfl)
       obtain ⟨q8_0_0, q8_0_1, q8_0_2, -⟩ := M8_0.out.cells
       obtain ⟨q8_1_0, q8_1_1, q8_1_2, -⟩ := M8_1.out.cells
       clear q7_0_0 q7_0_1 q7_0_2 q7_1_0 q7_1_1 q7_1_2 C8 hb)
    | (fail "no arm"))
  go_quiet (first | (go_at_call 33; with_reducible exact quiet_same (CL.out _ (HW.out _ (drewN_below6 HR8.out _)))))
  go_wp2
  go_ret
  exact ⟨rfl, drewN_below6 HR8.out nq⟩
set_option maxRecDepth 100000 in
set_option maxHeartbeats 4000000 in
theorem DateNext_day (HBg : BegunC) (n : Int) (n0 : -9223372036854775808 ≤ n) (n1 : n ≤ 9223372036854775807) (y m d : Int) (i1 : IsCivil y m d) (e1 : dayOf y m d = n % 109573) (h9 : dayOf y m d < 109572) (i2 : IsCivil y m (d + 1)) (e2 : dayOf y m (d + 1) = dayOf y m d + 1) (hd : d < mlen y m) (w : World) (hw : Wd w) :
    Calls Tryz.prog 5 #[.int .i64 n] w fun e w' => e = .returned (.bool true) ∧ Below w.heap.size w w' := by
  have hDay := fun W => Day_any n n0 n1 W
  rw [← e1] at hDay
  obtain ⟨hdd1, hdd2⟩ := dayOf_isDay i1
  have hmon := i1.month
  have hwe : ∀ z : Int, wday (z + 1) = (wday z + 1) % 7 := fun z => by unfold wday; omega
  have hwb : ∀ z : Int, 0 ≤ wday z ∧ wday z ≤ 6 := fun z => by unfold wday; omega
  have hlt : Op.bytesLess (str (dayText y m d)).toList (str (dayText y m (d + 1))).toList = true := by
    rw [text_less i1 i2, (show dayOf y m d = dayOf y m d from rfl), e2]
    exact decide_eq_true (by omega)
  have hC1 := Civil_at y m d i1
  have hC2 := Civil_at y m (d + 1) i2
  have hW1 := fun W => Weekday_day _ (dayOf_isDay i1) W
  have hW2 := fun W => Weekday_day _ (dayOf_isDay i2) W
  have hT1 := fun W (hw : Wd W) => Text_at y m d i1 W hw.lens hw.tab
  have hT2 := fun W (hw : Wd W) => Text_at y m (d + 1) i2 W hw.lens hw.tab
  rw [(show dayOf y m d = dayOf y m d from rfl)] at hC1 hW1 hT1
  rw [e2] at hC2 hW2 hT2
  generalize str (dayText y m d) = t1 at *
  generalize str (dayText y m (d + 1)) = t2 at *
  rw [hwe] at hW2
  have hwz := hwb (dayOf y m d)
  have i11 := i1.1
  have i12 := i1.2.1
  have i13 := i1.2.2.1
  have i14 := i1.2.2.2
  have hml := mlen_hi y m
  have HW := Lib.hid (fun W (h : Below w.heap.size w W) => hw.keep h)
  have C1 := Lib.hid (fun (W : World) (hW : Wd W) => HBg W hW)
  have C2 := Lib.hid (fun (W : World) (hW : Wd W) => hDay W)
  have C3 := Lib.hid (fun (W : World) (hW : Wd W) => hC1 W hW.lens)
  have C4 := Lib.hid (fun (W : World) (hW : Wd W) => hC2 W hW.lens)
  have C5 := Lib.hid (fun (W : World) (hW : Wd W) => hW2 W)
  have C6 := Lib.hid (fun (W : World) (hW : Wd W) => hW1 W)
  have C7 := Lib.hid (fun (W : World) (hW : Wd W) => hT1 W hW)
  have C8 := Lib.hid (fun (W : World) (hW : Wd W) => hT2 W hW)
  have CL := Lib.hid (fun (W : World) (hW : Wd W) => Length_any y m W hW.lens)
  have HR0 := Lib.hid (Below.refl w.heap.size w)
  clear i1 i2 e1 e2 hwe hwb hC1 hC2 hW1 hW2 hT1 hT2 hDay
  generalize wday (dayOf y m d) = wd at *
  generalize dayOf y m d = D at *
  generalize mlen y m = ml at *
  clear hw
  go_enter Tryz.func5, Tryz.ntmps5
  go_wp2_with (first
    | (go_at_call 17; (with_reducible refine (C1.out _ (HW.out _ HR0.out)).mono ?_); rintro e W1 ⟨rfl, hb⟩
       have HR1 := Lib.hid (below_tr6 HR0.out hb rfl)
       clear C1 hb)
    | (go_at_call 19; (with_reducible refine (C2.out _ (HW.out _ HR1.out)).mono ?_); rintro e w9 ⟨rfl, rfl⟩
       have HR2 := Lib.hid HR1.out
       clear C2)
    | (go_at_call 20; (with_reducible refine (C3.out _ (HW.out _ HR2.out)).mono ?_); rintro e W3 ⟨rfl, hb⟩
       have M3_0 := Lib.hid (CAt.new W3 y m d)
       have HR3 := Lib.hid (Below.alloc (below_tr6 HR2.out hb rfl) (Below.size (below_tr6 HR2.out hb rfl)) (.cells #[.int .i64 y, .int .i64 m, .int .i64 d] 23))
       obtain ⟨q3_0_0, q3_0_1, q3_0_2, -⟩ := M3_0.out.cells
       clear C3 hb)
    | (go_at_call 20; (with_reducible refine (C4.out _ (HW.out _ HR3.out)).mono ?_); rintro e W4 ⟨rfl, hb⟩
       have M4_0 := Lib.hid (M3_0.out.below hb)
       have N4_0 := Lib.hid (M4_0.out.below ((Below.refl _ _).alloc (Nat.le_refl _) (.cells #[.int .i64 y, .int .i64 m, .int .i64 (d + 1)] 23)))
       have M4_1 := Lib.hid (CAt.new W4 y m (d + 1))
       have HR4 := Lib.hid (Below.alloc (below_tr6 HR3.out hb rfl) (Below.size (below_tr6 HR3.out hb rfl)) (.cells #[.int .i64 y, .int .i64 m, .int .i64 (d + 1)] 23))
       clear M4_0; have M4_0 := N4_0; clear N4_0
       obtain ⟨q4_0_0, q4_0_1, q4_0_2, -⟩ := M4_0.out.cells
       obtain ⟨q4_1_0, q4_1_1, q4_1_2, -⟩ := M4_1.out.cells
       clear q3_0_0 q3_0_1 q3_0_2 C4 hb)
    | (go_at_call 26; (with_reducible refine (C5.out _ (HW.out _ HR4.out)).mono ?_); rintro e w9 ⟨rfl, rfl⟩
       have HR5 := Lib.hid HR4.out
       clear C5)
    | (go_at_call 26; (with_reducible refine (C6.out _ (HW.out _ HR5.out)).mono ?_); rintro e w9 ⟨rfl, rfl⟩
       have HR6 := Lib.hid HR5.out
       clear C6)
    | (go_at_call 23; (with_reducible refine (C7.out _ (HW.out _ HR6.out)).mono ?_); rintro e W7 ⟨rfl, hb⟩
       have M7_0 := Lib.hid (M4_0.out.below hb)
       have M7_1 := Lib.hid (M4_1.out.below hb)
       have HR7 := Lib.hid (below_tr6 HR6.out hb rfl)
       obtain ⟨q7_0_0, q7_0_1, q7_0_2, -⟩ := M7_0.out.cells
       obtain ⟨q7_1_0, q7_1_1, q7_1_2, -⟩ := M7_1.out.cells
       clear q4_0_0 q4_0_1 q4_0_2 q4_1_0 q4_1_1 q4_1_2 C7 hb)
    | (go_at_call 23; (with_reducible refine (C8.out _ (HW.out _ HR7.out)).mono ?_); rintro e W8 ⟨rfl, hb⟩
       have M8_0 := Lib.hid (M7_0.out.below hb)
       have M8_1 := Lib.hid (M7_1.out.below hb)
       have HR8 := Lib.hid (below_tr6 HR7.out hb rfl)
       obtain ⟨q8_0_0, q8_0_1, q8_0_2, -⟩ := M8_0.out.cells
       obtain ⟨q8_1_0, q8_1_1, q8_1_2, -⟩ := M8_1.out.cells
       clear q7_0_0 q7_0_1 q7_0_2 q7_1_0 q7_1_1 q7_1_2 C8 hb)
    | (fail "no arm"))
  go_quiet (first | (go_at_call 33; with_reducible exact quiet_same (CL.out _ (HW.out _ (drewN_below6 HR8.out _)))))
  go_wp2
  go_ret
  exact ⟨rfl, drewN_below6 HR8.out nq⟩
set_option maxRecDepth 100000 in
set_option maxHeartbeats 4000000 in
theorem DateNext_month (HBg : BegunC) (n : Int) (n0 : -9223372036854775808 ≤ n) (n1 : n ≤ 9223372036854775807) (y m d : Int) (i1 : IsCivil y m d) (e1 : dayOf y m d = n % 109573) (h9 : dayOf y m d < 109572) (i2 : IsCivil y (m + 1) 1) (e2 : dayOf y (m + 1) 1 = dayOf y m d + 1) (hd : d = mlen y m) (hmm : m < 12) (w : World) (hw : Wd w) :
    Calls Tryz.prog 5 #[.int .i64 n] w fun e w' => e = .returned (.bool true) ∧ Below w.heap.size w w' := by
  have hDay := fun W => Day_any n n0 n1 W
  rw [← e1] at hDay
  obtain ⟨hdd1, hdd2⟩ := dayOf_isDay i1
  have hmon := i1.month
  have hwe : ∀ z : Int, wday (z + 1) = (wday z + 1) % 7 := fun z => by unfold wday; omega
  have hwb : ∀ z : Int, 0 ≤ wday z ∧ wday z ≤ 6 := fun z => by unfold wday; omega
  have hlt : Op.bytesLess (str (dayText y m d)).toList (str (dayText y (m + 1) 1)).toList = true := by
    rw [text_less i1 i2, (show dayOf y m d = dayOf y m d from rfl), e2]
    exact decide_eq_true (by omega)
  have hC1 := Civil_at y m d i1
  have hC2 := Civil_at y (m + 1) 1 i2
  have hW1 := fun W => Weekday_day _ (dayOf_isDay i1) W
  have hW2 := fun W => Weekday_day _ (dayOf_isDay i2) W
  have hT1 := fun W (hw : Wd W) => Text_at y m d i1 W hw.lens hw.tab
  have hT2 := fun W (hw : Wd W) => Text_at y (m + 1) 1 i2 W hw.lens hw.tab
  rw [(show dayOf y m d = dayOf y m d from rfl)] at hC1 hW1 hT1
  rw [e2] at hC2 hW2 hT2
  generalize str (dayText y m d) = t1 at *
  generalize str (dayText y (m + 1) 1) = t2 at *
  rw [hwe] at hW2
  have hwz := hwb (dayOf y m d)
  have i11 := i1.1
  have i12 := i1.2.1
  have i13 := i1.2.2.1
  have i14 := i1.2.2.2
  have hml := mlen_hi y m
  have HW := Lib.hid (fun W (h : Below w.heap.size w W) => hw.keep h)
  have C1 := Lib.hid (fun (W : World) (hW : Wd W) => HBg W hW)
  have C2 := Lib.hid (fun (W : World) (hW : Wd W) => hDay W)
  have C3 := Lib.hid (fun (W : World) (hW : Wd W) => hC1 W hW.lens)
  have C4 := Lib.hid (fun (W : World) (hW : Wd W) => hC2 W hW.lens)
  have C5 := Lib.hid (fun (W : World) (hW : Wd W) => hW2 W)
  have C6 := Lib.hid (fun (W : World) (hW : Wd W) => hW1 W)
  have C7 := Lib.hid (fun (W : World) (hW : Wd W) => hT1 W hW)
  have C8 := Lib.hid (fun (W : World) (hW : Wd W) => hT2 W hW)
  have CL := Lib.hid (fun (W : World) (hW : Wd W) => Length_any y m W hW.lens)
  have HR0 := Lib.hid (Below.refl w.heap.size w)
  clear i1 i2 e1 e2 hwe hwb hC1 hC2 hW1 hW2 hT1 hT2 hDay
  generalize wday (dayOf y m d) = wd at *
  generalize dayOf y m d = D at *
  have hd2 : ¬ d < mlen y m := by omega
  clear hd
  generalize mlen y m = ml at *
  clear hw
  go_enter Tryz.func5, Tryz.ntmps5
  go_wp2_with (first
    | (go_at_call 17; (with_reducible refine (C1.out _ (HW.out _ HR0.out)).mono ?_); rintro e W1 ⟨rfl, hb⟩
       have HR1 := Lib.hid (below_tr6 HR0.out hb rfl)
       clear C1 hb)
    | (go_at_call 19; (with_reducible refine (C2.out _ (HW.out _ HR1.out)).mono ?_); rintro e w9 ⟨rfl, rfl⟩
       have HR2 := Lib.hid HR1.out
       clear C2)
    | (go_at_call 20; (with_reducible refine (C3.out _ (HW.out _ HR2.out)).mono ?_); rintro e W3 ⟨rfl, hb⟩
       have M3_0 := Lib.hid (CAt.new W3 y m d)
       have HR3 := Lib.hid (Below.alloc (below_tr6 HR2.out hb rfl) (Below.size (below_tr6 HR2.out hb rfl)) (.cells #[.int .i64 y, .int .i64 m, .int .i64 d] 23))
       obtain ⟨q3_0_0, q3_0_1, q3_0_2, -⟩ := M3_0.out.cells
       clear C3 hb)
    | (go_at_call 20; (with_reducible refine (C4.out _ (HW.out _ HR3.out)).mono ?_); rintro e W4 ⟨rfl, hb⟩
       have M4_0 := Lib.hid (M3_0.out.below hb)
       have N4_0 := Lib.hid (M4_0.out.below ((Below.refl _ _).alloc (Nat.le_refl _) (.cells #[.int .i64 y, .int .i64 (m + 1), .int .i64 1] 23)))
       have M4_1 := Lib.hid (CAt.new W4 y (m + 1) 1)
       have HR4 := Lib.hid (Below.alloc (below_tr6 HR3.out hb rfl) (Below.size (below_tr6 HR3.out hb rfl)) (.cells #[.int .i64 y, .int .i64 (m + 1), .int .i64 1] 23))
       clear M4_0; have M4_0 := N4_0; clear N4_0
       obtain ⟨q4_0_0, q4_0_1, q4_0_2, -⟩ := M4_0.out.cells
       obtain ⟨q4_1_0, q4_1_1, q4_1_2, -⟩ := M4_1.out.cells
       clear q3_0_0 q3_0_1 q3_0_2 C4 hb)
    | (go_at_call 26; (with_reducible refine (C5.out _ (HW.out _ HR4.out)).mono ?_); rintro e w9 ⟨rfl, rfl⟩
       have HR5 := Lib.hid HR4.out
       clear C5)
    | (go_at_call 26; (with_reducible refine (C6.out _ (HW.out _ HR5.out)).mono ?_); rintro e w9 ⟨rfl, rfl⟩
       have HR6 := Lib.hid HR5.out
       clear C6)
    | (go_at_call 23; (with_reducible refine (C7.out _ (HW.out _ HR6.out)).mono ?_); rintro e W7 ⟨rfl, hb⟩
       have M7_0 := Lib.hid (M4_0.out.below hb)
       have M7_1 := Lib.hid (M4_1.out.below hb)
       have HR7 := Lib.hid (below_tr6 HR6.out hb rfl)
       obtain ⟨q7_0_0, q7_0_1, q7_0_2, -⟩ := M7_0.out.cells
       obtain ⟨q7_1_0, q7_1_1, q7_1_2, -⟩ := M7_1.out.cells
       clear q4_0_0 q4_0_1 q4_0_2 q4_1_0 q4_1_1 q4_1_2 C7 hb)
    | (go_at_call 23; (with_reducible refine (C8.out _ (HW.out _ HR7.out)).mono ?_); rintro e W8 ⟨rfl, hb⟩
       have M8_0 := Lib.hid (M7_0.out.below hb)
       have M8_1 := Lib.hid (M7_1.out.below hb)
       have HR8 := Lib.hid (below_tr6 HR7.out hb rfl)
       obtain ⟨q8_0_0, q8_0_1, q8_0_2, -⟩ := M8_0.out.cells
       obtain ⟨q8_1_0, q8_1_1, q8_1_2, -⟩ := M8_1.out.cells
       clear q7_0_0 q7_0_1 q7_0_2 q7_1_0 q7_1_1 q7_1_2 C8 hb)
    | (fail "no arm"))
  go_quiet (first | (go_at_call 33; with_reducible exact quiet_same (CL.out _ (HW.out _ (drewN_below6 HR8.out _)))))
  go_wp2
  go_ret
  exact ⟨rfl, drewN_below6 HR8.out nq⟩
set_option maxRecDepth 100000 in
set_option maxHeartbeats 4000000 in
theorem DateNext_year (HBg : BegunC) (n : Int) (n0 : -9223372036854775808 ≤ n) (n1 : n ≤ 9223372036854775807) (y d : Int) (i1 : IsCivil y 12 d) (e1 : dayOf y 12 d = n % 109573) (h9 : dayOf y 12 d < 109572) (i2 : IsCivil (y + 1) 1 1) (e2 : dayOf (y + 1) 1 1 = dayOf y 12 d + 1) (hd : d = mlen y 12) (w : World) (hw : Wd w) :
    Calls Tryz.prog 5 #[.int .i64 n] w fun e w' => e = .returned (.bool true) ∧ Below w.heap.size w w' := by
  have hDay := fun W => Day_any n n0 n1 W
  rw [← e1] at hDay
  obtain ⟨hdd1, hdd2⟩ := dayOf_isDay i1
  have hmon := i1.month
  have hwe : ∀ z : Int, wday (z + 1) = (wday z + 1) % 7 := fun z => by unfold wday; omega
  have hwb : ∀ z : Int, 0 ≤ wday z ∧ wday z ≤ 6 := fun z => by unfold wday; omega
  have hlt : Op.bytesLess (str (dayText y 12 d)).toList (str (dayText (y + 1) 1 1)).toList = true := by
    rw [text_less i1 i2, (show dayOf y 12 d = dayOf y 12 d from rfl), e2]
    exact decide_eq_true (by omega)
  have hC1 := Civil_at y 12 d i1
  have hC2 := Civil_at (y + 1) 1 1 i2
  have hW1 := fun W => Weekday_day _ (dayOf_isDay i1) W
  have hW2 := fun W => Weekday_day _ (dayOf_isDay i2) W
  have hT1 := fun W (hw : Wd W) => Text_at y 12 d i1 W hw.lens hw.tab
  have hT2 := fun W (hw : Wd W) => Text_at (y + 1) 1 1 i2 W hw.lens hw.tab
  rw [(show dayOf y 12 d = dayOf y 12 d from rfl)] at hC1 hW1 hT1
  rw [e2] at hC2 hW2 hT2
  generalize str (dayText y 12 d) = t1 at *
  generalize str (dayText (y + 1) 1 1) = t2 at *
  rw [hwe] at hW2
  have hwz := hwb (dayOf y 12 d)
  have i11 := i1.1
  have i12 := i1.2.1
  have i13 := i1.2.2.1
  have i14 := i1.2.2.2
  have hml := mlen_hi y 12
  have HW := Lib.hid (fun W (h : Below w.heap.size w W) => hw.keep h)
  have C1 := Lib.hid (fun (W : World) (hW : Wd W) => HBg W hW)
  have C2 := Lib.hid (fun (W : World) (hW : Wd W) => hDay W)
  have C3 := Lib.hid (fun (W : World) (hW : Wd W) => hC1 W hW.lens)
  have C4 := Lib.hid (fun (W : World) (hW : Wd W) => hC2 W hW.lens)
  have C5 := Lib.hid (fun (W : World) (hW : Wd W) => hW2 W)
  have C6 := Lib.hid (fun (W : World) (hW : Wd W) => hW1 W)
  have C7 := Lib.hid (fun (W : World) (hW : Wd W) => hT1 W hW)
  have C8 := Lib.hid (fun (W : World) (hW : Wd W) => hT2 W hW)
  have CL := Lib.hid (fun (W : World) (hW : Wd W) => Length_any y 12 W hW.lens)
  have HR0 := Lib.hid (Below.refl w.heap.size w)
  clear i1 i2 e1 e2 hwe hwb hC1 hC2 hW1 hW2 hT1 hT2 hDay
  generalize wday (dayOf y 12 d) = wd at *
  generalize dayOf y 12 d = D at *
  have hd2 : ¬ d < mlen y 12 := by omega
  clear hd
  generalize mlen y 12 = ml at *
  clear hw
  go_enter Tryz.func5, Tryz.ntmps5
  go_wp2_with (first
    | (go_at_call 17; (with_reducible refine (C1.out _ (HW.out _ HR0.out)).mono ?_); rintro e W1 ⟨rfl, hb⟩
       have HR1 := Lib.hid (below_tr6 HR0.out hb rfl)
       clear C1 hb)
    | (go_at_call 19; (with_reducible refine (C2.out _ (HW.out _ HR1.out)).mono ?_); rintro e w9 ⟨rfl, rfl⟩
       have HR2 := Lib.hid HR1.out
       clear C2)
    | (go_at_call 20; (with_reducible refine (C3.out _ (HW.out _ HR2.out)).mono ?_); rintro e W3 ⟨rfl, hb⟩
       have M3_0 := Lib.hid (CAt.new W3 y 12 d)
       have HR3 := Lib.hid (Below.alloc (below_tr6 HR2.out hb rfl) (Below.size (below_tr6 HR2.out hb rfl)) (.cells #[.int .i64 y, .int .i64 12, .int .i64 d] 23))
       obtain ⟨q3_0_0, q3_0_1, q3_0_2, -⟩ := M3_0.out.cells
       clear C3 hb)
    | (go_at_call 20; (with_reducible refine (C4.out _ (HW.out _ HR3.out)).mono ?_); rintro e W4 ⟨rfl, hb⟩
       have M4_0 := Lib.hid (M3_0.out.below hb)
       have N4_0 := Lib.hid (M4_0.out.below ((Below.refl _ _).alloc (Nat.le_refl _) (.cells #[.int .i64 (y + 1), .int .i64 1, .int .i64 1] 23)))
       have M4_1 := Lib.hid (CAt.new W4 (y + 1) 1 1)
       have HR4 := Lib.hid (Below.alloc (below_tr6 HR3.out hb rfl) (Below.size (below_tr6 HR3.out hb rfl)) (.cells #[.int .i64 (y + 1), .int .i64 1, .int .i64 1] 23))
       clear M4_0; have M4_0 := N4_0; clear N4_0
       obtain ⟨q4_0_0, q4_0_1, q4_0_2, -⟩ := M4_0.out.cells
       obtain ⟨q4_1_0, q4_1_1, q4_1_2, -⟩ := M4_1.out.cells
       clear q3_0_0 q3_0_1 q3_0_2 C4 hb)
    | (go_at_call 26; (with_reducible refine (C5.out _ (HW.out _ HR4.out)).mono ?_); rintro e w9 ⟨rfl, rfl⟩
       have HR5 := Lib.hid HR4.out
       clear C5)
    | (go_at_call 26; (with_reducible refine (C6.out _ (HW.out _ HR5.out)).mono ?_); rintro e w9 ⟨rfl, rfl⟩
       have HR6 := Lib.hid HR5.out
       clear C6)
    | (go_at_call 23; (with_reducible refine (C7.out _ (HW.out _ HR6.out)).mono ?_); rintro e W7 ⟨rfl, hb⟩
       have M7_0 := Lib.hid (M4_0.out.below hb)
       have M7_1 := Lib.hid (M4_1.out.below hb)
       have HR7 := Lib.hid (below_tr6 HR6.out hb rfl)
       obtain ⟨q7_0_0, q7_0_1, q7_0_2, -⟩ := M7_0.out.cells
       obtain ⟨q7_1_0, q7_1_1, q7_1_2, -⟩ := M7_1.out.cells
       clear q4_0_0 q4_0_1 q4_0_2 q4_1_0 q4_1_1 q4_1_2 C7 hb)
    | (go_at_call 23; (with_reducible refine (C8.out _ (HW.out _ HR7.out)).mono ?_); rintro e W8 ⟨rfl, hb⟩
       have M8_0 := Lib.hid (M7_0.out.below hb)
       have M8_1 := Lib.hid (M7_1.out.below hb)
       have HR8 := Lib.hid (below_tr6 HR7.out hb rfl)
       obtain ⟨q8_0_0, q8_0_1, q8_0_2, -⟩ := M8_0.out.cells
       obtain ⟨q8_1_0, q8_1_1, q8_1_2, -⟩ := M8_1.out.cells
       clear q7_0_0 q7_0_1 q7_0_2 q7_1_0 q7_1_1 q7_1_2 C8 hb)
    | (fail "no arm"))
  go_quiet (first | (go_at_call 33; with_reducible exact quiet_same (CL.out _ (HW.out _ (drewN_below6 HR8.out _)))))
  go_wp2
  go_ret
  exact ⟨rfl, drewN_below6 HR8.out nq⟩
theorem DateNext_walk (HBg : BegunC) (n : Int) (n0 : -9223372036854775808 ≤ n) (n1 : n ≤ 9223372036854775807) (w : World) (hw : Wd w) :
    Calls Tryz.prog 5 #[.int .i64 n] w fun e w' => e = .returned (.bool true) ∧ Below w.heap.size w w' := by
  by_cases h : n % 109573 = 109572
  · exact DateNext_last HBg n n0 n1 h w hw
  · obtain ⟨y, m, d, hc, hD⟩ := (Day_isDay n).civil
    have h9 : dayOf y m d < 109572 := by omega
    rcases day_next hc h9 with ⟨a, b, c⟩ | ⟨a, a', b, c⟩ | ⟨a, a', b, c⟩
    · exact DateNext_day HBg n n0 n1 y m d hc hD h9 b c a w hw
    · exact DateNext_month HBg n n0 n1 y m d hc hD h9 b c a a' w hw
    · subst a'
      exact DateNext_year HBg n n0 n1 y d hc hD h9 b c a w hw
end Go.Proofs.YtlhmfgbaefaneaaGreatDoor.law6
