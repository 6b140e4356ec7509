/-
  The steps of the walks, part 2: Lw6MonthParts.
-/
import Derived.BigQuiet
import Derived.Deep.QuietTactic
import Derived.Test.YtlhmfgbaefaneabGreatDoorB01
import Derived.Test.YtlhmfgbaefaneabGreatDoorB02
import Derived.Test.YtlhmfgbaefaneabGreatDoorB03
import Derived.Test.YtlhmfgbaefaneabGreatDoorB04
import Derived.Test.YtlhmfgbaefaneabGreatDoorB05
import Derived.Test.YtlhmfgbaefaneabGreatDoorB06
import Derived.Test.YtlhmfgbaefaneabGreatDoorB07
import Derived.Test.YtlhmfgbaefaneabGreatDoorB08
import Derived.Test.YtlhmfgbaefaneabGreatDoorB09
import Derived.Test.YtlhmfgbaefaneabGreatDoorB10
import Derived.Test.YtlhmfgbaefaneabGreatDoorB11
import Derived.Test.YtlhmfgbaefaneabGreatDoorB12
import Derived.Test.YtlhmfgbaefaneabGreatDoorB13
import Derived.Test.YtlhmfgbaefaneabGreatDoorB14
import Derived.Test.YtlhmfgbaefaneabGreatDoorB15
import Derived.Test.YtlhmfgbaefaneabGreatDoorB16
import Derived.Test.YtlhmfgbaefaneabGreatDoorB17
import Derived.Test.YtlhmfgbaefaneabGreatDoorB18
import Derived.Test.YtlhmfgbaefaneabGreatDoorB19
import Derived.Test.YtlhmfgbaefaneabGreatDoorB20
import Derived.Test.YtlhmfgbaefaneabGreatDoorB21
import Derived.Test.YtlhmfgbaefaneabGreatDoorB22
import Derived.Test.YtlhmfgbaefaneabGreatDoorB23
import Derived.Test.YtlhmfgbaefaneabGreatDoorB24
import Derived.Test.YtlhmfgbaefaneabGreatDoorB25
import Derived.Test.YtlhmfgbaefaneabGreatDoorB26
import Derived.Test.YtlhmfgbaefaneabGreatDoorB27
import Derived.Test.YtlhmfgbaefaneabGreatDoorB28
import Derived.Test.YtlhmfgbaefaneabGreatDoorB29
import Derived.Test.YtlhmfgbaefaneabGreatDoorB30
import Derived.Test.YtlhmfgbaefaneabGreatDoorB31
import Derived.Test.YtlhmfgbaefaneabGreatDoorB32
import Derived.Test.YtlhmfgbaefaneabGreatDoorB33
import Derived.Test.YtlhmfgbaefaneabGreatDoorB34
import Derived.Test.YtlhmfgbaefaneabGreatDoorB35
import Derived.Test.YtlhmfgbaefaneabGreatDoorB36
import Derived.Test.YtlhmfgbaefaneabGreatDoorB37
import Derived.Test.YtlhmfgbaefaneabGreatDoorB38
import Derived.Test.YtlhmfgbaefaneabGreatDoorB39
import Derived.Test.YtlhmfgbaefaneabGreatDoorB40
import Derived.Test.YtlhmfgbaefaneabGreatDoorLMonthParts01
namespace Go.Proofs.YtlhmfgbaefaneabGreatDoor.law6
open Go Go.RowKit Go.Proofs.YtlhmfgbaefaneabGreatDoor.day Go.Proofs.YtlhmfgbaefaneabGreatDoor.date
open Go.Proofs.YtlhmfgbaefaneabGreatDoor.ref (str str_size)
open Go.Proofs.YtlhmfgbaefaneabGreatDoor.ref6 (CAt dayText DayForm quiet_same drewN_below6)
open Go.Proofs.YtlhmfgbaefaneabGreatDoor.ref6 (clip)
set_option maxRecDepth 100000 in
set_option maxHeartbeats 4000000 in
theorem MonthParts_N (HBg : BegunC) (n : Int) (n0 : -9223372036854775808 ≤ n) (n1 : n ≤ 9223372036854775807) (a b : Int) (A B : Int) (HA : a.tmod 300 = A) (HB : b.tmod 300 = B) (hA0 : -300 < A ∧ A < 300) (hB0 : -300 < B ∧ B < 300) (D : Int) (hD : n % 109573 = D)
    (P1 : (∀ W, Wd W → Calls Tryz.prog 35 #[.int .i64 D, .int .i64 A, .bool true] W fun e w' => e = .returned (.tuple #[.int .i64 0, errOf 4]) ∧ Below W.heap.size W w')) (w : World) (hw : Wd w) :
    Calls Tryz.prog 7 #[.int .i64 n, .int .i64 a, .int .i64 b] w fun e w' => e = .returned (.bool true) ∧ Below w.heap.size w w' := by
  have hDay := fun W => Day_any n n0 n1 W
  rw [hD] at hDay
  have _ := hA0
  have _ := hB0
  have _ := HB
  have HW := Lib.hid (fun W (h : Below w.heap.size w W) => hw.keep h)
  have C1 := Lib.hid (fun (W : World) (hW : Wd W) => HBg W hW)
  have C2 := Lib.hid (fun (W : World) (hW : Wd W) => hDay W)
  have C3 := Lib.hid (fun (W : World) (hW : Wd W) => P1 W hW)
  have C4 := Lib.hid (fun (W : World) (hW : Wd W) => Same_code 4 W hW)
  have HR0 := Lib.hid (Below.refl w.heap.size w)
  unfold errOf at *
  obtain ⟨hA1, hA2⟩ := hA0
  obtain ⟨hB1, hB2⟩ := hB0
  clear hDay hD P1
  clear hw
  go_enter Tryz.func7, Tryz.ntmps7
  go_wp2_with (first
    | (go_at_call 20; (with_reducible refine (C1.out _ (HW.out _ HR0.out)).mono ?_); rintro e W1 ⟨rfl, hb⟩
       have HR1 := Lib.hid (below_tr6 HR0.out hb rfl)
       clear C1 hb)
    | (go_at_call 28; (with_reducible refine (C2.out _ (HW.out _ HR1.out)).mono ?_); rintro e w9 ⟨rfl, rfl⟩
       have HR2 := Lib.hid HR1.out
       clear C2)
    | (go_at_call 35; (with_reducible refine (C3.out _ (HW.out _ HR2.out)).mono ?_); rintro e W3 ⟨rfl, hb⟩
       have HR3 := Lib.hid (below_tr6 HR2.out hb rfl)
       clear C3 hb)
    | (go_at_call 23; (with_reducible refine (C4.out _ (HW.out _ HR3.out)).mono ?_); rintro e W4 ⟨rfl, hb⟩
       have HR4 := Lib.hid (below_tr6 HR3.out hb rfl)
       clear C4 hb)
    | (fail "no arm"))
  go_ret
  exact ⟨rfl, HR4.out⟩
set_option maxRecDepth 100000 in
set_option maxHeartbeats 4000000 in
theorem MonthParts_F (HBg : BegunC) (n : Int) (n0 : -9223372036854775808 ≤ n) (n1 : n ≤ 9223372036854775807) (a b : Int) (A B : Int) (HA : a.tmod 300 = A) (HB : b.tmod 300 = B) (hA0 : -300 < A ∧ A < 300) (hB0 : -300 < B ∧ B < 300) (D : Int) (hD : n % 109573 = D) (X : Int)
    (P1 : (∀ W, Wd W → Calls Tryz.prog 35 #[.int .i64 D, .int .i64 A, .bool true] W fun e w' => e = .returned (.tuple #[.int .i64 X, .nilIface]) ∧ Below W.heap.size W w')) (P2 : (∀ W, Wd W → Calls Tryz.prog 35 #[.int .i64 X, .int .i64 B, .bool true] W fun e w' => e = .returned (.tuple #[.int .i64 0, errOf 4]) ∧ Below W.heap.size W w')) (P3 : (∀ W, Wd W → Calls Tryz.prog 35 #[.int .i64 D, .int .i64 (A + B), .bool true] W fun e w' => e = .returned (.tuple #[.int .i64 0, errOf 4]) ∧ Below W.heap.size W w')) (w : World) (hw : Wd w) :
    Calls Tryz.prog 7 #[.int .i64 n, .int .i64 a, .int .i64 b] w fun e w' => e = .returned (.bool true) ∧ Below w.heap.size w w' := by
  have hDay := fun W => Day_any n n0 n1 W
  rw [hD] at hDay
  have _ := hA0
  have _ := hB0
  have _ := HB
  have HW := Lib.hid (fun W (h : Below w.heap.size w W) => hw.keep h)
  have C1 := Lib.hid (fun (W : World) (hW : Wd W) => HBg W hW)
  have C2 := Lib.hid (fun (W : World) (hW : Wd W) => hDay W)
  have C3 := Lib.hid (fun (W : World) (hW : Wd W) => P1 W hW)
  have C4 := Lib.hid (fun (W : World) (hW : Wd W) => P2 W hW)
  have C5 := Lib.hid (fun (W : World) (hW : Wd W) => P3 W hW)
  have HR0 := Lib.hid (Below.refl w.heap.size w)
  unfold errOf at *
  obtain ⟨hA1, hA2⟩ := hA0
  obtain ⟨hB1, hB2⟩ := hB0
  clear hDay hD P1 P2 P3
  clear hw
  go_enter Tryz.func7, Tryz.ntmps7
  go_wp2_with (first
    | (go_at_call 20; (with_reducible refine (C1.out _ (HW.out _ HR0.out)).mono ?_); rintro e W1 ⟨rfl, hb⟩
       have HR1 := Lib.hid (below_tr6 HR0.out hb rfl)
       clear C1 hb)
    | (go_at_call 28; (with_reducible refine (C2.out _ (HW.out _ HR1.out)).mono ?_); rintro e w9 ⟨rfl, rfl⟩
       have HR2 := Lib.hid HR1.out
       clear C2)
    | (go_at_call 35; (with_reducible refine (C3.out _ (HW.out _ HR2.out)).mono ?_); rintro e W3 ⟨rfl, hb⟩
       have HR3 := Lib.hid (below_tr6 HR2.out hb rfl)
       clear C3 hb)
    | (go_at_call 35; (with_reducible refine (C4.out _ (HW.out _ HR3.out)).mono ?_); rintro e W4 ⟨rfl, hb⟩
       have HR4 := Lib.hid (below_tr6 HR3.out hb rfl)
       clear C4 hb)
    | (go_at_call 35; (with_reducible refine (C5.out _ (HW.out _ HR4.out)).mono ?_); rintro e W5 ⟨rfl, hb⟩
       have HR5 := Lib.hid (below_tr6 HR4.out hb rfl)
       clear C5 hb)
    | (fail "no arm"))
  go_quiet (fail)
  go_wp2
  go_ret
  exact ⟨rfl, drewN_below6 HR5.out nq⟩
set_option maxRecDepth 100000 in
set_option maxHeartbeats 4000000 in
theorem MonthParts_G (HBg : BegunC) (n : Int) (n0 : -9223372036854775808 ≤ n) (n1 : n ≤ 9223372036854775807) (a b : Int) (A B : Int) (HA : a.tmod 300 = A) (HB : b.tmod 300 = B) (hA0 : -300 < A ∧ A < 300) (hB0 : -300 < B ∧ B < 300) (D : Int) (hD : n % 109573 = D) (X : Int) (E E2 : Int) (y m d : Int) (hd : 27 < d)
    (P1 : (∀ W, Wd W → Calls Tryz.prog 35 #[.int .i64 D, .int .i64 A, .bool true] W fun e w' => e = .returned (.tuple #[.int .i64 X, .nilIface]) ∧ Below W.heap.size W w')) (P2 : (∀ W, Wd W → Calls Tryz.prog 35 #[.int .i64 X, .int .i64 B, .bool true] W fun e w' => e = .returned (.tuple #[.int .i64 E, .nilIface]) ∧ Below W.heap.size W w')) (P3 : (∀ W, Wd W → Calls Tryz.prog 35 #[.int .i64 D, .int .i64 (A + B), .bool true] W fun e w' => e = .returned (.tuple #[.int .i64 E2, .nilIface]) ∧ Below W.heap.size W w')) (P4 : (∀ W, Wd W → Calls Tryz.prog 36 #[.int .i64 D] W fun e w' => e = .returned (.tuple #[.agg #[.int .i64 y, .int .i64 m, .int .i64 d], .nilIface]) ∧ Below W.heap.size W w')) (P5 : (∀ W, Wd W → Calls Tryz.prog 25 #[.int .i64 E, .int .i64 E2] W fun e w' => e = .returned (.int .i64 0) ∧ Below W.heap.size W w')) (w : World) (hw : Wd w) :
    Calls Tryz.prog 7 #[.int .i64 n, .int .i64 a, .int .i64 b] w fun e w' => e = .returned (.bool true) ∧ Below w.heap.size w w' := by
  have hDay := fun W => Day_any n n0 n1 W
  rw [hD] at hDay
  have _ := hA0
  have _ := hB0
  have _ := HB
  have HW := Lib.hid (fun W (h : Below w.heap.size w W) => hw.keep h)
  have C1 := Lib.hid (fun (W : World) (hW : Wd W) => HBg W hW)
  have C2 := Lib.hid (fun (W : World) (hW : Wd W) => hDay W)
  have C3 := Lib.hid (fun (W : World) (hW : Wd W) => P1 W hW)
  have C4 := Lib.hid (fun (W : World) (hW : Wd W) => P2 W hW)
  have C5 := Lib.hid (fun (W : World) (hW : Wd W) => P3 W hW)
  have C6 := Lib.hid (fun (W : World) (hW : Wd W) => P4 W hW)
  have C7 := Lib.hid (fun (W : World) (hW : Wd W) => P5 W hW)
  have HR0 := Lib.hid (Below.refl w.heap.size w)
  unfold errOf at *
  obtain ⟨hA1, hA2⟩ := hA0
  obtain ⟨hB1, hB2⟩ := hB0
  clear hDay hD P1 P2 P3 P4 P5
  clear hw
  go_enter Tryz.func7, Tryz.ntmps7
  go_wp2_with (first
    | (go_at_call 20; (with_reducible refine (C1.out _ (HW.out _ HR0.out)).mono ?_); rintro e W1 ⟨rfl, hb⟩
       have HR1 := Lib.hid (below_tr6 HR0.out hb rfl)
       clear C1 hb)
    | (go_at_call 28; (with_reducible refine (C2.out _ (HW.out _ HR1.out)).mono ?_); rintro e w9 ⟨rfl, rfl⟩
       have HR2 := Lib.hid HR1.out
       clear C2)
    | (go_at_call 35; (with_reducible refine (C3.out _ (HW.out _ HR2.out)).mono ?_); rintro e W3 ⟨rfl, hb⟩
       have HR3 := Lib.hid (below_tr6 HR2.out hb rfl)
       clear C3 hb)
    | (go_at_call 35; (with_reducible refine (C4.out _ (HW.out _ HR3.out)).mono ?_); rintro e W4 ⟨rfl, hb⟩
       have HR4 := Lib.hid (below_tr6 HR3.out hb rfl)
       clear C4 hb)
    | (go_at_call 35; (with_reducible refine (C5.out _ (HW.out _ HR4.out)).mono ?_); rintro e W5 ⟨rfl, hb⟩
       have HR5 := Lib.hid (below_tr6 HR4.out hb rfl)
       clear C5 hb)
    | (go_at_call 36; (with_reducible refine (C6.out _ (HW.out _ HR5.out)).mono ?_); rintro e W6 ⟨rfl, hb⟩
       have M6_0 := Lib.hid (CAt.new W6 y m d)
       have HR6 := Lib.hid (Below.alloc (below_tr6 HR5.out hb rfl) (Below.size (below_tr6 HR5.out hb rfl)) (.cells #[.int .i64 y, .int .i64 m, .int .i64 d] 48))
       obtain ⟨q6_0_0, q6_0_1, q6_0_2, -⟩ := M6_0.out.cells
       clear C6 hb)
    | (go_at_call 25; (with_reducible refine (C7.out _ (HW.out _ HR6.out)).mono ?_); rintro e W7 ⟨rfl, hb⟩
       have M7_0 := Lib.hid (M6_0.out.below hb)
       have HR7 := Lib.hid (below_tr6 HR6.out hb rfl)
       obtain ⟨q7_0_0, q7_0_1, q7_0_2, -⟩ := M7_0.out.cells
       clear q6_0_0 q6_0_1 q6_0_2 C7 hb)
    | (fail "no arm"))
  go_ret
  exact ⟨rfl, HR7.out⟩
set_option maxRecDepth 100000 in
set_option maxHeartbeats 4000000 in
theorem MonthParts_H (HBg : BegunC) (n : Int) (n0 : -9223372036854775808 ≤ n) (n1 : n ≤ 9223372036854775807) (a b : Int) (A B : Int) (HA : a.tmod 300 = A) (HB : b.tmod 300 = B) (hA0 : -300 < A ∧ A < 300) (hB0 : -300 < B ∧ B < 300) (D : Int) (hD : n % 109573 = D) (X : Int) (E : Int) (y m d : Int) (hd : ¬ 27 < d)
    (P1 : (∀ W, Wd W → Calls Tryz.prog 35 #[.int .i64 D, .int .i64 A, .bool true] W fun e w' => e = .returned (.tuple #[.int .i64 X, .nilIface]) ∧ Below W.heap.size W w')) (P2 : (∀ W, Wd W → Calls Tryz.prog 35 #[.int .i64 X, .int .i64 B, .bool true] W fun e w' => e = .returned (.tuple #[.int .i64 E, .nilIface]) ∧ Below W.heap.size W w')) (P3 : (∀ W, Wd W → Calls Tryz.prog 35 #[.int .i64 D, .int .i64 (A + B), .bool true] W fun e w' => e = .returned (.tuple #[.int .i64 E, .nilIface]) ∧ Below W.heap.size W w')) (P4 : (∀ W, Wd W → Calls Tryz.prog 36 #[.int .i64 D] W fun e w' => e = .returned (.tuple #[.agg #[.int .i64 y, .int .i64 m, .int .i64 d], .nilIface]) ∧ Below W.heap.size W w')) (P5 : (∀ W, Wd W → Calls Tryz.prog 25 #[.int .i64 E, .int .i64 E] W fun e w' => e = .returned (.int .i64 0) ∧ Below W.heap.size W w')) (w : World) (hw : Wd w) :
    Calls Tryz.prog 7 #[.int .i64 n, .int .i64 a, .int .i64 b] w fun e w' => e = .returned (.bool true) ∧ Below w.heap.size w w' := by
  have hDay := fun W => Day_any n n0 n1 W
  rw [hD] at hDay
  have _ := hA0
  have _ := hB0
  have _ := HB
  have HW := Lib.hid (fun W (h : Below w.heap.size w W) => hw.keep h)
  have C1 := Lib.hid (fun (W : World) (hW : Wd W) => HBg W hW)
  have C2 := Lib.hid (fun (W : World) (hW : Wd W) => hDay W)
  have C3 := Lib.hid (fun (W : World) (hW : Wd W) => P1 W hW)
  have C4 := Lib.hid (fun (W : World) (hW : Wd W) => P2 W hW)
  have C5 := Lib.hid (fun (W : World) (hW : Wd W) => P3 W hW)
  have C6 := Lib.hid (fun (W : World) (hW : Wd W) => P4 W hW)
  have C7 := Lib.hid (fun (W : World) (hW : Wd W) => P5 W hW)
  have HR0 := Lib.hid (Below.refl w.heap.size w)
  unfold errOf at *
  obtain ⟨hA1, hA2⟩ := hA0
  obtain ⟨hB1, hB2⟩ := hB0
  clear hDay hD P1 P2 P3 P4 P5
  clear hw
  go_enter Tryz.func7, Tryz.ntmps7
  go_wp2_with (first
    | (go_at_call 20; (with_reducible refine (C1.out _ (HW.out _ HR0.out)).mono ?_); rintro e W1 ⟨rfl, hb⟩
       have HR1 := Lib.hid (below_tr6 HR0.out hb rfl)
       clear C1 hb)
    | (go_at_call 28; (with_reducible refine (C2.out _ (HW.out _ HR1.out)).mono ?_); rintro e w9 ⟨rfl, rfl⟩
       have HR2 := Lib.hid HR1.out
       clear C2)
    | (go_at_call 35; (with_reducible refine (C3.out _ (HW.out _ HR2.out)).mono ?_); rintro e W3 ⟨rfl, hb⟩
       have HR3 := Lib.hid (below_tr6 HR2.out hb rfl)
       clear C3 hb)
    | (go_at_call 35; (with_reducible refine (C4.out _ (HW.out _ HR3.out)).mono ?_); rintro e W4 ⟨rfl, hb⟩
       have HR4 := Lib.hid (below_tr6 HR3.out hb rfl)
       clear C4 hb)
    | (go_at_call 35; (with_reducible refine (C5.out _ (HW.out _ HR4.out)).mono ?_); rintro e W5 ⟨rfl, hb⟩
       have HR5 := Lib.hid (below_tr6 HR4.out hb rfl)
       clear C5 hb)
    | (go_at_call 36; (with_reducible refine (C6.out _ (HW.out _ HR5.out)).mono ?_); rintro e W6 ⟨rfl, hb⟩
       have M6_0 := Lib.hid (CAt.new W6 y m d)
       have HR6 := Lib.hid (Below.alloc (below_tr6 HR5.out hb rfl) (Below.size (below_tr6 HR5.out hb rfl)) (.cells #[.int .i64 y, .int .i64 m, .int .i64 d] 48))
       obtain ⟨q6_0_0, q6_0_1, q6_0_2, -⟩ := M6_0.out.cells
       clear C6 hb)
    | (go_at_call 25; (with_reducible refine (C7.out _ (HW.out _ HR6.out)).mono ?_); rintro e W7 ⟨rfl, hb⟩
       have M7_0 := Lib.hid (M6_0.out.below hb)
       have HR7 := Lib.hid (below_tr6 HR6.out hb rfl)
       obtain ⟨q7_0_0, q7_0_1, q7_0_2, -⟩ := M7_0.out.cells
       clear q6_0_0 q6_0_1 q6_0_2 C7 hb)
    | (fail "no arm"))
  go_ret
  exact ⟨rfl, HR7.out⟩
theorem clip_small {y m d Y M : Int} (hd : d ≤ 27) (h1 : 1 ≤ m) (h2 : m ≤ 12) (h3 : 1 ≤ M) (h4 : M ≤ 12) : clip true y m d Y M = d := by
  have := mlen_lo (y := y) h1 h2
  have := mlen_lo (y := Y) h3 h4
  unfold clip
  rw [if_neg (by omega)]
theorem tm_in (a : Int) (N : Int) (hN : 0 < N) : -N < a.tmod N ∧ a.tmod N < N := by
  refine ⟨?_, Int.tmod_lt_of_pos a hN⟩
  rcases Int.le_total 0 a with h | h
  · rw [Int.tmod_eq_emod_of_nonneg h]; have := Int.emod_nonneg a (show N ≠ 0 by omega); omega
  · have e := Int.tmod_eq_emod_of_nonneg (b := N) (show 0 ≤ -a by omega)
    rw [Int.neg_tmod] at e
    have := Int.emod_lt_of_pos (-a) hN
    omega
theorem MonthParts_walk (HBg : BegunC) (HM : MonC) (n : Int) (n0 : -9223372036854775808 ≤ n) (n1 : n ≤ 9223372036854775807) (a b : Int) (w : World) (hw : Wd w) :
    Calls Tryz.prog 7 #[.int .i64 n, .int .i64 a, .int .i64 b] w fun e w' => e = .returned (.bool true) ∧ Below w.heap.size w w' := by
  obtain ⟨y, m, d, hc, hD⟩ := (Day_isDay n).civil
  have hA0 := tm_in a 300 (by decide)
  have hB0 := tm_in b 300 (by decide)
  obtain ⟨A, hA⟩ : ∃ A, a.tmod 300 = A := ⟨_, rfl⟩
  obtain ⟨B, hB⟩ : ∃ B, b.tmod 300 = B := ⟨_, rfl⟩
  rw [hA] at hA0
  rw [hB] at hB0
  have hmon := hc.month
  by_cases hY : 1900 ≤ mY y m A ∧ mY y m A ≤ 2199
  · have P1 := HM.addYes y m d A true hc (by omega) (by omega) hY.1 hY.2
    have hM := mM_in y m A
    have hT := mY_mM y m A
    have hM3 := mM_in y m (A + B)
    have hT3 := mY_mM y m (A + B)
    have n3 := HM.addNo y m d (A + B) true (by omega) (by omega) hc
    have y3 := HM.addYes y m d (A + B) true hc (by omega) (by omega)
    have s1 : d ≤ 27 → clip true y m d (mY y m A) (mM y m A) = d := fun h => clip_small h hmon.1 hmon.2 hM.1 hM.2
    have s3 : d ≤ 27 → clip true y m d (mY y m (A + B)) (mM y m (A + B)) = d := fun h => clip_small h hmon.1 hmon.2 hM3.1 hM3.2
    have c3 := clip_in (fin := true) (y := y) (m := m) (d := d) (Y := mY y m (A + B)) (M := mM y m (A + B)) hc.2.2.1 hM3.1 hM3.2
    generalize mY y m A = Y at *
    generalize mM y m A = M at *
    have c1 := clip_in (fin := true) (y := y) (m := m) (d := d) (Y := Y) (M := M) hc.2.2.1 hM.1 hM.2
    generalize clip true y m d Y M = D1 at *
    have hc1 : IsCivil Y M D1 := ⟨hY.1, hY.2, c1.1, c1.2⟩
    have n2 := HM.addNo Y M D1 B true (by omega) (by omega) hc1
    have y2 := HM.addYes Y M D1 B true hc1 (by omega) (by omega)
    obtain ⟨e1, e2⟩ := mY_eq (y := Y) (m := M) (k := B) (Y := mY y m (A + B)) (M := mM y m (A + B)) (by omega) hM3.1 hM3.2
    rw [e1] at n2
    rw [e1, e2] at y2
    have s2 : D1 ≤ 27 → clip true Y M D1 (mY y m (A + B)) (mM y m (A + B)) = D1 := fun h => clip_small h hM.1 hM.2 hM3.1 hM3.2
    have c2 := clip_in (fin := true) (y := Y) (m := M) (d := D1) (Y := mY y m (A + B)) (M := mM y m (A + B)) c1.1 hM3.1 hM3.2
    generalize mY y m (A + B) = Y3 at *
    generalize mM y m (A + B) = M3 at *
    generalize clip true y m d Y3 M3 = D3 at *
    generalize clip true Y M D1 Y3 M3 = D2 at *
    by_cases hY3 : 1900 ≤ Y3 ∧ Y3 ≤ 2199
    · have P2 := y2 hY3.1 hY3.2
      have P3 := y3 hY3.1 hY3.2
      have P4 := fun W (hW : Wd W) => Civil_at y m d hc W hW.lens
      have P5 := HM.between Y3 M3 D2 Y3 M3 D3 ⟨hY3.1, hY3.2, c2.1, c2.2⟩ ⟨hY3.1, hY3.2, c3.1, c3.2⟩
      rw [show 12 * (Y3 - Y3) + (M3 - M3) = 0 by omega] at P5
      rw [hD] at P1 P3 P4
      by_cases hd : 27 < d
      · exact MonthParts_G HBg n n0 n1 a b A B hA hB hA0 hB0 _ rfl _ _ _ y m d hd P1 P2 P3 P4 P5 w hw
      · have h1 := s1 (by omega)
        rw [s2 (by omega), h1] at P2
        rw [s3 (by omega)] at P3
        rw [s2 (by omega), s3 (by omega), h1] at P5
        rw [h1] at P1
        exact MonthParts_H HBg n n0 n1 a b A B hA hB hA0 hB0 _ rfl _ _ y m d hd P1 P2 P3 P4 P5 w hw
    · have P2 := n2 (fun h => hY3 ⟨h.2.2.1, h.2.2.2⟩)
      have P3 := n3 (fun h => hY3 ⟨h.2.2.1, h.2.2.2⟩)
      rw [hD] at P1 P3
      exact MonthParts_F HBg n n0 n1 a b A B hA hB hA0 hB0 _ rfl _ P1 P2 P3 w hw
  · have P1 := HM.addNo y m d A true (by omega) (by omega) hc (fun h => hY ⟨h.2.2.1, h.2.2.2⟩)
    rw [hD] at P1
    exact MonthParts_N HBg n n0 n1 a b A B hA hB hA0 hB0 _ rfl P1 w hw
end Go.Proofs.YtlhmfgbaefaneabGreatDoor.law6
