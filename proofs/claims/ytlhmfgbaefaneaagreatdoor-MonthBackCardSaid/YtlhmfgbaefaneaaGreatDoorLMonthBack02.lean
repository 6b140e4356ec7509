/-
  The steps of the walks, part 2: Lw6MonthBack.
-/
import Derived.BigQuiet
import Derived.Deep.QuietTactic
import Derived.Test.YtlhmfgbaefaneaaGreatDoorB01
import Derived.Test.YtlhmfgbaefaneaaGreatDoorB02
import Derived.Test.YtlhmfgbaefaneaaGreatDoorB03
import Derived.Test.YtlhmfgbaefaneaaGreatDoorB04
import Derived.Test.YtlhmfgbaefaneaaGreatDoorB05
import Derived.Test.YtlhmfgbaefaneaaGreatDoorB06
import Derived.Test.YtlhmfgbaefaneaaGreatDoorB07
import Derived.Test.YtlhmfgbaefaneaaGreatDoorB08
import Derived.Test.YtlhmfgbaefaneaaGreatDoorB09
import Derived.Test.YtlhmfgbaefaneaaGreatDoorB10
import Derived.Test.YtlhmfgbaefaneaaGreatDoorB11
import Derived.Test.YtlhmfgbaefaneaaGreatDoorB12
import Derived.Test.YtlhmfgbaefaneaaGreatDoorB13
import Derived.Test.YtlhmfgbaefaneaaGreatDoorB14
import Derived.Test.YtlhmfgbaefaneaaGreatDoorB15
import Derived.Test.YtlhmfgbaefaneaaGreatDoorB16
import Derived.Test.YtlhmfgbaefaneaaGreatDoorB17
import Derived.Test.YtlhmfgbaefaneaaGreatDoorB18
import Derived.Test.YtlhmfgbaefaneaaGreatDoorB19
import Derived.Test.YtlhmfgbaefaneaaGreatDoorB20
import Derived.Test.YtlhmfgbaefaneaaGreatDoorB21
import Derived.Test.YtlhmfgbaefaneaaGreatDoorB22
import Derived.Test.YtlhmfgbaefaneaaGreatDoorLMonthBack01
namespace Go.Proofs.YtlhmfgbaefaneaaGreatDoor.law6
open Go Go.RowKit Go.Proofs.YtlhmfgbaefaneaaGreatDoor.day Go.Proofs.YtlhmfgbaefaneaaGreatDoor.date
open Go.Proofs.YtlhmfgbaefaneaaGreatDoor.ref (str str_size)
open Go.Proofs.YtlhmfgbaefaneaaGreatDoor.ref6 (CAt dayText DayForm quiet_same drewN_below6)
open Go.Proofs.YtlhmfgbaefaneaaGreatDoor.ref6 (clip)
set_option maxRecDepth 100000 in
set_option maxHeartbeats 4000000 in
theorem MonthBack_Y1 (HBg : BegunC) (n : Int) (n0 : -9223372036854775808 ≤ n) (n1 : n ≤ 9223372036854775807) (k : Int) (k0 : -9223372036854775808 ≤ k) (k1 : k ≤ 9223372036854775807) (K : Int) (HT : k.tmod 600 % 600 = K) (hK0 : 0 ≤ K) (hK1 : K ≤ 599) (D : Int) (hD : n % 109573 = D) (A E : Int) (y m d D2 : Int) (hE : E = D)
    (P1 : (∀ W, Wd W → Calls Tryz.prog 35 #[.int .i64 D, .int .i64 K, .bool true] W fun e w' => e = .returned (.tuple #[.int .i64 A, .nilIface]) ∧ Below W.heap.size W w')) (P2 : (∀ W, Wd W → Calls Tryz.prog 35 #[.int .i64 A, .int .i64 (-K), .bool true] W fun e w' => e = .returned (.tuple #[.int .i64 E, .nilIface]) ∧ Below W.heap.size W w')) (P3 : (∀ W, Wd W → Calls Tryz.prog 40 #[.int .i64 D, .int .i64 A] W fun e w' => e = .returned (.int .i64 K) ∧ Below W.heap.size W w')) (P4 : (∀ W, Wd W → Calls Tryz.prog 40 #[.int .i64 E, .int .i64 D] W fun e w' => e = .returned (.int .i64 0) ∧ Below W.heap.size W w')) (P5 : (∀ W, Wd W → Calls Tryz.prog 38 #[.int .i64 D] W fun e w' => e = .returned (.bool true) ∧ Below W.heap.size W w')) (P6 : (∀ W, Wd W → Calls Tryz.prog 38 #[.int .i64 A] W fun e w' => e = .returned (.bool true) ∧ Below W.heap.size W w')) (w : World) (hw : Wd w) :
    Calls Tryz.prog 7 #[.int .i64 n, .int .i64 k, .bool true] w fun e w' => e = .returned (.bool true) ∧ Below w.heap.size w w' := by
  have hDay := fun W => Day_any n n0 n1 W
  rw [hD] at hDay
  have _ := hK0
  have _ := hK1
  have _ := y
  have _ := m
  have _ := d
  have _ := D2
  have t2 := Int.tmod_lt_of_pos k (show (0 : Int) < 600 by decide)
  have t3 : -600 < k.tmod 600 := by
    rcases Int.le_total 0 k with h | h
    · rw [Int.tmod_eq_emod_of_nonneg h]; omega
    · have e := Int.tmod_eq_emod_of_nonneg (b := 600) (show 0 ≤ -k by omega)
      rw [Int.neg_tmod] at e
      omega
  have HW := Lib.hid (fun W (h : Below w.heap.size w W) => hw.keep h)
  have C1 := Lib.hid (fun (W : World) (hW : Wd W) => HBg W hW)
  have C2 := Lib.hid (fun (W : World) (hW : Wd W) => hDay W)
  have C3 := Lib.hid (fun (W : World) (hW : Wd W) => P1 W hW)
  have C4 := Lib.hid (fun (W : World) (hW : Wd W) => P2 W hW)
  have C5 := Lib.hid (fun (W : World) (hW : Wd W) => P3 W hW)
  have C6 := Lib.hid (fun (W : World) (hW : Wd W) => P4 W hW)
  have C7 := Lib.hid (fun (W : World) (hW : Wd W) => P5 W hW)
  have C8 := Lib.hid (fun (W : World) (hW : Wd W) => P6 W hW)
  have HR0 := Lib.hid (Below.refl w.heap.size w)
  unfold errOf at *
  clear hDay hD P1 P2 P3 P4 P5 P6
  subst hE
  clear hw
  go_enter Tryz.func7, Tryz.ntmps7
  go_wp2_with (first
    | (go_at_call 17; (with_reducible refine (C1.out _ (HW.out _ HR0.out)).mono ?_); rintro e W1 ⟨rfl, hb⟩
       have HR1 := Lib.hid (below_tr6 HR0.out hb rfl)
       clear C1 hb)
    | (go_at_call 19; (with_reducible refine (C2.out _ (HW.out _ HR1.out)).mono ?_); rintro e w9 ⟨rfl, rfl⟩
       have HR2 := Lib.hid HR1.out
       clear C2)
    | (go_at_call 35; (with_reducible refine (C3.out _ (HW.out _ HR2.out)).mono ?_); rintro e W3 ⟨rfl, hb⟩
       have HR3 := Lib.hid (below_tr6 HR2.out hb rfl)
       clear C3 hb)
    | (go_at_call 35; (with_reducible refine (C4.out _ (HW.out _ HR3.out)).mono ?_); rintro e W4 ⟨rfl, hb⟩
       have HR4 := Lib.hid (below_tr6 HR3.out hb rfl)
       clear C4 hb)
    | (go_at_call 40; (with_reducible refine (C5.out _ (HW.out _ HR4.out)).mono ?_); rintro e W5 ⟨rfl, hb⟩
       have HR5 := Lib.hid (below_tr6 HR4.out hb rfl)
       clear C5 hb)
    | (go_at_call 40; (with_reducible refine (C6.out _ (HW.out _ HR5.out)).mono ?_); rintro e W6 ⟨rfl, hb⟩
       have HR6 := Lib.hid (below_tr6 HR5.out hb rfl)
       clear C6 hb)
    | (go_at_call 38; (with_reducible refine (C7.out _ (HW.out _ HR6.out)).mono ?_); rintro e W7 ⟨rfl, hb⟩
       have HR7 := Lib.hid (below_tr6 HR6.out hb rfl)
       clear C7 hb)
    | (go_at_call 38; (with_reducible refine (C8.out _ (HW.out _ HR7.out)).mono ?_); rintro e W8 ⟨rfl, hb⟩
       have HR8 := Lib.hid (below_tr6 HR7.out hb rfl)
       clear C8 hb)
    | (fail "no arm"))
  go_ret
  exact ⟨rfl, HR8.out⟩
set_option maxRecDepth 100000 in
set_option maxHeartbeats 4000000 in
theorem MonthBack_Y2a (HBg : BegunC) (n : Int) (n0 : -9223372036854775808 ≤ n) (n1 : n ≤ 9223372036854775807) (k : Int) (k0 : -9223372036854775808 ≤ k) (k1 : k ≤ 9223372036854775807) (K : Int) (HT : k.tmod 600 % 600 = K) (hK0 : 0 ≤ K) (hK1 : K ≤ 599) (D : Int) (hD : n % 109573 = D) (A E : Int) (y m d D2 : Int) (hd2 : D2 ≤ d)
    (P1 : (∀ W, Wd W → Calls Tryz.prog 35 #[.int .i64 D, .int .i64 K, .bool true] W fun e w' => e = .returned (.tuple #[.int .i64 A, .nilIface]) ∧ Below W.heap.size W w')) (P2 : (∀ W, Wd W → Calls Tryz.prog 35 #[.int .i64 A, .int .i64 (-K), .bool true] W fun e w' => e = .returned (.tuple #[.int .i64 E, .nilIface]) ∧ Below W.heap.size W w')) (P3 : (∀ W, Wd W → Calls Tryz.prog 40 #[.int .i64 D, .int .i64 A] W fun e w' => e = .returned (.int .i64 K) ∧ Below W.heap.size W w')) (P4 : (∀ W, Wd W → Calls Tryz.prog 40 #[.int .i64 E, .int .i64 D] W fun e w' => e = .returned (.int .i64 0) ∧ Below W.heap.size W w')) (P5 : (∀ W, Wd W → Calls Tryz.prog 38 #[.int .i64 D] W fun e w' => e = .returned (.bool false) ∧ Below W.heap.size W w')) (P6 : (∀ W, Wd W → Calls Tryz.prog 20 #[.int .i64 D] W fun e w' => e = .returned (.tuple #[.agg #[.int .i64 y, .int .i64 m, .int .i64 d], .nilIface]) ∧ Below W.heap.size W w')) (P7 : (∀ W, Wd W → Calls Tryz.prog 20 #[.int .i64 E] W fun e w' => e = .returned (.tuple #[.agg #[.int .i64 y, .int .i64 m, .int .i64 D2], .nilIface]) ∧ Below W.heap.size W w')) (w : World) (hw : Wd w) :
    Calls Tryz.prog 7 #[.int .i64 n, .int .i64 k, .bool true] w fun e w' => e = .returned (.bool true) ∧ Below w.heap.size w w' := by
  have hDay := fun W => Day_any n n0 n1 W
  rw [hD] at hDay
  have _ := hK0
  have _ := hK1
  have t2 := Int.tmod_lt_of_pos k (show (0 : Int) < 600 by decide)
  have t3 : -600 < k.tmod 600 := by
    rcases Int.le_total 0 k with h | h
    · rw [Int.tmod_eq_emod_of_nonneg h]; omega
    · have e := Int.tmod_eq_emod_of_nonneg (b := 600) (show 0 ≤ -k by omega)
      rw [Int.neg_tmod] at e
      omega
  have HW := Lib.hid (fun W (h : Below w.heap.size w W) => hw.keep h)
  have C1 := Lib.hid (fun (W : World) (hW : Wd W) => HBg W hW)
  have C2 := Lib.hid (fun (W : World) (hW : Wd W) => hDay W)
  have C3 := Lib.hid (fun (W : World) (hW : Wd W) => P1 W hW)
  have C4 := Lib.hid (fun (W : World) (hW : Wd W) => P2 W hW)
  have C5 := Lib.hid (fun (W : World) (hW : Wd W) => P3 W hW)
  have C6 := Lib.hid (fun (W : World) (hW : Wd W) => P4 W hW)
  have C7 := Lib.hid (fun (W : World) (hW : Wd W) => P5 W hW)
  have C8 := Lib.hid (fun (W : World) (hW : Wd W) => P6 W hW)
  have C9 := Lib.hid (fun (W : World) (hW : Wd W) => P7 W hW)
  have HR0 := Lib.hid (Below.refl w.heap.size w)
  unfold errOf at *
  clear hDay hD P1 P2 P3 P4 P5 P6 P7
  clear hw
  go_enter Tryz.func7, Tryz.ntmps7
  go_wp2_with (first
    | (go_at_call 17; (with_reducible refine (C1.out _ (HW.out _ HR0.out)).mono ?_); rintro e W1 ⟨rfl, hb⟩
       have HR1 := Lib.hid (below_tr6 HR0.out hb rfl)
       clear C1 hb)
    | (go_at_call 19; (with_reducible refine (C2.out _ (HW.out _ HR1.out)).mono ?_); rintro e w9 ⟨rfl, rfl⟩
       have HR2 := Lib.hid HR1.out
       clear C2)
    | (go_at_call 35; (with_reducible refine (C3.out _ (HW.out _ HR2.out)).mono ?_); rintro e W3 ⟨rfl, hb⟩
       have HR3 := Lib.hid (below_tr6 HR2.out hb rfl)
       clear C3 hb)
    | (go_at_call 35; (with_reducible refine (C4.out _ (HW.out _ HR3.out)).mono ?_); rintro e W4 ⟨rfl, hb⟩
       have HR4 := Lib.hid (below_tr6 HR3.out hb rfl)
       clear C4 hb)
    | (go_at_call 40; (with_reducible refine (C5.out _ (HW.out _ HR4.out)).mono ?_); rintro e W5 ⟨rfl, hb⟩
       have HR5 := Lib.hid (below_tr6 HR4.out hb rfl)
       clear C5 hb)
    | (go_at_call 40; (with_reducible refine (C6.out _ (HW.out _ HR5.out)).mono ?_); rintro e W6 ⟨rfl, hb⟩
       have HR6 := Lib.hid (below_tr6 HR5.out hb rfl)
       clear C6 hb)
    | (go_at_call 38; (with_reducible refine (C7.out _ (HW.out _ HR6.out)).mono ?_); rintro e W7 ⟨rfl, hb⟩
       have HR7 := Lib.hid (below_tr6 HR6.out hb rfl)
       clear C7 hb)
    | (go_at_call 20; (with_reducible refine (C8.out _ (HW.out _ HR7.out)).mono ?_); rintro e W8 ⟨rfl, hb⟩
       have M8_0 := Lib.hid (CAt.new W8 y m d)
       have HR8 := Lib.hid (Below.alloc (below_tr6 HR7.out hb rfl) (Below.size (below_tr6 HR7.out hb rfl)) (.cells #[.int .i64 y, .int .i64 m, .int .i64 d] 23))
       obtain ⟨q8_0_0, q8_0_1, q8_0_2, -⟩ := M8_0.out.cells
       clear C8 hb)
    | (go_at_call 20; (with_reducible refine (C9.out _ (HW.out _ HR8.out)).mono ?_); rintro e W9 ⟨rfl, hb⟩
       have M9_0 := Lib.hid (M8_0.out.below hb)
       have N9_0 := Lib.hid (M9_0.out.below ((Below.refl _ _).alloc (Nat.le_refl _) (.cells #[.int .i64 y, .int .i64 m, .int .i64 D2] 23)))
       have M9_1 := Lib.hid (CAt.new W9 y m D2)
       have HR9 := Lib.hid (Below.alloc (below_tr6 HR8.out hb rfl) (Below.size (below_tr6 HR8.out hb rfl)) (.cells #[.int .i64 y, .int .i64 m, .int .i64 D2] 23))
       clear M9_0; have M9_0 := N9_0; clear N9_0
       obtain ⟨q9_0_0, q9_0_1, q9_0_2, -⟩ := M9_0.out.cells
       obtain ⟨q9_1_0, q9_1_1, q9_1_2, -⟩ := M9_1.out.cells
       clear q8_0_0 q8_0_1 q8_0_2 C9 hb)
    | (fail "no arm"))
  go_ret
  exact ⟨rfl, HR9.out⟩
set_option maxRecDepth 100000 in
set_option maxHeartbeats 4000000 in
theorem MonthBack_Y2b (HBg : BegunC) (n : Int) (n0 : -9223372036854775808 ≤ n) (n1 : n ≤ 9223372036854775807) (k : Int) (k0 : -9223372036854775808 ≤ k) (k1 : k ≤ 9223372036854775807) (K : Int) (HT : k.tmod 600 % 600 = K) (hK0 : 0 ≤ K) (hK1 : K ≤ 599) (D : Int) (hD : n % 109573 = D) (A E : Int) (y m d D2 : Int) (hd2 : ¬ D2 ≤ d)
    (P1 : (∀ W, Wd W → Calls Tryz.prog 35 #[.int .i64 D, .int .i64 K, .bool true] W fun e w' => e = .returned (.tuple #[.int .i64 A, .nilIface]) ∧ Below W.heap.size W w')) (P2 : (∀ W, Wd W → Calls Tryz.prog 35 #[.int .i64 A, .int .i64 (-K), .bool true] W fun e w' => e = .returned (.tuple #[.int .i64 E, .nilIface]) ∧ Below W.heap.size W w')) (P3 : (∀ W, Wd W → Calls Tryz.prog 40 #[.int .i64 D, .int .i64 A] W fun e w' => e = .returned (.int .i64 K) ∧ Below W.heap.size W w')) (P4 : (∀ W, Wd W → Calls Tryz.prog 40 #[.int .i64 E, .int .i64 D] W fun e w' => e = .returned (.int .i64 0) ∧ Below W.heap.size W w')) (P5 : (∀ W, Wd W → Calls Tryz.prog 38 #[.int .i64 D] W fun e w' => e = .returned (.bool false) ∧ Below W.heap.size W w')) (P6 : (∀ W, Wd W → Calls Tryz.prog 20 #[.int .i64 D] W fun e w' => e = .returned (.tuple #[.agg #[.int .i64 y, .int .i64 m, .int .i64 d], .nilIface]) ∧ Below W.heap.size W w')) (P7 : (∀ W, Wd W → Calls Tryz.prog 20 #[.int .i64 E] W fun e w' => e = .returned (.tuple #[.agg #[.int .i64 y, .int .i64 m, .int .i64 D2], .nilIface]) ∧ Below W.heap.size W w')) (P8 : (∀ W, Wd W → Calls Tryz.prog 38 #[.int .i64 A] W fun e w' => e = .returned (.bool true) ∧ Below W.heap.size W w')) (w : World) (hw : Wd w) :
    Calls Tryz.prog 7 #[.int .i64 n, .int .i64 k, .bool true] w fun e w' => e = .returned (.bool true) ∧ Below w.heap.size w w' := by
  have hDay := fun W => Day_any n n0 n1 W
  rw [hD] at hDay
  have _ := hK0
  have _ := hK1
  have t2 := Int.tmod_lt_of_pos k (show (0 : Int) < 600 by decide)
  have t3 : -600 < k.tmod 600 := by
    rcases Int.le_total 0 k with h | h
    · rw [Int.tmod_eq_emod_of_nonneg h]; omega
    · have e := Int.tmod_eq_emod_of_nonneg (b := 600) (show 0 ≤ -k by omega)
      rw [Int.neg_tmod] at e
      omega
  have HW := Lib.hid (fun W (h : Below w.heap.size w W) => hw.keep h)
  have C1 := Lib.hid (fun (W : World) (hW : Wd W) => HBg W hW)
  have C2 := Lib.hid (fun (W : World) (hW : Wd W) => hDay W)
  have C3 := Lib.hid (fun (W : World) (hW : Wd W) => P1 W hW)
  have C4 := Lib.hid (fun (W : World) (hW : Wd W) => P2 W hW)
  have C5 := Lib.hid (fun (W : World) (hW : Wd W) => P3 W hW)
  have C6 := Lib.hid (fun (W : World) (hW : Wd W) => P4 W hW)
  have C7 := Lib.hid (fun (W : World) (hW : Wd W) => P5 W hW)
  have C8 := Lib.hid (fun (W : World) (hW : Wd W) => P6 W hW)
  have C9 := Lib.hid (fun (W : World) (hW : Wd W) => P7 W hW)
  have C10 := Lib.hid (fun (W : World) (hW : Wd W) => P8 W hW)
  have HR0 := Lib.hid (Below.refl w.heap.size w)
  unfold errOf at *
  clear hDay hD P1 P2 P3 P4 P5 P6 P7 P8
  clear hw
  go_enter Tryz.func7, Tryz.ntmps7
  go_wp2_with (first
    | (go_at_call 17; (with_reducible refine (C1.out _ (HW.out _ HR0.out)).mono ?_); rintro e W1 ⟨rfl, hb⟩
       have HR1 := Lib.hid (below_tr6 HR0.out hb rfl)
       clear C1 hb)
    | (go_at_call 19; (with_reducible refine (C2.out _ (HW.out _ HR1.out)).mono ?_); rintro e w9 ⟨rfl, rfl⟩
       have HR2 := Lib.hid HR1.out
       clear C2)
    | (go_at_call 35; (with_reducible refine (C3.out _ (HW.out _ HR2.out)).mono ?_); rintro e W3 ⟨rfl, hb⟩
       have HR3 := Lib.hid (below_tr6 HR2.out hb rfl)
       clear C3 hb)
    | (go_at_call 35; (with_reducible refine (C4.out _ (HW.out _ HR3.out)).mono ?_); rintro e W4 ⟨rfl, hb⟩
       have HR4 := Lib.hid (below_tr6 HR3.out hb rfl)
       clear C4 hb)
    | (go_at_call 40; (with_reducible refine (C5.out _ (HW.out _ HR4.out)).mono ?_); rintro e W5 ⟨rfl, hb⟩
       have HR5 := Lib.hid (below_tr6 HR4.out hb rfl)
       clear C5 hb)
    | (go_at_call 40; (with_reducible refine (C6.out _ (HW.out _ HR5.out)).mono ?_); rintro e W6 ⟨rfl, hb⟩
       have HR6 := Lib.hid (below_tr6 HR5.out hb rfl)
       clear C6 hb)
    | (go_at_call 38; (with_reducible refine (C7.out _ (HW.out _ HR6.out)).mono ?_); rintro e W7 ⟨rfl, hb⟩
       have HR7 := Lib.hid (below_tr6 HR6.out hb rfl)
       clear C7 hb)
    | (go_at_call 20; (with_reducible refine (C8.out _ (HW.out _ HR7.out)).mono ?_); rintro e W8 ⟨rfl, hb⟩
       have M8_0 := Lib.hid (CAt.new W8 y m d)
       have HR8 := Lib.hid (Below.alloc (below_tr6 HR7.out hb rfl) (Below.size (below_tr6 HR7.out hb rfl)) (.cells #[.int .i64 y, .int .i64 m, .int .i64 d] 23))
       obtain ⟨q8_0_0, q8_0_1, q8_0_2, -⟩ := M8_0.out.cells
       clear C8 hb)
    | (go_at_call 20; (with_reducible refine (C9.out _ (HW.out _ HR8.out)).mono ?_); rintro e W9 ⟨rfl, hb⟩
       have M9_0 := Lib.hid (M8_0.out.below hb)
       have N9_0 := Lib.hid (M9_0.out.below ((Below.refl _ _).alloc (Nat.le_refl _) (.cells #[.int .i64 y, .int .i64 m, .int .i64 D2] 23)))
       have M9_1 := Lib.hid (CAt.new W9 y m D2)
       have HR9 := Lib.hid (Below.alloc (below_tr6 HR8.out hb rfl) (Below.size (below_tr6 HR8.out hb rfl)) (.cells #[.int .i64 y, .int .i64 m, .int .i64 D2] 23))
       clear M9_0; have M9_0 := N9_0; clear N9_0
       obtain ⟨q9_0_0, q9_0_1, q9_0_2, -⟩ := M9_0.out.cells
       obtain ⟨q9_1_0, q9_1_1, q9_1_2, -⟩ := M9_1.out.cells
       clear q8_0_0 q8_0_1 q8_0_2 C9 hb)
    | (go_at_call 38; (with_reducible refine (C10.out _ (HW.out _ HR9.out)).mono ?_); rintro e W10 ⟨rfl, hb⟩
       have M10_0 := Lib.hid (M9_0.out.below hb)
       have M10_1 := Lib.hid (M9_1.out.below hb)
       have HR10 := Lib.hid (below_tr6 HR9.out hb rfl)
       obtain ⟨q10_0_0, q10_0_1, q10_0_2, -⟩ := M10_0.out.cells
       obtain ⟨q10_1_0, q10_1_1, q10_1_2, -⟩ := M10_1.out.cells
       clear q9_0_0 q9_0_1 q9_0_2 q9_1_0 q9_1_1 q9_1_2 C10 hb)
    | (fail "no arm"))
  go_ret
  exact ⟨rfl, HR10.out⟩
set_option maxRecDepth 100000 in
set_option maxHeartbeats 4000000 in
theorem MonthBack_Y3 (HBg : BegunC) (n : Int) (n0 : -9223372036854775808 ≤ n) (n1 : n ≤ 9223372036854775807) (k : Int) (k0 : -9223372036854775808 ≤ k) (k1 : k ≤ 9223372036854775807) (K : Int) (HT : k.tmod 600 % 600 = K) (hK0 : 0 ≤ K) (hK1 : K ≤ 599) (D : Int) (hD : n % 109573 = D) (A E : Int) (y m d D2 : Int) (hd2 : D2 ≤ d)
    (P1 : (∀ W, Wd W → Calls Tryz.prog 35 #[.int .i64 D, .int .i64 K, .bool false] W fun e w' => e = .returned (.tuple #[.int .i64 A, .nilIface]) ∧ Below W.heap.size W w')) (P2 : (∀ W, Wd W → Calls Tryz.prog 35 #[.int .i64 A, .int .i64 (-K), .bool false] W fun e w' => e = .returned (.tuple #[.int .i64 E, .nilIface]) ∧ Below W.heap.size W w')) (P3 : (∀ W, Wd W → Calls Tryz.prog 40 #[.int .i64 D, .int .i64 A] W fun e w' => e = .returned (.int .i64 K) ∧ Below W.heap.size W w')) (P4 : (∀ W, Wd W → Calls Tryz.prog 40 #[.int .i64 E, .int .i64 D] W fun e w' => e = .returned (.int .i64 0) ∧ Below W.heap.size W w')) (P5 : (∀ W, Wd W → Calls Tryz.prog 20 #[.int .i64 D] W fun e w' => e = .returned (.tuple #[.agg #[.int .i64 y, .int .i64 m, .int .i64 d], .nilIface]) ∧ Below W.heap.size W w')) (P6 : (∀ W, Wd W → Calls Tryz.prog 20 #[.int .i64 E] W fun e w' => e = .returned (.tuple #[.agg #[.int .i64 y, .int .i64 m, .int .i64 D2], .nilIface]) ∧ Below W.heap.size W w')) (w : World) (hw : Wd w) :
    Calls Tryz.prog 7 #[.int .i64 n, .int .i64 k, .bool false] w fun e w' => e = .returned (.bool true) ∧ Below w.heap.size w w' := by
  have hDay := fun W => Day_any n n0 n1 W
  rw [hD] at hDay
  have _ := hK0
  have _ := hK1
  have t2 := Int.tmod_lt_of_pos k (show (0 : Int) < 600 by decide)
  have t3 : -600 < k.tmod 600 := by
    rcases Int.le_total 0 k with h | h
    · rw [Int.tmod_eq_emod_of_nonneg h]; omega
    · have e := Int.tmod_eq_emod_of_nonneg (b := 600) (show 0 ≤ -k by omega)
      rw [Int.neg_tmod] at e
      omega
  have HW := Lib.hid (fun W (h : Below w.heap.size w W) => hw.keep h)
  have C1 := Lib.hid (fun (W : World) (hW : Wd W) => HBg W hW)
  have C2 := Lib.hid (fun (W : World) (hW : Wd W) => hDay W)
  have C3 := Lib.hid (fun (W : World) (hW : Wd W) => P1 W hW)
  have C4 := Lib.hid (fun (W : World) (hW : Wd W) => P2 W hW)
  have C5 := Lib.hid (fun (W : World) (hW : Wd W) => P3 W hW)
  have C6 := Lib.hid (fun (W : World) (hW : Wd W) => P4 W hW)
  have C7 := Lib.hid (fun (W : World) (hW : Wd W) => P5 W hW)
  have C8 := Lib.hid (fun (W : World) (hW : Wd W) => P6 W hW)
  have HR0 := Lib.hid (Below.refl w.heap.size w)
  unfold errOf at *
  clear hDay hD P1 P2 P3 P4 P5 P6
  clear hw
  go_enter Tryz.func7, Tryz.ntmps7
  go_wp2_with (first
    | (go_at_call 17; (with_reducible refine (C1.out _ (HW.out _ HR0.out)).mono ?_); rintro e W1 ⟨rfl, hb⟩
       have HR1 := Lib.hid (below_tr6 HR0.out hb rfl)
       clear C1 hb)
    | (go_at_call 19; (with_reducible refine (C2.out _ (HW.out _ HR1.out)).mono ?_); rintro e w9 ⟨rfl, rfl⟩
       have HR2 := Lib.hid HR1.out
       clear C2)
    | (go_at_call 35; (with_reducible refine (C3.out _ (HW.out _ HR2.out)).mono ?_); rintro e W3 ⟨rfl, hb⟩
       have HR3 := Lib.hid (below_tr6 HR2.out hb rfl)
       clear C3 hb)
    | (go_at_call 35; (with_reducible refine (C4.out _ (HW.out _ HR3.out)).mono ?_); rintro e W4 ⟨rfl, hb⟩
       have HR4 := Lib.hid (below_tr6 HR3.out hb rfl)
       clear C4 hb)
    | (go_at_call 40; (with_reducible refine (C5.out _ (HW.out _ HR4.out)).mono ?_); rintro e W5 ⟨rfl, hb⟩
       have HR5 := Lib.hid (below_tr6 HR4.out hb rfl)
       clear C5 hb)
    | (go_at_call 40; (with_reducible refine (C6.out _ (HW.out _ HR5.out)).mono ?_); rintro e W6 ⟨rfl, hb⟩
       have HR6 := Lib.hid (below_tr6 HR5.out hb rfl)
       clear C6 hb)
    | (go_at_call 20; (with_reducible refine (C7.out _ (HW.out _ HR6.out)).mono ?_); rintro e W7 ⟨rfl, hb⟩
       have M7_0 := Lib.hid (CAt.new W7 y m d)
       have HR7 := Lib.hid (Below.alloc (below_tr6 HR6.out hb rfl) (Below.size (below_tr6 HR6.out hb rfl)) (.cells #[.int .i64 y, .int .i64 m, .int .i64 d] 23))
       obtain ⟨q7_0_0, q7_0_1, q7_0_2, -⟩ := M7_0.out.cells
       clear C7 hb)
    | (go_at_call 20; (with_reducible refine (C8.out _ (HW.out _ HR7.out)).mono ?_); rintro e W8 ⟨rfl, hb⟩
       have M8_0 := Lib.hid (M7_0.out.below hb)
       have N8_0 := Lib.hid (M8_0.out.below ((Below.refl _ _).alloc (Nat.le_refl _) (.cells #[.int .i64 y, .int .i64 m, .int .i64 D2] 23)))
       have M8_1 := Lib.hid (CAt.new W8 y m D2)
       have HR8 := Lib.hid (Below.alloc (below_tr6 HR7.out hb rfl) (Below.size (below_tr6 HR7.out hb rfl)) (.cells #[.int .i64 y, .int .i64 m, .int .i64 D2] 23))
       clear M8_0; have M8_0 := N8_0; clear N8_0
       obtain ⟨q8_0_0, q8_0_1, q8_0_2, -⟩ := M8_0.out.cells
       obtain ⟨q8_1_0, q8_1_1, q8_1_2, -⟩ := M8_1.out.cells
       clear q7_0_0 q7_0_1 q7_0_2 C8 hb)
    | (fail "no arm"))
  go_ret
  exact ⟨rfl, HR8.out⟩
set_option maxRecDepth 100000 in
set_option maxHeartbeats 4000000 in
theorem MonthBack_N (HBg : BegunC) (n : Int) (n0 : -9223372036854775808 ≤ n) (n1 : n ≤ 9223372036854775807) (k : Int) (k0 : -9223372036854775808 ≤ k) (k1 : k ≤ 9223372036854775807) (K : Int) (HT : k.tmod 600 % 600 = K) (hK0 : 0 ≤ K) (hK1 : K ≤ 599) (D : Int) (hD : n % 109573 = D) (fin : Bool)
    (P1 : (∀ W, Wd W → Calls Tryz.prog 35 #[.int .i64 D, .int .i64 K, .bool fin] W fun e w' => e = .returned (.tuple #[.int .i64 0, errOf 4]) ∧ Below W.heap.size W w')) (w : World) (hw : Wd w) :
    Calls Tryz.prog 7 #[.int .i64 n, .int .i64 k, .bool fin] w fun e w' => e = .returned (.bool true) ∧ Below w.heap.size w w' := by
  have hDay := fun W => Day_any n n0 n1 W
  rw [hD] at hDay
  have _ := hK0
  have _ := hK1
  have t2 := Int.tmod_lt_of_pos k (show (0 : Int) < 600 by decide)
  have t3 : -600 < k.tmod 600 := by
    rcases Int.le_total 0 k with h | h
    · rw [Int.tmod_eq_emod_of_nonneg h]; omega
    · have e := Int.tmod_eq_emod_of_nonneg (b := 600) (show 0 ≤ -k by omega)
      rw [Int.neg_tmod] at e
      omega
  have HW := Lib.hid (fun W (h : Below w.heap.size w W) => hw.keep h)
  have C1 := Lib.hid (fun (W : World) (hW : Wd W) => HBg W hW)
  have C2 := Lib.hid (fun (W : World) (hW : Wd W) => hDay W)
  have C3 := Lib.hid (fun (W : World) (hW : Wd W) => P1 W hW)
  have C4 := Lib.hid (fun (W : World) (hW : Wd W) => Same_code 4 W hW)
  have HR0 := Lib.hid (Below.refl w.heap.size w)
  unfold errOf at *
  clear hDay hD P1
  clear hw
  go_enter Tryz.func7, Tryz.ntmps7
  go_wp2_with (first
    | (go_at_call 17; (with_reducible refine (C1.out _ (HW.out _ HR0.out)).mono ?_); rintro e W1 ⟨rfl, hb⟩
       have HR1 := Lib.hid (below_tr6 HR0.out hb rfl)
       clear C1 hb)
    | (go_at_call 19; (with_reducible refine (C2.out _ (HW.out _ HR1.out)).mono ?_); rintro e w9 ⟨rfl, rfl⟩
       have HR2 := Lib.hid HR1.out
       clear C2)
    | (go_at_call 35; (with_reducible refine (C3.out _ (HW.out _ HR2.out)).mono ?_); rintro e W3 ⟨rfl, hb⟩
       have HR3 := Lib.hid (below_tr6 HR2.out hb rfl)
       clear C3 hb)
    | (go_at_call 29; (with_reducible refine (C4.out _ (HW.out _ HR3.out)).mono ?_); rintro e W4 ⟨rfl, hb⟩
       have HR4 := Lib.hid (below_tr6 HR3.out hb rfl)
       clear C4 hb)
    | (fail "no arm"))
  go_ret
  exact ⟨rfl, HR4.out⟩
theorem MonthBack_walk (HBg : BegunC) (HM : MonC) (n : Int) (n0 : -9223372036854775808 ≤ n) (n1 : n ≤ 9223372036854775807) (k : Int) (k0 : -9223372036854775808 ≤ k) (k1 : k ≤ 9223372036854775807) (fin : Bool) (w : World) (hw : Wd w) :
    Calls Tryz.prog 7 #[.int .i64 n, .int .i64 k, .bool fin] w fun e w' => e = .returned (.bool true) ∧ Below w.heap.size w w' := by
  obtain ⟨y, m, d, hc, hD⟩ := (Day_isDay n).civil
  have hK0 : 0 ≤ k.tmod 600 % 600 := by omega
  have hK1 : k.tmod 600 % 600 ≤ 599 := by omega
  obtain ⟨K, hK⟩ : ∃ K, k.tmod 600 % 600 = K := ⟨_, rfl⟩
  rw [hK] at hK0 hK1
  have hM := mM_in y m K
  have hT := mY_mM y m K
  have hmon := hc.month
  by_cases hY : mY y m K ≤ 2199
  · have hY0 : 1900 ≤ mY y m K := by have := hc.1; unfold mY; omega
    have P1 := HM.addYes y m d K fin hc (by omega) (by omega) hY0 hY
    generalize hYY : mY y m K = Y at *
    generalize hMM : mM y m K = M at *
    have c1 := clip_in (fin := fin) (y := y) (m := m) (d := d) (Y := Y) (M := M) hc.2.2.1 hM.1 hM.2
    have hc1 : IsCivil Y M (clip fin y m d Y M) := ⟨hY0, hY, c1.1, c1.2⟩
    obtain ⟨e1, e2⟩ := mY_eq (y := Y) (m := M) (k := -K) (Y := y) (M := m) (by omega) hmon.1 hmon.2
    have P2 := HM.addYes Y M (clip fin y m d Y M) (-K) fin hc1 (by omega) (by omega) (by rw [e1]; exact hc.1) (by rw [e1]; exact hc.2.1)
    rw [e1, e2] at P2
    obtain ⟨D1, hD1⟩ : ∃ D1, clip fin y m d Y M = D1 := ⟨_, rfl⟩
    rw [hD1] at P1 P2 c1 hc1
    have c2 := clip_in (fin := fin) (y := Y) (m := M) (d := D1) (Y := y) (M := m) c1.1 hmon.1 hmon.2
    have hc2 : IsCivil y m (clip fin Y M D1 y m) := ⟨hc.1, hc.2.1, c2.1, c2.2⟩
    obtain ⟨D2, hD2⟩ : ∃ D2, clip fin Y M D1 y m = D2 := ⟨_, rfl⟩
    rw [hD2] at P2 c2 hc2
    have P3 := HM.between y m d Y M D1 hc hc1
    have P4 := HM.between y m D2 y m d hc2 hc
    rw [show 12 * (Y - y) + (M - m) = K by omega] at P3
    rw [show 12 * (y - y) + (m - m) = 0 by omega] at P4
    have P5 := HM.last y m d hc
    have P6 := HM.last Y M D1 hc1
    have P7 := fun W (hW : Wd W) => Civil_at y m d hc W hW.lens
    have P8 := fun W (hW : Wd W) => Civil_at y m D2 hc2 W hW.lens
    unfold clip at hD1 hD2
    cases fin
    · have hd2 : D2 ≤ d := by
        simp only [Bool.false_eq_true, false_and, false_or] at hD1 hD2
        split at hD1 <;> split at hD2 <;> omega
      rw [hD] at P1 P3 P4 P7
      exact MonthBack_Y3 HBg n n0 n1 k k0 k1 K hK hK0 hK1 _ rfl _ _ y m d D2 hd2 P1 P2 P3 P4 P7 P8 w hw
    · by_cases hl : d = mlen y m
      · have h1 : D1 = mlen Y M := by rw [if_pos (Or.inl ⟨rfl, hl⟩)] at hD1; omega
        have h2 : D2 = mlen y m := by rw [if_pos (Or.inl ⟨rfl, h1⟩)] at hD2; omega
        rw [decide_eq_true hl] at P5
        rw [decide_eq_true h1] at P6
        rw [hD] at P1 P3 P4 P5
        exact MonthBack_Y1 HBg n n0 n1 k k0 k1 K hK hK0 hK1 _ rfl _ _ y m d D2 (by rw [← hD, h2, ← hl]) P1 P2 P3 P4 P5 P6 w hw
      · rw [decide_eq_false hl] at P5
        rw [hD] at P1 P3 P4 P5 P7
        by_cases hd2 : D2 ≤ d
        · exact MonthBack_Y2a HBg n n0 n1 k k0 k1 K hK hK0 hK1 _ rfl _ _ y m d D2 hd2 P1 P2 P3 P4 P5 P7 P8 w hw
        · have h1 : D1 = mlen Y M := by
            by_cases h : D1 = mlen Y M
            · exact h
            · simp only [true_and] at hD1 hD2
              split at hD1 <;> split at hD2 <;> omega
          rw [decide_eq_true h1] at P6
          exact MonthBack_Y2b HBg n n0 n1 k k0 k1 K hK hK0 hK1 _ rfl _ _ y m d D2 hd2 P1 P2 P3 P4 P5 P7 P8 P6 w hw
  · have P1 := HM.addNo y m d K fin (by omega) (by omega) hc (fun h => hY h.2.2.2)
    rw [hD] at P1
    exact MonthBack_N HBg n n0 n1 k k0 k1 K hK hK0 hK1 _ rfl fin P1 w hw
end Go.Proofs.YtlhmfgbaefaneaaGreatDoor.law6
