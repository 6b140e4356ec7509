/-
  The steps of the walks, part 2: Lw6CountYear.
-/
import Derived.BigQuiet
import Derived.Deep.QuietTactic
import Derived.Test.YtlhmfgbaefaneabGreatDoorB01
import Derived.Test.YtlhmfgbaefaneabGreatDoorB02
import Derived.Test.YtlhmfgbaefaneabGreatDoorB03
import Derived.Test.YtlhmfgbaefaneabGreatDoorB04
import Derived.Test.YtlhmfgbaefaneabGreatDoorB05
import Derived.Test.YtlhmfgbaefaneabGreatDoorB06
import Derived.Test.YtlhmfgbaefaneabGreatDoorB07
import Derived.Test.YtlhmfgbaefaneabGreatDoorB08
import Derived.Test.YtlhmfgbaefaneabGreatDoorB09
import Derived.Test.YtlhmfgbaefaneabGreatDoorB10
import Derived.Test.YtlhmfgbaefaneabGreatDoorB11
import Derived.Test.YtlhmfgbaefaneabGreatDoorB12
import Derived.Test.YtlhmfgbaefaneabGreatDoorB13
import Derived.Test.YtlhmfgbaefaneabGreatDoorB14
import Derived.Test.YtlhmfgbaefaneabGreatDoorB15
import Derived.Test.YtlhmfgbaefaneabGreatDoorB16
import Derived.Test.YtlhmfgbaefaneabGreatDoorB17
import Derived.Test.YtlhmfgbaefaneabGreatDoorB18
import Derived.Test.YtlhmfgbaefaneabGreatDoorB19
import Derived.Test.YtlhmfgbaefaneabGreatDoorB20
import Derived.Test.YtlhmfgbaefaneabGreatDoorB21
import Derived.Test.YtlhmfgbaefaneabGreatDoorB22
import Derived.Test.YtlhmfgbaefaneabGreatDoorB23
import Derived.Test.YtlhmfgbaefaneabGreatDoorB24
import Derived.Test.YtlhmfgbaefaneabGreatDoorB25
import Derived.Test.YtlhmfgbaefaneabGreatDoorB26
import Derived.Test.YtlhmfgbaefaneabGreatDoorB27
import Derived.Test.YtlhmfgbaefaneabGreatDoorB28
import Derived.Test.YtlhmfgbaefaneabGreatDoorB29
import Derived.Test.YtlhmfgbaefaneabGreatDoorB30
import Derived.Test.YtlhmfgbaefaneabGreatDoorB31
import Derived.Test.YtlhmfgbaefaneabGreatDoorB32
import Derived.Test.YtlhmfgbaefaneabGreatDoorB33
import Derived.Test.YtlhmfgbaefaneabGreatDoorB34
import Derived.Test.YtlhmfgbaefaneabGreatDoorB35
import Derived.Test.YtlhmfgbaefaneabGreatDoorB36
import Derived.Test.YtlhmfgbaefaneabGreatDoorB37
import Derived.Test.YtlhmfgbaefaneabGreatDoorB38
import Derived.Test.YtlhmfgbaefaneabGreatDoorB39
import Derived.Test.YtlhmfgbaefaneabGreatDoorB40
import Derived.Test.YtlhmfgbaefaneabGreatDoorLCountYear01
namespace Go.Proofs.YtlhmfgbaefaneabGreatDoor.law6
open Go Go.RowKit Go.Proofs.YtlhmfgbaefaneabGreatDoor.day Go.Proofs.YtlhmfgbaefaneabGreatDoor.date
open Go.Proofs.YtlhmfgbaefaneabGreatDoor.ref (str str_size)
open Go.Proofs.YtlhmfgbaefaneabGreatDoor.ref6 (CAt dayText DayForm quiet_same drewN_below6)
open Go.Proofs.YtlhmfgbaefaneabGreatDoor.ref6 (clip)
set_option maxRecDepth 100000 in
set_option maxHeartbeats 4000000 in
theorem CountYear_N (HBg : BegunC) (n : Int) (n0 : -9223372036854775808 ≤ n) (n1 : n ≤ 9223372036854775807) (k t D : Int) (hD : n % 109573 = D) (HT : k.tmod 20 % 20 = t) (ht : 0 ≤ t) (ht2 : t ≤ 19)
    (P1 : (∀ W, Wd W → Calls Tryz.prog 35 #[.int .i64 D, .int .i64 (12 * (1 + t)), .bool false] W fun e w' => e = .returned (.tuple #[.int .i64 0, errOf 4]) ∧ Below W.heap.size W w')) (w : World) (hw : Wd w) :
    Calls Tryz.prog 16 #[.int .i64 n, .int .i64 k] w fun e w' => e = .returned (.bool true) ∧ Below w.heap.size w w' := by
  have hDay := fun W => Day_any n n0 n1 W
  rw [hD] at hDay
  have t2 := Int.tmod_lt_of_pos k (show (0 : Int) < 20 by decide)
  have t3 : -20 < k.tmod 20 := by
    rcases Int.le_total 0 k with h | h
    · rw [Int.tmod_eq_emod_of_nonneg h]; omega
    · have e := Int.tmod_eq_emod_of_nonneg (b := 20) (show 0 ≤ -k by omega)
      rw [Int.neg_tmod] at e
      omega
  have _ := hD
  have _ := HT
  have _ := ht
  have _ := ht2
  have HW := Lib.hid (fun W (h : Below w.heap.size w W) => hw.keep h)
  have C1 := Lib.hid (fun (W : World) (hW : Wd W) => HBg W hW)
  have C2 := Lib.hid (fun (W : World) (hW : Wd W) => hDay W)
  have C3 := Lib.hid (fun (W : World) (hW : Wd W) => P1 W hW)
  have C4 := Lib.hid (fun (W : World) (hW : Wd W) => Same_code 4 W hW)
  have HR0 := Lib.hid (Below.refl w.heap.size w)
  unfold errOf at *
  clear hDay hD P1
  clear hw
  go_enter Tryz.func16, Tryz.ntmps16
  go_wp2_with (first
    | (go_at_call 20; (with_reducible refine (C1.out _ (HW.out _ HR0.out)).mono ?_); rintro e W1 ⟨rfl, hb⟩
       have HR1 := Lib.hid (below_tr6 HR0.out hb rfl)
       clear C1 hb)
    | (go_at_call 28; (with_reducible refine (C2.out _ (HW.out _ HR1.out)).mono ?_); rintro e w9 ⟨rfl, rfl⟩
       have HR2 := Lib.hid HR1.out
       clear C2)
    | (go_at_call 35; (with_reducible refine (C3.out _ (HW.out _ HR2.out)).mono ?_); rintro e W3 ⟨rfl, hb⟩
       have HR3 := Lib.hid (below_tr6 HR2.out hb rfl)
       clear C3 hb)
    | (go_at_call 23; (with_reducible refine (C4.out _ (HW.out _ HR3.out)).mono ?_); rintro e W4 ⟨rfl, hb⟩
       have HR4 := Lib.hid (below_tr6 HR3.out hb rfl)
       clear C4 hb)
    | (fail "no arm"))
  go_ret
  exact ⟨rfl, HR4.out⟩
set_option maxRecDepth 100000 in
set_option maxHeartbeats 4000000 in
theorem CountYear_A (HBg : BegunC) (n : Int) (n0 : -9223372036854775808 ≤ n) (n1 : n ≤ 9223372036854775807) (k t D : Int) (hD : n % 109573 = D) (HT : k.tmod 20 % 20 = t) (ht : 0 ≤ t) (ht2 : t ≤ 19) (E y m d : Int) (q1 q2 q3 : Rat) (hD0 : 0 ≤ D) (hD1 : D ≤ 109572) (hE0 : 0 ≤ E) (hE1 : E ≤ 109572)
    (P1 : (∀ W, Wd W → Calls Tryz.prog 35 #[.int .i64 D, .int .i64 (12 * (1 + t)), .bool false] W fun e w' => e = .returned (.tuple #[.int .i64 E, .nilIface]) ∧ Below W.heap.size W w'))
    (P2 : (∀ W, Wd W → Calls Tryz.prog 19 #[.int .i64 1, .int .i64 D, .int .i64 E, .int .i64 0, .int .i64 0, .int .i64 0] W fun e w' => ∃ u, e = .returned (.tuple #[u, .nilIface]) ∧ (rat.IsR w' u (q1) ∧ u ≠ .pointer none) ∧ Below W.heap.size W w'))
    (P3 : (∀ W, Wd W → Calls Tryz.prog 19 #[.int .i64 3, .int .i64 D, .int .i64 E, .int .i64 0, .int .i64 0, .int .i64 0] W fun e w' => ∃ u, e = .returned (.tuple #[u, .nilIface]) ∧ (rat.IsR w' u (q2) ∧ u ≠ .pointer none) ∧ Below W.heap.size W w'))
    (P4 : (∀ W, Wd W → Calls Tryz.prog 19 #[.int .i64 2, .int .i64 D, .int .i64 E, .int .i64 0, .int .i64 0, .int .i64 0] W fun e w' => ∃ u, e = .returned (.tuple #[u, .nilIface]) ∧ (rat.IsR w' u (q3) ∧ u ≠ .pointer none) ∧ Below W.heap.size W w'))
    (P5 : (∀ (W : World) (u v : Value), rat.IsR W u q3 → rat.IsR W v q2 → Calls Tryz.prog 46 #[u, v] W fun e w' => e = .returned (.int .i64 1) ∧ Below W.heap.size W w'))
    (P6 : (∀ W, Wd W → Calls Tryz.prog 36 #[.int .i64 D] W fun e w' => e = .returned (.tuple #[.agg #[.int .i64 y, .int .i64 m, .int .i64 d], .nilIface]) ∧ Below W.heap.size W w'))
    (P7 : (∀ W, Wd W → Calls Tryz.prog 47 #[.int .i64 1, .int .i64 D, .int .i64 E] W fun e w' => e = .returned (.int .i64 (360 * (1 + t))) ∧ Below W.heap.size W w'))
    (P8 : (∀ W, Wd W → Calls Tryz.prog 47 #[.int .i64 3, .int .i64 D, .int .i64 E] W fun e w' => e = .returned (.int .i64 (E - D)) ∧ Below W.heap.size W w'))
    (P9 : (∀ (W : World) (u : Value), rat.IsR W u q1 → Calls Tryz.prog 48 #[u] W fun e w' => e = .returned (.int .i64 1) ∧ Below W.heap.size W w')) (w : World) (hw : Wd w) :
    Calls Tryz.prog 16 #[.int .i64 n, .int .i64 k] w fun e w' => e = .returned (.bool true) ∧ Below w.heap.size w w' := by
  have hDay := fun W => Day_any n n0 n1 W
  rw [hD] at hDay
  have t2 := Int.tmod_lt_of_pos k (show (0 : Int) < 20 by decide)
  have t3 : -20 < k.tmod 20 := by
    rcases Int.le_total 0 k with h | h
    · rw [Int.tmod_eq_emod_of_nonneg h]; omega
    · have e := Int.tmod_eq_emod_of_nonneg (b := 20) (show 0 ≤ -k by omega)
      rw [Int.neg_tmod] at e
      omega
  have _ := hD
  have _ := HT
  have _ := ht
  have _ := ht2
  have _ := hD0
  have _ := hD1
  have _ := hE0
  have _ := hE1
  have HW := Lib.hid (fun W (h : Below w.heap.size w W) => hw.keep h)
  have C1 := Lib.hid (fun (W : World) (hW : Wd W) => HBg W hW)
  have C2 := Lib.hid (fun (W : World) (hW : Wd W) => hDay W)
  have C3 := Lib.hid (fun (W : World) (hW : Wd W) => P1 W hW)
  have C4 := Lib.hid (fun (W : World) (hW : Wd W) => P2 W hW)
  have C5 := Lib.hid (fun (W : World) (hW : Wd W) => P3 W hW)
  have C6 := Lib.hid (fun (W : World) (hW : Wd W) => P4 W hW)
  have C7 := Lib.hid (fun (W : World) (u v : Value) (hu : rat.IsR W u q3) (hv : rat.IsR W v q2) => P5 W u v hu hv)
  have C8 := Lib.hid (fun (W : World) (hW : Wd W) => P6 W hW)
  have C9 := Lib.hid (fun (W : World) (hW : Wd W) => P7 W hW)
  have C10 := Lib.hid (fun (W : World) (hW : Wd W) => P8 W hW)
  have C11 := Lib.hid (fun (W : World) (u : Value) (hu : rat.IsR W u q1) => P9 W u hu)
  have HR0 := Lib.hid (Below.refl w.heap.size w)
  unfold errOf at *
  clear hDay hD P1 P2 P3 P4 P5 P6 P7 P8 P9
  clear hw
  go_enter Tryz.func16, Tryz.ntmps16
  go_wp2_with (first
    | (go_at_call 20; (with_reducible refine (C1.out _ (HW.out _ HR0.out)).mono ?_); rintro e W1 ⟨rfl, hb⟩
       have HR1 := Lib.hid (below_tr6 HR0.out hb rfl)
       clear C1 hb)
    | (go_at_call 28; (with_reducible refine (C2.out _ (HW.out _ HR1.out)).mono ?_); rintro e w9 ⟨rfl, rfl⟩
       have HR2 := Lib.hid HR1.out
       clear C2)
    | (go_at_call 35; (with_reducible refine (C3.out _ (HW.out _ HR2.out)).mono ?_); rintro e W3 ⟨rfl, hb⟩
       have HR3 := Lib.hid (below_tr6 HR2.out hb rfl)
       clear C3 hb)
    | (go_at_call 19; (with_reducible refine (C4.out _ (HW.out _ HR3.out)).mono ?_); rintro e W4 ⟨ua, rfl, ⟨h_a, n_a⟩, hb⟩
       have Ga_4 := Lib.hid h_a
       have HR4 := Lib.hid (below_tr6 HR3.out hb rfl)
       clear n_a
       clear C4 hb h_a)
    | (go_at_call 19; (with_reducible refine (C5.out _ (HW.out _ HR4.out)).mono ?_); rintro e W5 ⟨ub, rfl, ⟨h_b, n_b⟩, hb⟩
       have Ga_5 := Lib.hid (Ga_4.out.below hb)
       have Gb_5 := Lib.hid h_b
       have HR5 := Lib.hid (below_tr6 HR4.out hb rfl)
       clear n_b
       clear C5 hb h_b)
    | (go_at_call 19; (with_reducible refine (C6.out _ (HW.out _ HR5.out)).mono ?_); rintro e W6 ⟨uc, rfl, ⟨h_c, n_c⟩, hb⟩
       have Ga_6 := Lib.hid (Ga_5.out.below hb)
       have Gb_6 := Lib.hid (Gb_5.out.below hb)
       have Gc_6 := Lib.hid h_c
       have HR6 := Lib.hid (below_tr6 HR5.out hb rfl)
       clear n_c
       clear C6 hb h_c)
    | (go_at_call 46; (with_reducible refine (C7.out _ _ _ Gc_6.out Gb_6.out).mono ?_); rintro e W7 ⟨rfl, hb⟩
       have Ga_7 := Lib.hid (Ga_6.out.below hb)
       have Gb_7 := Lib.hid (Gb_6.out.below hb)
       have Gc_7 := Lib.hid (Gc_6.out.below hb)
       have HR7 := Lib.hid (below_tr6 HR6.out hb rfl)
       clear C7 hb)
    | (go_at_call 36; (with_reducible refine (C8.out _ (HW.out _ HR7.out)).mono ?_); rintro e W8 ⟨rfl, hb⟩
       have Ga_8 := Lib.hid (Ga_7.out.below hb)
       have Gb_8 := Lib.hid (Gb_7.out.below hb)
       have Gc_8 := Lib.hid (Gc_7.out.below hb)
       have M8_0 := Lib.hid (CAt.new W8 y m d)
       have HR8 := Lib.hid (Below.alloc (below_tr6 HR7.out hb rfl) (Below.size (below_tr6 HR7.out hb rfl)) (.cells #[.int .i64 y, .int .i64 m, .int .i64 d] 48))
       have Ga_8a := Lib.hid (Ga_8.out.below ((Below.refl _ _).alloc (Nat.le_refl _) (.cells #[.int .i64 y, .int .i64 m, .int .i64 d] 48)))
       clear Ga_8; have Ga_8 := Ga_8a; clear Ga_8a
       have Gb_8a := Lib.hid (Gb_8.out.below ((Below.refl _ _).alloc (Nat.le_refl _) (.cells #[.int .i64 y, .int .i64 m, .int .i64 d] 48)))
       clear Gb_8; have Gb_8 := Gb_8a; clear Gb_8a
       have Gc_8a := Lib.hid (Gc_8.out.below ((Below.refl _ _).alloc (Nat.le_refl _) (.cells #[.int .i64 y, .int .i64 m, .int .i64 d] 48)))
       clear Gc_8; have Gc_8 := Gc_8a; clear Gc_8a
       obtain ⟨q8_0_0, q8_0_1, q8_0_2, -⟩ := M8_0.out.cells
       clear C8 hb)
    | (go_at_call 47; (with_reducible refine (C9.out _ (HW.out _ HR8.out)).mono ?_); rintro e W9 ⟨rfl, hb⟩
       have M9_0 := Lib.hid (M8_0.out.below hb)
       have Ga_9 := Lib.hid (Ga_8.out.below hb)
       have Gb_9 := Lib.hid (Gb_8.out.below hb)
       have Gc_9 := Lib.hid (Gc_8.out.below hb)
       have HR9 := Lib.hid (below_tr6 HR8.out hb rfl)
       obtain ⟨q9_0_0, q9_0_1, q9_0_2, -⟩ := M9_0.out.cells
       clear q8_0_0 q8_0_1 q8_0_2 C9 hb)
    | (go_at_call 47; (with_reducible refine (C10.out _ (HW.out _ HR9.out)).mono ?_); rintro e W10 ⟨rfl, hb⟩
       have M10_0 := Lib.hid (M9_0.out.below hb)
       have Ga_10 := Lib.hid (Ga_9.out.below hb)
       have Gb_10 := Lib.hid (Gb_9.out.below hb)
       have Gc_10 := Lib.hid (Gc_9.out.below hb)
       have HR10 := Lib.hid (below_tr6 HR9.out hb rfl)
       obtain ⟨q10_0_0, q10_0_1, q10_0_2, -⟩ := M10_0.out.cells
       clear q9_0_0 q9_0_1 q9_0_2 C10 hb)
    | (go_at_call 48; (with_reducible refine (C11.out _ _ Ga_10.out).mono ?_); rintro e W11 ⟨rfl, hb⟩
       have M11_0 := Lib.hid (M10_0.out.below hb)
       have Ga_11 := Lib.hid (Ga_10.out.below hb)
       have Gb_11 := Lib.hid (Gb_10.out.below hb)
       have Gc_11 := Lib.hid (Gc_10.out.below hb)
       have HR11 := Lib.hid (below_tr6 HR10.out hb rfl)
       obtain ⟨q11_0_0, q11_0_1, q11_0_2, -⟩ := M11_0.out.cells
       clear q10_0_0 q10_0_1 q10_0_2 C11 hb)
    | (fail "no arm"))
  go_ret
  exact ⟨rfl, HR11.out⟩
set_option maxRecDepth 100000 in
set_option maxHeartbeats 4000000 in
theorem CountYear_B (HBg : BegunC) (n : Int) (n0 : -9223372036854775808 ≤ n) (n1 : n ≤ 9223372036854775807) (k t D : Int) (hD : n % 109573 = D) (HT : k.tmod 20 % 20 = t) (ht : 0 ≤ t) (ht2 : t ≤ 19) (E y : Int) (q1 q2 q3 : Rat) (hD0 : 0 ≤ D) (hD1 : D ≤ 109572) (hE0 : 0 ≤ E) (hE1 : E ≤ 109572)
    (P1 : (∀ W, Wd W → Calls Tryz.prog 35 #[.int .i64 D, .int .i64 (12 * (1 + t)), .bool false] W fun e w' => e = .returned (.tuple #[.int .i64 E, .nilIface]) ∧ Below W.heap.size W w'))
    (P2 : (∀ W, Wd W → Calls Tryz.prog 19 #[.int .i64 1, .int .i64 D, .int .i64 E, .int .i64 0, .int .i64 0, .int .i64 0] W fun e w' => ∃ u, e = .returned (.tuple #[u, .nilIface]) ∧ (rat.IsR w' u (q1) ∧ u ≠ .pointer none) ∧ Below W.heap.size W w'))
    (P3 : (∀ W, Wd W → Calls Tryz.prog 19 #[.int .i64 3, .int .i64 D, .int .i64 E, .int .i64 0, .int .i64 0, .int .i64 0] W fun e w' => ∃ u, e = .returned (.tuple #[u, .nilIface]) ∧ (rat.IsR w' u (q2) ∧ u ≠ .pointer none) ∧ Below W.heap.size W w'))
    (P4 : (∀ W, Wd W → Calls Tryz.prog 19 #[.int .i64 2, .int .i64 D, .int .i64 E, .int .i64 0, .int .i64 0, .int .i64 0] W fun e w' => ∃ u, e = .returned (.tuple #[u, .nilIface]) ∧ (rat.IsR w' u (q3) ∧ u ≠ .pointer none) ∧ Below W.heap.size W w'))
    (P5 : (∀ (W : World) (u v : Value), rat.IsR W u q3 → rat.IsR W v q2 → Calls Tryz.prog 46 #[u, v] W fun e w' => e = .returned (.int .i64 1) ∧ Below W.heap.size W w'))
    (P6 : (∀ W, Wd W → Calls Tryz.prog 36 #[.int .i64 D] W fun e w' => e = .returned (.tuple #[.agg #[.int .i64 y, .int .i64 2, .int .i64 29], .nilIface]) ∧ Below W.heap.size W w'))
    (P7 : (∀ W, Wd W → Calls Tryz.prog 47 #[.int .i64 1, .int .i64 D, .int .i64 E] W fun e w' => e = .returned (.int .i64 (360 * (1 + t) - 1)) ∧ Below W.heap.size W w'))
    (P8 : (∀ W, Wd W → Calls Tryz.prog 47 #[.int .i64 3, .int .i64 D, .int .i64 E] W fun e w' => e = .returned (.int .i64 (E - D)) ∧ Below W.heap.size W w'))
    (P9 : (∀ (W : World) (u : Value), rat.IsR W u q1 → Calls Tryz.prog 48 #[u] W fun e w' => e = .returned (.int .i64 1) ∧ Below W.heap.size W w')) (w : World) (hw : Wd w) :
    Calls Tryz.prog 16 #[.int .i64 n, .int .i64 k] w fun e w' => e = .returned (.bool true) ∧ Below w.heap.size w w' := by
  have hDay := fun W => Day_any n n0 n1 W
  rw [hD] at hDay
  have t2 := Int.tmod_lt_of_pos k (show (0 : Int) < 20 by decide)
  have t3 : -20 < k.tmod 20 := by
    rcases Int.le_total 0 k with h | h
    · rw [Int.tmod_eq_emod_of_nonneg h]; omega
    · have e := Int.tmod_eq_emod_of_nonneg (b := 20) (show 0 ≤ -k by omega)
      rw [Int.neg_tmod] at e
      omega
  have _ := hD
  have _ := HT
  have _ := ht
  have _ := ht2
  have _ := hD0
  have _ := hD1
  have _ := hE0
  have _ := hE1
  have hne : ¬ 360 * (1 + t) - 1 = 360 * (1 + t) := by omega
  have HW := Lib.hid (fun W (h : Below w.heap.size w W) => hw.keep h)
  have C1 := Lib.hid (fun (W : World) (hW : Wd W) => HBg W hW)
  have C2 := Lib.hid (fun (W : World) (hW : Wd W) => hDay W)
  have C3 := Lib.hid (fun (W : World) (hW : Wd W) => P1 W hW)
  have C4 := Lib.hid (fun (W : World) (hW : Wd W) => P2 W hW)
  have C5 := Lib.hid (fun (W : World) (hW : Wd W) => P3 W hW)
  have C6 := Lib.hid (fun (W : World) (hW : Wd W) => P4 W hW)
  have C7 := Lib.hid (fun (W : World) (u v : Value) (hu : rat.IsR W u q3) (hv : rat.IsR W v q2) => P5 W u v hu hv)
  have C8 := Lib.hid (fun (W : World) (hW : Wd W) => P6 W hW)
  have C9 := Lib.hid (fun (W : World) (hW : Wd W) => P7 W hW)
  have C10 := Lib.hid (fun (W : World) (hW : Wd W) => P8 W hW)
  have C11 := Lib.hid (fun (W : World) (u : Value) (hu : rat.IsR W u q1) => P9 W u hu)
  have HR0 := Lib.hid (Below.refl w.heap.size w)
  unfold errOf at *
  clear hDay hD P1 P2 P3 P4 P5 P6 P7 P8 P9
  clear hw
  go_enter Tryz.func16, Tryz.ntmps16
  go_wp2_with (first
    | (go_at_call 20; (with_reducible refine (C1.out _ (HW.out _ HR0.out)).mono ?_); rintro e W1 ⟨rfl, hb⟩
       have HR1 := Lib.hid (below_tr6 HR0.out hb rfl)
       clear C1 hb)
    | (go_at_call 28; (with_reducible refine (C2.out _ (HW.out _ HR1.out)).mono ?_); rintro e w9 ⟨rfl, rfl⟩
       have HR2 := Lib.hid HR1.out
       clear C2)
    | (go_at_call 35; (with_reducible refine (C3.out _ (HW.out _ HR2.out)).mono ?_); rintro e W3 ⟨rfl, hb⟩
       have HR3 := Lib.hid (below_tr6 HR2.out hb rfl)
       clear C3 hb)
    | (go_at_call 19; (with_reducible refine (C4.out _ (HW.out _ HR3.out)).mono ?_); rintro e W4 ⟨ua, rfl, ⟨h_a, n_a⟩, hb⟩
       have Ga_4 := Lib.hid h_a
       have HR4 := Lib.hid (below_tr6 HR3.out hb rfl)
       clear n_a
       clear C4 hb h_a)
    | (go_at_call 19; (with_reducible refine (C5.out _ (HW.out _ HR4.out)).mono ?_); rintro e W5 ⟨ub, rfl, ⟨h_b, n_b⟩, hb⟩
       have Ga_5 := Lib.hid (Ga_4.out.below hb)
       have Gb_5 := Lib.hid h_b
       have HR5 := Lib.hid (below_tr6 HR4.out hb rfl)
       clear n_b
       clear C5 hb h_b)
    | (go_at_call 19; (with_reducible refine (C6.out _ (HW.out _ HR5.out)).mono ?_); rintro e W6 ⟨uc, rfl, ⟨h_c, n_c⟩, hb⟩
       have Ga_6 := Lib.hid (Ga_5.out.below hb)
       have Gb_6 := Lib.hid (Gb_5.out.below hb)
       have Gc_6 := Lib.hid h_c
       have HR6 := Lib.hid (below_tr6 HR5.out hb rfl)
       clear n_c
       clear C6 hb h_c)
    | (go_at_call 46; (with_reducible refine (C7.out _ _ _ Gc_6.out Gb_6.out).mono ?_); rintro e W7 ⟨rfl, hb⟩
       have Ga_7 := Lib.hid (Ga_6.out.below hb)
       have Gb_7 := Lib.hid (Gb_6.out.below hb)
       have Gc_7 := Lib.hid (Gc_6.out.below hb)
       have HR7 := Lib.hid (below_tr6 HR6.out hb rfl)
       clear C7 hb)
    | (go_at_call 36; (with_reducible refine (C8.out _ (HW.out _ HR7.out)).mono ?_); rintro e W8 ⟨rfl, hb⟩
       have Ga_8 := Lib.hid (Ga_7.out.below hb)
       have Gb_8 := Lib.hid (Gb_7.out.below hb)
       have Gc_8 := Lib.hid (Gc_7.out.below hb)
       have M8_0 := Lib.hid (CAt.new W8 y 2 29)
       have HR8 := Lib.hid (Below.alloc (below_tr6 HR7.out hb rfl) (Below.size (below_tr6 HR7.out hb rfl)) (.cells #[.int .i64 y, .int .i64 2, .int .i64 29] 48))
       have Ga_8a := Lib.hid (Ga_8.out.below ((Below.refl _ _).alloc (Nat.le_refl _) (.cells #[.int .i64 y, .int .i64 2, .int .i64 29] 48)))
       clear Ga_8; have Ga_8 := Ga_8a; clear Ga_8a
       have Gb_8a := Lib.hid (Gb_8.out.below ((Below.refl _ _).alloc (Nat.le_refl _) (.cells #[.int .i64 y, .int .i64 2, .int .i64 29] 48)))
       clear Gb_8; have Gb_8 := Gb_8a; clear Gb_8a
       have Gc_8a := Lib.hid (Gc_8.out.below ((Below.refl _ _).alloc (Nat.le_refl _) (.cells #[.int .i64 y, .int .i64 2, .int .i64 29] 48)))
       clear Gc_8; have Gc_8 := Gc_8a; clear Gc_8a
       obtain ⟨q8_0_0, q8_0_1, q8_0_2, -⟩ := M8_0.out.cells
       clear C8 hb)
    | (go_at_call 47; (with_reducible refine (C9.out _ (HW.out _ HR8.out)).mono ?_); rintro e W9 ⟨rfl, hb⟩
       have M9_0 := Lib.hid (M8_0.out.below hb)
       have Ga_9 := Lib.hid (Ga_8.out.below hb)
       have Gb_9 := Lib.hid (Gb_8.out.below hb)
       have Gc_9 := Lib.hid (Gc_8.out.below hb)
       have HR9 := Lib.hid (below_tr6 HR8.out hb rfl)
       obtain ⟨q9_0_0, q9_0_1, q9_0_2, -⟩ := M9_0.out.cells
       clear q8_0_0 q8_0_1 q8_0_2 C9 hb)
    | (go_at_call 47; (with_reducible refine (C10.out _ (HW.out _ HR9.out)).mono ?_); rintro e W10 ⟨rfl, hb⟩
       have M10_0 := Lib.hid (M9_0.out.below hb)
       have Ga_10 := Lib.hid (Ga_9.out.below hb)
       have Gb_10 := Lib.hid (Gb_9.out.below hb)
       have Gc_10 := Lib.hid (Gc_9.out.below hb)
       have HR10 := Lib.hid (below_tr6 HR9.out hb rfl)
       obtain ⟨q10_0_0, q10_0_1, q10_0_2, -⟩ := M10_0.out.cells
       clear q9_0_0 q9_0_1 q9_0_2 C10 hb)
    | (go_at_call 48; (with_reducible refine (C11.out _ _ Ga_10.out).mono ?_); rintro e W11 ⟨rfl, hb⟩
       have M11_0 := Lib.hid (M10_0.out.below hb)
       have Ga_11 := Lib.hid (Ga_10.out.below hb)
       have Gb_11 := Lib.hid (Gb_10.out.below hb)
       have Gc_11 := Lib.hid (Gc_10.out.below hb)
       have HR11 := Lib.hid (below_tr6 HR10.out hb rfl)
       obtain ⟨q11_0_0, q11_0_1, q11_0_2, -⟩ := M11_0.out.cells
       clear q10_0_0 q10_0_1 q10_0_2 C11 hb)
    | (fail "no arm"))
  go_ret
  exact ⟨rfl, HR11.out⟩
theorem CountYear_walk (HBg : BegunC) (HM : MonC) (HC : CntC) (n : Int) (n0 : -9223372036854775808 ≤ n) (n1 : n ≤ 9223372036854775807) (k : Int) (w : World) (hw : Wd w) :
    Calls Tryz.prog 16 #[.int .i64 n, .int .i64 k] w fun e w' => e = .returned (.bool true) ∧ Below w.heap.size w w' := by
  obtain ⟨y, m, d, hc, hD⟩ := (Day_isDay n).civil
  obtain ⟨t, ht⟩ : ∃ t, k.tmod 20 % 20 = t := ⟨_, rfl⟩
  have ht0 : 0 ≤ t ∧ t ≤ 19 := by omega
  have hmon := hc.month
  obtain ⟨e1, e2⟩ := mY_eq (y := y) (m := m) (k := 12 * (1 + t)) (Y := y + (1 + t)) (M := m) (by omega) hmon.1 hmon.2
  by_cases hY : y + (1 + t) ≤ 2199
  · have P1 := HM.addYes y m d (12 * (1 + t)) false hc (by omega) (by omega) (by rw [e1]; have := hc.1; omega) (by rw [e1]; exact hY)
    rw [e1, e2] at P1
    have cin := clip_in (fin := false) (y := y) (m := m) (d := d) (Y := y + (1 + t)) (M := m) hc.2.2.1 hmon.1 hmon.2
    have hcl : clip false y m d (y + (1 + t)) m = if mlen (y + (1 + t)) m < d then mlen (y + (1 + t)) m else d := by unfold clip; simp
    generalize clip false y m d (y + (1 + t)) m = d2 at *
    have hc2 : IsCivil (y + (1 + t)) m d2 := ⟨by have := hc.1; omega, hY, cin.1, cin.2⟩
    have hlt : dayOf y m d < dayOf (y + (1 + t)) m d2 := Before.lt hc hc2 (Or.inl (by omega))
    have hday := dayOf_isDay hc
    have hday2 := dayOf_isDay hc2
    have P2 := HC.part 1 y m d (y + (1 + t)) m d2 0 0 0 (by decide) (by decide) hc hc2 (by omega) (fun h => by omega)
    have P3 := HC.part 3 y m d (y + (1 + t)) m d2 0 0 0 (by decide) (by decide) hc hc2 (by omega) (fun h => by omega)
    have P4 := HC.part 2 y m d (y + (1 + t)) m d2 0 0 0 (by decide) (by decide) hc hc2 (by omega) (fun h => by omega)
    have P6 := fun W (hW : Wd W) => Civil_at y m d hc W hW.lens
    have P7 := HC.days 1 y m d (y + (1 + t)) m d2 (by decide) (by decide) hc hc2
    have P8 := HC.days 3 y m d (y + (1 + t)) m d2 (by decide) (by decide) hc hc2
    have q3 : cpart 2 y m d (y + (1 + t)) m d2 0 0 0 = ((dayOf (y + (1 + t)) m d2 - dayOf y m d : Int) : Rat) / ((360 : Int) : Rat) := by unfold cpart cdays; simp
    have q2 : cpart 3 y m d (y + (1 + t)) m d2 0 0 0 = ((dayOf (y + (1 + t)) m d2 - dayOf y m d : Int) : Rat) / ((365 : Int) : Rat) := by unfold cpart cdays; simp
    have q1 : cpart 1 y m d (y + (1 + t)) m d2 0 0 0 = ((ref6.thirty y m d (y + (1 + t)) m d2 : Int) : Rat) / ((360 : Int) : Rat) := by unfold cpart cdays; simp
    rw [q1] at P2
    rw [q2] at P3
    rw [q3] at P4
    rw [show cdays 1 y m d (y + (1 + t)) m d2 = ref6.thirty y m d (y + (1 + t)) m d2 by unfold cdays; simp] at P7
    rw [show cdays 3 y m d (y + (1 + t)) m d2 = dayOf (y + (1 + t)) m d2 - dayOf y m d by unfold cdays; simp] at P8
    have l1 := mlen_hi y m
    have hth : (ref6.thirty y m d (y + (1 + t)) m d2 = 360 * (1 + t)) ∨ (m = 2 ∧ d = 29 ∧ ref6.thirty y m d (y + (1 + t)) m d2 = 360 * (1 + t) - 1) := by
      unfold ref6.thirty
      have hdm := hc.2.2.2
      by_cases h : mlen (y + (1 + t)) m < d
      · rw [if_pos h] at hcl
        have hm2 : m = 2 := by
          by_cases h2 : m = 2
          · exact h2
          · rw [mlen_common y m (fun hh => h2 hh.1)] at hdm
            rw [mlen_common (y + (1 + t)) m (fun hh => h2 hh.1)] at h
            omega
        subst hm2
        have l2 := mlen_lo (y := y + (1 + t)) (m := 2) (by decide) (by decide)
        have l3 : mlen y 2 ≤ 29 := by unfold mlen; simp; split <;> omega
        right
        omega
      · rw [if_neg h] at hcl
        left
        omega
    have hz : (dayOf (y + (1 + t)) m d2 - dayOf y m d).natAbs < 18446744073709551616 := by
      have z1 := hday.1
      have z2 := hday.2
      have z3 := hday2.1
      have z4 := hday2.2
      omega
    have P5 : ∀ (W : World) (u v : Value), rat.IsR W u (((dayOf (y + (1 + t)) m d2 - dayOf y m d : Int) : Rat) / ((360 : Int) : Rat)) → rat.IsR W v (((dayOf (y + (1 + t)) m d2 - dayOf y m d : Int) : Rat) / ((365 : Int) : Rat)) → Calls Tryz.prog 46 #[u, v] W fun e w' => e = .returned (.int .i64 1) ∧ Below W.heap.size W w' := fun W u v hu hv => by
      have h := rat.Cmp_any u v _ _ W hu hv ((lr_int (by decide) hz (by decide)).le (by decide)) ((lr_int (by decide) hz (by decide)).le (by decide))
      rwa [cmp_dens (by omega)] at h
    have P9 : ∀ (W : World) (u : Value), rat.IsR W u (((ref6.thirty y m d (y + (1 + t)) m d2 : Int) : Rat) / ((360 : Int) : Rat)) → Calls Tryz.prog 48 #[u] W fun e w' => e = .returned (.int .i64 1) ∧ Below W.heap.size W w' := fun W u hu => by
      have h := rat.Sign_any u _ W hu
      rwa [sg_pos (by decide) (by rcases hth with hh | ⟨-, -, hh⟩ <;> omega)] at h
    rcases hth with hh | ⟨rfl, rfl, hh⟩
    · rw [hh] at P2 P7 P9
      rw [hD] at *
      exact CountYear_A HBg n n0 n1 k t _ rfl ht ht0.1 ht0.2 _ y m d _ _ _ hday.1 hday.2 hday2.1 hday2.2 P1 P2 P3 P4 P5 P6 P7 P8 P9 w hw
    · rw [hh] at P2 P7 P9
      rw [hD] at *
      exact CountYear_B HBg n n0 n1 k t _ rfl ht ht0.1 ht0.2 _ y _ _ _ hday.1 hday.2 hday2.1 hday2.2 P1 P2 P3 P4 P5 P6 P7 P8 P9 w hw
  · have P1 := HM.addNo y m d (12 * (1 + t)) false (by omega) (by omega) hc (fun h => hY (by rw [e1] at h; exact h.2.2.2))
    rw [hD] at P1
    exact CountYear_N HBg n n0 n1 k t _ rfl ht ht0.1 ht0.2 P1 w hw
end Go.Proofs.YtlhmfgbaefaneabGreatDoor.law6
