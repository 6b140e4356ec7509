/-
  The steps of the walks, part 2: Lw6EasterAll.
-/
import Derived.BigQuiet
import Derived.Deep.QuietTactic
import Derived.Test.YtlhmfgbaefaneaaGreatDoorB01
import Derived.Test.YtlhmfgbaefaneaaGreatDoorB02
import Derived.Test.YtlhmfgbaefaneaaGreatDoorB03
import Derived.Test.YtlhmfgbaefaneaaGreatDoorB04
import Derived.Test.YtlhmfgbaefaneaaGreatDoorB05
import Derived.Test.YtlhmfgbaefaneaaGreatDoorB06
import Derived.Test.YtlhmfgbaefaneaaGreatDoorB07
import Derived.Test.YtlhmfgbaefaneaaGreatDoorB08
import Derived.Test.YtlhmfgbaefaneaaGreatDoorB09
import Derived.Test.YtlhmfgbaefaneaaGreatDoorB10
import Derived.Test.YtlhmfgbaefaneaaGreatDoorB11
import Derived.Test.YtlhmfgbaefaneaaGreatDoorB12
import Derived.Test.YtlhmfgbaefaneaaGreatDoorB13
import Derived.Test.YtlhmfgbaefaneaaGreatDoorB14
import Derived.Test.YtlhmfgbaefaneaaGreatDoorB15
import Derived.Test.YtlhmfgbaefaneaaGreatDoorB16
import Derived.Test.YtlhmfgbaefaneaaGreatDoorB17
import Derived.Test.YtlhmfgbaefaneaaGreatDoorB18
import Derived.Test.YtlhmfgbaefaneaaGreatDoorB19
import Derived.Test.YtlhmfgbaefaneaaGreatDoorB20
import Derived.Test.YtlhmfgbaefaneaaGreatDoorB21
import Derived.Test.YtlhmfgbaefaneaaGreatDoorB22
import Derived.Test.YtlhmfgbaefaneaaGreatDoorLEasterAll01
namespace Go.Proofs.YtlhmfgbaefaneaaGreatDoor.law6
open Go Go.RowKit Go.Proofs.YtlhmfgbaefaneaaGreatDoor.day Go.Proofs.YtlhmfgbaefaneaaGreatDoor.date
open Go.Proofs.YtlhmfgbaefaneaaGreatDoor.ref (str str_size)
open Go.Proofs.YtlhmfgbaefaneaaGreatDoor.ref6 (CAt dayText DayForm quiet_same drewN_below6)
set_option maxRecDepth 100000 in
set_option maxHeartbeats 4000000 in
theorem EasterAll_lo (HBg : BegunC) (y p : Int) (HY : y.tmod 340 % 340 = p) (hp : 0 ≤ p) (h : 1880 + p < 1900)
    (P1 : (∀ W, Wd W → Calls Tryz.prog 42 #[.int .i64 (1880 + p)] W fun e w' => e = .returned (.tuple #[.int .i64 0, errOf 4]) ∧ Below W.heap.size W w')) (w : World) (hw : Wd w) :
    Calls Tryz.prog 8 #[.int .i64 y] w fun e w' => e = .returned (.bool true) ∧ Below w.heap.size w w' := by
  have t2 := Int.tmod_lt_of_pos y (show (0 : Int) < 340 by decide)
  have t3 : -340 < y.tmod 340 := by
    rcases Int.le_total 0 y with h | h
    · rw [Int.tmod_eq_emod_of_nonneg h]; omega
    · have e := Int.tmod_eq_emod_of_nonneg (b := 340) (show 0 ≤ -y by omega)
      rw [Int.neg_tmod] at e
      omega
  have _ := HY
  have _ := hp
  have _ := h
  have HW := Lib.hid (fun W (h : Below w.heap.size w W) => hw.keep h)
  have C1 := Lib.hid (fun (W : World) (hW : Wd W) => HBg W hW)
  have C2 := Lib.hid (fun (W : World) (hW : Wd W) => P1 W hW)
  have C3 := Lib.hid (fun (W : World) (hW : Wd W) => Same_code 4 W hW)
  have HR0 := Lib.hid (Below.refl w.heap.size w)
  unfold errOf at *
  clear P1
  clear hw
  go_enter Tryz.func8, Tryz.ntmps8
  go_wp2_with (first
    | (go_at_call 17; (with_reducible refine (C1.out _ (HW.out _ HR0.out)).mono ?_); rintro e W1 ⟨rfl, hb⟩
       have HR1 := Lib.hid (below_tr6 HR0.out hb rfl)
       clear C1 hb)
    | (go_at_call 42; (with_reducible refine (C2.out _ (HW.out _ HR1.out)).mono ?_); rintro e W2 ⟨rfl, hb⟩
       have HR2 := Lib.hid (below_tr6 HR1.out hb rfl)
       clear C2 hb)
    | (go_at_call 29; (with_reducible refine (C3.out _ (HW.out _ HR2.out)).mono ?_); rintro e W3 ⟨rfl, hb⟩
       have HR3 := Lib.hid (below_tr6 HR2.out hb rfl)
       clear C3 hb)
    | (fail "no arm"))
  go_ret
  exact ⟨rfl, HR3.out⟩
set_option maxRecDepth 100000 in
set_option maxHeartbeats 4000000 in
theorem EasterAll_hi (HBg : BegunC) (y p : Int) (HY : y.tmod 340 % 340 = p) (hp : 0 ≤ p) (h : 2199 < 1880 + p) (hp2 : p ≤ 339)
    (P1 : (∀ W, Wd W → Calls Tryz.prog 42 #[.int .i64 (1880 + p)] W fun e w' => e = .returned (.tuple #[.int .i64 0, errOf 4]) ∧ Below W.heap.size W w')) (w : World) (hw : Wd w) :
    Calls Tryz.prog 8 #[.int .i64 y] w fun e w' => e = .returned (.bool true) ∧ Below w.heap.size w w' := by
  have t2 := Int.tmod_lt_of_pos y (show (0 : Int) < 340 by decide)
  have t3 : -340 < y.tmod 340 := by
    rcases Int.le_total 0 y with h | h
    · rw [Int.tmod_eq_emod_of_nonneg h]; omega
    · have e := Int.tmod_eq_emod_of_nonneg (b := 340) (show 0 ≤ -y by omega)
      rw [Int.neg_tmod] at e
      omega
  have _ := HY
  have _ := hp
  have _ := h
  have _ := hp2
  have HW := Lib.hid (fun W (h : Below w.heap.size w W) => hw.keep h)
  have C1 := Lib.hid (fun (W : World) (hW : Wd W) => HBg W hW)
  have C2 := Lib.hid (fun (W : World) (hW : Wd W) => P1 W hW)
  have C3 := Lib.hid (fun (W : World) (hW : Wd W) => Same_code 4 W hW)
  have HR0 := Lib.hid (Below.refl w.heap.size w)
  unfold errOf at *
  clear P1
  clear hw
  go_enter Tryz.func8, Tryz.ntmps8
  go_wp2_with (first
    | (go_at_call 17; (with_reducible refine (C1.out _ (HW.out _ HR0.out)).mono ?_); rintro e W1 ⟨rfl, hb⟩
       have HR1 := Lib.hid (below_tr6 HR0.out hb rfl)
       clear C1 hb)
    | (go_at_call 42; (with_reducible refine (C2.out _ (HW.out _ HR1.out)).mono ?_); rintro e W2 ⟨rfl, hb⟩
       have HR2 := Lib.hid (below_tr6 HR1.out hb rfl)
       clear C2 hb)
    | (go_at_call 29; (with_reducible refine (C3.out _ (HW.out _ HR2.out)).mono ?_); rintro e W3 ⟨rfl, hb⟩
       have HR3 := Lib.hid (below_tr6 HR2.out hb rfl)
       clear C3 hb)
    | (fail "no arm"))
  go_ret
  exact ⟨rfl, HR3.out⟩
set_option maxRecDepth 100000 in
set_option maxHeartbeats 4000000 in
theorem EasterAll_3 (HBg : BegunC) (y p : Int) (HY : y.tmod 340 % 340 = p) (hp : 0 ≤ p) (h1 : 1900 ≤ 1880 + p) (h2 : 1880 + p ≤ 2199) (d E : Int) (h3 : 22 ≤ d)
    (P1 : (∀ W, Wd W → Calls Tryz.prog 42 #[.int .i64 (1880 + p)] W fun e w' => e = .returned (.tuple #[.int .i64 E, .nilIface]) ∧ Below W.heap.size W w')) (P2 : (∀ W, Wd W → Calls Tryz.prog 20 #[.int .i64 E] W fun e w' => e = .returned (.tuple #[.agg #[.int .i64 (1880 + p), .int .i64 3, .int .i64 d], .nilIface]) ∧ Below W.heap.size W w')) (P3 : (∀ W, Wd W → Calls Tryz.prog 43 #[.int .i64 (1880 + p)] W fun e w' => e = .returned (.int .i64 E) ∧ Below W.heap.size W w')) (P4 : (∀ W, Wd W → Calls Tryz.prog 26 #[.int .i64 E] W fun e w' => e = .returned (.int .i64 0) ∧ Below W.heap.size W w')) (w : World) (hw : Wd w) :
    Calls Tryz.prog 8 #[.int .i64 y] w fun e w' => e = .returned (.bool true) ∧ Below w.heap.size w w' := by
  have t2 := Int.tmod_lt_of_pos y (show (0 : Int) < 340 by decide)
  have t3 : -340 < y.tmod 340 := by
    rcases Int.le_total 0 y with h | h
    · rw [Int.tmod_eq_emod_of_nonneg h]; omega
    · have e := Int.tmod_eq_emod_of_nonneg (b := 340) (show 0 ≤ -y by omega)
      rw [Int.neg_tmod] at e
      omega
  have _ := HY
  have _ := hp
  have _ := h1
  have _ := h2
  have _ := h3
  have HW := Lib.hid (fun W (h : Below w.heap.size w W) => hw.keep h)
  have C1 := Lib.hid (fun (W : World) (hW : Wd W) => HBg W hW)
  have C2 := Lib.hid (fun (W : World) (hW : Wd W) => P1 W hW)
  have C3 := Lib.hid (fun (W : World) (hW : Wd W) => P2 W hW)
  have C4 := Lib.hid (fun (W : World) (hW : Wd W) => P3 W hW)
  have C5 := Lib.hid (fun (W : World) (hW : Wd W) => P4 W hW)
  have HR0 := Lib.hid (Below.refl w.heap.size w)
  unfold errOf at *
  clear P1 P2 P3 P4
  clear hw
  go_enter Tryz.func8, Tryz.ntmps8
  go_wp2_with (first
    | (go_at_call 17; (with_reducible refine (C1.out _ (HW.out _ HR0.out)).mono ?_); rintro e W1 ⟨rfl, hb⟩
       have HR1 := Lib.hid (below_tr6 HR0.out hb rfl)
       clear C1 hb)
    | (go_at_call 42; (with_reducible refine (C2.out _ (HW.out _ HR1.out)).mono ?_); rintro e W2 ⟨rfl, hb⟩
       have HR2 := Lib.hid (below_tr6 HR1.out hb rfl)
       clear C2 hb)
    | (go_at_call 20; (with_reducible refine (C3.out _ (HW.out _ HR2.out)).mono ?_); rintro e W3 ⟨rfl, hb⟩
       have M3_0 := Lib.hid (CAt.new W3 (1880 + p) 3 d)
       have HR3 := Lib.hid (Below.alloc (below_tr6 HR2.out hb rfl) (Below.size (below_tr6 HR2.out hb rfl)) (.cells #[.int .i64 (1880 + p), .int .i64 3, .int .i64 d] 23))
       obtain ⟨q3_0_0, q3_0_1, q3_0_2, -⟩ := M3_0.out.cells
       clear C3 hb)
    | (go_at_call 43; (with_reducible refine (C4.out _ (HW.out _ HR3.out)).mono ?_); rintro e W4 ⟨rfl, hb⟩
       have M4_0 := Lib.hid (M3_0.out.below hb)
       have HR4 := Lib.hid (below_tr6 HR3.out hb rfl)
       obtain ⟨q4_0_0, q4_0_1, q4_0_2, -⟩ := M4_0.out.cells
       clear q3_0_0 q3_0_1 q3_0_2 C4 hb)
    | (go_at_call 26; (with_reducible refine (C5.out _ (HW.out _ HR4.out)).mono ?_); rintro e W5 ⟨rfl, hb⟩
       have M5_0 := Lib.hid (M4_0.out.below hb)
       have HR5 := Lib.hid (below_tr6 HR4.out hb rfl)
       obtain ⟨q5_0_0, q5_0_1, q5_0_2, -⟩ := M5_0.out.cells
       clear q4_0_0 q4_0_1 q4_0_2 C5 hb)
    | (fail "no arm"))
  go_ret
  exact ⟨rfl, HR5.out⟩
set_option maxRecDepth 100000 in
set_option maxHeartbeats 4000000 in
theorem EasterAll_4 (HBg : BegunC) (y p : Int) (HY : y.tmod 340 % 340 = p) (hp : 0 ≤ p) (h1 : 1900 ≤ 1880 + p) (h2 : 1880 + p ≤ 2199) (d E : Int) (h3 : d ≤ 25)
    (P1 : (∀ W, Wd W → Calls Tryz.prog 42 #[.int .i64 (1880 + p)] W fun e w' => e = .returned (.tuple #[.int .i64 E, .nilIface]) ∧ Below W.heap.size W w')) (P2 : (∀ W, Wd W → Calls Tryz.prog 20 #[.int .i64 E] W fun e w' => e = .returned (.tuple #[.agg #[.int .i64 (1880 + p), .int .i64 4, .int .i64 d], .nilIface]) ∧ Below W.heap.size W w')) (P3 : (∀ W, Wd W → Calls Tryz.prog 43 #[.int .i64 (1880 + p)] W fun e w' => e = .returned (.int .i64 E) ∧ Below W.heap.size W w')) (P4 : (∀ W, Wd W → Calls Tryz.prog 26 #[.int .i64 E] W fun e w' => e = .returned (.int .i64 0) ∧ Below W.heap.size W w')) (w : World) (hw : Wd w) :
    Calls Tryz.prog 8 #[.int .i64 y] w fun e w' => e = .returned (.bool true) ∧ Below w.heap.size w w' := by
  have t2 := Int.tmod_lt_of_pos y (show (0 : Int) < 340 by decide)
  have t3 : -340 < y.tmod 340 := by
    rcases Int.le_total 0 y with h | h
    · rw [Int.tmod_eq_emod_of_nonneg h]; omega
    · have e := Int.tmod_eq_emod_of_nonneg (b := 340) (show 0 ≤ -y by omega)
      rw [Int.neg_tmod] at e
      omega
  have _ := HY
  have _ := hp
  have _ := h1
  have _ := h2
  have _ := h3
  have HW := Lib.hid (fun W (h : Below w.heap.size w W) => hw.keep h)
  have C1 := Lib.hid (fun (W : World) (hW : Wd W) => HBg W hW)
  have C2 := Lib.hid (fun (W : World) (hW : Wd W) => P1 W hW)
  have C3 := Lib.hid (fun (W : World) (hW : Wd W) => P2 W hW)
  have C4 := Lib.hid (fun (W : World) (hW : Wd W) => P3 W hW)
  have C5 := Lib.hid (fun (W : World) (hW : Wd W) => P4 W hW)
  have HR0 := Lib.hid (Below.refl w.heap.size w)
  unfold errOf at *
  clear P1 P2 P3 P4
  clear hw
  go_enter Tryz.func8, Tryz.ntmps8
  go_wp2_with (first
    | (go_at_call 17; (with_reducible refine (C1.out _ (HW.out _ HR0.out)).mono ?_); rintro e W1 ⟨rfl, hb⟩
       have HR1 := Lib.hid (below_tr6 HR0.out hb rfl)
       clear C1 hb)
    | (go_at_call 42; (with_reducible refine (C2.out _ (HW.out _ HR1.out)).mono ?_); rintro e W2 ⟨rfl, hb⟩
       have HR2 := Lib.hid (below_tr6 HR1.out hb rfl)
       clear C2 hb)
    | (go_at_call 20; (with_reducible refine (C3.out _ (HW.out _ HR2.out)).mono ?_); rintro e W3 ⟨rfl, hb⟩
       have M3_0 := Lib.hid (CAt.new W3 (1880 + p) 4 d)
       have HR3 := Lib.hid (Below.alloc (below_tr6 HR2.out hb rfl) (Below.size (below_tr6 HR2.out hb rfl)) (.cells #[.int .i64 (1880 + p), .int .i64 4, .int .i64 d] 23))
       obtain ⟨q3_0_0, q3_0_1, q3_0_2, -⟩ := M3_0.out.cells
       clear C3 hb)
    | (go_at_call 43; (with_reducible refine (C4.out _ (HW.out _ HR3.out)).mono ?_); rintro e W4 ⟨rfl, hb⟩
       have M4_0 := Lib.hid (M3_0.out.below hb)
       have HR4 := Lib.hid (below_tr6 HR3.out hb rfl)
       obtain ⟨q4_0_0, q4_0_1, q4_0_2, -⟩ := M4_0.out.cells
       clear q3_0_0 q3_0_1 q3_0_2 C4 hb)
    | (go_at_call 26; (with_reducible refine (C5.out _ (HW.out _ HR4.out)).mono ?_); rintro e W5 ⟨rfl, hb⟩
       have M5_0 := Lib.hid (M4_0.out.below hb)
       have HR5 := Lib.hid (below_tr6 HR4.out hb rfl)
       obtain ⟨q5_0_0, q5_0_1, q5_0_2, -⟩ := M5_0.out.cells
       clear q4_0_0 q4_0_1 q4_0_2 C5 hb)
    | (fail "no arm"))
  go_ret
  exact ⟨rfl, HR5.out⟩
theorem EasterAll_walk (HBg : BegunC) (HE : EasC) (y : Int) (w : World) (hw : Wd w) :
    Calls Tryz.prog 8 #[.int .i64 y] w fun e w' => e = .returned (.bool true) ∧ Below w.heap.size w w' := by
  obtain ⟨p, hp⟩ : ∃ p, y.tmod 340 % 340 = p := ⟨_, rfl⟩
  have h0 : 0 ≤ p ∧ p ≤ 339 := by omega
  by_cases h1 : 1900 ≤ 1880 + p
  · by_cases h2 : 1880 + p ≤ 2199
    · have P1 := HE.yes (1880 + p) h1 h2
      have hc := easter_civil h1 h2
      obtain ⟨s1, s2⟩ := easter_sunday h1 h2
      have P2 := fun W (hW : Wd W) => Civil_at _ _ _ hc W hW.lens
      have P3 := fun W (_ : Wd W) => ref6.Easter_any (1880 + p) h1 h2 W
      have P4 := fun W (_ : Wd W) => same_below (Weekday_day _ (dayOf_isDay hc) W)
      unfold easterDay at P1 P3 s1
      rw [s1] at P4
      rcases s2 with ⟨m3, d3⟩ | ⟨m4, d4⟩
      · rw [m3] at P1 P2 P3 P4
        exact EasterAll_3 HBg y p hp h0.1 h1 h2 _ _ d3 P1 P2 P3 P4 w hw
      · rw [m4] at P1 P2 P3 P4
        exact EasterAll_4 HBg y p hp h0.1 h1 h2 _ _ d4 P1 P2 P3 P4 w hw
    · exact EasterAll_hi HBg y p hp h0.1 (by omega) h0.2 (HE.no (1880 + p) (by omega)) w hw
  · exact EasterAll_lo HBg y p hp h0.1 (by omega) (HE.no (1880 + p) (by omega)) w hw
end Go.Proofs.YtlhmfgbaefaneaaGreatDoor.law6
