/-
  The steps of the walks, part 2: Lw6HoliShift.
-/
import Derived.BigQuiet
import Derived.Deep.QuietTactic
import Derived.Test.YtlhmfgbaefaneabGreatDoorB01
import Derived.Test.YtlhmfgbaefaneabGreatDoorB02
import Derived.Test.YtlhmfgbaefaneabGreatDoorB03
import Derived.Test.YtlhmfgbaefaneabGreatDoorB04
import Derived.Test.YtlhmfgbaefaneabGreatDoorB05
import Derived.Test.YtlhmfgbaefaneabGreatDoorB06
import Derived.Test.YtlhmfgbaefaneabGreatDoorB07
import Derived.Test.YtlhmfgbaefaneabGreatDoorB08
import Derived.Test.YtlhmfgbaefaneabGreatDoorB09
import Derived.Test.YtlhmfgbaefaneabGreatDoorB10
import Derived.Test.YtlhmfgbaefaneabGreatDoorB11
import Derived.Test.YtlhmfgbaefaneabGreatDoorB12
import Derived.Test.YtlhmfgbaefaneabGreatDoorB13
import Derived.Test.YtlhmfgbaefaneabGreatDoorB14
import Derived.Test.YtlhmfgbaefaneabGreatDoorB15
import Derived.Test.YtlhmfgbaefaneabGreatDoorB16
import Derived.Test.YtlhmfgbaefaneabGreatDoorB17
import Derived.Test.YtlhmfgbaefaneabGreatDoorB18
import Derived.Test.YtlhmfgbaefaneabGreatDoorB19
import Derived.Test.YtlhmfgbaefaneabGreatDoorB20
import Derived.Test.YtlhmfgbaefaneabGreatDoorB21
import Derived.Test.YtlhmfgbaefaneabGreatDoorB22
import Derived.Test.YtlhmfgbaefaneabGreatDoorB23
import Derived.Test.YtlhmfgbaefaneabGreatDoorB24
import Derived.Test.YtlhmfgbaefaneabGreatDoorB25
import Derived.Test.YtlhmfgbaefaneabGreatDoorB26
import Derived.Test.YtlhmfgbaefaneabGreatDoorB27
import Derived.Test.YtlhmfgbaefaneabGreatDoorB28
import Derived.Test.YtlhmfgbaefaneabGreatDoorB29
import Derived.Test.YtlhmfgbaefaneabGreatDoorB30
import Derived.Test.YtlhmfgbaefaneabGreatDoorB31
import Derived.Test.YtlhmfgbaefaneabGreatDoorB32
import Derived.Test.YtlhmfgbaefaneabGreatDoorB33
import Derived.Test.YtlhmfgbaefaneabGreatDoorB34
import Derived.Test.YtlhmfgbaefaneabGreatDoorB35
import Derived.Test.YtlhmfgbaefaneabGreatDoorB36
import Derived.Test.YtlhmfgbaefaneabGreatDoorB37
import Derived.Test.YtlhmfgbaefaneabGreatDoorB38
import Derived.Test.YtlhmfgbaefaneabGreatDoorB39
import Derived.Test.YtlhmfgbaefaneabGreatDoorB40
import Derived.Test.YtlhmfgbaefaneabGreatDoorLHoliShift01
namespace Go.Proofs.YtlhmfgbaefaneabGreatDoor.law6
open Go Go.RowKit Go.Proofs.YtlhmfgbaefaneabGreatDoor.day Go.Proofs.YtlhmfgbaefaneabGreatDoor.date
open Go.Proofs.YtlhmfgbaefaneabGreatDoor.ref (str str_size)
open Go.Proofs.YtlhmfgbaefaneabGreatDoor.ref6 (CAt dayText DayForm quiet_same drewN_below6)
open Go.Proofs.YtlhmfgbaefaneabGreatDoor.ref6 (RAt)
theorem rat_frozen5 {w : World} {b : Nat} {k mo d n wd : Int} {sh : Bool} (h : RAt w b k mo d n wd sh) : w.frozen? ⟨b, 5, none⟩ = false := by
  unfold RAt at h
  unfold World.frozen?
  rw [h]
  rfl
theorem rat_set5 {w : World} {b : Nat} {k mo d n wd : Int} {sh : Bool} (h : RAt w b k mo d n wd sh) : RAt (w.setCell ⟨b, 5, none⟩ (.bool true)) b k mo d n wd true := by
  unfold RAt at *
  rw [heap_setCell_same w b 5 _ _ _ h]
  rfl
theorem shift_week (z : Int) : ¬ (ref6.shiftDay true z + 1) % 7 = 6 ∧ ¬ (ref6.shiftDay true z + 1) % 7 = 0 ∧ ref6.shiftDay true z ≤ z + 1 ∧ z ≤ ref6.shiftDay true z + 1 ∧ (¬ ref6.shiftDay true z = z → (z + 1) % 7 = 6 ∨ (z + 1) % 7 = 0) := by
  unfold ref6.shiftDay
  simp only [true_and]
  split
  · omega
  · split <;> omega
theorem fixed_hol {Y M d : Int} {sh : Bool} (h : IsCivil Y M d) (hm : 1 ≤ M ∧ M ≤ 12 ∧ 1 ≤ d ∧ d ≤ mlen 2000 M) (hd : IsDay (ref6.shiftDay sh (dayOf Y M d))) : ref6.holiday 1 M d 0 0 sh Y = some (ref6.shiftDay sh (dayOf Y M d)) := by
  unfold ref6.holiday
  rw [if_pos ⟨Or.inl ⟨rfl, hm.1, hm.2.1, hm.2.2.1, hm.2.2.2, rfl, rfl⟩, h.1, h.2.1⟩]
  simp [ref6.rawDay, h, hd]
theorem fixed_none {Y M d : Int} {sh : Bool} (h : ¬ IsCivil Y M d) : ref6.holiday 1 M d 0 0 sh Y = none := by
  unfold ref6.holiday
  split
  · simp [ref6.rawDay, h]
  · rfl
theorem fixed_week {Y M d z : Int} (h : ref6.holiday 1 M d 0 0 true Y = some z) : ¬ (z + 1) % 7 = 6 ∧ ¬ (z + 1) % 7 = 0 := by
  unfold ref6.holiday at h
  split at h
  · unfold ref6.rawDay at h
    rw [if_pos rfl] at h
    split at h
    · simp only [Option.bind_some] at h
      split at h
      · obtain rfl := Option.some.inj h
        exact ⟨(shift_week _).1, (shift_week _).2.1⟩
      · cases h
    · cases h
  · cases h
set_option maxRecDepth 100000 in
set_option maxHeartbeats 4000000 in
theorem HoliShift_same29 (HBg : BegunC) (y m day p q t : Int) (dd0 : -9223372036854775808 ≤ day) (dd1 : day ≤ 9223372036854775807) (HY : y.tmod 298 % 298 = p) (HQ : m.tmod 12 % 12 = q) (HT : day.tmod 29 % 29 = t) (hp : 0 ≤ p) (hp2 : p ≤ 297) (hq : 0 ≤ q) (hq2 : q ≤ 11) (ht : 0 ≤ t) (ht2 : t ≤ 28) (HL : mlen 2000 (1 + q) = 29) (a wb : Int) (ha0 : 0 ≤ a) (ha1 : a ≤ 109572) (hb6 : ¬ wb = 6) (hb0 : ¬ wb = 0)
    (P1 : (∀ W, Wd W → Calls Tryz.prog 39 #[.agg #[.int .i64 1, .int .i64 (1 + q), .int .i64 (1 + t), .int .i64 0, .int .i64 0, .bool false], .int .i64 (1901 + p)] W fun e w' => e = .returned (.tuple #[.int .i64 a, .bool true]) ∧ Below W.heap.size W w')) (P2 : (∀ W, Wd W → Calls Tryz.prog 39 #[.agg #[.int .i64 1, .int .i64 (1 + q), .int .i64 (1 + t), .int .i64 0, .int .i64 0, .bool true], .int .i64 (1901 + p)] W fun e w' => e = .returned (.tuple #[.int .i64 a, .bool true]) ∧ Below W.heap.size W w')) (P3 : (∀ W, Wd W → Calls Tryz.prog 34 #[.int .i64 a] W fun e w' => e = .returned (.int .i64 wb) ∧ W = w')) (P4 : (∀ W, Wd W → Calls Tryz.prog 40 #[.agg #[.int .i64 1, .int .i64 (1 + q), .int .i64 (1 + t), .int .i64 0, .int .i64 0, .bool true], .int .i64 a] W fun e w' => e = .returned (.bool true) ∧ Below W.heap.size W w')) (w : World) (hw : Wd w) :
    Calls Tryz.prog 11 #[.int .i64 y, .int .i64 m, .int .i64 day] w fun e w' => e = .returned (.bool true) ∧ Below w.heap.size w w' := by
  have t2 := Int.tmod_lt_of_pos y (show (0 : Int) < 298 by decide)
  have t3 : -298 < y.tmod 298 := by
    rcases Int.le_total 0 y with h | h
    · rw [Int.tmod_eq_emod_of_nonneg h]; omega
    · have e := Int.tmod_eq_emod_of_nonneg (b := 298) (show 0 ≤ -y by omega)
      rw [Int.neg_tmod] at e
      omega
  have v2 := Int.tmod_lt_of_pos m (show (0 : Int) < 12 by decide)
  have v3 : -12 < m.tmod 12 := by
    rcases Int.le_total 0 m with h | h
    · rw [Int.tmod_eq_emod_of_nonneg h]; omega
    · have e := Int.tmod_eq_emod_of_nonneg (b := 12) (show 0 ≤ -m by omega)
      rw [Int.neg_tmod] at e
      omega
  have u2 := Int.tmod_lt_of_pos day (show (0 : Int) < 29 by decide)
  have u3 : -29 < day.tmod 29 := by
    rcases Int.le_total 0 day with h | h
    · rw [Int.tmod_eq_emod_of_nonneg h]; omega
    · have e := Int.tmod_eq_emod_of_nonneg (b := 29) (show 0 ≤ -day by omega)
      rw [Int.neg_tmod] at e
      omega
  have _ := HT
  have _ := hp
  have _ := hp2
  have _ := hq
  have _ := hq2
  have _ := ht
  have _ := ht2
  have _ := ha0
  have _ := ha1
  have _ := hb6
  have _ := hb0
  have HW := Lib.hid (fun W (h : Below w.heap.size w W) => hw.keep h)
  have C1 := Lib.hid (fun (W : World) (hW : Wd W) => HBg W hW)
  have CL := Lib.hid (fun W : World => ref6.Length_any 2000 (1 + q) W)
  rw [HL] at CL
  have D1 := Lib.hid P1
  have D2 := Lib.hid P2
  have D3 := Lib.hid P3
  have D4 := Lib.hid P4
  clear hw HL P1 P2 P3 P4
  go_enter Tryz.func11, Tryz.ntmps11
  go_wp2_with (first
    | (go_at_call 20; (with_reducible refine (C1.out _ (HW.out _ (Below.refl _ _))).mono ?_); rintro e W1 ⟨rfl, hb⟩
       have HR1 := Lib.hid hb
       clear C1 hb)
    | (fail "no arm"))
  go_quiet (first | (go_at_call 41; with_reducible exact quiet_same (CL.out _)))
  obtain ⟨V, hV⟩ : ∃ V, V = W1.drewN nq := ⟨_, rfl⟩
  rw [← hV]
  have HRV := Lib.hid (show Below w.heap.size w V from by rw [hV]; exact drewN_below6 HR1.out nq)
  clear hV
  have R0 := Lib.hid (RAt.new V 1 (1 + q) (1 + t) 0 0 false)
  have HRA := Lib.hid (HRV.out.alloc HRV.out.size (.cells #[.int .i64 1, .int .i64 (1 + q), .int .i64 (1 + t), .int .i64 0, .int .i64 0, .bool false] 38))
  have hsv := HRV.out.size
  obtain ⟨q0, q1, q2, q3, q4, q5⟩ := R0.out.at
  go_wp2_with (first
    | (go_at_call 39; (with_reducible refine (D1.out _ (HW.out _ HRA.out)).mono ?_); rintro e W2 ⟨rfl, hb⟩
       have R2 := Lib.hid (R0.out.below hb)
       have hf5 := rat_frozen5 R2.out
       have c5 := R2.out.at.2.2.2.2.2
       have R3 := Lib.hid (rat_set5 R2.out)
       have HR2 := Lib.hid (Below.setCell (p := ⟨V.heap.size, 5, none⟩) (below_tr6 HRA.out hb rfl) hsv (.bool true))
       obtain ⟨r0, r1, r2, r3, r4, r5⟩ := R3.out.at
       clear D1 hb q0 q1 q2 q3 q4 q5)
    | (go_at_call 39; (with_reducible refine (D2.out _ (HW.out _ HR2.out)).mono ?_); rintro e W3 ⟨rfl, hb⟩
       have R4 := Lib.hid (R3.out.below hb)
       have HR3 := Lib.hid (below_tr6 HR2.out hb rfl)
       obtain ⟨s0, s1, s2, s3, s4, s5⟩ := R4.out.at
       clear D2 hb r0 r1 r2 r3 r4 r5)
    | (go_at_call 34; (with_reducible refine (D3.out _ (HW.out _ HR3.out)).mono ?_); rintro e w9 ⟨rfl, rfl⟩; clear D3)
    | (go_at_call 40; (with_reducible refine (D4.out _ (HW.out _ HR3.out)).mono ?_); rintro e W4 ⟨rfl, hb⟩
       have R5 := Lib.hid (R4.out.below hb)
       have HR4 := Lib.hid (below_tr6 HR3.out hb rfl)
       obtain ⟨t0, t1, t2', t3', t4, t5⟩ := R5.out.at
       clear D4 hb s0 s1 s2 s3 s4 s5)
    | (fail "no arm"))
  go_ret
  refine ⟨?_, HR4.out⟩
  simp [hb0, hb6]
set_option maxRecDepth 100000 in
set_option maxHeartbeats 4000000 in
theorem HoliShift_off29 (HBg : BegunC) (y m day p q t : Int) (dd0 : -9223372036854775808 ≤ day) (dd1 : day ≤ 9223372036854775807) (HY : y.tmod 298 % 298 = p) (HQ : m.tmod 12 % 12 = q) (HT : day.tmod 29 % 29 = t) (hp : 0 ≤ p) (hp2 : p ≤ 297) (hq : 0 ≤ q) (hq2 : q ≤ 11) (ht : 0 ≤ t) (ht2 : t ≤ 28) (HL : mlen 2000 (1 + q) = 29) (a b wb : Int) (ha0 : 0 ≤ a) (ha1 : a ≤ 109572) (hb6 : ¬ wb = 6) (hb0 : ¬ wb = 0) (hab : ¬ a = b) (hb1 : b ≤ a + 1) (hb2 : a ≤ b + 1)
    (P1 : (∀ W, Wd W → Calls Tryz.prog 39 #[.agg #[.int .i64 1, .int .i64 (1 + q), .int .i64 (1 + t), .int .i64 0, .int .i64 0, .bool false], .int .i64 (1901 + p)] W fun e w' => e = .returned (.tuple #[.int .i64 a, .bool true]) ∧ Below W.heap.size W w')) (P2 : (∀ W, Wd W → Calls Tryz.prog 39 #[.agg #[.int .i64 1, .int .i64 (1 + q), .int .i64 (1 + t), .int .i64 0, .int .i64 0, .bool true], .int .i64 (1901 + p)] W fun e w' => e = .returned (.tuple #[.int .i64 b, .bool true]) ∧ Below W.heap.size W w')) (P3 : (∀ W, Wd W → Calls Tryz.prog 34 #[.int .i64 b] W fun e w' => e = .returned (.int .i64 wb) ∧ W = w')) (P4 : (∀ W, Wd W → Calls Tryz.prog 40 #[.agg #[.int .i64 1, .int .i64 (1 + q), .int .i64 (1 + t), .int .i64 0, .int .i64 0, .bool true], .int .i64 b] W fun e w' => e = .returned (.bool true) ∧ Below W.heap.size W w')) (P5 : (∀ W, Wd W → Calls Tryz.prog 40 #[.agg #[.int .i64 1, .int .i64 (1 + q), .int .i64 (1 + t), .int .i64 0, .int .i64 0, .bool true], .int .i64 a] W fun e w' => e = .returned (.bool false) ∧ Below W.heap.size W w')) (w : World) (hw : Wd w) :
    Calls Tryz.prog 11 #[.int .i64 y, .int .i64 m, .int .i64 day] w fun e w' => e = .returned (.bool true) ∧ Below w.heap.size w w' := by
  have t2 := Int.tmod_lt_of_pos y (show (0 : Int) < 298 by decide)
  have t3 : -298 < y.tmod 298 := by
    rcases Int.le_total 0 y with h | h
    · rw [Int.tmod_eq_emod_of_nonneg h]; omega
    · have e := Int.tmod_eq_emod_of_nonneg (b := 298) (show 0 ≤ -y by omega)
      rw [Int.neg_tmod] at e
      omega
  have v2 := Int.tmod_lt_of_pos m (show (0 : Int) < 12 by decide)
  have v3 : -12 < m.tmod 12 := by
    rcases Int.le_total 0 m with h | h
    · rw [Int.tmod_eq_emod_of_nonneg h]; omega
    · have e := Int.tmod_eq_emod_of_nonneg (b := 12) (show 0 ≤ -m by omega)
      rw [Int.neg_tmod] at e
      omega
  have u2 := Int.tmod_lt_of_pos day (show (0 : Int) < 29 by decide)
  have u3 : -29 < day.tmod 29 := by
    rcases Int.le_total 0 day with h | h
    · rw [Int.tmod_eq_emod_of_nonneg h]; omega
    · have e := Int.tmod_eq_emod_of_nonneg (b := 29) (show 0 ≤ -day by omega)
      rw [Int.neg_tmod] at e
      omega
  have _ := HT
  have _ := hp
  have _ := hp2
  have _ := hq
  have _ := hq2
  have _ := ht
  have _ := ht2
  have _ := ha0
  have _ := ha1
  have _ := hb6
  have _ := hb0
  have _ := hab
  have _ := hb1
  have _ := hb2
  have HW := Lib.hid (fun W (h : Below w.heap.size w W) => hw.keep h)
  have C1 := Lib.hid (fun (W : World) (hW : Wd W) => HBg W hW)
  have CL := Lib.hid (fun W : World => ref6.Length_any 2000 (1 + q) W)
  rw [HL] at CL
  have D1 := Lib.hid P1
  have D2 := Lib.hid P2
  have D3 := Lib.hid P3
  have D4 := Lib.hid P4
  have D5 := Lib.hid P5
  clear hw HL P1 P2 P3 P4 P5
  go_enter Tryz.func11, Tryz.ntmps11
  go_wp2_with (first
    | (go_at_call 20; (with_reducible refine (C1.out _ (HW.out _ (Below.refl _ _))).mono ?_); rintro e W1 ⟨rfl, hb⟩
       have HR1 := Lib.hid hb
       clear C1 hb)
    | (fail "no arm"))
  go_quiet (first | (go_at_call 41; with_reducible exact quiet_same (CL.out _)))
  obtain ⟨V, hV⟩ : ∃ V, V = W1.drewN nq := ⟨_, rfl⟩
  rw [← hV]
  have HRV := Lib.hid (show Below w.heap.size w V from by rw [hV]; exact drewN_below6 HR1.out nq)
  clear hV
  have R0 := Lib.hid (RAt.new V 1 (1 + q) (1 + t) 0 0 false)
  have HRA := Lib.hid (HRV.out.alloc HRV.out.size (.cells #[.int .i64 1, .int .i64 (1 + q), .int .i64 (1 + t), .int .i64 0, .int .i64 0, .bool false] 38))
  have hsv := HRV.out.size
  obtain ⟨q0, q1, q2, q3, q4, q5⟩ := R0.out.at
  go_wp2_with (first
    | (go_at_call 39; (with_reducible refine (D1.out _ (HW.out _ HRA.out)).mono ?_); rintro e W2 ⟨rfl, hb⟩
       have R2 := Lib.hid (R0.out.below hb)
       have hf5 := rat_frozen5 R2.out
       have c5 := R2.out.at.2.2.2.2.2
       have R3 := Lib.hid (rat_set5 R2.out)
       have HR2 := Lib.hid (Below.setCell (p := ⟨V.heap.size, 5, none⟩) (below_tr6 HRA.out hb rfl) hsv (.bool true))
       obtain ⟨r0, r1, r2, r3, r4, r5⟩ := R3.out.at
       clear D1 hb q0 q1 q2 q3 q4 q5)
    | (go_at_call 39; (with_reducible refine (D2.out _ (HW.out _ HR2.out)).mono ?_); rintro e W3 ⟨rfl, hb⟩
       have R4 := Lib.hid (R3.out.below hb)
       have HR3 := Lib.hid (below_tr6 HR2.out hb rfl)
       obtain ⟨s0, s1, s2, s3, s4, s5⟩ := R4.out.at
       clear D2 hb r0 r1 r2 r3 r4 r5)
    | (go_at_call 34; (with_reducible refine (D3.out _ (HW.out _ HR3.out)).mono ?_); rintro e w9 ⟨rfl, rfl⟩; clear D3)
    | (go_at_call 40; (with_reducible refine (D4.out _ (HW.out _ HR3.out)).mono ?_); rintro e W4 ⟨rfl, hb⟩
       have R5 := Lib.hid (R4.out.below hb)
       have HR4 := Lib.hid (below_tr6 HR3.out hb rfl)
       obtain ⟨t0, t1, t2', t3', t4, t5⟩ := R5.out.at
       clear D4 hb s0 s1 s2 s3 s4 s5)
    | (go_at_call 40; (with_reducible refine (D5.out _ (HW.out _ HR4.out)).mono ?_); rintro e W5 ⟨rfl, hb⟩
       have HR5 := Lib.hid (below_tr6 HR4.out hb rfl)
       clear D5 hb)
    | (fail "no arm"))
  go_ret
  refine ⟨?_, HR5.out⟩
  simp [hb0, hb6]
set_option maxRecDepth 100000 in
set_option maxHeartbeats 4000000 in
theorem HoliShift_same30 (HBg : BegunC) (y m day p q t : Int) (dd0 : -9223372036854775808 ≤ day) (dd1 : day ≤ 9223372036854775807) (HY : y.tmod 298 % 298 = p) (HQ : m.tmod 12 % 12 = q) (HT : day.tmod 30 % 30 = t) (hp : 0 ≤ p) (hp2 : p ≤ 297) (hq : 0 ≤ q) (hq2 : q ≤ 11) (ht : 0 ≤ t) (ht2 : t ≤ 29) (HL : mlen 2000 (1 + q) = 30) (a wb : Int) (ha0 : 0 ≤ a) (ha1 : a ≤ 109572) (hb6 : ¬ wb = 6) (hb0 : ¬ wb = 0)
    (P1 : (∀ W, Wd W → Calls Tryz.prog 39 #[.agg #[.int .i64 1, .int .i64 (1 + q), .int .i64 (1 + t), .int .i64 0, .int .i64 0, .bool false], .int .i64 (1901 + p)] W fun e w' => e = .returned (.tuple #[.int .i64 a, .bool true]) ∧ Below W.heap.size W w')) (P2 : (∀ W, Wd W → Calls Tryz.prog 39 #[.agg #[.int .i64 1, .int .i64 (1 + q), .int .i64 (1 + t), .int .i64 0, .int .i64 0, .bool true], .int .i64 (1901 + p)] W fun e w' => e = .returned (.tuple #[.int .i64 a, .bool true]) ∧ Below W.heap.size W w')) (P3 : (∀ W, Wd W → Calls Tryz.prog 34 #[.int .i64 a] W fun e w' => e = .returned (.int .i64 wb) ∧ W = w')) (P4 : (∀ W, Wd W → Calls Tryz.prog 40 #[.agg #[.int .i64 1, .int .i64 (1 + q), .int .i64 (1 + t), .int .i64 0, .int .i64 0, .bool true], .int .i64 a] W fun e w' => e = .returned (.bool true) ∧ Below W.heap.size W w')) (w : World) (hw : Wd w) :
    Calls Tryz.prog 11 #[.int .i64 y, .int .i64 m, .int .i64 day] w fun e w' => e = .returned (.bool true) ∧ Below w.heap.size w w' := by
  have t2 := Int.tmod_lt_of_pos y (show (0 : Int) < 298 by decide)
  have t3 : -298 < y.tmod 298 := by
    rcases Int.le_total 0 y with h | h
    · rw [Int.tmod_eq_emod_of_nonneg h]; omega
    · have e := Int.tmod_eq_emod_of_nonneg (b := 298) (show 0 ≤ -y by omega)
      rw [Int.neg_tmod] at e
      omega
  have v2 := Int.tmod_lt_of_pos m (show (0 : Int) < 12 by decide)
  have v3 : -12 < m.tmod 12 := by
    rcases Int.le_total 0 m with h | h
    · rw [Int.tmod_eq_emod_of_nonneg h]; omega
    · have e := Int.tmod_eq_emod_of_nonneg (b := 12) (show 0 ≤ -m by omega)
      rw [Int.neg_tmod] at e
      omega
  have u2 := Int.tmod_lt_of_pos day (show (0 : Int) < 30 by decide)
  have u3 : -30 < day.tmod 30 := by
    rcases Int.le_total 0 day with h | h
    · rw [Int.tmod_eq_emod_of_nonneg h]; omega
    · have e := Int.tmod_eq_emod_of_nonneg (b := 30) (show 0 ≤ -day by omega)
      rw [Int.neg_tmod] at e
      omega
  have _ := HT
  have _ := hp
  have _ := hp2
  have _ := hq
  have _ := hq2
  have _ := ht
  have _ := ht2
  have _ := ha0
  have _ := ha1
  have _ := hb6
  have _ := hb0
  have HW := Lib.hid (fun W (h : Below w.heap.size w W) => hw.keep h)
  have C1 := Lib.hid (fun (W : World) (hW : Wd W) => HBg W hW)
  have CL := Lib.hid (fun W : World => ref6.Length_any 2000 (1 + q) W)
  rw [HL] at CL
  have D1 := Lib.hid P1
  have D2 := Lib.hid P2
  have D3 := Lib.hid P3
  have D4 := Lib.hid P4
  clear hw HL P1 P2 P3 P4
  go_enter Tryz.func11, Tryz.ntmps11
  go_wp2_with (first
    | (go_at_call 20; (with_reducible refine (C1.out _ (HW.out _ (Below.refl _ _))).mono ?_); rintro e W1 ⟨rfl, hb⟩
       have HR1 := Lib.hid hb
       clear C1 hb)
    | (fail "no arm"))
  go_quiet (first | (go_at_call 41; with_reducible exact quiet_same (CL.out _)))
  obtain ⟨V, hV⟩ : ∃ V, V = W1.drewN nq := ⟨_, rfl⟩
  rw [← hV]
  have HRV := Lib.hid (show Below w.heap.size w V from by rw [hV]; exact drewN_below6 HR1.out nq)
  clear hV
  have R0 := Lib.hid (RAt.new V 1 (1 + q) (1 + t) 0 0 false)
  have HRA := Lib.hid (HRV.out.alloc HRV.out.size (.cells #[.int .i64 1, .int .i64 (1 + q), .int .i64 (1 + t), .int .i64 0, .int .i64 0, .bool false] 38))
  have hsv := HRV.out.size
  obtain ⟨q0, q1, q2, q3, q4, q5⟩ := R0.out.at
  go_wp2_with (first
    | (go_at_call 39; (with_reducible refine (D1.out _ (HW.out _ HRA.out)).mono ?_); rintro e W2 ⟨rfl, hb⟩
       have R2 := Lib.hid (R0.out.below hb)
       have hf5 := rat_frozen5 R2.out
       have c5 := R2.out.at.2.2.2.2.2
       have R3 := Lib.hid (rat_set5 R2.out)
       have HR2 := Lib.hid (Below.setCell (p := ⟨V.heap.size, 5, none⟩) (below_tr6 HRA.out hb rfl) hsv (.bool true))
       obtain ⟨r0, r1, r2, r3, r4, r5⟩ := R3.out.at
       clear D1 hb q0 q1 q2 q3 q4 q5)
    | (go_at_call 39; (with_reducible refine (D2.out _ (HW.out _ HR2.out)).mono ?_); rintro e W3 ⟨rfl, hb⟩
       have R4 := Lib.hid (R3.out.below hb)
       have HR3 := Lib.hid (below_tr6 HR2.out hb rfl)
       obtain ⟨s0, s1, s2, s3, s4, s5⟩ := R4.out.at
       clear D2 hb r0 r1 r2 r3 r4 r5)
    | (go_at_call 34; (with_reducible refine (D3.out _ (HW.out _ HR3.out)).mono ?_); rintro e w9 ⟨rfl, rfl⟩; clear D3)
    | (go_at_call 40; (with_reducible refine (D4.out _ (HW.out _ HR3.out)).mono ?_); rintro e W4 ⟨rfl, hb⟩
       have R5 := Lib.hid (R4.out.below hb)
       have HR4 := Lib.hid (below_tr6 HR3.out hb rfl)
       obtain ⟨t0, t1, t2', t3', t4, t5⟩ := R5.out.at
       clear D4 hb s0 s1 s2 s3 s4 s5)
    | (fail "no arm"))
  go_ret
  refine ⟨?_, HR4.out⟩
  simp [hb0, hb6]
set_option maxRecDepth 100000 in
set_option maxHeartbeats 4000000 in
theorem HoliShift_off30 (HBg : BegunC) (y m day p q t : Int) (dd0 : -9223372036854775808 ≤ day) (dd1 : day ≤ 9223372036854775807) (HY : y.tmod 298 % 298 = p) (HQ : m.tmod 12 % 12 = q) (HT : day.tmod 30 % 30 = t) (hp : 0 ≤ p) (hp2 : p ≤ 297) (hq : 0 ≤ q) (hq2 : q ≤ 11) (ht : 0 ≤ t) (ht2 : t ≤ 29) (HL : mlen 2000 (1 + q) = 30) (a b wb : Int) (ha0 : 0 ≤ a) (ha1 : a ≤ 109572) (hb6 : ¬ wb = 6) (hb0 : ¬ wb = 0) (hab : ¬ a = b) (hb1 : b ≤ a + 1) (hb2 : a ≤ b + 1)
    (P1 : (∀ W, Wd W → Calls Tryz.prog 39 #[.agg #[.int .i64 1, .int .i64 (1 + q), .int .i64 (1 + t), .int .i64 0, .int .i64 0, .bool false], .int .i64 (1901 + p)] W fun e w' => e = .returned (.tuple #[.int .i64 a, .bool true]) ∧ Below W.heap.size W w')) (P2 : (∀ W, Wd W → Calls Tryz.prog 39 #[.agg #[.int .i64 1, .int .i64 (1 + q), .int .i64 (1 + t), .int .i64 0, .int .i64 0, .bool true], .int .i64 (1901 + p)] W fun e w' => e = .returned (.tuple #[.int .i64 b, .bool true]) ∧ Below W.heap.size W w')) (P3 : (∀ W, Wd W → Calls Tryz.prog 34 #[.int .i64 b] W fun e w' => e = .returned (.int .i64 wb) ∧ W = w')) (P4 : (∀ W, Wd W → Calls Tryz.prog 40 #[.agg #[.int .i64 1, .int .i64 (1 + q), .int .i64 (1 + t), .int .i64 0, .int .i64 0, .bool true], .int .i64 b] W fun e w' => e = .returned (.bool true) ∧ Below W.heap.size W w')) (P5 : (∀ W, Wd W → Calls Tryz.prog 40 #[.agg #[.int .i64 1, .int .i64 (1 + q), .int .i64 (1 + t), .int .i64 0, .int .i64 0, .bool true], .int .i64 a] W fun e w' => e = .returned (.bool false) ∧ Below W.heap.size W w')) (w : World) (hw : Wd w) :
    Calls Tryz.prog 11 #[.int .i64 y, .int .i64 m, .int .i64 day] w fun e w' => e = .returned (.bool true) ∧ Below w.heap.size w w' := by
  have t2 := Int.tmod_lt_of_pos y (show (0 : Int) < 298 by decide)
  have t3 : -298 < y.tmod 298 := by
    rcases Int.le_total 0 y with h | h
    · rw [Int.tmod_eq_emod_of_nonneg h]; omega
    · have e := Int.tmod_eq_emod_of_nonneg (b := 298) (show 0 ≤ -y by omega)
      rw [Int.neg_tmod] at e
      omega
  have v2 := Int.tmod_lt_of_pos m (show (0 : Int) < 12 by decide)
  have v3 : -12 < m.tmod 12 := by
    rcases Int.le_total 0 m with h | h
    · rw [Int.tmod_eq_emod_of_nonneg h]; omega
    · have e := Int.tmod_eq_emod_of_nonneg (b := 12) (show 0 ≤ -m by omega)
      rw [Int.neg_tmod] at e
      omega
  have u2 := Int.tmod_lt_of_pos day (show (0 : Int) < 30 by decide)
  have u3 : -30 < day.tmod 30 := by
    rcases Int.le_total 0 day with h | h
    · rw [Int.tmod_eq_emod_of_nonneg h]; omega
    · have e := Int.tmod_eq_emod_of_nonneg (b := 30) (show 0 ≤ -day by omega)
      rw [Int.neg_tmod] at e
      omega
  have _ := HT
  have _ := hp
  have _ := hp2
  have _ := hq
  have _ := hq2
  have _ := ht
  have _ := ht2
  have _ := ha0
  have _ := ha1
  have _ := hb6
  have _ := hb0
  have _ := hab
  have _ := hb1
  have _ := hb2
  have HW := Lib.hid (fun W (h : Below w.heap.size w W) => hw.keep h)
  have C1 := Lib.hid (fun (W : World) (hW : Wd W) => HBg W hW)
  have CL := Lib.hid (fun W : World => ref6.Length_any 2000 (1 + q) W)
  rw [HL] at CL
  have D1 := Lib.hid P1
  have D2 := Lib.hid P2
  have D3 := Lib.hid P3
  have D4 := Lib.hid P4
  have D5 := Lib.hid P5
  clear hw HL P1 P2 P3 P4 P5
  go_enter Tryz.func11, Tryz.ntmps11
  go_wp2_with (first
    | (go_at_call 20; (with_reducible refine (C1.out _ (HW.out _ (Below.refl _ _))).mono ?_); rintro e W1 ⟨rfl, hb⟩
       have HR1 := Lib.hid hb
       clear C1 hb)
    | (fail "no arm"))
  go_quiet (first | (go_at_call 41; with_reducible exact quiet_same (CL.out _)))
  obtain ⟨V, hV⟩ : ∃ V, V = W1.drewN nq := ⟨_, rfl⟩
  rw [← hV]
  have HRV := Lib.hid (show Below w.heap.size w V from by rw [hV]; exact drewN_below6 HR1.out nq)
  clear hV
  have R0 := Lib.hid (RAt.new V 1 (1 + q) (1 + t) 0 0 false)
  have HRA := Lib.hid (HRV.out.alloc HRV.out.size (.cells #[.int .i64 1, .int .i64 (1 + q), .int .i64 (1 + t), .int .i64 0, .int .i64 0, .bool false] 38))
  have hsv := HRV.out.size
  obtain ⟨q0, q1, q2, q3, q4, q5⟩ := R0.out.at
  go_wp2_with (first
    | (go_at_call 39; (with_reducible refine (D1.out _ (HW.out _ HRA.out)).mono ?_); rintro e W2 ⟨rfl, hb⟩
       have R2 := Lib.hid (R0.out.below hb)
       have hf5 := rat_frozen5 R2.out
       have c5 := R2.out.at.2.2.2.2.2
       have R3 := Lib.hid (rat_set5 R2.out)
       have HR2 := Lib.hid (Below.setCell (p := ⟨V.heap.size, 5, none⟩) (below_tr6 HRA.out hb rfl) hsv (.bool true))
       obtain ⟨r0, r1, r2, r3, r4, r5⟩ := R3.out.at
       clear D1 hb q0 q1 q2 q3 q4 q5)
    | (go_at_call 39; (with_reducible refine (D2.out _ (HW.out _ HR2.out)).mono ?_); rintro e W3 ⟨rfl, hb⟩
       have R4 := Lib.hid (R3.out.below hb)
       have HR3 := Lib.hid (below_tr6 HR2.out hb rfl)
       obtain ⟨s0, s1, s2, s3, s4, s5⟩ := R4.out.at
       clear D2 hb r0 r1 r2 r3 r4 r5)
    | (go_at_call 34; (with_reducible refine (D3.out _ (HW.out _ HR3.out)).mono ?_); rintro e w9 ⟨rfl, rfl⟩; clear D3)
    | (go_at_call 40; (with_reducible refine (D4.out _ (HW.out _ HR3.out)).mono ?_); rintro e W4 ⟨rfl, hb⟩
       have R5 := Lib.hid (R4.out.below hb)
       have HR4 := Lib.hid (below_tr6 HR3.out hb rfl)
       obtain ⟨t0, t1, t2', t3', t4, t5⟩ := R5.out.at
       clear D4 hb s0 s1 s2 s3 s4 s5)
    | (go_at_call 40; (with_reducible refine (D5.out _ (HW.out _ HR4.out)).mono ?_); rintro e W5 ⟨rfl, hb⟩
       have HR5 := Lib.hid (below_tr6 HR4.out hb rfl)
       clear D5 hb)
    | (fail "no arm"))
  go_ret
  refine ⟨?_, HR5.out⟩
  simp [hb0, hb6]
set_option maxRecDepth 100000 in
set_option maxHeartbeats 4000000 in
theorem HoliShift_same31 (HBg : BegunC) (y m day p q t : Int) (dd0 : -9223372036854775808 ≤ day) (dd1 : day ≤ 9223372036854775807) (HY : y.tmod 298 % 298 = p) (HQ : m.tmod 12 % 12 = q) (HT : day.tmod 31 % 31 = t) (hp : 0 ≤ p) (hp2 : p ≤ 297) (hq : 0 ≤ q) (hq2 : q ≤ 11) (ht : 0 ≤ t) (ht2 : t ≤ 30) (HL : mlen 2000 (1 + q) = 31) (a wb : Int) (ha0 : 0 ≤ a) (ha1 : a ≤ 109572) (hb6 : ¬ wb = 6) (hb0 : ¬ wb = 0)
    (P1 : (∀ W, Wd W → Calls Tryz.prog 39 #[.agg #[.int .i64 1, .int .i64 (1 + q), .int .i64 (1 + t), .int .i64 0, .int .i64 0, .bool false], .int .i64 (1901 + p)] W fun e w' => e = .returned (.tuple #[.int .i64 a, .bool true]) ∧ Below W.heap.size W w')) (P2 : (∀ W, Wd W → Calls Tryz.prog 39 #[.agg #[.int .i64 1, .int .i64 (1 + q), .int .i64 (1 + t), .int .i64 0, .int .i64 0, .bool true], .int .i64 (1901 + p)] W fun e w' => e = .returned (.tuple #[.int .i64 a, .bool true]) ∧ Below W.heap.size W w')) (P3 : (∀ W, Wd W → Calls Tryz.prog 34 #[.int .i64 a] W fun e w' => e = .returned (.int .i64 wb) ∧ W = w')) (P4 : (∀ W, Wd W → Calls Tryz.prog 40 #[.agg #[.int .i64 1, .int .i64 (1 + q), .int .i64 (1 + t), .int .i64 0, .int .i64 0, .bool true], .int .i64 a] W fun e w' => e = .returned (.bool true) ∧ Below W.heap.size W w')) (w : World) (hw : Wd w) :
    Calls Tryz.prog 11 #[.int .i64 y, .int .i64 m, .int .i64 day] w fun e w' => e = .returned (.bool true) ∧ Below w.heap.size w w' := by
  have t2 := Int.tmod_lt_of_pos y (show (0 : Int) < 298 by decide)
  have t3 : -298 < y.tmod 298 := by
    rcases Int.le_total 0 y with h | h
    · rw [Int.tmod_eq_emod_of_nonneg h]; omega
    · have e := Int.tmod_eq_emod_of_nonneg (b := 298) (show 0 ≤ -y by omega)
      rw [Int.neg_tmod] at e
      omega
  have v2 := Int.tmod_lt_of_pos m (show (0 : Int) < 12 by decide)
  have v3 : -12 < m.tmod 12 := by
    rcases Int.le_total 0 m with h | h
    · rw [Int.tmod_eq_emod_of_nonneg h]; omega
    · have e := Int.tmod_eq_emod_of_nonneg (b := 12) (show 0 ≤ -m by omega)
      rw [Int.neg_tmod] at e
      omega
  have u2 := Int.tmod_lt_of_pos day (show (0 : Int) < 31 by decide)
  have u3 : -31 < day.tmod 31 := by
    rcases Int.le_total 0 day with h | h
    · rw [Int.tmod_eq_emod_of_nonneg h]; omega
    · have e := Int.tmod_eq_emod_of_nonneg (b := 31) (show 0 ≤ -day by omega)
      rw [Int.neg_tmod] at e
      omega
  have _ := HT
  have _ := hp
  have _ := hp2
  have _ := hq
  have _ := hq2
  have _ := ht
  have _ := ht2
  have _ := ha0
  have _ := ha1
  have _ := hb6
  have _ := hb0
  have HW := Lib.hid (fun W (h : Below w.heap.size w W) => hw.keep h)
  have C1 := Lib.hid (fun (W : World) (hW : Wd W) => HBg W hW)
  have CL := Lib.hid (fun W : World => ref6.Length_any 2000 (1 + q) W)
  rw [HL] at CL
  have D1 := Lib.hid P1
  have D2 := Lib.hid P2
  have D3 := Lib.hid P3
  have D4 := Lib.hid P4
  clear hw HL P1 P2 P3 P4
  go_enter Tryz.func11, Tryz.ntmps11
  go_wp2_with (first
    | (go_at_call 20; (with_reducible refine (C1.out _ (HW.out _ (Below.refl _ _))).mono ?_); rintro e W1 ⟨rfl, hb⟩
       have HR1 := Lib.hid hb
       clear C1 hb)
    | (fail "no arm"))
  go_quiet (first | (go_at_call 41; with_reducible exact quiet_same (CL.out _)))
  obtain ⟨V, hV⟩ : ∃ V, V = W1.drewN nq := ⟨_, rfl⟩
  rw [← hV]
  have HRV := Lib.hid (show Below w.heap.size w V from by rw [hV]; exact drewN_below6 HR1.out nq)
  clear hV
  have R0 := Lib.hid (RAt.new V 1 (1 + q) (1 + t) 0 0 false)
  have HRA := Lib.hid (HRV.out.alloc HRV.out.size (.cells #[.int .i64 1, .int .i64 (1 + q), .int .i64 (1 + t), .int .i64 0, .int .i64 0, .bool false] 38))
  have hsv := HRV.out.size
  obtain ⟨q0, q1, q2, q3, q4, q5⟩ := R0.out.at
  go_wp2_with (first
    | (go_at_call 39; (with_reducible refine (D1.out _ (HW.out _ HRA.out)).mono ?_); rintro e W2 ⟨rfl, hb⟩
       have R2 := Lib.hid (R0.out.below hb)
       have hf5 := rat_frozen5 R2.out
       have c5 := R2.out.at.2.2.2.2.2
       have R3 := Lib.hid (rat_set5 R2.out)
       have HR2 := Lib.hid (Below.setCell (p := ⟨V.heap.size, 5, none⟩) (below_tr6 HRA.out hb rfl) hsv (.bool true))
       obtain ⟨r0, r1, r2, r3, r4, r5⟩ := R3.out.at
       clear D1 hb q0 q1 q2 q3 q4 q5)
    | (go_at_call 39; (with_reducible refine (D2.out _ (HW.out _ HR2.out)).mono ?_); rintro e W3 ⟨rfl, hb⟩
       have R4 := Lib.hid (R3.out.below hb)
       have HR3 := Lib.hid (below_tr6 HR2.out hb rfl)
       obtain ⟨s0, s1, s2, s3, s4, s5⟩ := R4.out.at
       clear D2 hb r0 r1 r2 r3 r4 r5)
    | (go_at_call 34; (with_reducible refine (D3.out _ (HW.out _ HR3.out)).mono ?_); rintro e w9 ⟨rfl, rfl⟩; clear D3)
    | (go_at_call 40; (with_reducible refine (D4.out _ (HW.out _ HR3.out)).mono ?_); rintro e W4 ⟨rfl, hb⟩
       have R5 := Lib.hid (R4.out.below hb)
       have HR4 := Lib.hid (below_tr6 HR3.out hb rfl)
       obtain ⟨t0, t1, t2', t3', t4, t5⟩ := R5.out.at
       clear D4 hb s0 s1 s2 s3 s4 s5)
    | (fail "no arm"))
  go_ret
  refine ⟨?_, HR4.out⟩
  simp [hb0, hb6]
set_option maxRecDepth 100000 in
set_option maxHeartbeats 4000000 in
theorem HoliShift_off31 (HBg : BegunC) (y m day p q t : Int) (dd0 : -9223372036854775808 ≤ day) (dd1 : day ≤ 9223372036854775807) (HY : y.tmod 298 % 298 = p) (HQ : m.tmod 12 % 12 = q) (HT : day.tmod 31 % 31 = t) (hp : 0 ≤ p) (hp2 : p ≤ 297) (hq : 0 ≤ q) (hq2 : q ≤ 11) (ht : 0 ≤ t) (ht2 : t ≤ 30) (HL : mlen 2000 (1 + q) = 31) (a b wb : Int) (ha0 : 0 ≤ a) (ha1 : a ≤ 109572) (hb6 : ¬ wb = 6) (hb0 : ¬ wb = 0) (hab : ¬ a = b) (hb1 : b ≤ a + 1) (hb2 : a ≤ b + 1)
    (P1 : (∀ W, Wd W → Calls Tryz.prog 39 #[.agg #[.int .i64 1, .int .i64 (1 + q), .int .i64 (1 + t), .int .i64 0, .int .i64 0, .bool false], .int .i64 (1901 + p)] W fun e w' => e = .returned (.tuple #[.int .i64 a, .bool true]) ∧ Below W.heap.size W w')) (P2 : (∀ W, Wd W → Calls Tryz.prog 39 #[.agg #[.int .i64 1, .int .i64 (1 + q), .int .i64 (1 + t), .int .i64 0, .int .i64 0, .bool true], .int .i64 (1901 + p)] W fun e w' => e = .returned (.tuple #[.int .i64 b, .bool true]) ∧ Below W.heap.size W w')) (P3 : (∀ W, Wd W → Calls Tryz.prog 34 #[.int .i64 b] W fun e w' => e = .returned (.int .i64 wb) ∧ W = w')) (P4 : (∀ W, Wd W → Calls Tryz.prog 40 #[.agg #[.int .i64 1, .int .i64 (1 + q), .int .i64 (1 + t), .int .i64 0, .int .i64 0, .bool true], .int .i64 b] W fun e w' => e = .returned (.bool true) ∧ Below W.heap.size W w')) (P5 : (∀ W, Wd W → Calls Tryz.prog 40 #[.agg #[.int .i64 1, .int .i64 (1 + q), .int .i64 (1 + t), .int .i64 0, .int .i64 0, .bool true], .int .i64 a] W fun e w' => e = .returned (.bool false) ∧ Below W.heap.size W w')) (w : World) (hw : Wd w) :
    Calls Tryz.prog 11 #[.int .i64 y, .int .i64 m, .int .i64 day] w fun e w' => e = .returned (.bool true) ∧ Below w.heap.size w w' := by
  have t2 := Int.tmod_lt_of_pos y (show (0 : Int) < 298 by decide)
  have t3 : -298 < y.tmod 298 := by
    rcases Int.le_total 0 y with h | h
    · rw [Int.tmod_eq_emod_of_nonneg h]; omega
    · have e := Int.tmod_eq_emod_of_nonneg (b := 298) (show 0 ≤ -y by omega)
      rw [Int.neg_tmod] at e
      omega
  have v2 := Int.tmod_lt_of_pos m (show (0 : Int) < 12 by decide)
  have v3 : -12 < m.tmod 12 := by
    rcases Int.le_total 0 m with h | h
    · rw [Int.tmod_eq_emod_of_nonneg h]; omega
    · have e := Int.tmod_eq_emod_of_nonneg (b := 12) (show 0 ≤ -m by omega)
      rw [Int.neg_tmod] at e
      omega
  have u2 := Int.tmod_lt_of_pos day (show (0 : Int) < 31 by decide)
  have u3 : -31 < day.tmod 31 := by
    rcases Int.le_total 0 day with h | h
    · rw [Int.tmod_eq_emod_of_nonneg h]; omega
    · have e := Int.tmod_eq_emod_of_nonneg (b := 31) (show 0 ≤ -day by omega)
      rw [Int.neg_tmod] at e
      omega
  have _ := HT
  have _ := hp
  have _ := hp2
  have _ := hq
  have _ := hq2
  have _ := ht
  have _ := ht2
  have _ := ha0
  have _ := ha1
  have _ := hb6
  have _ := hb0
  have _ := hab
  have _ := hb1
  have _ := hb2
  have HW := Lib.hid (fun W (h : Below w.heap.size w W) => hw.keep h)
  have C1 := Lib.hid (fun (W : World) (hW : Wd W) => HBg W hW)
  have CL := Lib.hid (fun W : World => ref6.Length_any 2000 (1 + q) W)
  rw [HL] at CL
  have D1 := Lib.hid P1
  have D2 := Lib.hid P2
  have D3 := Lib.hid P3
  have D4 := Lib.hid P4
  have D5 := Lib.hid P5
  clear hw HL P1 P2 P3 P4 P5
  go_enter Tryz.func11, Tryz.ntmps11
  go_wp2_with (first
    | (go_at_call 20; (with_reducible refine (C1.out _ (HW.out _ (Below.refl _ _))).mono ?_); rintro e W1 ⟨rfl, hb⟩
       have HR1 := Lib.hid hb
       clear C1 hb)
    | (fail "no arm"))
  go_quiet (first | (go_at_call 41; with_reducible exact quiet_same (CL.out _)))
  obtain ⟨V, hV⟩ : ∃ V, V = W1.drewN nq := ⟨_, rfl⟩
  rw [← hV]
  have HRV := Lib.hid (show Below w.heap.size w V from by rw [hV]; exact drewN_below6 HR1.out nq)
  clear hV
  have R0 := Lib.hid (RAt.new V 1 (1 + q) (1 + t) 0 0 false)
  have HRA := Lib.hid (HRV.out.alloc HRV.out.size (.cells #[.int .i64 1, .int .i64 (1 + q), .int .i64 (1 + t), .int .i64 0, .int .i64 0, .bool false] 38))
  have hsv := HRV.out.size
  obtain ⟨q0, q1, q2, q3, q4, q5⟩ := R0.out.at
  go_wp2_with (first
    | (go_at_call 39; (with_reducible refine (D1.out _ (HW.out _ HRA.out)).mono ?_); rintro e W2 ⟨rfl, hb⟩
       have R2 := Lib.hid (R0.out.below hb)
       have hf5 := rat_frozen5 R2.out
       have c5 := R2.out.at.2.2.2.2.2
       have R3 := Lib.hid (rat_set5 R2.out)
       have HR2 := Lib.hid (Below.setCell (p := ⟨V.heap.size, 5, none⟩) (below_tr6 HRA.out hb rfl) hsv (.bool true))
       obtain ⟨r0, r1, r2, r3, r4, r5⟩ := R3.out.at
       clear D1 hb q0 q1 q2 q3 q4 q5)
    | (go_at_call 39; (with_reducible refine (D2.out _ (HW.out _ HR2.out)).mono ?_); rintro e W3 ⟨rfl, hb⟩
       have R4 := Lib.hid (R3.out.below hb)
       have HR3 := Lib.hid (below_tr6 HR2.out hb rfl)
       obtain ⟨s0, s1, s2, s3, s4, s5⟩ := R4.out.at
       clear D2 hb r0 r1 r2 r3 r4 r5)
    | (go_at_call 34; (with_reducible refine (D3.out _ (HW.out _ HR3.out)).mono ?_); rintro e w9 ⟨rfl, rfl⟩; clear D3)
    | (go_at_call 40; (with_reducible refine (D4.out _ (HW.out _ HR3.out)).mono ?_); rintro e W4 ⟨rfl, hb⟩
       have R5 := Lib.hid (R4.out.below hb)
       have HR4 := Lib.hid (below_tr6 HR3.out hb rfl)
       obtain ⟨t0, t1, t2', t3', t4, t5⟩ := R5.out.at
       clear D4 hb s0 s1 s2 s3 s4 s5)
    | (go_at_call 40; (with_reducible refine (D5.out _ (HW.out _ HR4.out)).mono ?_); rintro e W5 ⟨rfl, hb⟩
       have HR5 := Lib.hid (below_tr6 HR4.out hb rfl)
       clear D5 hb)
    | (fail "no arm"))
  go_ret
  refine ⟨?_, HR5.out⟩
  simp [hb0, hb6]
set_option maxRecDepth 100000 in
set_option maxHeartbeats 4000000 in
theorem HoliShift_none29 (HBg : BegunC) (y m day p : Int) (dd0 : -9223372036854775808 ≤ day) (dd1 : day ≤ 9223372036854775807) (HY : y.tmod 298 % 298 = p) (HQ : m.tmod 12 % 12 = 1) (HT : day.tmod 29 % 29 = 28) (hp : 0 ≤ p) (hp2 : p ≤ 297) (HL : mlen 2000 2 = 29) (hlp : leap (1901 + p) = false)
    (P1 : (∀ W, Wd W → Calls Tryz.prog 39 #[.agg #[.int .i64 1, .int .i64 2, .int .i64 29, .int .i64 0, .int .i64 0, .bool false], .int .i64 (1901 + p)] W fun e w' => e = .returned (.tuple #[.int .i64 0, .bool false]) ∧ Below W.heap.size W w')) (P2 : (∀ W, Wd W → Calls Tryz.prog 39 #[.agg #[.int .i64 1, .int .i64 2, .int .i64 29, .int .i64 0, .int .i64 0, .bool true], .int .i64 (1901 + p)] W fun e w' => e = .returned (.tuple #[.int .i64 0, .bool false]) ∧ Below W.heap.size W w')) (w : World) (hw : Wd w) :
    Calls Tryz.prog 11 #[.int .i64 y, .int .i64 m, .int .i64 day] w fun e w' => e = .returned (.bool true) ∧ Below w.heap.size w w' := by
  have t2 := Int.tmod_lt_of_pos y (show (0 : Int) < 298 by decide)
  have t3 : -298 < y.tmod 298 := by
    rcases Int.le_total 0 y with h | h
    · rw [Int.tmod_eq_emod_of_nonneg h]; omega
    · have e := Int.tmod_eq_emod_of_nonneg (b := 298) (show 0 ≤ -y by omega)
      rw [Int.neg_tmod] at e
      omega
  have v2 := Int.tmod_lt_of_pos m (show (0 : Int) < 12 by decide)
  have v3 : -12 < m.tmod 12 := by
    rcases Int.le_total 0 m with h | h
    · rw [Int.tmod_eq_emod_of_nonneg h]; omega
    · have e := Int.tmod_eq_emod_of_nonneg (b := 12) (show 0 ≤ -m by omega)
      rw [Int.neg_tmod] at e
      omega
  have u2 := Int.tmod_lt_of_pos day (show (0 : Int) < 29 by decide)
  have u3 : -29 < day.tmod 29 := by
    rcases Int.le_total 0 day with h | h
    · rw [Int.tmod_eq_emod_of_nonneg h]; omega
    · have e := Int.tmod_eq_emod_of_nonneg (b := 29) (show 0 ≤ -day by omega)
      rw [Int.neg_tmod] at e
      omega
  have _ := HT
  have _ := hp
  have _ := hp2
  have _ := hlp
  have HW := Lib.hid (fun W (h : Below w.heap.size w W) => hw.keep h)
  have C1 := Lib.hid (fun (W : World) (hW : Wd W) => HBg W hW)
  have CL := Lib.hid (fun W : World => ref6.Length_any 2000 2 W)
  rw [HL] at CL
  have D1 := Lib.hid P1
  have D2 := Lib.hid P2
  have LP := Lib.hid (fun W : World => Leap_any (1901 + p) W)
  rw [hlp] at LP
  clear hw HL P1 P2
  go_enter Tryz.func11, Tryz.ntmps11
  go_wp2_with (first
    | (go_at_call 20; (with_reducible refine (C1.out _ (HW.out _ (Below.refl _ _))).mono ?_); rintro e W1 ⟨rfl, hb⟩
       have HR1 := Lib.hid hb
       clear C1 hb)
    | (fail "no arm"))
  go_quiet (first | (go_at_call 41; with_reducible exact quiet_same (CL.out _)))
  obtain ⟨V, hV⟩ : ∃ V, V = W1.drewN nq := ⟨_, rfl⟩
  rw [← hV]
  have HRV := Lib.hid (show Below w.heap.size w V from by rw [hV]; exact drewN_below6 HR1.out nq)
  clear hV
  have R0 := Lib.hid (RAt.new V 1 2 29 0 0 false)
  have HRA := Lib.hid (HRV.out.alloc HRV.out.size (.cells #[.int .i64 1, .int .i64 2, .int .i64 29, .int .i64 0, .int .i64 0, .bool false] 38))
  have hsv := HRV.out.size
  obtain ⟨q0, q1, q2, q3, q4, q5⟩ := R0.out.at
  go_wp2_with (first
    | (go_at_call 39; (with_reducible refine (D1.out _ (HW.out _ HRA.out)).mono ?_); rintro e W2 ⟨rfl, hb⟩
       have R2 := Lib.hid (R0.out.below hb)
       have hf5 := rat_frozen5 R2.out
       have c5 := R2.out.at.2.2.2.2.2
       have R3 := Lib.hid (rat_set5 R2.out)
       have HR2 := Lib.hid (Below.setCell (p := ⟨V.heap.size, 5, none⟩) (below_tr6 HRA.out hb rfl) hsv (.bool true))
       obtain ⟨r0, r1, r2, r3, r4, r5⟩ := R3.out.at
       clear D1 hb q0 q1 q2 q3 q4 q5)
    | (go_at_call 39; (with_reducible refine (D2.out _ (HW.out _ HR2.out)).mono ?_); rintro e W3 ⟨rfl, hb⟩
       have R4 := Lib.hid (R3.out.below hb)
       have HR3 := Lib.hid (below_tr6 HR2.out hb rfl)
       obtain ⟨s0, s1, s2, s3, s4, s5⟩ := R4.out.at
       clear D2 hb r0 r1 r2 r3 r4 r5)
    | (go_at_call 33; (with_reducible refine (LP.out _).mono ?_); rintro e w9 ⟨rfl, rfl⟩; clear LP)
    | (fail "no arm"))
  go_ret
  exact ⟨rfl, HR3.out⟩
theorem mlen_same {y m : Int} (h : 30 ≤ mlen 2000 m) : mlen y m = mlen 2000 m := by
  unfold mlen at *
  have l : leap 2000 = true := by decide
  rw [l] at h ⊢
  repeat' split at h
  all_goals simp_all
theorem mlen_2000 {m : Int} (h1 : 1 ≤ m) (h2 : m ≤ 12) : mlen 2000 m = 29 ∨ mlen 2000 m = 30 ∨ mlen 2000 m = 31 := by
  rcases (show m = 1 ∨ m = 2 ∨ m = 3 ∨ m = 4 ∨ m = 5 ∨ m = 6 ∨ m = 7 ∨ m = 8 ∨ m = 9 ∨ m = 10 ∨ m = 11 ∨ m = 12 by omega) with rfl | rfl | rfl | rfl | rfl | rfl | rfl | rfl | rfl | rfl | rfl | rfl <;> decide
theorem HoliShift_walk (HBg : BegunC) (HH : HolC) (y m day : Int) (d0 : -9223372036854775808 ≤ day) (d1 : day ≤ 9223372036854775807) (w : World) (hw : Wd w) :
    Calls Tryz.prog 11 #[.int .i64 y, .int .i64 m, .int .i64 day] w fun e w' => e = .returned (.bool true) ∧ Below w.heap.size w w' := by
  obtain ⟨p, hp⟩ : ∃ p, y.tmod 298 % 298 = p := ⟨_, rfl⟩
  obtain ⟨q, hq⟩ : ∃ p, m.tmod 12 % 12 = p := ⟨_, rfl⟩
  have hp0 : 0 ≤ p ∧ p ≤ 297 := by omega
  have hq0 : 0 ≤ q ∧ q ≤ 11 := by omega
  rcases mlen_2000 (m := 1 + q) (by omega) (by omega) with hL | hL | hL
  · obtain ⟨t, ht⟩ : ∃ t, day.tmod 29 % 29 = t := ⟨_, rfl⟩
    have ht0 : 0 ≤ t ∧ t ≤ 28 := by omega
    have hm : 1 ≤ 1 + q ∧ 1 + q ≤ 12 ∧ 1 ≤ 1 + t ∧ 1 + t ≤ mlen 2000 (1 + q) := by omega
    by_cases hc : IsCivil (1901 + p) (1 + q) (1 + t)
    · obtain ⟨k1, k2, k3, k4, k5⟩ := shift_week (dayOf (1901 + p) (1 + q) (1 + t))
      have hin := dayOf_isDay hc
      have hy1 := dayOf_year hc
      have hr : 365 ≤ dayOf (1901 + p) (1 + q) (1 + t) ∧ dayOf (1901 + p) (1 + q) (1 + t) ≤ 109300 := by
        have a1 := ydays_mono (show 1 ≤ (1901 + p - 1900).toNat by omega)
        have a2 := ydays_mono (show (1901 + p - 1900).toNat + 1 ≤ 299 by omega)
        have a3 : ydays 1 = 365 := by decide
        have a4 := ydays_mono (show 299 ≤ 300 by decide)
        rw [ydays_300] at a4
        omega
      have hd : IsDay (ref6.shiftDay true (dayOf (1901 + p) (1 + q) (1 + t))) := ⟨by omega, by omega⟩
      have h1 := fixed_hol (sh := false) hc hm (by unfold ref6.shiftDay; simp; exact hin)
      have e0 : ref6.shiftDay false (dayOf (1901 + p) (1 + q) (1 + t)) = dayOf (1901 + p) (1 + q) (1 + t) := by unfold ref6.shiftDay; simp
      rw [e0] at h1
      have h2 := fixed_hol (sh := true) hc hm hd
      have P1 := HH.dayYes _ _ _ _ _ _ _ _ h1
      have P2 := HH.dayYes _ _ _ _ _ _ _ _ h2
      have P3 := fun W (_ : Wd W) => Weekday_day _ hd W
      obtain ⟨y', m', a', hc', he'⟩ := hd.civil
      have P4 := HH.is 1 (1 + q) (1 + t) 0 0 true y' m' a' hc'
      rw [he'] at P4
      have hyy : 1901 + p - 1 ≤ y' ∧ y' ≤ 1901 + p + 1 := by
        have hy2 := dayOf_year hc'
        rw [he'] at hy2
        have c1 := hc'.1
        constructor
        · rcases (show 1901 + p - 1 ≤ y' ∨ y' + 2 ≤ 1901 + p by omega) with h | h
          · exact h
          · have := ydays_mono (show (y' - 1900).toNat + 1 ≤ (1901 + p - 1900).toNat by omega)
            have tt : ((1901 + p - 1900).toNat : Int) - (((y' - 1900).toNat + 1 : Nat) : Int) ≥ 1 := by omega
            omega
        · rcases (show y' ≤ 1901 + p + 1 ∨ 1901 + p + 2 ≤ y' by omega) with h | h
          · exact h
          · have := ydays_mono (show (1901 + p - 1900).toNat + 1 ≤ (y' - 1900).toNat by omega)
            have tt : ((y' - 1900).toNat : Int) - (((1901 + p - 1900).toNat + 1 : Nat) : Int) ≥ 1 := by omega
            omega
      rw [decide_eq_true (show ref6.ruleDay 1 (1 + q) (1 + t) 0 0 true y' (ref6.shiftDay true (dayOf (1901 + p) (1 + q) (1 + t))) from by
        unfold ref6.ruleDay
        rcases (show y' - 1 = 1901 + p ∨ y' = 1901 + p ∨ y' + 1 = 1901 + p by omega) with e | e | e
        · exact Or.inl (by rw [e]; exact h2)
        · exact Or.inr (Or.inl (by rw [e]; exact h2))
        · exact Or.inr (Or.inr (by rw [e]; exact h2)))] at P4
      have hw1 : ¬ wday (ref6.shiftDay true (dayOf (1901 + p) (1 + q) (1 + t))) = 6 := k1
      have hw2 : ¬ wday (ref6.shiftDay true (dayOf (1901 + p) (1 + q) (1 + t))) = 0 := k2
      by_cases hs : ref6.shiftDay true (dayOf (1901 + p) (1 + q) (1 + t)) = dayOf (1901 + p) (1 + q) (1 + t)
      · rw [hs] at P2 P3 P4 hw1 hw2
        exact HoliShift_same29 HBg y m day p q t d0 d1 hp hq ht hp0.1 hp0.2 hq0.1 hq0.2 ht0.1 ht0.2 hL _ _ hin.1 hin.2 hw1 hw2 P1 P2 P3 P4 w hw
      · have k6 := k5 hs
        have P5 := HH.is 1 (1 + q) (1 + t) 0 0 true _ _ _ hc
        rw [decide_eq_false (fun h => by
          rcases h with h | h | h
          all_goals
            have := fixed_week h
            omega)] at P5
        exact HoliShift_off29 HBg y m day p q t d0 d1 hp hq ht hp0.1 hp0.2 hq0.1 hq0.2 ht0.1 ht0.2 hL _ _ _ hin.1 hin.2 hw1 hw2 (fun h => hs h.symm) k3 k4 P1 P2 P3 P4 P5 w hw
    · have hq1 : q = 1 ∧ t = 28 ∧ leap (1901 + p) = false := by
        unfold mlen at hL
        have l1 := mlen_lo (y := 1901 + p) (m := 1 + q) (by omega) (by omega)
        have hq1 : q = 1 := by repeat' split at hL <;> omega
        subst hq1
        have : ¬ 1 + t ≤ mlen (1901 + p) 2 := fun h => hc ⟨by omega, by omega, by omega, h⟩
        unfold mlen at this
        cases hlp : leap (1901 + p)
        · rw [hlp] at this
          simp at this
          exact ⟨rfl, by omega, rfl⟩
        · rw [hlp] at this
          simp at this
          omega
      obtain ⟨rfl, rfl, hlp⟩ := hq1
      exact HoliShift_none29 HBg y m day p d0 d1 hp hq ht hp0.1 hp0.2 hL hlp (HH.dayNo _ _ _ _ _ _ _ (fixed_none hc)) (HH.dayNo _ _ _ _ _ _ _ (fixed_none hc)) w hw
  · obtain ⟨t, ht⟩ : ∃ t, day.tmod 30 % 30 = t := ⟨_, rfl⟩
    have ht0 : 0 ≤ t ∧ t ≤ 29 := by omega
    have hm : 1 ≤ 1 + q ∧ 1 + q ≤ 12 ∧ 1 ≤ 1 + t ∧ 1 + t ≤ mlen 2000 (1 + q) := by omega
    by_cases hc : IsCivil (1901 + p) (1 + q) (1 + t)
    · obtain ⟨k1, k2, k3, k4, k5⟩ := shift_week (dayOf (1901 + p) (1 + q) (1 + t))
      have hin := dayOf_isDay hc
      have hy1 := dayOf_year hc
      have hr : 365 ≤ dayOf (1901 + p) (1 + q) (1 + t) ∧ dayOf (1901 + p) (1 + q) (1 + t) ≤ 109300 := by
        have a1 := ydays_mono (show 1 ≤ (1901 + p - 1900).toNat by omega)
        have a2 := ydays_mono (show (1901 + p - 1900).toNat + 1 ≤ 299 by omega)
        have a3 : ydays 1 = 365 := by decide
        have a4 := ydays_mono (show 299 ≤ 300 by decide)
        rw [ydays_300] at a4
        omega
      have hd : IsDay (ref6.shiftDay true (dayOf (1901 + p) (1 + q) (1 + t))) := ⟨by omega, by omega⟩
      have h1 := fixed_hol (sh := false) hc hm (by unfold ref6.shiftDay; simp; exact hin)
      have e0 : ref6.shiftDay false (dayOf (1901 + p) (1 + q) (1 + t)) = dayOf (1901 + p) (1 + q) (1 + t) := by unfold ref6.shiftDay; simp
      rw [e0] at h1
      have h2 := fixed_hol (sh := true) hc hm hd
      have P1 := HH.dayYes _ _ _ _ _ _ _ _ h1
      have P2 := HH.dayYes _ _ _ _ _ _ _ _ h2
      have P3 := fun W (_ : Wd W) => Weekday_day _ hd W
      obtain ⟨y', m', a', hc', he'⟩ := hd.civil
      have P4 := HH.is 1 (1 + q) (1 + t) 0 0 true y' m' a' hc'
      rw [he'] at P4
      have hyy : 1901 + p - 1 ≤ y' ∧ y' ≤ 1901 + p + 1 := by
        have hy2 := dayOf_year hc'
        rw [he'] at hy2
        have c1 := hc'.1
        constructor
        · rcases (show 1901 + p - 1 ≤ y' ∨ y' + 2 ≤ 1901 + p by omega) with h | h
          · exact h
          · have := ydays_mono (show (y' - 1900).toNat + 1 ≤ (1901 + p - 1900).toNat by omega)
            have tt : ((1901 + p - 1900).toNat : Int) - (((y' - 1900).toNat + 1 : Nat) : Int) ≥ 1 := by omega
            omega
        · rcases (show y' ≤ 1901 + p + 1 ∨ 1901 + p + 2 ≤ y' by omega) with h | h
          · exact h
          · have := ydays_mono (show (1901 + p - 1900).toNat + 1 ≤ (y' - 1900).toNat by omega)
            have tt : ((y' - 1900).toNat : Int) - (((1901 + p - 1900).toNat + 1 : Nat) : Int) ≥ 1 := by omega
            omega
      rw [decide_eq_true (show ref6.ruleDay 1 (1 + q) (1 + t) 0 0 true y' (ref6.shiftDay true (dayOf (1901 + p) (1 + q) (1 + t))) from by
        unfold ref6.ruleDay
        rcases (show y' - 1 = 1901 + p ∨ y' = 1901 + p ∨ y' + 1 = 1901 + p by omega) with e | e | e
        · exact Or.inl (by rw [e]; exact h2)
        · exact Or.inr (Or.inl (by rw [e]; exact h2))
        · exact Or.inr (Or.inr (by rw [e]; exact h2)))] at P4
      have hw1 : ¬ wday (ref6.shiftDay true (dayOf (1901 + p) (1 + q) (1 + t))) = 6 := k1
      have hw2 : ¬ wday (ref6.shiftDay true (dayOf (1901 + p) (1 + q) (1 + t))) = 0 := k2
      by_cases hs : ref6.shiftDay true (dayOf (1901 + p) (1 + q) (1 + t)) = dayOf (1901 + p) (1 + q) (1 + t)
      · rw [hs] at P2 P3 P4 hw1 hw2
        exact HoliShift_same30 HBg y m day p q t d0 d1 hp hq ht hp0.1 hp0.2 hq0.1 hq0.2 ht0.1 ht0.2 hL _ _ hin.1 hin.2 hw1 hw2 P1 P2 P3 P4 w hw
      · have k6 := k5 hs
        have P5 := HH.is 1 (1 + q) (1 + t) 0 0 true _ _ _ hc
        rw [decide_eq_false (fun h => by
          rcases h with h | h | h
          all_goals
            have := fixed_week h
            omega)] at P5
        exact HoliShift_off30 HBg y m day p q t d0 d1 hp hq ht hp0.1 hp0.2 hq0.1 hq0.2 ht0.1 ht0.2 hL _ _ _ hin.1 hin.2 hw1 hw2 (fun h => hs h.symm) k3 k4 P1 P2 P3 P4 P5 w hw
    · refine absurd ⟨by omega, by omega, by omega, ?_⟩ hc
      have := mlen_same (y := 1901 + p) (m := 1 + q) (by omega)
      omega
  · obtain ⟨t, ht⟩ : ∃ t, day.tmod 31 % 31 = t := ⟨_, rfl⟩
    have ht0 : 0 ≤ t ∧ t ≤ 30 := by omega
    have hm : 1 ≤ 1 + q ∧ 1 + q ≤ 12 ∧ 1 ≤ 1 + t ∧ 1 + t ≤ mlen 2000 (1 + q) := by omega
    by_cases hc : IsCivil (1901 + p) (1 + q) (1 + t)
    · obtain ⟨k1, k2, k3, k4, k5⟩ := shift_week (dayOf (1901 + p) (1 + q) (1 + t))
      have hin := dayOf_isDay hc
      have hy1 := dayOf_year hc
      have hr : 365 ≤ dayOf (1901 + p) (1 + q) (1 + t) ∧ dayOf (1901 + p) (1 + q) (1 + t) ≤ 109300 := by
        have a1 := ydays_mono (show 1 ≤ (1901 + p - 1900).toNat by omega)
        have a2 := ydays_mono (show (1901 + p - 1900).toNat + 1 ≤ 299 by omega)
        have a3 : ydays 1 = 365 := by decide
        have a4 := ydays_mono (show 299 ≤ 300 by decide)
        rw [ydays_300] at a4
        omega
      have hd : IsDay (ref6.shiftDay true (dayOf (1901 + p) (1 + q) (1 + t))) := ⟨by omega, by omega⟩
      have h1 := fixed_hol (sh := false) hc hm (by unfold ref6.shiftDay; simp; exact hin)
      have e0 : ref6.shiftDay false (dayOf (1901 + p) (1 + q) (1 + t)) = dayOf (1901 + p) (1 + q) (1 + t) := by unfold ref6.shiftDay; simp
      rw [e0] at h1
      have h2 := fixed_hol (sh := true) hc hm hd
      have P1 := HH.dayYes _ _ _ _ _ _ _ _ h1
      have P2 := HH.dayYes _ _ _ _ _ _ _ _ h2
      have P3 := fun W (_ : Wd W) => Weekday_day _ hd W
      obtain ⟨y', m', a', hc', he'⟩ := hd.civil
      have P4 := HH.is 1 (1 + q) (1 + t) 0 0 true y' m' a' hc'
      rw [he'] at P4
      have hyy : 1901 + p - 1 ≤ y' ∧ y' ≤ 1901 + p + 1 := by
        have hy2 := dayOf_year hc'
        rw [he'] at hy2
        have c1 := hc'.1
        constructor
        · rcases (show 1901 + p - 1 ≤ y' ∨ y' + 2 ≤ 1901 + p by omega) with h | h
          · exact h
          · have := ydays_mono (show (y' - 1900).toNat + 1 ≤ (1901 + p - 1900).toNat by omega)
            have tt : ((1901 + p - 1900).toNat : Int) - (((y' - 1900).toNat + 1 : Nat) : Int) ≥ 1 := by omega
            omega
        · rcases (show y' ≤ 1901 + p + 1 ∨ 1901 + p + 2 ≤ y' by omega) with h | h
          · exact h
          · have := ydays_mono (show (1901 + p - 1900).toNat + 1 ≤ (y' - 1900).toNat by omega)
            have tt : ((y' - 1900).toNat : Int) - (((1901 + p - 1900).toNat + 1 : Nat) : Int) ≥ 1 := by omega
            omega
      rw [decide_eq_true (show ref6.ruleDay 1 (1 + q) (1 + t) 0 0 true y' (ref6.shiftDay true (dayOf (1901 + p) (1 + q) (1 + t))) from by
        unfold ref6.ruleDay
        rcases (show y' - 1 = 1901 + p ∨ y' = 1901 + p ∨ y' + 1 = 1901 + p by omega) with e | e | e
        · exact Or.inl (by rw [e]; exact h2)
        · exact Or.inr (Or.inl (by rw [e]; exact h2))
        · exact Or.inr (Or.inr (by rw [e]; exact h2)))] at P4
      have hw1 : ¬ wday (ref6.shiftDay true (dayOf (1901 + p) (1 + q) (1 + t))) = 6 := k1
      have hw2 : ¬ wday (ref6.shiftDay true (dayOf (1901 + p) (1 + q) (1 + t))) = 0 := k2
      by_cases hs : ref6.shiftDay true (dayOf (1901 + p) (1 + q) (1 + t)) = dayOf (1901 + p) (1 + q) (1 + t)
      · rw [hs] at P2 P3 P4 hw1 hw2
        exact HoliShift_same31 HBg y m day p q t d0 d1 hp hq ht hp0.1 hp0.2 hq0.1 hq0.2 ht0.1 ht0.2 hL _ _ hin.1 hin.2 hw1 hw2 P1 P2 P3 P4 w hw
      · have k6 := k5 hs
        have P5 := HH.is 1 (1 + q) (1 + t) 0 0 true _ _ _ hc
        rw [decide_eq_false (fun h => by
          rcases h with h | h | h
          all_goals
            have := fixed_week h
            omega)] at P5
        exact HoliShift_off31 HBg y m day p q t d0 d1 hp hq ht hp0.1 hp0.2 hq0.1 hq0.2 ht0.1 ht0.2 hL _ _ _ hin.1 hin.2 hw1 hw2 (fun h => hs h.symm) k3 k4 P1 P2 P3 P4 P5 w hw
    · refine absurd ⟨by omega, by omega, by omega, ?_⟩ hc
      have := mlen_same (y := 1901 + p) (m := 1 + q) (by omega)
      omega
end Go.Proofs.YtlhmfgbaefaneabGreatDoor.law6
