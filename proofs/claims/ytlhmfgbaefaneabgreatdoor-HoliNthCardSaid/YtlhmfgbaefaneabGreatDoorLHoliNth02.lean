/-
  The steps of the walks, part 2: Lw6HoliNth.
-/
import Derived.BigQuiet
import Derived.Deep.QuietTactic
import Derived.Test.YtlhmfgbaefaneabGreatDoorB01
import Derived.Test.YtlhmfgbaefaneabGreatDoorB02
import Derived.Test.YtlhmfgbaefaneabGreatDoorB03
import Derived.Test.YtlhmfgbaefaneabGreatDoorB04
import Derived.Test.YtlhmfgbaefaneabGreatDoorB05
import Derived.Test.YtlhmfgbaefaneabGreatDoorB06
import Derived.Test.YtlhmfgbaefaneabGreatDoorB07
import Derived.Test.YtlhmfgbaefaneabGreatDoorB08
import Derived.Test.YtlhmfgbaefaneabGreatDoorB09
import Derived.Test.YtlhmfgbaefaneabGreatDoorB10
import Derived.Test.YtlhmfgbaefaneabGreatDoorB11
import Derived.Test.YtlhmfgbaefaneabGreatDoorB12
import Derived.Test.YtlhmfgbaefaneabGreatDoorB13
import Derived.Test.YtlhmfgbaefaneabGreatDoorB14
import Derived.Test.YtlhmfgbaefaneabGreatDoorB15
import Derived.Test.YtlhmfgbaefaneabGreatDoorB16
import Derived.Test.YtlhmfgbaefaneabGreatDoorB17
import Derived.Test.YtlhmfgbaefaneabGreatDoorB18
import Derived.Test.YtlhmfgbaefaneabGreatDoorB19
import Derived.Test.YtlhmfgbaefaneabGreatDoorB20
import Derived.Test.YtlhmfgbaefaneabGreatDoorB21
import Derived.Test.YtlhmfgbaefaneabGreatDoorB22
import Derived.Test.YtlhmfgbaefaneabGreatDoorB23
import Derived.Test.YtlhmfgbaefaneabGreatDoorB24
import Derived.Test.YtlhmfgbaefaneabGreatDoorB25
import Derived.Test.YtlhmfgbaefaneabGreatDoorB26
import Derived.Test.YtlhmfgbaefaneabGreatDoorB27
import Derived.Test.YtlhmfgbaefaneabGreatDoorB28
import Derived.Test.YtlhmfgbaefaneabGreatDoorB29
import Derived.Test.YtlhmfgbaefaneabGreatDoorB30
import Derived.Test.YtlhmfgbaefaneabGreatDoorB31
import Derived.Test.YtlhmfgbaefaneabGreatDoorB32
import Derived.Test.YtlhmfgbaefaneabGreatDoorB33
import Derived.Test.YtlhmfgbaefaneabGreatDoorB34
import Derived.Test.YtlhmfgbaefaneabGreatDoorB35
import Derived.Test.YtlhmfgbaefaneabGreatDoorB36
import Derived.Test.YtlhmfgbaefaneabGreatDoorB37
import Derived.Test.YtlhmfgbaefaneabGreatDoorB38
import Derived.Test.YtlhmfgbaefaneabGreatDoorB39
import Derived.Test.YtlhmfgbaefaneabGreatDoorB40
import Derived.Test.YtlhmfgbaefaneabGreatDoorLHoliNth01
namespace Go.Proofs.YtlhmfgbaefaneabGreatDoor.law6
open Go Go.RowKit Go.Proofs.YtlhmfgbaefaneabGreatDoor.day Go.Proofs.YtlhmfgbaefaneabGreatDoor.date
open Go.Proofs.YtlhmfgbaefaneabGreatDoor.ref (str str_size)
open Go.Proofs.YtlhmfgbaefaneabGreatDoor.ref6 (CAt dayText DayForm quiet_same drewN_below6)
set_option maxRecDepth 100000 in
set_option maxHeartbeats 4000000 in
theorem HoliNth_some (HBg : BegunC) (y m n wd p q r s : Int) (HY : y.tmod 300 % 300 = p) (HQ : m.tmod 12 % 12 = q) (HR : n.tmod 5 % 5 = r) (HS : wd.tmod 7 % 7 = s) (hp : 0 ≤ p) (hp2 : p ≤ 299) (hq : 0 ≤ q) (hq2 : q ≤ 11) (hr : 0 ≤ r) (hr2 : r ≤ 4) (hs : 0 ≤ s) (hs2 : s ≤ 6) (l dl : Int) (hml : mlen (1900 + p) (1 + q) - 7 < dl) (hml2 : dl ≤ mlen (1900 + p) (1 + q)) (hdl : 1 ≤ dl) (z dz : Int) (hz : z ≤ l) (hdz : dz - 1 < 7 * r + 7) (hdz2 : 7 * r ≤ dz - 1)
    (P1 : (∀ W, Wd W → Calls Tryz.prog 39 #[.agg #[.int .i64 2, .int .i64 (1 + q), .int .i64 0, .int .i64 (1 + r), .int .i64 s, .bool false], .int .i64 (1900 + p)] W fun e w' => e = .returned (.tuple #[.int .i64 z, .bool true]) ∧ Below W.heap.size W w')) (P2 : (∀ W, Wd W → Calls Tryz.prog 39 #[.agg #[.int .i64 2, .int .i64 (1 + q), .int .i64 0, .int .i64 (-1), .int .i64 s, .bool false], .int .i64 (1900 + p)] W fun e w' => e = .returned (.tuple #[.int .i64 l, .bool true]) ∧ Below W.heap.size W w')) (P3 : (∀ W, Wd W → Calls Tryz.prog 36 #[.int .i64 l] W fun e w' => e = .returned (.tuple #[.agg #[.int .i64 (1900 + p), .int .i64 (1 + q), .int .i64 dl], .nilIface]) ∧ Below W.heap.size W w')) (P4 : (∀ W, Wd W → Calls Tryz.prog 34 #[.int .i64 l] W fun e w' => e = .returned (.int .i64 s) ∧ W = w')) (P5 : (∀ W, Wd W → Calls Tryz.prog 36 #[.int .i64 z] W fun e w' => e = .returned (.tuple #[.agg #[.int .i64 (1900 + p), .int .i64 (1 + q), .int .i64 dz], .nilIface]) ∧ Below W.heap.size W w')) (P6 : (∀ W, Wd W → Calls Tryz.prog 34 #[.int .i64 z] W fun e w' => e = .returned (.int .i64 s) ∧ W = w')) (w : World) (hw : Wd w) :
    Calls Tryz.prog 10 #[.int .i64 y, .int .i64 m, .int .i64 n, .int .i64 wd] w fun e w' => e = .returned (.bool true) ∧ Below w.heap.size w w' := by
  have t2 := Int.tmod_lt_of_pos y (show (0 : Int) < 300 by decide)
  have t3 : -300 < y.tmod 300 := by
    rcases Int.le_total 0 y with h | h
    · rw [Int.tmod_eq_emod_of_nonneg h]; omega
    · have e := Int.tmod_eq_emod_of_nonneg (b := 300) (show 0 ≤ -y by omega)
      rw [Int.neg_tmod] at e
      omega
  have v2 := Int.tmod_lt_of_pos m (show (0 : Int) < 12 by decide)
  have v3 : -12 < m.tmod 12 := by
    rcases Int.le_total 0 m with h | h
    · rw [Int.tmod_eq_emod_of_nonneg h]; omega
    · have e := Int.tmod_eq_emod_of_nonneg (b := 12) (show 0 ≤ -m by omega)
      rw [Int.neg_tmod] at e
      omega
  have u2 := Int.tmod_lt_of_pos n (show (0 : Int) < 5 by decide)
  have u3 : -5 < n.tmod 5 := by
    rcases Int.le_total 0 n with h | h
    · rw [Int.tmod_eq_emod_of_nonneg h]; omega
    · have e := Int.tmod_eq_emod_of_nonneg (b := 5) (show 0 ≤ -n by omega)
      rw [Int.neg_tmod] at e
      omega
  have x2 := Int.tmod_lt_of_pos wd (show (0 : Int) < 7 by decide)
  have x3 : -7 < wd.tmod 7 := by
    rcases Int.le_total 0 wd with h | h
    · rw [Int.tmod_eq_emod_of_nonneg h]; omega
    · have e := Int.tmod_eq_emod_of_nonneg (b := 7) (show 0 ≤ -wd by omega)
      rw [Int.neg_tmod] at e
      omega
  have _ := hp
  have _ := hp2
  have _ := hq
  have _ := hq2
  have _ := hr
  have _ := hr2
  have _ := hs
  have _ := hs2
  have _ := hml
  have _ := hml2
  have _ := hdl
  have _ := hz
  have _ := hdz
  have _ := hdz2
  have l28 := mlen_lo (y := 1900 + p) (m := 1 + q) (by omega) (by omega)
  have l31 := mlen_hi (1900 + p) (1 + q)
  have HW := Lib.hid (fun W (h : Below w.heap.size w W) => hw.keep h)
  have C1 := Lib.hid (fun (W : World) (hW : Wd W) => HBg W hW)
  have C2 := Lib.hid (fun (W : World) (hW : Wd W) => P1 W hW)
  have C3 := Lib.hid (fun (W : World) (hW : Wd W) => P2 W hW)
  have C4 := Lib.hid (fun (W : World) (hW : Wd W) => P3 W hW)
  have CW := Lib.hid P4
  have CL := Lib.hid (fun (W : World) (hW : Wd W) => Length_any (1900 + p) (1 + q) W hW.lens)
  have HR0 := Lib.hid (Below.refl w.heap.size w)
  clear P1 P2 P3 P4
  generalize mlen (1900 + p) (1 + q) = ml at *
  clear hw
  go_enter Tryz.func10, Tryz.ntmps10
  go_wp2_with (first
    | (go_at_call 20; (with_reducible refine (C1.out _ (HW.out _ HR0.out)).mono ?_); rintro e W1 ⟨rfl, hb⟩
       have HR1 := Lib.hid (below_tr6 HR0.out hb rfl)
       clear C1 hb)
    | (go_at_call 39; (with_reducible refine (C2.out _ (HW.out _ HR1.out)).mono ?_); rintro e W2 ⟨rfl, hb⟩
       have HR2 := Lib.hid (below_tr6 HR1.out hb rfl)
       clear C2 hb)
    | (go_at_call 39; (with_reducible refine (C3.out _ (HW.out _ HR2.out)).mono ?_); rintro e W3 ⟨rfl, hb⟩
       have HR3 := Lib.hid (below_tr6 HR2.out hb rfl)
       clear C3 hb)
    | (go_at_call 36; (with_reducible refine (C4.out _ (HW.out _ HR3.out)).mono ?_); rintro e W4 ⟨rfl, hb⟩
       have M4_0 := Lib.hid (CAt.new W4 (1900 + p) (1 + q) dl)
       have HR4 := Lib.hid (Below.alloc (below_tr6 HR3.out hb rfl) (Below.size (below_tr6 HR3.out hb rfl)) (.cells #[.int .i64 (1900 + p), .int .i64 (1 + q), .int .i64 dl] 48))
       obtain ⟨q4_0_0, q4_0_1, q4_0_2, -⟩ := M4_0.out.cells
       clear C4 hb)
    | (fail "no arm"))
  go_quiet (first
    | (go_at_call 34; with_reducible exact quiet_same (CW.out _ (HW.out _ (drewN_below6 HR4.out _))))
    | (go_at_call 32; with_reducible exact quiet_same (CL.out _ (HW.out _ (drewN_below6 HR4.out _)))))
  obtain ⟨V, hV⟩ : ∃ V, V = (W4.alloc (.cells #[.int .i64 (1900 + p), .int .i64 (1 + q), .int .i64 dl] 48)).drewN nq := ⟨_, rfl⟩
  rw [← hV]
  have HRV := Lib.hid (show Below w.heap.size w V from by rw [hV]; exact drewN_below6 HR4.out nq)
  clear hV q4_0_0 q4_0_1 q4_0_2
  have C8 := Lib.hid P5
  have C9 := Lib.hid P6
  clear P5 P6
  go_wp2_with (first
    | (go_at_call 36; (with_reducible refine (C8.out _ (HW.out _ HRV.out)).mono ?_); rintro e W8 ⟨rfl, hb⟩
       have HN := Lib.hid (CAt.new W8 (1900 + p) (1 + q) dz)
       have HR8 := Lib.hid ((below_tr6 HRV.out hb rfl).alloc ((below_tr6 HRV.out hb rfl).size) (.cells #[.int .i64 (1900 + p), .int .i64 (1 + q), .int .i64 dz] 48))
       obtain ⟨r0, r1, r2, -⟩ := HN.out.cells
       clear C8 hb)
    | (go_at_call 34; (with_reducible refine (C9.out _ (HW.out _ HR8.out)).mono ?_); rintro e w9 ⟨rfl, rfl⟩; clear C9)
    | (fail "no arm"))
  go_ret
  exact ⟨rfl, HR8.out⟩
set_option maxRecDepth 100000 in
set_option maxHeartbeats 4000000 in
theorem HoliNth_none (HBg : BegunC) (y m n wd p q s : Int) (HY : y.tmod 300 % 300 = p) (HQ : m.tmod 12 % 12 = q) (HR : n.tmod 5 % 5 = 4) (HS : wd.tmod 7 % 7 = s) (hp : 0 ≤ p) (hp2 : p ≤ 299) (hq : 0 ≤ q) (hq2 : q ≤ 11) (hs : 0 ≤ s) (hs2 : s ≤ 6) (l dl : Int) (hml : mlen (1900 + p) (1 + q) - 7 < dl) (hml2 : dl ≤ mlen (1900 + p) (1 + q)) (hdl : 1 ≤ dl)
    (P1 : (∀ W, Wd W → Calls Tryz.prog 39 #[.agg #[.int .i64 2, .int .i64 (1 + q), .int .i64 0, .int .i64 5, .int .i64 s, .bool false], .int .i64 (1900 + p)] W fun e w' => e = .returned (.tuple #[.int .i64 0, .bool false]) ∧ Below W.heap.size W w')) (P2 : (∀ W, Wd W → Calls Tryz.prog 39 #[.agg #[.int .i64 2, .int .i64 (1 + q), .int .i64 0, .int .i64 (-1), .int .i64 s, .bool false], .int .i64 (1900 + p)] W fun e w' => e = .returned (.tuple #[.int .i64 l, .bool true]) ∧ Below W.heap.size W w')) (P3 : (∀ W, Wd W → Calls Tryz.prog 36 #[.int .i64 l] W fun e w' => e = .returned (.tuple #[.agg #[.int .i64 (1900 + p), .int .i64 (1 + q), .int .i64 dl], .nilIface]) ∧ Below W.heap.size W w')) (P4 : (∀ W, Wd W → Calls Tryz.prog 34 #[.int .i64 l] W fun e w' => e = .returned (.int .i64 s) ∧ W = w')) (w : World) (hw : Wd w) :
    Calls Tryz.prog 10 #[.int .i64 y, .int .i64 m, .int .i64 n, .int .i64 wd] w fun e w' => e = .returned (.bool true) ∧ Below w.heap.size w w' := by
  have t2 := Int.tmod_lt_of_pos y (show (0 : Int) < 300 by decide)
  have t3 : -300 < y.tmod 300 := by
    rcases Int.le_total 0 y with h | h
    · rw [Int.tmod_eq_emod_of_nonneg h]; omega
    · have e := Int.tmod_eq_emod_of_nonneg (b := 300) (show 0 ≤ -y by omega)
      rw [Int.neg_tmod] at e
      omega
  have v2 := Int.tmod_lt_of_pos m (show (0 : Int) < 12 by decide)
  have v3 : -12 < m.tmod 12 := by
    rcases Int.le_total 0 m with h | h
    · rw [Int.tmod_eq_emod_of_nonneg h]; omega
    · have e := Int.tmod_eq_emod_of_nonneg (b := 12) (show 0 ≤ -m by omega)
      rw [Int.neg_tmod] at e
      omega
  have u2 := Int.tmod_lt_of_pos n (show (0 : Int) < 5 by decide)
  have u3 : -5 < n.tmod 5 := by
    rcases Int.le_total 0 n with h | h
    · rw [Int.tmod_eq_emod_of_nonneg h]; omega
    · have e := Int.tmod_eq_emod_of_nonneg (b := 5) (show 0 ≤ -n by omega)
      rw [Int.neg_tmod] at e
      omega
  have x2 := Int.tmod_lt_of_pos wd (show (0 : Int) < 7 by decide)
  have x3 : -7 < wd.tmod 7 := by
    rcases Int.le_total 0 wd with h | h
    · rw [Int.tmod_eq_emod_of_nonneg h]; omega
    · have e := Int.tmod_eq_emod_of_nonneg (b := 7) (show 0 ≤ -wd by omega)
      rw [Int.neg_tmod] at e
      omega
  have _ := hp
  have _ := hp2
  have _ := hq
  have _ := hq2
  have _ := hs
  have _ := hs2
  have _ := hml
  have _ := hml2
  have _ := hdl
  have l28 := mlen_lo (y := 1900 + p) (m := 1 + q) (by omega) (by omega)
  have l31 := mlen_hi (1900 + p) (1 + q)
  have HW := Lib.hid (fun W (h : Below w.heap.size w W) => hw.keep h)
  have C1 := Lib.hid (fun (W : World) (hW : Wd W) => HBg W hW)
  have C2 := Lib.hid (fun (W : World) (hW : Wd W) => P1 W hW)
  have C3 := Lib.hid (fun (W : World) (hW : Wd W) => P2 W hW)
  have C4 := Lib.hid (fun (W : World) (hW : Wd W) => P3 W hW)
  have CW := Lib.hid P4
  have CL := Lib.hid (fun (W : World) (hW : Wd W) => Length_any (1900 + p) (1 + q) W hW.lens)
  have HR0 := Lib.hid (Below.refl w.heap.size w)
  clear P1 P2 P3 P4
  generalize mlen (1900 + p) (1 + q) = ml at *
  clear hw
  go_enter Tryz.func10, Tryz.ntmps10
  go_wp2_with (first
    | (go_at_call 20; (with_reducible refine (C1.out _ (HW.out _ HR0.out)).mono ?_); rintro e W1 ⟨rfl, hb⟩
       have HR1 := Lib.hid (below_tr6 HR0.out hb rfl)
       clear C1 hb)
    | (go_at_call 39; (with_reducible refine (C2.out _ (HW.out _ HR1.out)).mono ?_); rintro e W2 ⟨rfl, hb⟩
       have HR2 := Lib.hid (below_tr6 HR1.out hb rfl)
       clear C2 hb)
    | (go_at_call 39; (with_reducible refine (C3.out _ (HW.out _ HR2.out)).mono ?_); rintro e W3 ⟨rfl, hb⟩
       have HR3 := Lib.hid (below_tr6 HR2.out hb rfl)
       clear C3 hb)
    | (go_at_call 36; (with_reducible refine (C4.out _ (HW.out _ HR3.out)).mono ?_); rintro e W4 ⟨rfl, hb⟩
       have M4_0 := Lib.hid (CAt.new W4 (1900 + p) (1 + q) dl)
       have HR4 := Lib.hid (Below.alloc (below_tr6 HR3.out hb rfl) (Below.size (below_tr6 HR3.out hb rfl)) (.cells #[.int .i64 (1900 + p), .int .i64 (1 + q), .int .i64 dl] 48))
       obtain ⟨q4_0_0, q4_0_1, q4_0_2, -⟩ := M4_0.out.cells
       clear C4 hb)
    | (fail "no arm"))
  go_quiet (first
    | (go_at_call 34; with_reducible exact quiet_same (CW.out _ (HW.out _ (drewN_below6 HR4.out _))))
    | (go_at_call 32; with_reducible exact quiet_same (CL.out _ (HW.out _ (drewN_below6 HR4.out _)))))
  go_wp2
  go_ret
  exact ⟨rfl, drewN_below6 HR4.out nq⟩
theorem HoliNth_walk (HBg : BegunC) (HH : HolC) (y m n wd : Int) (w : World) (hw : Wd w) :
    Calls Tryz.prog 10 #[.int .i64 y, .int .i64 m, .int .i64 n, .int .i64 wd] w fun e w' => e = .returned (.bool true) ∧ Below w.heap.size w w' := by
  obtain ⟨p, hp⟩ : ∃ p, y.tmod 300 % 300 = p := ⟨_, rfl⟩
  obtain ⟨q, hq⟩ : ∃ p, m.tmod 12 % 12 = p := ⟨_, rfl⟩
  obtain ⟨r, hr⟩ : ∃ p, n.tmod 5 % 5 = p := ⟨_, rfl⟩
  obtain ⟨s, hs⟩ : ∃ p, wd.tmod 7 % 7 = p := ⟨_, rfl⟩
  have hp0 : 0 ≤ p ∧ p ≤ 299 := by omega
  have hq0 : 0 ≤ q ∧ q ≤ 11 := by omega
  have hr0 : 0 ≤ r ∧ r ≤ 4 := by omega
  have hs0 : 0 ≤ s ∧ s ≤ 6 := by omega
  have l28 := mlen_lo (y := 1900 + p) (m := 1 + q) (by omega) (by omega)
  have l31 := mlen_hi (1900 + p) (1 + q)
  obtain ⟨off, cnt, o1, o2, hc, hw0, hl, hy, hn⟩ := nth_plain (Y := 1900 + p) (M := 1 + q) (s := s) (by omega) (by omega) (by omega) (by omega) hs0.1 hs0.2
  have c1 : IsCivil (1900 + p) (1 + q) (1 + off + 7 * (cnt - 1)) := ⟨by omega, by omega, by omega, by omega⟩
  have e1 : dayOf (1900 + p) (1 + q) (1 + off + 7 * (cnt - 1)) = dayOf (1900 + p) (1 + q) 1 + off + 7 * (cnt - 1) := by unfold dayOf; omega
  have w1 : wday (dayOf (1900 + p) (1 + q) (1 + off + 7 * (cnt - 1))) = s := by rw [e1]; unfold wday at hw0 ⊢; omega
  have P2 := HH.dayYes _ _ _ _ _ _ _ _ hl
  have P3 := fun W (hW : Wd W) => Civil_at _ _ _ c1 W hW.lens
  have P4 := fun W (_ : Wd W) => Weekday_day _ (dayOf_isDay c1) W
  rw [w1] at P4
  by_cases hN : 1 + r ≤ cnt
  · have c2 : IsCivil (1900 + p) (1 + q) (1 + off + 7 * (1 + r - 1)) := ⟨by omega, by omega, by omega, by omega⟩
    have e2 : dayOf (1900 + p) (1 + q) (1 + off + 7 * (1 + r - 1)) = dayOf (1900 + p) (1 + q) 1 + off + 7 * (1 + r - 1) := by unfold dayOf; omega
    have w2 : wday (dayOf (1900 + p) (1 + q) (1 + off + 7 * (1 + r - 1))) = s := by rw [e2]; unfold wday at hw0 ⊢; omega
    have P1 := HH.dayYes _ _ _ _ _ _ _ _ (hy (1 + r) (by omega) (by omega) hN)
    have P5 := fun W (hW : Wd W) => Civil_at _ _ _ c2 W hW.lens
    have P6 := fun W (_ : Wd W) => Weekday_day _ (dayOf_isDay c2) W
    rw [w2] at P6
    exact HoliNth_some HBg y m n wd p q r s hp hq hr hs hp0.1 hp0.2 hq0.1 hq0.2 hr0.1 hr0.2 hs0.1 hs0.2 _ _ (by omega) (by omega) (by omega) _ _ (by rw [e1, e2]; omega) (by omega) (by omega) P1 P2 P3 P4 P5 P6 w hw
  · have P1 := HH.dayNo _ _ _ _ _ _ _ (hn (1 + r) (by omega) (by omega) (by omega))
    obtain rfl : r = 4 := by omega
    exact HoliNth_none HBg y m n wd p q s hp hq hr hs hp0.1 hp0.2 hq0.1 hq0.2 hs0.1 hs0.2 _ _ (by omega) (by omega) (by omega) P1 P2 P3 P4 w hw
end Go.Proofs.YtlhmfgbaefaneabGreatDoor.law6
