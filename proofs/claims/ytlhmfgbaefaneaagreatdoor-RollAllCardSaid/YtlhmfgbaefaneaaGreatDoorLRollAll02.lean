/-
  The steps of the walks, part 2: RefHol6, RefIsRule6, RefOpen6.
-/
import Derived.Deep.RegionHeld3
import Derived.Test.YtlhmfgbaefaneaaGreatDoorB01
import Derived.Test.YtlhmfgbaefaneaaGreatDoorB02
import Derived.Test.YtlhmfgbaefaneaaGreatDoorB03
import Derived.Test.YtlhmfgbaefaneaaGreatDoorB04
import Derived.Test.YtlhmfgbaefaneaaGreatDoorB05
import Derived.Test.YtlhmfgbaefaneaaGreatDoorB06
import Derived.Test.YtlhmfgbaefaneaaGreatDoorB07
import Derived.Test.YtlhmfgbaefaneaaGreatDoorB08
import Derived.Test.YtlhmfgbaefaneaaGreatDoorB09
import Derived.Test.YtlhmfgbaefaneaaGreatDoorB10
import Derived.Test.YtlhmfgbaefaneaaGreatDoorB11
import Derived.Test.YtlhmfgbaefaneaaGreatDoorB12
import Derived.Test.YtlhmfgbaefaneaaGreatDoorB13
import Derived.Test.YtlhmfgbaefaneaaGreatDoorB14
import Derived.Test.YtlhmfgbaefaneaaGreatDoorB15
import Derived.Test.YtlhmfgbaefaneaaGreatDoorB16
import Derived.Test.YtlhmfgbaefaneaaGreatDoorB17
import Derived.Test.YtlhmfgbaefaneaaGreatDoorB18
import Derived.Test.YtlhmfgbaefaneaaGreatDoorB19
import Derived.Test.YtlhmfgbaefaneaaGreatDoorB20
import Derived.Test.YtlhmfgbaefaneaaGreatDoorB21
import Derived.Test.YtlhmfgbaefaneaaGreatDoorB22
import Derived.Test.YtlhmfgbaefaneaaGreatDoorLRollAll01
namespace Go.Proofs.YtlhmfgbaefaneaaGreatDoor.ref6
open Go Go.RowKit Go.Proofs.YtlhmfgbaefaneaaGreatDoor.day
set_option maxRecDepth 100000 in
set_option maxHeartbeats 4000000 in
theorem Holiday_may (k mo d n wd : Int) (sh : Bool) (y : Int) (h : ¬ (May ⟨k, mo, d, n, wd, sh⟩ ∧ 1900 ≤ y ∧ y ≤ 2199)) (w : World) :
    Calls Tryz.prog 125 #[.agg #[.int .i64 k, .int .i64 mo, .int .i64 d, .int .i64 n, .int .i64 wd, .bool sh], .int .i64 y] w fun e w' => HolEnd (holiday k mo d n wd sh y) w e w' := by
  have HM := Lib.hid (fun W => MayRule_any ⟨k, mo, d, n, wd, sh⟩ W)
  unfold Rule.val at HM
  have HN := Lib.hid (show holiday k mo d n wd sh y = none from if_neg h)
  have HR := Lib.hid (RAt.new w k mo d n wd sh)
  generalize hm : decide (May ⟨k, mo, d, n, wd, sh⟩) = b at *
  have h2 : b = false ∨ (b = true ∧ (y < 1900 ∨ 2199 < y)) := by
    cases b
    · exact Or.inl rfl
    · refine Or.inr ⟨rfl, ?_⟩
      have := of_decide_eq_true hm
      have h3 : ¬ (1900 ≤ y ∧ y ≤ 2199) := fun h3 => h ⟨this, h3⟩
      omega
  clear h hm
  rcases h2 with rfl | ⟨rfl, hy | hy⟩
  all_goals
    go_enter Tryz.func125, Tryz.ntmps125
    go_wp2_with (first
      | (go_at_call 46; (with_reducible refine (HM.out _).mono ?_); rintro e w1 ⟨rfl, hb⟩
         have HB := Lib.hid (((Below.refl _ _).alloc (Nat.le_refl _) _).trans (hb.mono (by rw [alloc_size]; omega)))
         clear hb)
      | (fail "no arm"))
    go_ret2
    exact HolEnd.no HN.out HB.out
set_option maxRecDepth 100000 in
set_option maxHeartbeats 4000000 in
theorem Holiday_nth (mo d n wd : Int) (sh : Bool) (y : Int) (hm : May ⟨2, mo, d, n, wd, sh⟩) (y1 : 1900 ≤ y) (y2 : y ≤ 2199) (w : World) :
    Calls Tryz.prog 125 #[.agg #[.int .i64 2, .int .i64 mo, .int .i64 d, .int .i64 n, .int .i64 wd, .bool sh], .int .i64 y] w fun e w' => HolEnd (holiday 2 mo d n wd sh y) w e w' := by
  have HM := Lib.hid (fun W => MayRule_any ⟨2, mo, d, n, wd, sh⟩ W)
  unfold Rule.val at HM
  rw [decide_eq_true hm] at HM
  have HR := Lib.hid (RAt.new w 2 mo d n wd sh)
  obtain ⟨m1, m2, n1, w1, w2⟩ : 1 ≤ mo ∧ mo ≤ 12 ∧ (1 ≤ n ∧ n ≤ 5 ∨ n = -1) ∧ 0 ≤ wd ∧ wd ≤ 6 := by
    rcases hm with h | h | h
    · have := h.1; simp only at this; omega
    · exact ⟨h.2.1, h.2.2.1, h.2.2.2.1, h.2.2.2.2.1, h.2.2.2.2.2.1⟩
    · have := h.1; simp only at this; omega
  have HNt := Lib.hid (fun W => nth_any mo d n wd sh m1 m2 n1 w1 w2 y y1 y2 W)
  rcases ho : nthDay y mo n wd with _ | z
  · have HN := Lib.hid (show holiday 2 mo d n wd sh y = none from by unfold holiday rawDay; rw [if_pos ⟨hm, y1, y2⟩, if_neg (by decide), if_neg (by decide), ho]; rfl)
    rw [ho] at HNt
    clear hm ho m1 m2 n1 w1 w2
    go_enter Tryz.func125, Tryz.ntmps125
    go_wp2_with (first
      | (go_at_call 46; (with_reducible refine (HM.out _).mono ?_); rintro e w1 ⟨rfl, hb⟩
         have HB := Lib.hid (((Below.refl _ _).alloc (Nat.le_refl _) _).trans (hb.mono (by rw [alloc_size]; omega)))
         have HR1 := Lib.hid (HR.out.below hb)
         obtain ⟨e0, e1, e2, e3, e4, e5⟩ := HR1.out.at
         clear hb)
      | (go_at_call 163; (with_reducible refine (HNt.out _).mono ?_); rintro e w2 ⟨-, he, hb⟩
         obtain rfl := he rfl
         have HB2 := Lib.hid (HB.out.trans (hb.mono HB.out.size))
         clear hb he)
      | (fail "no arm"))
    go_ret2
    exact HolEnd.no HN.out HB2.out
  · have hend := fun (w' : World) (hb : Below w.heap.size w w') => HolEnd.day (k := 2) (w := w) (w' := w') (z := z) ⟨hm, y1, y2⟩ (show rawDay 2 mo d n wd sh y = some z from by unfold rawDay; rw [if_neg (by decide), if_neg (by decide), ho]) hb
    have HI := Lib.hid (fun W => Is_any z W)
    generalize decide (IsDay z) = isz at *
    have HEnd := Lib.hid hend
    rw [ho] at HNt
    clear hm ho m1 m2 n1 w1 w2 hend
    go_enter Tryz.func125, Tryz.ntmps125
    go_wp2_with (first
      | (go_at_call 46; (with_reducible refine (HM.out _).mono ?_); rintro e w1 ⟨rfl, hb⟩
         have HB := Lib.hid (((Below.refl _ _).alloc (Nat.le_refl _) _).trans (hb.mono (by rw [alloc_size]; omega)))
         have HR1 := Lib.hid (HR.out.below hb)
         obtain ⟨e0, e1, e2, e3, e4, e5⟩ := HR1.out.at
         clear hb)
      | (go_at_call 163; (with_reducible refine (HNt.out _).mono ?_); rintro e w2 ⟨he, -, hb⟩
         obtain rfl := he z rfl
         have HB2 := Lib.hid (HB.out.trans (hb.mono HB.out.size))
         clear hb he)
      | (go_at_call 45; (with_reducible refine (HI.out _).mono ?_); rintro e w9 ⟨rfl, rfl⟩)
      | (fail "no arm"))
    go_ret2
    exact HEnd.out _ HB2.out
set_option maxRecDepth 100000 in
set_option maxHeartbeats 4000000 in
theorem Holiday_easter (mo d n wd : Int) (sh : Bool) (y : Int) (hm : May ⟨3, mo, d, n, wd, sh⟩) (y1 : 1900 ≤ y) (y2 : y ≤ 2199) (w : World) :
    Calls Tryz.prog 125 #[.agg #[.int .i64 3, .int .i64 mo, .int .i64 d, .int .i64 n, .int .i64 wd, .bool sh], .int .i64 y] w fun e w' => HolEnd (holiday 3 mo d n wd sh y) w e w' := by
  have HM := Lib.hid (fun W => MayRule_any ⟨3, mo, d, n, wd, sh⟩ W)
  unfold Rule.val at HM
  rw [decide_eq_true hm] at HM
  have HR := Lib.hid (RAt.new w 3 mo d n wd sh)
  have hend := fun (w' : World) (hb : Below w.heap.size w w') => HolEnd.day (k := 3) (w := w) (w' := w') (z := easterDay y + n) ⟨hm, y1, y2⟩ (show rawDay 3 mo d n wd sh y = some (easterDay y + n) from by unfold rawDay; rw [if_neg (by decide), if_pos rfl]) hb
  obtain ⟨n1, n2⟩ : -100 ≤ n ∧ n ≤ 100 := by
    rcases hm with h | h | h
    · have := h.1; simp only at this; omega
    · have := h.1; simp only at this; omega
    · exact ⟨h.2.1, h.2.2.1⟩
  obtain ⟨d1, d2⟩ := easterDay_in y1 y2
  have HEa := Lib.hid (fun W => Easter_any y y1 y2 W)
  have HI := Lib.hid (fun W => Is_any (easterDay y + n) W)
  generalize easterDay y = E at *
  generalize decide (IsDay (E + n)) = isz at *
  have HEnd := Lib.hid hend
  clear hm hend
  go_enter Tryz.func125, Tryz.ntmps125
  go_wp2_with (first
      | (go_at_call 46; (with_reducible refine (HM.out _).mono ?_); rintro e w1 ⟨rfl, hb⟩
         have HB := Lib.hid (((Below.refl _ _).alloc (Nat.le_refl _) _).trans (hb.mono (by rw [alloc_size]; omega)))
         have HR1 := Lib.hid (HR.out.below hb)
         obtain ⟨e0, e1, e2, e3, e4, e5⟩ := HR1.out.at
         clear hb)
      | (fail "no arm"))
  have hwr : IntKind.i64.wrap (E + n) = E + n := by simp (disch := omega) only [IntWalk.i64_in]
  have HOLD := Lib.hid (fun W (hW : Below w1.heap.size w1 W) => (show Below w1.heap.size w1 W ∧ W.cell? ⟨w.heap.size, 3, none⟩ = some (.int .i64 n) from ⟨hW, (HR1.out.below hW).at.2.2.2.1⟩))
  go_region_held3 (fun w' => Below w1.heap.size w1 w' ∧ w'.cell? ⟨w.heap.size, 3, none⟩ = some (.int .i64 n))
    (first
      | exact HOLD.out _ (Below.refl _ _).drew
      | exact HOLD.out _ HB2.out)
    (first
      | (go_at_call 43; (with_reducible refine (HEa.out _).mono ?_); rintro e w2 ⟨rfl, hb⟩
         have HB2 := Lib.hid ((Below.refl _ _).drew.trans (hb.mono (Below.refl w1.heap.size w1).drew.size))
         clear hb)
      | (fail "no arm"))
  go_wp2_with (first
    | (go_at_call 45; (with_reducible refine (HI.out _).mono ?_); rintro e w9 ⟨rfl, rfl⟩)
    | (fail "no arm"))
  go_ret2
  exact HEnd.out _ (HB.out.trans (HB2.out.mono HB.out.size))
set_option maxRecDepth 100000 in
set_option maxHeartbeats 4000000 in
theorem Holiday_none (mo d n wd : Int) (sh : Bool) (y : Int) (hm : May ⟨1, mo, d, n, wd, sh⟩) (y1 : 1900 ≤ y) (y2 : y ≤ 2199) (hc : ¬ IsCivil y mo d) (w : World) :
    Calls Tryz.prog 125 #[.agg #[.int .i64 1, .int .i64 mo, .int .i64 d, .int .i64 n, .int .i64 wd, .bool sh], .int .i64 y] w fun e w' => HolEnd (holiday 1 mo d n wd sh y) w e w' := by
  have HM := Lib.hid (fun W => MayRule_any ⟨1, mo, d, n, wd, sh⟩ W)
  unfold Rule.val at HM
  rw [decide_eq_true hm] at HM
  have HR := Lib.hid (RAt.new w 1 mo d n wd sh)
  have HN := Lib.hid (show holiday 1 mo d n wd sh y = none from by unfold holiday rawDay; rw [if_pos ⟨hm, y1, y2⟩, if_pos rfl, if_neg hc]; rfl)
  have HO := Lib.hid (fun W => Of_no y mo d hc W)
  clear hm hc
  go_enter Tryz.func125, Tryz.ntmps125
  go_wp2_with (first
    | (go_at_call 46; (with_reducible refine (HM.out _).mono ?_); rintro e w1 ⟨rfl, hb⟩
       have HB := Lib.hid (((Below.refl _ _).alloc (Nat.le_refl _) _).trans (hb.mono (by rw [alloc_size]; omega)))
       have HR1 := Lib.hid (HR.out.below hb)
       obtain ⟨e0, e1, e2, e3, e4, e5⟩ := HR1.out.at
       clear hb)
    | (go_at_call 28; (with_reducible refine (HO.out _).mono ?_); rintro e w2 ⟨rfl, hb⟩
       have HB2 := Lib.hid (HB.out.trans (hb.mono HB.out.size))
       have HR2 := Lib.hid (HR1.out.below hb)
       clear e0 e1 e2 e3 e4 e5
       obtain ⟨e0, e1, e2, e3, e4, e5⟩ := HR2.out.at
       clear hb)
    | (fail "no arm"))
  go_ret2
  exact HolEnd.no HN.out HB2.out
set_option maxRecDepth 100000 in
set_option maxHeartbeats 4000000 in
theorem Holiday_fixed (mo d n wd : Int) (sh : Bool) (y : Int) (hm : May ⟨1, mo, d, n, wd, sh⟩) (y1 : 1900 ≤ y) (y2 : y ≤ 2199) (hc : IsCivil y mo d) (w : World) :
    Calls Tryz.prog 125 #[.agg #[.int .i64 1, .int .i64 mo, .int .i64 d, .int .i64 n, .int .i64 wd, .bool sh], .int .i64 y] w fun e w' => HolEnd (holiday 1 mo d n wd sh y) w e w' := by
  have HM := Lib.hid (fun W => MayRule_any ⟨1, mo, d, n, wd, sh⟩ W)
  unfold Rule.val at HM
  rw [decide_eq_true hm] at HM
  have HR := Lib.hid (RAt.new w 1 mo d n wd sh)
  have hend := fun (w' : World) (hb : Below w.heap.size w w') => HolEnd.day (k := 1) (n := n) (wd := wd) (w := w) (w' := w') (z := shiftDay sh (dayOf y mo d)) ⟨hm, y1, y2⟩ (show rawDay 1 mo d n wd sh y = some (shiftDay sh (dayOf y mo d)) from by unfold rawDay; rw [if_pos rfl, if_pos hc]) hb
  have HO := Lib.hid (fun W => Of_yes y mo d hc W)
  have HW := Lib.hid (fun W => Weekday_any (dayOf y mo d) (dayOf_isDay hc) W)
  obtain ⟨d1, d2⟩ := dayOf_isDay hc
  clear hm hc
  generalize dayOf y mo d = D at *
  have HW7 := Lib.hid (fun W => Is_any D W)
  have HW8 := Lib.hid (fun W => Is_any (D - 1) W)
  have HW9 := Lib.hid (fun W => Is_any (D + 1) W)
  cases sh
  · have hs : shiftDay false D = D := by simp [shiftDay]
    rw [hs] at hend
    have HEnd := Lib.hid hend
    clear hend hs
    generalize decide (IsDay D) = isz at *
    go_enter Tryz.func125, Tryz.ntmps125
    go_wp2_with (first
      | (go_at_call 46; (with_reducible refine (HM.out _).mono ?_); rintro e w1 ⟨rfl, hb⟩
         have HB := Lib.hid (((Below.refl _ _).alloc (Nat.le_refl _) _).trans (hb.mono (by rw [alloc_size]; omega)))
         have HR1 := Lib.hid (HR.out.below hb)
         obtain ⟨e0, e1, e2, e3, e4, e5⟩ := HR1.out.at
         clear hb)
      | (go_at_call 28; (with_reducible refine (HO.out _).mono ?_); rintro e w2 ⟨rfl, hb⟩
         have HB2 := Lib.hid (HB.out.trans (hb.mono HB.out.size))
         have HR2 := Lib.hid (HR1.out.below hb)
         clear e0 e1 e2 e3 e4 e5
         obtain ⟨e0, e1, e2, e3, e4, e5⟩ := HR2.out.at
         clear hb)
      | (go_at_call 45; (with_reducible refine (HW7.out _).mono ?_); rintro e w9 ⟨rfl, rfl⟩)
      | (fail "no arm"))
    go_ret2
    exact HEnd.out _ HB2.out
  · rcases (show (D + 1) % 7 = 6 ∨ ((D + 1) % 7 ≠ 6 ∧ (D + 1) % 7 = 0) ∨ ((D + 1) % 7 ≠ 6 ∧ (D + 1) % 7 ≠ 0) by omega) with h6 | ⟨h6, h0⟩ | ⟨h6, h0⟩
    · have hs : shiftDay true D = D - 1 := by simp [shiftDay, h6]
      have b6 : ((D + 1) % 7 == 6) = true := by rw [h6]; rfl
      rw [hs] at hend
      have HEnd := Lib.hid hend
      clear hend hs h6
      generalize decide (IsDay (D - 1)) = isz at *
      go_enter Tryz.func125, Tryz.ntmps125
      go_wp2_with (first
        | (go_at_call 46; (with_reducible refine (HM.out _).mono ?_); rintro e w1 ⟨rfl, hb⟩
           have HB := Lib.hid (((Below.refl _ _).alloc (Nat.le_refl _) _).trans (hb.mono (by rw [alloc_size]; omega)))
           have HR1 := Lib.hid (HR.out.below hb)
           obtain ⟨e0, e1, e2, e3, e4, e5⟩ := HR1.out.at
           clear hb)
        | (go_at_call 28; (with_reducible refine (HO.out _).mono ?_); rintro e w2 ⟨rfl, hb⟩
           have HB2 := Lib.hid (HB.out.trans (hb.mono HB.out.size))
           have HR2 := Lib.hid (HR1.out.below hb)
           clear e0 e1 e2 e3 e4 e5
           obtain ⟨e0, e1, e2, e3, e4, e5⟩ := HR2.out.at
           clear hb)
        | (go_at_call 27; (with_reducible refine (HW.out _).mono ?_); rintro e w8 ⟨rfl, rfl⟩)
        | (go_at_call 45; (with_reducible refine (HW8.out _).mono ?_); rintro e w9 ⟨rfl, rfl⟩)
        | (fail "no arm"))
      go_ret2
      exact HEnd.out _ HB2.out
    · have hs : shiftDay true D = D + 1 := by simp [shiftDay, h0]
      have b6 : ((D + 1) % 7 == 6) = false := by simpa using h6
      have b0 : ((D + 1) % 7 == 0) = true := by rw [h0]; rfl
      rw [hs] at hend
      have HEnd := Lib.hid hend
      clear hend hs h6 h0
      generalize decide (IsDay (D + 1)) = isz at *
      go_enter Tryz.func125, Tryz.ntmps125
      go_wp2_with (first
        | (go_at_call 46; (with_reducible refine (HM.out _).mono ?_); rintro e w1 ⟨rfl, hb⟩
           have HB := Lib.hid (((Below.refl _ _).alloc (Nat.le_refl _) _).trans (hb.mono (by rw [alloc_size]; omega)))
           have HR1 := Lib.hid (HR.out.below hb)
           obtain ⟨e0, e1, e2, e3, e4, e5⟩ := HR1.out.at
           clear hb)
        | (go_at_call 28; (with_reducible refine (HO.out _).mono ?_); rintro e w2 ⟨rfl, hb⟩
           have HB2 := Lib.hid (HB.out.trans (hb.mono HB.out.size))
           have HR2 := Lib.hid (HR1.out.below hb)
           clear e0 e1 e2 e3 e4 e5
           obtain ⟨e0, e1, e2, e3, e4, e5⟩ := HR2.out.at
           clear hb)
        | (go_at_call 27; (with_reducible refine (HW.out _).mono ?_); rintro e w8 ⟨rfl, rfl⟩)
        | (go_at_call 45; (with_reducible refine (HW9.out _).mono ?_); rintro e w9 ⟨rfl, rfl⟩)
        | (fail "no arm"))
      go_ret2
      exact HEnd.out _ HB2.out
    · have hs : shiftDay true D = D := by simp [shiftDay, h6, h0]
      have b6 : ((D + 1) % 7 == 6) = false := by simpa using h6
      have b0 : ((D + 1) % 7 == 0) = false := by simpa using h0
      rw [hs] at hend
      have HEnd := Lib.hid hend
      clear hend hs h6 h0
      generalize decide (IsDay D) = isz at *
      go_enter Tryz.func125, Tryz.ntmps125
      go_wp2_with (first
        | (go_at_call 46; (with_reducible refine (HM.out _).mono ?_); rintro e w1 ⟨rfl, hb⟩
           have HB := Lib.hid (((Below.refl _ _).alloc (Nat.le_refl _) _).trans (hb.mono (by rw [alloc_size]; omega)))
           have HR1 := Lib.hid (HR.out.below hb)
           obtain ⟨e0, e1, e2, e3, e4, e5⟩ := HR1.out.at
           clear hb)
        | (go_at_call 28; (with_reducible refine (HO.out _).mono ?_); rintro e w2 ⟨rfl, hb⟩
           have HB2 := Lib.hid (HB.out.trans (hb.mono HB.out.size))
           have HR2 := Lib.hid (HR1.out.below hb)
           clear e0 e1 e2 e3 e4 e5
           obtain ⟨e0, e1, e2, e3, e4, e5⟩ := HR2.out.at
           clear hb)
        | (go_at_call 27; (with_reducible refine (HW.out _).mono ?_); rintro e w8 ⟨rfl, rfl⟩)
        | (go_at_call 45; (with_reducible refine (HW7.out _).mono ?_); rintro e w9 ⟨rfl, rfl⟩)
        | (fail "no arm"))
      go_ret2
      exact HEnd.out _ HB2.out
end Go.Proofs.YtlhmfgbaefaneaaGreatDoor.ref6
namespace Go.Proofs.YtlhmfgbaefaneaaGreatDoor.ref6
open Go Go.RowKit Go.Proofs.YtlhmfgbaefaneaaGreatDoor.day
theorem Holiday_any (k mo d n wd : Int) (sh : Bool) (y : Int) (w : World) :
    Calls Tryz.prog 125 #[.agg #[.int .i64 k, .int .i64 mo, .int .i64 d, .int .i64 n, .int .i64 wd, .bool sh], .int .i64 y] w fun e w' => HolEnd (holiday k mo d n wd sh y) w e w' := by
  by_cases h : May ⟨k, mo, d, n, wd, sh⟩ ∧ 1900 ≤ y ∧ y ≤ 2199
  · obtain ⟨hm, y1, y2⟩ := h
    rcases (show k = 1 ∨ k = 2 ∨ k = 3 from by
      rcases hm with h | h | h
      · exact Or.inl h.1
      · exact Or.inr (Or.inl h.1)
      · exact Or.inr (Or.inr h.1)) with rfl | rfl | rfl
    · by_cases hc : IsCivil y mo d
      · exact Holiday_fixed mo d n wd sh y hm y1 y2 hc w
      · exact Holiday_none mo d n wd sh y hm y1 y2 hc w
    · exact Holiday_nth mo d n wd sh y hm y1 y2 w
    · exact Holiday_easter mo d n wd sh y hm y1 y2 w
  · exact Holiday_may k mo d n wd sh y h w
theorem fld_year (a b c : Int) (w : World) : (Instr.field 23 (.agg #[.int .i64 a, .int .i64 b, .int .i64 c]) 0).run Tryz.prog w = .ok (.int .i64 a) w := by kernel_rfl
theorem fld_month (a b c : Int) (w : World) : (Instr.field 23 (.agg #[.int .i64 a, .int .i64 b, .int .i64 c]) 1).run Tryz.prog w = .ok (.int .i64 b) w := by kernel_rfl
def IRel (w : World) (k mo d n wd : Int) (sh : Bool) (y D : Int) (kv : Value) (wr : World) : Prop :=
  ∃ j : Int, -1 ≤ j ∧ j ≤ 2 ∧ kv = .int .i64 (y + j) ∧ (∀ i, -1 ≤ i → i < j → holiday k mo d n wd sh (y + i) ≠ some D) ∧ RAt wr w.heap.size k mo d n wd sh ∧ Below w.heap.size w wr
set_option maxRecDepth 100000 in
set_option maxHeartbeats 4000000 in
theorem IsRule_at (k mo d n wd : Int) (sh : Bool) (y m a : Int) (h : IsCivil y m a) (w : World) :
    Calls Tryz.prog 92 #[.agg #[.int .i64 k, .int .i64 mo, .int .i64 d, .int .i64 n, .int .i64 wd, .bool sh], .int .i64 (dayOf y m a)] w fun e w' => e = .returned (.bool (decide (ruleDay k mo d n wd sh y (dayOf y m a)))) ∧ Below w.heap.size w w' := by
  have HI := Lib.hid (fun W => Is_yes (dayOf_isDay h) W)
  have HC := Lib.hid (fun W => Civil_at y m a h W)
  have HH := Lib.hid (fun Y W => Holiday_any k mo d n wd sh Y W)
  have HR := Lib.hid (RAt.new w k mo d n wd sh)
  obtain ⟨y1, y2, -⟩ := id h
  have hfld := fun W => fld_year y m a W
  clear h
  generalize dayOf y m a = D at *
  obtain ⟨ans, hans⟩ : ∃ b, decide (ruleDay k mo d n wd sh y D) = b := ⟨_, rfl⟩
  have HAns := Lib.hid hans
  rw [hans]
  clear hans
  go_enter Tryz.func92, Tryz.ntmps92
  go_wp2_with (first
    | (go_at_call 45; (with_reducible refine (HI.out _).mono ?_); rintro e w9 ⟨rfl, rfl⟩)
    | (go_at_call 21; (with_reducible refine (HC.out _).mono ?_); rintro e w1 ⟨rfl, hb⟩
       have HB := Lib.hid (((Below.refl _ _).alloc (Nat.le_refl _) _).trans (hb.mono (by rw [alloc_size]; omega)))
       have HR1 := Lib.hid (HR.out.below hb)
       clear hb)
    | (fail "no arm"))
  go_loopw [6] (fun kv wr => IRel w k mo d n wd sh y D kv wr) (fun kv _ => (y + 2 - intOf kv).toNat)
  case atStart => exact ⟨-1, by omega, by omega, by go_num, fun i h1 h2 => by omega, HR1.out, HB.out⟩
  case round =>
    obtain ⟨j, j1, j2, rfl, hno, hr, hb⟩ := hrel
    obtain ⟨c0, c1, c2, c3, c4, c5⟩ := hr.at
    have HR2 := Lib.hid hr
    have HB2 := Lib.hid hb
    have HNo := Lib.hid hno
    clear hr hb hno
    by_cases hj : j ≤ 1
    · have HH1 := Lib.hid (HH.out (y + j))
      rcases ho : holiday k mo d n wd sh (y + j) with _ | z
      · rw [ho] at HH1
        have HO := Lib.hid ho
        clear ho
        go_wp2_with (first
          | (go_at_call 125; (with_reducible refine (HH1.out _).mono ?_); rintro e w4 ⟨-, he, hb⟩
             obtain ⟨z, rfl⟩ := he rfl
             have HB4 := Lib.hid (HB2.out.trans (hb.mono HB2.out.size))
             have HR4 := Lib.hid (HR2.out.below hb)
             clear hb he)
          | (fail "no arm"))
        go_roundw
        case rel => exact ⟨j + 1, by omega, by omega, by go_num, fun i h1 h2 => (by
          by_cases e : i = j
          · rw [e, HO.out]; intro h; cases h
          · exact HNo.out i h1 (by omega)), HR4.out, HB4.out⟩
        case measure => simp [intOf] <;> omega
      · rw [ho] at HH1
        have HO := Lib.hid ho
        clear ho
        by_cases hz : z = D
        · subst hz
          have ha : ans = true := by
            rw [← HAns.out]
            refine decide_eq_true ?_
            unfold ruleDay
            rcases (show j = -1 ∨ j = 0 ∨ j = 1 by omega) with e | e | e
            · exact Or.inl (by rw [← HO.out, e]; rfl)
            · exact Or.inr (Or.inl (by rw [← HO.out, e, Int.add_zero]))
            · exact Or.inr (Or.inr (by rw [← HO.out, e]))
          have HA := Lib.hid ha
          clear ha
          go_wp2_with (first
            | (go_at_call 125; (with_reducible refine (HH1.out _).mono ?_); rintro e w4 ⟨he, -, hb⟩
               obtain rfl := he z rfl
               have HB4 := Lib.hid (HB2.out.trans (hb.mono HB2.out.size))
               clear hb he)
            | (fail "no arm"))
          go_ret
          exact ⟨by rw [HA.out]; rfl, HB4.out⟩
        · have hz2 : (z == D) = false := by simpa using hz
          have HZ := Lib.hid hz
          clear hz
          go_wp2_with (first
            | (go_at_call 125; (with_reducible refine (HH1.out _).mono ?_); rintro e w4 ⟨he, -, hb⟩
               obtain rfl := he z rfl
               have HB4 := Lib.hid (HB2.out.trans (hb.mono HB2.out.size))
               have HR4 := Lib.hid (HR2.out.below hb)
               clear hb he)
            | (fail "no arm"))
          go_roundw
          case rel => exact ⟨j + 1, by omega, by omega, by go_num, fun i h1 h2 => (by
            by_cases e : i = j
            · rw [e, HO.out]; intro h; exact HZ.out (Option.some.inj h)
            · exact HNo.out i h1 (by omega)), HR4.out, HB4.out⟩
          case measure => simp [intOf] <;> omega
    · have ha : ans = false := by
        rw [← HAns.out]
        refine decide_eq_false ?_
        unfold ruleDay
        rintro (h | h | h)
        · exact HNo.out (-1) (by omega) (by omega) h
        · exact HNo.out 0 (by omega) (by omega) (by rwa [Int.add_zero])
        · exact HNo.out 1 (by omega) (by omega) h
      have HA := Lib.hid ha
      clear ha
      go_wp2
      go_ret
      exact ⟨by rw [HA.out]; rfl, HB2.out⟩
end Go.Proofs.YtlhmfgbaefaneaaGreatDoor.ref6
namespace Go.Proofs.YtlhmfgbaefaneaaGreatDoor.ref6
open Go Go.RowKit Go.Proofs.YtlhmfgbaefaneaaGreatDoor.day
def ORel (w : World) (cs : List CalT) (y D : Int) (iv : Value) (wr : World) : Prop :=
  ∃ i : Nat, i ≤ cs.length ∧ iv = .int .i64 (i : Nat) ∧ (∀ j c, j < i → cs[j]? = some c → calOpen c y D) ∧ Below w.heap.size w wr
def KRel (w : World) (c : CalT) (y D : Int) (kv : Value) (wr : World) : Prop :=
  ∃ k : Nat, k ≤ c.rules.length ∧ kv = .int .i64 (k : Nat) ∧ (∀ j r, j < k → c.rules[j]? = some r → ¬ ruleDay r.kind r.month r.day r.n r.wd r.shift y D) ∧ Below w.heap.size w wr
def MRel6 (w : World) (c : CalT) (D : Int) (kv : Value) (wr : World) : Prop :=
  ∃ k : Nat, k ≤ c.more.length ∧ kv = .int .i64 (k : Nat) ∧ (∀ j z, j < k → c.more[j]? = some z → z ≠ D) ∧ w = wr
set_option maxRecDepth 100000 in
set_option maxHeartbeats 4000000 in
theorem Open_at (cv : Value) (cs : List CalT) (y m a : Int) (h : IsCivil y m a) (w : World) (hcs : CalsAt w cv cs) (ans : Bool) (hans : ans = true ↔ isOpen cs y (dayOf y m a)) :
    Calls Tryz.prog 51 #[cv, .int .i64 (dayOf y m a)] w fun e w' => e = .returned (.bool ans) ∧ Below w.heap.size w w' := by
  have HI := Lib.hid (fun W => Is_yes (dayOf_isDay h) W)
  have HW := Lib.hid (fun W => Weekday_any (dayOf y m a) (dayOf_isDay h) W)
  have HR := Lib.hid (fun (r : Rule) W => IsRule_at r.kind r.month r.day r.n r.wd r.shift y m a h W)
  clear h
  generalize dayOf y m a = D at *
  have HAns := Lib.hid hans
  have HCs := Lib.hid hcs
  obtain ⟨ao, cap, rfl, hl, -⟩ := hcs
  have HW2 := Lib.hid (show ans = true → (D + 1) % 7 ≠ 0 ∧ (D + 1) % 7 ≠ 6 from fun h => ⟨(hans.1 h).1, (hans.1 h).2.1⟩)
  clear hans
  rcases (show (D + 1) % 7 = 0 ∨ (D + 1) % 7 = 6 ∨ ((D + 1) % 7 ≠ 0 ∧ (D + 1) % 7 ≠ 6) by omega) with h0 | h6 | ⟨h0, h6⟩
  · have ha : ans = false := by
      cases ans
      · rfl
      · exact absurd h0 (HW2.out rfl).1
    have b0 : ((D + 1) % 7 == 0) = true := by rw [h0]; rfl
    have HA := Lib.hid ha
    clear ha h0
    go_enter Tryz.func51, Tryz.ntmps51
    go_wp2_with (first
      | (go_at_call 45; (with_reducible refine (HI.out _).mono ?_); rintro e w9 ⟨rfl, rfl⟩)
      | (go_at_call 27; (with_reducible refine (HW.out _).mono ?_); rintro e w9 ⟨rfl, rfl⟩)
      | (fail "no arm"))
    go_ret
    exact ⟨by rw [HA.out]; rfl, Below.refl _ _⟩
  · have ha : ans = false := by
      cases ans
      · rfl
      · exact absurd h6 (HW2.out rfl).2
    have b0 : ((D + 1) % 7 == 0) = false := by rw [h6]; rfl
    have b6 : ((D + 1) % 7 == 6) = true := by rw [h6]; rfl
    have HA := Lib.hid ha
    clear ha h6
    go_enter Tryz.func51, Tryz.ntmps51
    go_wp2_with (first
      | (go_at_call 45; (with_reducible refine (HI.out _).mono ?_); rintro e w9 ⟨rfl, rfl⟩)
      | (go_at_call 27; (with_reducible refine (HW.out _).mono ?_); rintro e w9 ⟨rfl, rfl⟩)
      | (fail "no arm"))
    go_ret
    exact ⟨by rw [HA.out]; rfl, Below.refl _ _⟩
  · have b0 : ((D + 1) % 7 == 0) = false := by simpa using h0
    have b6 : ((D + 1) % 7 == 6) = false := by simpa using h6
    have HT := Lib.hid (show (∀ c ∈ cs, calOpen c y D) → ans = true from fun h => HAns.out.2 ⟨h0, h6, h⟩)
    have HF := Lib.hid (show (¬ ∀ c ∈ cs, calOpen c y D) → ans = false from fun h => by
      cases ha : ans
      · rfl
      · exact absurd (HAns.out.1 ha).2.2 h)
    clear h0 h6 HW2 HAns
    go_enter Tryz.func51, Tryz.ntmps51
    go_wp2_with (first
      | (go_at_call 45; (with_reducible refine (HI.out _).mono ?_); rintro e w9 ⟨rfl, rfl⟩)
      | (go_at_call 27; (with_reducible refine (HW.out _).mono ?_); rintro e w9 ⟨rfl, rfl⟩)
      | (fail "no arm"))
    go_loopw [5] (fun iv wr => ORel w cs y D iv wr) (fun iv _ => cs.length - (intOf iv).toNat)
    case atStart => exact ⟨0, Nat.zero_le _, rfl, fun j c hj => absurd hj (Nat.not_lt_zero _), Below.refl _ _⟩
    case round =>
      obtain ⟨i, hi, rfl, hok, hb⟩ := hrel
      have HB := Lib.hid hb
      have HOk := Lib.hid hok
      clear hb hok
      by_cases hlt : i < cs.length
      · obtain ⟨c, hc⟩ : ∃ c, cs[i]? = some c := ⟨_, List.getElem?_eq_getElem hlt⟩
        have HCi := Lib.hid hc
        obtain ⟨ao', cap', he, -, hat⟩ := HCs.out.below HB.out
        simp only [Value.slice.injEq, true_and] at he
        obtain ⟨rfl, rfl⟩ := he
        obtain ⟨g, rv, mv, rfl, q0, q1, hr, hm⟩ := hat i c hc
        obtain ⟨ro, rcap, rfl, hrl, hra⟩ := id hr
        have HAt0 := Lib.hid (show ∀ W, Below w.heap.size w W → ∃ mv', W.cell? ⟨g, i * 2, none⟩ = some (.slice ro c.rules.length rcap) ∧ W.cell? ⟨g, i * 2 + 1, none⟩ = some mv' ∧ RulesAt W (.slice ro c.rules.length rcap) c.rules ∧ IntsAt W mv' c.more ∧ mv' = mv from fun W hW => by
          obtain ⟨ao1, cap1, e0, -, hat1⟩ := HCs.out
          simp only [Value.slice.injEq, true_and] at e0
          obtain ⟨rfl, rfl⟩ := e0
          obtain ⟨g1, rv1, mv1, e1, k0, k1, k2, k3⟩ := hat1 i c hc
          simp only [Option.some.injEq, Addr.mk.injEq, and_true] at e1
          subst e1
          have j0 := cell_below k0 HB.out
          have j1 := cell_below k1 HB.out
          rw [q0] at j0
          rw [q1] at j1
          cases j0
          cases j1
          exact ⟨_, cell_below k0 hW, cell_below k1 hW, k2.below hW, k3.below hW, rfl⟩)
        clear hat hc hr hm hra
        generalize hn : cs.length = N at *
        go_wp2
        go_loopw [6] (fun kv wr' => KRel w c y D kv wr') (fun kv _ => c.rules.length - (intOf kv).toNat)
        case atStart => exact ⟨0, Nat.zero_le _, rfl, fun j c hj => absurd hj (Nat.not_lt_zero _), HB.out⟩
        case round =>
          obtain ⟨k, hk, rfl, hok2, hb2⟩ := hrel
          clear q0 q1
          obtain ⟨mv', q0, q1, hr2, hm2, rfl⟩ := HAt0.out _ hb2
          have HB2 := Lib.hid hb2
          have HOk2 := Lib.hid hok2
          have HMo2 := Lib.hid hm2
          clear HB
          by_cases hlt2 : k < c.rules.length
          · obtain ⟨r, hr⟩ : ∃ r, c.rules[k]? = some r := ⟨_, List.getElem?_eq_getElem hlt2⟩
            obtain ⟨ao', cap', he, hrl, hat⟩ := hr2
            simp only [Value.slice.injEq, true_and] at he
            obtain ⟨rfl, rfl⟩ := he
            obtain ⟨g2, rfl, p0, p1, p2, p3, p4, p5⟩ := hat k r hr
            have HRk := Lib.hid hr
            clear hat hr hok2 hb2 hm2
            have HR1 := HR.out r
            by_cases hrd : ruleDay r.kind r.month r.day r.n r.wd r.shift y D
            · rw [decide_eq_true hrd] at HR1
              replace HR1 := Lib.hid HR1
              have ha := HF.out (fun hall => (hall c (List.mem_of_getElem? HCi.out)).1 r (List.mem_of_getElem? HRk.out) hrd)
              have HA := Lib.hid ha
              clear ha hrd
              generalize hrn : c.rules.length = RN at *
              go_wp2_with (first
                | (go_at_call 92; (with_reducible refine (HR1.out _).mono ?_); rintro e w9 ⟨rfl, hb⟩
                   have HB9 := Lib.hid (HB2.out.trans (hb.mono HB2.out.size))
                   clear hb)
                | (fail "no arm"))
              go_ret
              exact ⟨by rw [HA.out]; rfl, HB9.out⟩
            · rw [decide_eq_false hrd] at HR1
              replace HR1 := Lib.hid HR1
              have HNd := Lib.hid hrd
              clear hrd
              generalize hrn : c.rules.length = RN at *
              go_wp2_with (first
                | (go_at_call 92; (with_reducible refine (HR1.out _).mono ?_); rintro e w9 ⟨rfl, hb⟩
                   have HB9 := Lib.hid (HB2.out.trans (hb.mono HB2.out.size))
                   clear hb)
                | (fail "no arm"))
              refine ⟨⟨k + 1, by omega, by go_num, fun j r' hj hr' => ?_, HB9.out⟩, by simp [intOf]; omega⟩
              by_cases e : j = k
              · subst e
                have := HRk.out.symm.trans hr'
                cases this
                exact HNd.out
              · exact HOk2.out j r' (by omega) hr'
          · obtain rfl : k = c.rules.length := by omega
            have HRules := Lib.hid (show ∀ r ∈ c.rules, ¬ ruleDay r.kind r.month r.day r.n r.wd r.shift y D from fun r hr => by
              obtain ⟨j, hj⟩ := List.mem_iff_getElem?.1 hr
              exact HOk2.out j r (List.getElem?_eq_some_iff.1 hj).1 hj)
            obtain ⟨mo, mcap, rfl, hml, hma⟩ := hm2
            have HMa := Lib.hid hma
            clear hma hok2 hr2 HMo2 hb2 HOk2 hk
            generalize hrn : c.rules.length = RN at *
            go_wp2
            go_loopw [7] (fun zv wr' => MRel6 wr c D zv wr') (fun zv _ => c.more.length - (intOf zv).toNat)
            case atStart => exact ⟨0, Nat.zero_le _, rfl, fun j c hj => absurd hj (Nat.not_lt_zero _), rfl⟩
            case round =>
              obtain ⟨l, hl3, rfl, hok3, rfl⟩ := hrel
              have HOk3 := Lib.hid hok3
              clear hok3
              by_cases hlt3 : l < c.more.length
              · obtain ⟨z, hz⟩ : ∃ z, c.more[l]? = some z := ⟨_, List.getElem?_eq_getElem hlt3⟩
                obtain ⟨g3, rfl, p0⟩ := HMa.out l z hz
                have HZk := Lib.hid hz
                clear hz
                by_cases hzd : z = D
                · have hb7 : (z == D) = true := by rw [hzd]; simp
                  have ha := HF.out (fun hall => (hall c (List.mem_of_getElem? HCi.out)).2 z (List.mem_of_getElem? HZk.out) hzd)
                  have HA := Lib.hid ha
                  clear ha hzd
                  generalize hmn : c.more.length = MN at *
                  go_wp2
                  go_ret
                  exact ⟨by rw [HA.out]; rfl, HB2.out⟩
                · have hb7 : (z == D) = false := by simpa using hzd
                  have HNd := Lib.hid hzd
                  clear hzd
                  generalize hmn : c.more.length = MN at *
                  go_wp2
                  refine ⟨⟨l + 1, by omega, by go_num, fun j z' hj hz' => ?_, rfl⟩, by simp [intOf]; omega⟩
                  by_cases e : j = l
                  · subst e
                    have := HZk.out.symm.trans hz'
                    cases this
                    exact HNd.out
                  · exact HOk3.out j z' (by omega) hz'
              · obtain rfl : l = c.more.length := by omega
                have HMore := Lib.hid (show ∀ z ∈ c.more, z ≠ D from fun z hz => by
                  obtain ⟨j, hj⟩ := List.mem_iff_getElem?.1 hz
                  exact HOk3.out j z (List.getElem?_eq_some_iff.1 hj).1 hj)
                clear HOk3 HMa
                generalize hmn : c.more.length = MN at *
                go_wp2
                refine ⟨⟨i + 1, by omega, by go_num, fun j c' hj hc' => ?_, HB2.out⟩, by simp [intOf]; omega⟩
                by_cases e : j = i
                · subst e
                  have := HCi.out.symm.trans hc'
                  cases this
                  exact ⟨HRules.out, HMore.out⟩
                · exact HOk.out j c' (by omega) hc'
      · have hall : ∀ c ∈ cs, calOpen c y D := fun c hc => by
          obtain ⟨j, hj⟩ := List.mem_iff_getElem?.1 hc
          exact HOk.out j c (by have := (List.getElem?_eq_some_iff.1 hj).1; omega) hj
        have HA := Lib.hid (HT.out hall)
        clear hall
        obtain rfl : i = cs.length := by omega
        generalize hn : cs.length = N at *
        go_wp2
        go_ret
        exact ⟨by rw [HA.out]; rfl, HB.out⟩
end Go.Proofs.YtlhmfgbaefaneaaGreatDoor.ref6
