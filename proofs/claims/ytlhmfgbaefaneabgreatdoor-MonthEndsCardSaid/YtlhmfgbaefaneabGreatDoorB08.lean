/-
  The steps of the walks, part 8: HoliB, HoliC.
-/
import Derived.Test.YtlhmfgbaefaneabGreatDoorB07
namespace Go.Proofs.YtlhmfgbaefaneabGreatDoor.holi
open Go Go.RowKit Go.Proofs.YtlhmfgbaefaneabGreatDoor.day Go.Proofs.YtlhmfgbaefaneabGreatDoor.date Go.Proofs.YtlhmfgbaefaneabGreatDoor.law6
open Go.Proofs.YtlhmfgbaefaneabGreatDoor.ref6 (May holiday ruleDay rawDay shiftDay nthDay daysW HolEnd RAt quiet_same drewN_below6)
def rawY (k mo d n wd : Int) (sh : Bool) (y : Int) : Option Int := if 1900 ≤ y ∧ y ≤ 2199 then rawDay k mo d n wd sh y else none
theorem box_below (w : World) (o : Obj) : Below w.heap.size w (w.alloc o) := (Below.refl _ _).alloc (Nat.le_refl _) _
set_option maxRecDepth 100000 in
set_option maxHeartbeats 4000000 in
theorem fixed_yes (k mo d n wd : Int) (sh : Bool) (y : Int) (h : IsCivil y mo d) (w : World) (hw : Wd w) :
    Calls Tryz.prog 105 #[.agg #[.int .i64 k, .int .i64 mo, .int .i64 d, .int .i64 n, .int .i64 wd, .bool sh], .int .i64 y] w fun e w' => e = .returned (.tuple #[.int .i64 (shiftDay sh (dayOf y mo d)), .bool true]) ∧ Below w.heap.size w w' := by
  have HO := Lib.hid (fun W (hb : Below w.heap.size w W) => Of_yes y mo d h W (hw.keep hb).lens)
  have HWd := Lib.hid (fun W => Weekday_day (dayOf y mo d) (dayOf_isDay h) W)
  have HB0 := Lib.hid (box_below w (.cells #[.int .i64 k, .int .i64 mo, .int .i64 d, .int .i64 n, .int .i64 wd, .bool sh] 38))
  have HR := Lib.hid (RAt.new w k mo d n wd sh)
  obtain ⟨b1, b2⟩ := dayOf_isDay h
  generalize dayOf y mo d = D at *
  have hs : (sh = false ∧ shiftDay sh D = D) ∨ (sh = true ∧ (wday D == 6) = true ∧ shiftDay sh D = D - 1) ∨ (sh = true ∧ (wday D == 6) = false ∧ (wday D == 0) = true ∧ shiftDay sh D = D + 1) ∨ (sh = true ∧ (wday D == 6) = false ∧ (wday D == 0) = false ∧ shiftDay sh D = D) := by
    unfold shiftDay wday
    cases sh
    · exact Or.inl ⟨rfl, by simp⟩
    · right
      by_cases e1 : (D + 1) % 7 = 6
      · left; simp [e1]
      · right
        by_cases e2 : (D + 1) % 7 = 0
        · left; simp [e2]
        · right; simp [e1, e2]
  clear h hw
  generalize shiftDay sh D = Z at *
  generalize wday D = wk at *
  rcases hs with ⟨rfl, rfl⟩ | ⟨rfl, s1, rfl⟩ | ⟨rfl, s1, s2, rfl⟩ | ⟨rfl, s1, s2, rfl⟩
  all_goals
    obtain ⟨c0, c1, c2, c3, c4, c5⟩ := HR.out.at
    go_enter Tryz.func105, Tryz.ntmps105
    go_wp2_with (first
      | (go_at_call 31; (with_reducible refine (HO.out _ HB0.out).mono ?_); rintro e w1 ⟨rfl, hb⟩
         have HB1 := Lib.hid (HB0.out.trans (hb.mono HB0.out.size))
         have HR1 := Lib.hid (HR.out.below hb)
         obtain ⟨e0, e1, e2, e3, e4, e5⟩ := (HR.out.below hb).at
         clear hb c0 c1 c2 c3 c4 c5)
      | (go_at_call 34; (with_reducible refine (HWd.out _).mono ?_); rintro e w2 ⟨rfl, rfl⟩)
      | (fail "no arm"))
    go_ret2
    exact ⟨by first | rfl | go_num, HB1.out⟩
set_option maxRecDepth 100000 in
set_option maxHeartbeats 4000000 in
theorem fixed_no (k mo d n wd : Int) (sh : Bool) (y : Int) (h : ¬ IsCivil y mo d) (w : World) (hw : Wd w) :
    Calls Tryz.prog 105 #[.agg #[.int .i64 k, .int .i64 mo, .int .i64 d, .int .i64 n, .int .i64 wd, .bool sh], .int .i64 y] w fun e w' => e = .returned (.tuple #[.int .i64 0, .bool false]) ∧ Below w.heap.size w w' := by
  have HO := Lib.hid (fun W (hb : Below w.heap.size w W) => Of_no y mo d h W (hw.keep hb).lens)
  unfold errOf at HO
  have HB0 := Lib.hid (box_below w (.cells #[.int .i64 k, .int .i64 mo, .int .i64 d, .int .i64 n, .int .i64 wd, .bool sh] 38))
  obtain ⟨c0, c1, c2, c3, c4, c5⟩ := (RAt.new w k mo d n wd sh).at
  clear h hw
  go_enter Tryz.func105, Tryz.ntmps105
  go_wp2_with (first
    | (go_at_call 31; (with_reducible refine (HO.out _ HB0.out).mono ?_); rintro e w1 ⟨rfl, hb⟩
       have HB1 := Lib.hid (HB0.out.trans (hb.mono HB0.out.size))
       clear hb c0 c1 c2 c3 c4 c5)
    | (fail "no arm"))
  go_ret2
  exact ⟨rfl, HB1.out⟩
theorem nth_last {y mo wd : Int} (m1 : 1 ≤ mo) (m2 : mo ≤ 12) (w1 : 0 ≤ wd) (w2 : wd ≤ 6) :
    nthDay y mo (-1) wd = some (dayOf y mo (mlen y mo) - (wday (dayOf y mo (mlen y mo)) - wd + 7) % 7) := by
  have l1 := mlen_lo (y := y) m1 m2
  have hC := ref6.daysW_count y mo wd w1 w2 (mlen y mo).toNat
  have hA := ref6.daysW_at y mo wd w1 w2 (mlen y mo).toNat
  rw [Int.toNat_of_nonneg (by omega)] at hC
  have e : dayOf y mo (mlen y mo) = dayOf y mo 1 + (mlen y mo - 1) := by rw [← ref6.dayOf_add]; congr 1; omega
  unfold nthDay
  rw [e]
  unfold wday
  generalize daysW y mo wd (mlen y mo).toNat = L at *
  generalize dayOf y mo 1 = D at *
  generalize mlen y mo = M at *
  rw [if_neg (by omega), if_pos (by decide), hA (L.length - 1) (by omega)]
  congr 1
  omega
theorem nth_num {y mo n wd : Int} (m1 : 1 ≤ mo) (m2 : mo ≤ 12) (n1 : 1 ≤ n) (w1 : 0 ≤ wd) (w2 : wd ≤ 6) :
    nthDay y mo n wd = if dayOf y mo 1 + (wd - wday (dayOf y mo 1) + 7) % 7 + 7 * (n - 1) ≤ dayOf y mo (mlen y mo) then some (dayOf y mo 1 + (wd - wday (dayOf y mo 1) + 7) % 7 + 7 * (n - 1)) else none := by
  have l1 := mlen_lo (y := y) m1 m2
  have hC := ref6.daysW_count y mo wd w1 w2 (mlen y mo).toNat
  have hA := ref6.daysW_at y mo wd w1 w2 (mlen y mo).toNat
  rw [Int.toNat_of_nonneg (by omega)] at hC
  have e : dayOf y mo (mlen y mo) = dayOf y mo 1 + (mlen y mo - 1) := by rw [← ref6.dayOf_add]; congr 1; omega
  unfold nthDay
  rw [e]
  unfold wday
  generalize daysW y mo wd (mlen y mo).toNat = L at *
  generalize dayOf y mo 1 = D at *
  generalize mlen y mo = M at *
  by_cases hn : (L.length : Int) < n
  · rw [if_pos hn, if_neg (by omega)]
  · rw [if_neg (by omega), if_neg (by omega), hA (n - 1).toNat (by omega), if_pos (by omega)]
    congr 1
    omega
set_option maxRecDepth 100000 in
set_option maxHeartbeats 4000000 in
theorem nth_out (k mo d n wd : Int) (sh : Bool) (y : Int) (h : ¬ (1900 ≤ y ∧ y ≤ 2199)) (w : World) (hw : Wd w) :
    Calls Tryz.prog 106 #[.agg #[.int .i64 k, .int .i64 mo, .int .i64 d, .int .i64 n, .int .i64 wd, .bool sh], .int .i64 y] w fun e w' => e = .returned (.tuple #[.int .i64 0, .bool false]) ∧ Below w.heap.size w w' := by
  have HE := Lib.hid (fun W (hb : Below w.heap.size w W) => month.End_no y mo (fun h' => h ⟨h'.1, h'.2.1⟩) W (hw.keep hb))
  unfold errOf at HE
  have HB0 := Lib.hid (box_below w (.cells #[.int .i64 k, .int .i64 mo, .int .i64 d, .int .i64 n, .int .i64 wd, .bool sh] 38))
  obtain ⟨c0, c1, c2, c3, c4, c5⟩ := (RAt.new w k mo d n wd sh).at
  clear h hw
  go_enter Tryz.func106, Tryz.ntmps106
  go_wp2_with (first
    | (go_at_call 37; (with_reducible refine (HE.out _ HB0.out).mono ?_); rintro e w1 ⟨rfl, hb⟩
       have HB1 := Lib.hid (HB0.out.trans (hb.mono HB0.out.size))
       clear hb c0 c1 c2 c3 c4 c5)
    | (fail "no arm"))
  go_ret2
  exact ⟨rfl, HB1.out⟩
set_option maxRecDepth 100000 in
set_option maxHeartbeats 4000000 in
theorem nth_end (k mo d wd : Int) (sh : Bool) (y : Int) (m1 : 1 ≤ mo) (m2 : mo ≤ 12) (w1 : 0 ≤ wd) (w2 : wd ≤ 6) (y1 : 1900 ≤ y) (y2 : y ≤ 2199) (w : World) (hw : Wd w) :
    Calls Tryz.prog 106 #[.agg #[.int .i64 k, .int .i64 mo, .int .i64 d, .int .i64 (-1), .int .i64 wd, .bool sh], .int .i64 y] w fun e w' => HolEnd (nthDay y mo (-1) wd) w e w' := by
  have HE := Lib.hid (fun W (hb : Below w.heap.size w W) => month.End_yes y mo y1 y2 m1 m2 W (hw.keep hb))
  have hd : IsDay (dayOf y mo (mlen y mo)) := dayOf_isDay ⟨y1, y2, by have := mlen_lo (y := y) m1 m2; omega, Int.le_refl _⟩
  have hk : 0 ≤ wday (dayOf y mo (mlen y mo)) ∧ wday (dayOf y mo (mlen y mo)) ≤ 6 := by unfold wday; omega
  have HWd := Lib.hid (fun W => Weekday_day (dayOf y mo (mlen y mo)) hd W)
  rw [nth_last m1 m2 w1 w2]
  have HR := Lib.hid (RAt.new w k mo d (-1) wd sh)
  obtain ⟨c0, c1, c2, c3, c4, c5⟩ := HR.out.at
  have HB0 := Lib.hid (box_below w (.cells #[.int .i64 k, .int .i64 mo, .int .i64 d, .int .i64 (-1), .int .i64 wd, .bool sh] 38))
  have HDf := Lib.hid (fun W => daysFrom_at wd (wday (dayOf y mo (mlen y mo))) w1 w2 hk.1 hk.2 W)
  obtain ⟨d1, d2⟩ := hd
  generalize dayOf y mo (mlen y mo) = D at *
  obtain ⟨k1, k2⟩ := hk
  generalize wday D = wk at *
  obtain ⟨q1, q2⟩ : 0 ≤ (wk - wd + 7) % 7 ∧ (wk - wd + 7) % 7 ≤ 6 := by omega
  generalize (wk - wd + 7) % 7 = q at *
  clear m1 m2 w1 w2 hw
  go_enter Tryz.func106, Tryz.ntmps106
  go_wp2_with (first
    | (go_at_call 37; (with_reducible refine (HE.out _ HB0.out).mono ?_); rintro e w1 ⟨rfl, hb⟩
       have HB1 := Lib.hid (HB0.out.trans (hb.mono HB0.out.size))
       obtain ⟨e0, e1, e2, e3, e4, e5⟩ := (HR.out.below hb).at
       clear hb c0 c1 c2 c3 c4 c5)
    | (fail "no arm"))
  go_quiet (first
    | (go_at_call 34; with_reducible exact quiet_same (HWd.out _))
    | (go_at_call 139; with_reducible exact quiet_same (HDf.out _)))
  go_wp2
  go_ret2
  exact ⟨fun z hz => (by cases hz; first | rfl | go_num), fun hz => (by cases hz), drewN_below6 HB1.out nq⟩
set_option maxRecDepth 100000 in
set_option maxHeartbeats 4000000 in
theorem nth_at (k mo d n wd : Int) (sh : Bool) (y : Int) (m1 : 1 ≤ mo) (m2 : mo ≤ 12) (n1 : 1 ≤ n) (n2 : n ≤ 5) (w1 : 0 ≤ wd) (w2 : wd ≤ 6) (y1 : 1900 ≤ y) (y2 : y ≤ 2199) (w : World) (hw : Wd w) :
    Calls Tryz.prog 106 #[.agg #[.int .i64 k, .int .i64 mo, .int .i64 d, .int .i64 n, .int .i64 wd, .bool sh], .int .i64 y] w fun e w' => HolEnd (nthDay y mo n wd) w e w' := by
  have HE := Lib.hid (fun W (hb : Below w.heap.size w W) => month.End_yes y mo y1 y2 m1 m2 W (hw.keep hb))
  have HLn := Lib.hid (fun W (hb : Below w.heap.size w W) => Length_any y mo W (hw.keep hb).lens)
  have l1 := mlen_lo (y := y) m1 m2
  have l2 := mlen_hi y mo
  have hd : IsDay (dayOf y mo (mlen y mo)) := dayOf_isDay ⟨y1, y2, by omega, Int.le_refl _⟩
  have hd1 : IsDay (dayOf y mo 1) := dayOf_isDay ⟨y1, y2, by omega, by omega⟩
  have e : dayOf y mo (mlen y mo) = dayOf y mo 1 + (mlen y mo - 1) := by rw [← ref6.dayOf_add]; congr 1; omega
  rw [nth_num m1 m2 n1 w1 w2]
  have hk : 0 ≤ wday (dayOf y mo 1) ∧ wday (dayOf y mo 1) ≤ 6 := by unfold wday; omega
  have HWd := Lib.hid (fun W => Weekday_day (dayOf y mo 1) hd1 W)
  have HR := Lib.hid (RAt.new w k mo d n wd sh)
  obtain ⟨c0, c1, c2, c3, c4, c5⟩ := HR.out.at
  have HB0 := Lib.hid (box_below w (.cells #[.int .i64 k, .int .i64 mo, .int .i64 d, .int .i64 n, .int .i64 wd, .bool sh] 38))
  have HDf := Lib.hid (fun W => daysFrom_at (wday (dayOf y mo 1)) wd hk.1 hk.2 w1 w2 W)
  obtain ⟨d1, d2⟩ := hd
  obtain ⟨d3, d4⟩ := hd1
  have HD := Lib.hid (show dayOf y mo (mlen y mo) - mlen y mo + 1 = dayOf y mo 1 by omega)
  clear e
  generalize dayOf y mo (mlen y mo) = E at *
  generalize mlen y mo = M at *
  generalize dayOf y mo 1 = D at *
  obtain ⟨k1, k2⟩ := hk
  generalize wday D = wk at *
  obtain ⟨q1, q2⟩ : 0 ≤ (wd - wk + 7) % 7 ∧ (wd - wk + 7) % 7 ≤ 6 := by omega
  generalize (wd - wk + 7) % 7 = q at *
  have hn0 : (n == -1) = false := by simp; omega
  clear m1 m2 w1 w2 hw
  by_cases hle : D + q + 7 * (n - 1) ≤ E
  · rw [if_pos hle]
    go_enter Tryz.func106, Tryz.ntmps106
    go_wp2_with (first
      | (go_at_call 37; (with_reducible refine (HE.out _ HB0.out).mono ?_); rintro e w1 ⟨rfl, hb⟩
         have HB1 := Lib.hid (HB0.out.trans (hb.mono HB0.out.size))
         obtain ⟨e0, e1, e2, e3, e4, e5⟩ := (HR.out.below hb).at
         clear hb c0 c1 c2 c3 c4 c5)
      | (go_at_call 32; (with_reducible refine (HLn.out _ HB1.out).mono ?_); rintro e w2 ⟨rfl, rfl⟩)
      | (fail "no arm"))
    rw [HD.out]
    go_quiet (first
      | (go_at_call 34; with_reducible exact quiet_same (HWd.out _))
      | (go_at_call 139; with_reducible exact quiet_same (HDf.out _)))
    go_wp2
    go_ret2
    exact ⟨fun z hz => (by cases hz; first | rfl | go_num), fun hz => (by cases hz), drewN_below6 HB1.out nq⟩
  · rw [if_neg hle]
    have HNe := Lib.hid (show decide (D + q + 7 * (n - 1) ≤ E) = false from decide_eq_false hle)
    clear hle
    go_enter Tryz.func106, Tryz.ntmps106
    go_wp2_with (first
      | (go_at_call 37; (with_reducible refine (HE.out _ HB0.out).mono ?_); rintro e w1 ⟨rfl, hb⟩
         have HB1 := Lib.hid (HB0.out.trans (hb.mono HB0.out.size))
         obtain ⟨e0, e1, e2, e3, e4, e5⟩ := (HR.out.below hb).at
         clear hb c0 c1 c2 c3 c4 c5)
      | (go_at_call 32; (with_reducible refine (HLn.out _ HB1.out).mono ?_); rintro e w2 ⟨rfl, rfl⟩)
      | (fail "no arm"))
    rw [HD.out]
    go_quiet (first
      | (go_at_call 34; with_reducible exact quiet_same (HWd.out _))
      | (go_at_call 139; with_reducible exact quiet_same (HDf.out _)))
    go_wp2
    go_ret2
    exact ⟨fun z hz => (by cases hz), fun hz => ⟨D + q + 7 * (n - 1), by rw [← HNe.out]; rfl⟩, drewN_below6 HB1.out nq⟩
end Go.Proofs.YtlhmfgbaefaneabGreatDoor.holi
namespace Go.Proofs.YtlhmfgbaefaneabGreatDoor.holi
open Go Go.RowKit Go.Proofs.YtlhmfgbaefaneabGreatDoor.day Go.Proofs.YtlhmfgbaefaneabGreatDoor.date Go.Proofs.YtlhmfgbaefaneabGreatDoor.law6
open Go.Proofs.YtlhmfgbaefaneabGreatDoor.ref6 (May holiday ruleDay rawDay shiftDay nthDay daysW HolEnd RAt quiet_same drewN_below6)
theorem fixed_any (mo d n wd : Int) (sh : Bool) (y : Int) (w : World) (hw : Wd w) :
    Calls Tryz.prog 105 #[.agg #[.int .i64 1, .int .i64 mo, .int .i64 d, .int .i64 n, .int .i64 wd, .bool sh], .int .i64 y] w fun e w' => HolEnd (rawY 1 mo d n wd sh y) w e w' := by
  unfold rawY rawDay
  rw [if_pos (show (1 : Int) = 1 from rfl)]
  by_cases hc : IsCivil y mo d
  · rw [if_pos ⟨hc.1, hc.2.1⟩, if_pos hc]
    refine (fixed_yes 1 mo d n wd sh y hc w hw).mono ?_
    rintro e w' ⟨rfl, hb⟩
    exact ⟨fun z hz => (by cases hz; rfl), fun hz => (by cases hz), hb⟩
  · rw [if_neg hc]
    refine (fixed_no 1 mo d n wd sh y hc w hw).mono ?_
    rintro e w' ⟨rfl, hb⟩
    exact ⟨fun z hz => (by split at hz <;> cases hz), fun hz => ⟨0, rfl⟩, hb⟩
theorem nth_any (mo d n wd : Int) (sh : Bool) (y : Int) (w : World) (hw : Wd w) (hm : May ⟨2, mo, d, n, wd, sh⟩) :
    Calls Tryz.prog 106 #[.agg #[.int .i64 2, .int .i64 mo, .int .i64 d, .int .i64 n, .int .i64 wd, .bool sh], .int .i64 y] w fun e w' => HolEnd (rawY 2 mo d n wd sh y) w e w' := by
  obtain ⟨m1, m2, hn, w1, w2⟩ : 1 ≤ mo ∧ mo ≤ 12 ∧ (1 ≤ n ∧ n ≤ 5 ∨ n = -1) ∧ 0 ≤ wd ∧ wd ≤ 6 := by
    rcases hm with h | h | h
    · have := h.1; simp only at this; omega
    · exact ⟨h.2.1, h.2.2.1, h.2.2.2.1, h.2.2.2.2.1, h.2.2.2.2.2.1⟩
    · have := h.1; simp only at this; omega
  unfold rawY rawDay
  rw [if_neg (show ¬ (2 : Int) = 1 by decide), if_neg (show ¬ (2 : Int) = 3 by decide)]
  by_cases hy : 1900 ≤ y ∧ y ≤ 2199
  · rw [if_pos hy]
    rcases hn with ⟨n1, n2⟩ | rfl
    · exact nth_at 2 mo d n wd sh y m1 m2 n1 n2 w1 w2 hy.1 hy.2 w hw
    · exact nth_end 2 mo d wd sh y m1 m2 w1 w2 hy.1 hy.2 w hw
  · rw [if_neg hy]
    refine (nth_out 2 mo d n wd sh y hy w hw).mono ?_
    rintro e w' ⟨rfl, hb⟩
    exact ⟨fun z hz => (by cases hz), fun hz => ⟨0, rfl⟩, hb⟩
theorem HolEnd.tup {o : Option Int} {w w' : World} {e : Ending} (h : HolEnd o w e w') : ∃ (z : Int) (b : Bool), e = .returned (.tuple #[.int .i64 z, .bool b]) ∧ (b = true → o = some z) ∧ (b = false → o = none) ∧ Below w.heap.size w w' := by
  rcases o with _ | z
  · obtain ⟨z, hz⟩ := h.2.1 rfl
    exact ⟨z, false, hz, fun h => (by cases h), fun _ => rfl, h.2.2⟩
  · exact ⟨z, true, h.1 z rfl, fun _ => rfl, fun h => (by cases h), h.2.2⟩
theorem HolEnd.of {o : Option Int} {w w' : World} {z : Int} {b : Bool} (h1 : b = true → o = some z) (h2 : b = false → o = none) (hb : Below w.heap.size w w') : HolEnd o w (.returned (.tuple #[.int .i64 z, .bool b])) w' := by
  cases b
  · exact ⟨fun y hy => (by rw [h2 rfl] at hy; cases hy), fun _ => ⟨z, rfl⟩, hb⟩
  · refine ⟨fun y hy => ?_, fun hy => (by rw [h1 rfl] at hy; cases hy), hb⟩
    rw [h1 rfl] at hy
    cases hy
    rfl
set_option maxRecDepth 100000 in
set_option maxHeartbeats 4000000 in
theorem dayOf_any (k mo d n wd : Int) (sh : Bool) (y : Int) (hm : May ⟨k, mo, d, n, wd, sh⟩) (w : World) (hw : Wd w) :
    Calls Tryz.prog 79 #[.agg #[.int .i64 k, .int .i64 mo, .int .i64 d, .int .i64 n, .int .i64 wd, .bool sh], .int .i64 y] w fun e w' => HolEnd (rawY k mo d n wd sh y) w e w' := by
  have HB0 := Lib.hid (box_below w (.cells #[.int .i64 k, .int .i64 mo, .int .i64 d, .int .i64 n, .int .i64 wd, .bool sh] 38))
  have HR := Lib.hid (RAt.new w k mo d n wd sh)
  rcases (show k = 1 ∨ k = 2 ∨ k = 3 from by
    rcases hm with h | h | h
    · exact Or.inl h.1
    · exact Or.inr (Or.inl h.1)
    · exact Or.inr (Or.inr h.1)) with rfl | rfl | rfl
  · have HF := Lib.hid (fun W (hb : Below w.heap.size w W) => fixed_any mo d n wd sh y W (hw.keep hb))
    generalize rawY 1 mo d n wd sh y = o at *
    obtain ⟨c0, c1, c2, c3, c4, c5⟩ := HR.out.at
    clear hm hw
    go_enter Tryz.func79, Tryz.ntmps79
    go_wp2_with (first
      | (go_at_call 105; (with_reducible refine (HF.out _ HB0.out).mono ?_); rintro e w1 he
         obtain ⟨z, b, rfl, hz1, hz2, hb⟩ := HolEnd.tup he
         have HB1 := Lib.hid (HB0.out.trans (hb.mono HB0.out.size)); have HZ1 := Lib.hid hz1; have HZ2 := Lib.hid hz2
         clear hb he hz1 hz2 c0 c1 c2 c3 c4 c5)
      | (fail "no arm"))
    go_ret2
    exact HolEnd.of HZ1.out HZ2.out HB1.out
  · have HF := Lib.hid (fun W (hb : Below w.heap.size w W) => nth_any mo d n wd sh y W (hw.keep hb) hm)
    generalize rawY 2 mo d n wd sh y = o at *
    obtain ⟨c0, c1, c2, c3, c4, c5⟩ := HR.out.at
    clear hm hw
    go_enter Tryz.func79, Tryz.ntmps79
    go_wp2_with (first
      | (go_at_call 106; (with_reducible refine (HF.out _ HB0.out).mono ?_); rintro e w1 he
         obtain ⟨z, b, rfl, hz1, hz2, hb⟩ := HolEnd.tup he
         have HB1 := Lib.hid (HB0.out.trans (hb.mono HB0.out.size)); have HZ1 := Lib.hid hz1; have HZ2 := Lib.hid hz2
         clear hb he hz1 hz2 c0 c1 c2 c3 c4 c5)
      | (fail "no arm"))
    go_ret2
    exact HolEnd.of HZ1.out HZ2.out HB1.out
  · obtain ⟨n1, n2⟩ : -100 ≤ n ∧ n ≤ 100 := by
      rcases hm with h | h | h
      · have := h.1; simp only at this; omega
      · have := h.1; simp only at this; omega
      · exact ⟨h.2.1, h.2.2.1⟩
    unfold rawY rawDay
    rw [if_neg (show ¬ (3 : Int) = 1 by decide), if_pos (show (3 : Int) = 3 from rfl)]
    obtain ⟨c0, c1, c2, c3, c4, c5⟩ := HR.out.at
    by_cases hy : 1900 ≤ y ∧ y ≤ 2199
    · rw [if_pos hy]
      have HF := Lib.hid (fun W (hb : Below w.heap.size w W) => easter.Sunday_at y hy.1 hy.2 W (hw.keep hb))
      obtain ⟨e1, e2⟩ := ref6.easterDay_in hy.1 hy.2
      generalize easterDay y = E at *
      clear hm hw hy
      go_enter Tryz.func79, Tryz.ntmps79
      go_wp2_with (first
        | (go_at_call 38; (with_reducible refine (HF.out _ HB0.out).mono ?_); rintro e w1 ⟨rfl, hb⟩
           have HB1 := Lib.hid (HB0.out.trans (hb.mono HB0.out.size))
           obtain ⟨e0, e1, e2, e3, e4, e5⟩ := (HR.out.below hb).at
           clear hb c0 c1 c2 c3 c4 c5)
        | (fail "no arm"))
      go_quiet (fail)
      go_wp2
      go_ret2
      exact ⟨fun z hz => (by cases hz; first | rfl | go_num), fun hz => (by cases hz), drewN_below6 HB1.out nq⟩
    · rw [if_neg hy]
      have HF := Lib.hid (fun W (hb : Below w.heap.size w W) => easter.Sunday_no y hy W (hw.keep hb))
      unfold errOf at HF
      clear hm hw hy
      go_enter Tryz.func79, Tryz.ntmps79
      go_wp2_with (first
        | (go_at_call 38; (with_reducible refine (HF.out _ HB0.out).mono ?_); rintro e w1 ⟨rfl, hb⟩
           have HB1 := Lib.hid (HB0.out.trans (hb.mono HB0.out.size))
           obtain ⟨e0, e1, e2, e3, e4, e5⟩ := (HR.out.below hb).at
           clear hb c0 c1 c2 c3 c4 c5)
        | (fail "no arm"))
      go_quiet (fail)
      go_wp2
      go_ret2
      exact ⟨fun z hz => (by cases hz), fun hz => ⟨_, rfl⟩, drewN_below6 HB1.out nq⟩
theorem hol_raw {k mo d n wd : Int} {sh : Bool} {y : Int} (hm : May ⟨k, mo, d, n, wd, sh⟩) : holiday k mo d n wd sh y = (rawY k mo d n wd sh y).bind (fun z => if IsDay z then some z else none) := by
  unfold holiday rawY
  by_cases hy : 1900 ≤ y ∧ y ≤ 2199
  · rw [if_pos ⟨hm, hy⟩, if_pos hy]
  · rw [if_neg (fun h => hy h.2), if_neg hy]; rfl
def DayEnd (o : Option Int) (w : World) (e : Ending) (w' : World) : Prop :=
  (∀ z, o = some z → e = .returned (.tuple #[.int .i64 z, .bool true])) ∧ (o = none → e = .returned (.tuple #[.int .i64 0, .bool false])) ∧ Below w.heap.size w w'
theorem DayEnd.no {o : Option Int} {w w' : World} (h : o = none) (hb : Below w.heap.size w w') : DayEnd o w (.returned (.tuple #[.int .i64 0, .bool false])) w' := ⟨fun z hz => (by rw [h] at hz; cases hz), fun _ => rfl, hb⟩
theorem DayEnd.yes {o : Option Int} {z : Int} {w w' : World} (h : o = some z) (hb : Below w.heap.size w w') : DayEnd o w (.returned (.tuple #[.int .i64 z, .bool true])) w' := ⟨fun y hy => (by rw [h] at hy; cases hy; rfl), fun hy => (by rw [h] at hy; cases hy), hb⟩
set_option maxRecDepth 100000 in
set_option maxHeartbeats 4000000 in
theorem Day_any (k mo d n wd : Int) (sh : Bool) (y : Int) (w : World) (hw : Wd w) :
    Calls Tryz.prog 39 #[.agg #[.int .i64 k, .int .i64 mo, .int .i64 d, .int .i64 n, .int .i64 wd, .bool sh], .int .i64 y] w fun e w' => DayEnd (holiday k mo d n wd sh y) w e w' := by
  have HB0 := Lib.hid (box_below w (.cells #[.int .i64 k, .int .i64 mo, .int .i64 d, .int .i64 n, .int .i64 wd, .bool sh] 38))
  have HR := Lib.hid (RAt.new w k mo d n wd sh)
  have HM := Lib.hid (fun W (hb : Below w.heap.size w W) => May_any k mo d n wd sh W (hw.keep hb))
  obtain ⟨c0, c1, c2, c3, c4, c5⟩ := HR.out.at
  by_cases hm : May ⟨k, mo, d, n, wd, sh⟩
  · rw [decide_eq_true hm] at HM
    rw [hol_raw hm]
    have HD := Lib.hid (fun W (hb : Below w.heap.size w W) => dayOf_any k mo d n wd sh y hm W (hw.keep hb))
    generalize rawY k mo d n wd sh y = o at *
    clear hm hw
    rcases o with _ | z
    · go_enter Tryz.func39, Tryz.ntmps39
      go_wp2_with (first
        | (go_at_call 24; (with_reducible refine (HM.out _ HB0.out).mono ?_); rintro e w1 ⟨rfl, hb⟩
           have HB1 := Lib.hid (HB0.out.trans (hb.mono HB0.out.size))
           obtain ⟨e0, e1, e2, e3, e4, e5⟩ := (HR.out.below hb).at
           clear hb c0 c1 c2 c3 c4 c5)
        | (go_at_call 79; (with_reducible refine (HD.out _ HB1.out).mono ?_); rintro e w2 ⟨-, he, hb⟩
           obtain ⟨z, rfl⟩ := he rfl
           have HB2 := Lib.hid (HB1.out.trans (hb.mono HB1.out.size))
           clear hb he e0 e1 e2 e3 e4 e5)
        | (fail "no arm"))
      go_ret2
      exact DayEnd.no rfl HB2.out
    · have hz : (z < 0 ∧ ¬ IsDay z) ∨ (0 ≤ z ∧ 109572 < z ∧ ¬ IsDay z) ∨ (0 ≤ z ∧ z ≤ 109572 ∧ IsDay z) := by unfold IsDay; omega
      rcases hz with ⟨z1, hz⟩ | ⟨z1, z2, hz⟩ | ⟨z1, z2, hz⟩
      all_goals
        have HZ := Lib.hid hz
        clear hz
        go_enter Tryz.func39, Tryz.ntmps39
        go_wp2_with (first
          | (go_at_call 24; (with_reducible refine (HM.out _ HB0.out).mono ?_); rintro e w1 ⟨rfl, hb⟩
             have HB1 := Lib.hid (HB0.out.trans (hb.mono HB0.out.size))
             obtain ⟨e0, e1, e2, e3, e4, e5⟩ := (HR.out.below hb).at
             clear hb c0 c1 c2 c3 c4 c5)
          | (go_at_call 79; (with_reducible refine (HD.out _ HB1.out).mono ?_); rintro e w2 ⟨he, -, hb⟩
             obtain rfl := he z rfl
             have HB2 := Lib.hid (HB1.out.trans (hb.mono HB1.out.size))
             clear hb he e0 e1 e2 e3 e4 e5)
          | (fail "no arm"))
        go_ret2
        first
          | exact DayEnd.no (if_neg HZ.out) HB2.out
          | exact DayEnd.yes (if_pos HZ.out) HB2.out
  · rw [decide_eq_false hm] at HM
    have HN := Lib.hid (show holiday k mo d n wd sh y = none from if_neg (fun h => hm h.1))
    clear hm hw
    go_enter Tryz.func39, Tryz.ntmps39
    go_wp2_with (first
      | (go_at_call 24; (with_reducible refine (HM.out _ HB0.out).mono ?_); rintro e w1 ⟨rfl, hb⟩
         have HB1 := Lib.hid (HB0.out.trans (hb.mono HB0.out.size))
         clear hb c0 c1 c2 c3 c4 c5)
      | (fail "no arm"))
    go_ret2
    exact DayEnd.no HN.out HB1.out
set_option maxRecDepth 100000 in
set_option maxHeartbeats 4000000 in
theorem Is_no (k mo d n wd : Int) (sh : Bool) (D : Int) (h : ¬ IsDay D) (w : World) :
    Calls Tryz.prog 40 #[.agg #[.int .i64 k, .int .i64 mo, .int .i64 d, .int .i64 n, .int .i64 wd, .bool sh], .int .i64 D] w fun e w' => e = .returned (.bool false) ∧ Below w.heap.size w w' := by
  have HC := Lib.hid (fun W => (show Calls Tryz.prog 36 #[.int .i64 D] W fun e w' => e = .returned (.tuple #[.agg #[.int .i64 0, .int .i64 0, .int .i64 0], .iface 100 (.int .i64 4)]) ∧ Below W.heap.size W w' from Civil_no D h W))
  have HB0 := Lib.hid (box_below w (.cells #[.int .i64 k, .int .i64 mo, .int .i64 d, .int .i64 n, .int .i64 wd, .bool sh] 38))
  clear h
  go_enter Tryz.func40, Tryz.ntmps40
  go_wp2_with (first
    | (go_at_call 36; (with_reducible refine (HC.out _).mono ?_); rintro e w1 ⟨rfl, hb⟩
       have HB1 := Lib.hid ((HB0.out.trans (hb.mono HB0.out.size)).alloc (HB0.out.trans (hb.mono HB0.out.size)).size (.cells #[.int .i64 0, .int .i64 0, .int .i64 0] 48))
       clear hb)
    | (fail "no arm"))
  go_ret
  exact ⟨rfl, HB1.out⟩
def IsRel (w : World) (k mo d n wd : Int) (sh : Bool) (y m a D : Int) (B : Nat) (kv : Value) (wr : World) : Prop :=
  ∃ j : Int, -1 ≤ j ∧ j ≤ 2 ∧ kv = .int .i64 (y + j) ∧ (∀ i, -1 ≤ i → i < j → holiday k mo d n wd sh (y + i) ≠ some D) ∧ RAt wr w.heap.size k mo d n wd sh ∧ ref6.CAt wr B y m a ∧ Below w.heap.size w wr
set_option maxRecDepth 100000 in
set_option maxHeartbeats 4000000 in
theorem Is_at (k mo d n wd : Int) (sh : Bool) (y m a : Int) (h : IsCivil y m a) (w : World) (hw : Wd w) :
    Calls Tryz.prog 40 #[.agg #[.int .i64 k, .int .i64 mo, .int .i64 d, .int .i64 n, .int .i64 wd, .bool sh], .int .i64 (dayOf y m a)] w fun e w' => e = .returned (.bool (decide (ruleDay k mo d n wd sh y (dayOf y m a)))) ∧ Below w.heap.size w w' := by
  have HC := Lib.hid (fun W (hb : Below w.heap.size w W) => Civil_at y m a h W (hw.keep hb).lens)
  have HH := Lib.hid (fun Y W (hb : Below w.heap.size w W) => Day_any k mo d n wd sh Y W (hw.keep hb))
  have HR := Lib.hid (RAt.new w k mo d n wd sh)
  have HB0 := Lib.hid (box_below w (.cells #[.int .i64 k, .int .i64 mo, .int .i64 d, .int .i64 n, .int .i64 wd, .bool sh] 38))
  obtain ⟨y1, y2, -⟩ := id h
  clear h hw
  generalize dayOf y m a = D at *
  obtain ⟨ans, hans⟩ : ∃ b, decide (ruleDay k mo d n wd sh y D) = b := ⟨_, rfl⟩
  have HAns := Lib.hid hans
  rw [hans]
  clear hans
  go_enter Tryz.func40, Tryz.ntmps40
  go_wp2_with (first
    | (go_at_call 36; (with_reducible refine (HC.out _ HB0.out).mono ?_); rintro e w1 ⟨rfl, hb⟩
       have HBo := Lib.hid (HB0.out.trans (hb.mono HB0.out.size))
       have HB := Lib.hid (HBo.out.alloc HBo.out.size (.cells #[.int .i64 y, .int .i64 m, .int .i64 a] 48))
       have HR1 := Lib.hid ((HR.out.below hb).below ((Below.refl _ _).alloc (Nat.le_refl _) (.cells #[.int .i64 y, .int .i64 m, .int .i64 a] 48)))
       have HC1 := Lib.hid (ref6.CAt.new w1 y m a)
       obtain ⟨c0, c1, c2, -⟩ := (ref6.CAt.new w1 y m a).cells
       clear hb HBo)
    | (fail "no arm"))
  go_loopw [7] (fun kv wr => IsRel w k mo d n wd sh y m a D w1.heap.size kv wr) (fun kv _ => (y + 2 - intOf kv).toNat)
  case atStart => exact ⟨-1, by omega, by omega, by go_num, fun i h1 h2 => by omega, HR1.out, HC1.out, HB.out⟩
  case round =>
    obtain ⟨j, j1, j2, rfl, hno, hr, hc, hb⟩ := hrel
    clear c0 c1 c2
    obtain ⟨c0, c1, c2, c3, c4, c5⟩ := hr.at
    obtain ⟨g0, g1, g2, -⟩ := hc.cells
    have HR2 := Lib.hid hr
    have HC2 := Lib.hid hc
    have HB2 := Lib.hid hb
    have HNo := Lib.hid hno
    clear hr hb hno hc
    by_cases hj : j ≤ 1
    · have HH1 := Lib.hid (HH.out (y + j))
      rcases ho : holiday k mo d n wd sh (y + j) with _ | z
      · rw [ho] at HH1
        have HO := Lib.hid ho
        clear ho
        go_wp2_with (first
          | (go_at_call 39; (with_reducible refine (HH1.out _ HB2.out).mono ?_); rintro e w4 ⟨-, he, hb⟩
             obtain rfl := he rfl
             have HB4 := Lib.hid (HB2.out.trans (hb.mono HB2.out.size))
             have HR4 := Lib.hid (HR2.out.below hb)
             have HC4 := Lib.hid (HC2.out.below hb)
             clear hb he)
          | (fail "no arm"))
        go_roundw
        case rel => exact ⟨j + 1, by omega, by omega, by go_num, fun i h1 h2 => (by
          by_cases e : i = j
          · rw [e, HO.out]; intro h; cases h
          · exact HNo.out i h1 (by omega)), HR4.out, HC4.out, HB4.out⟩
        case measure => simp [intOf] <;> omega
      · rw [ho] at HH1
        have HO := Lib.hid ho
        clear ho
        by_cases hz : z = D
        · subst hz
          have ha : ans = true := by
            rw [← HAns.out]
            refine decide_eq_true ?_
            unfold ruleDay
            rcases (show j = -1 ∨ j = 0 ∨ j = 1 by omega) with e | e | e
            · exact Or.inl (by rw [← HO.out, e]; rfl)
            · exact Or.inr (Or.inl (by rw [← HO.out, e, Int.add_zero]))
            · exact Or.inr (Or.inr (by rw [← HO.out, e]))
          have HA := Lib.hid ha
          clear ha
          go_wp2_with (first
            | (go_at_call 39; (with_reducible refine (HH1.out _ HB2.out).mono ?_); rintro e w4 ⟨he, -, hb⟩
               obtain rfl := he z rfl
               have HB4 := Lib.hid (HB2.out.trans (hb.mono HB2.out.size))
               clear hb he)
            | (fail "no arm"))
          go_ret
          exact ⟨by rw [HA.out]; rfl, HB4.out⟩
        · have hz2 : (z == D) = false := by simpa using hz
          have HZ := Lib.hid hz
          clear hz
          go_wp2_with (first
            | (go_at_call 39; (with_reducible refine (HH1.out _ HB2.out).mono ?_); rintro e w4 ⟨he, -, hb⟩
               obtain rfl := he z rfl
               have HB4 := Lib.hid (HB2.out.trans (hb.mono HB2.out.size))
               have HR4 := Lib.hid (HR2.out.below hb)
               have HC4 := Lib.hid (HC2.out.below hb)
               clear hb he)
            | (fail "no arm"))
          go_roundw
          case rel => exact ⟨j + 1, by omega, by omega, by go_num, fun i h1 h2 => (by
            by_cases e : i = j
            · rw [e, HO.out]; intro h; exact HZ.out (Option.some.inj h)
            · exact HNo.out i h1 (by omega)), HR4.out, HC4.out, HB4.out⟩
          case measure => simp [intOf] <;> omega
    · have ha : ans = false := by
        rw [← HAns.out]
        refine decide_eq_false ?_
        unfold ruleDay
        rintro (h | h | h)
        · exact HNo.out (-1) (by omega) (by omega) h
        · exact HNo.out 0 (by omega) (by omega) (by rwa [Int.add_zero])
        · exact HNo.out 1 (by omega) (by omega) h
      have HA := Lib.hid ha
      clear ha
      go_wp2
      go_ret
      exact ⟨by rw [HA.out]; rfl, HB2.out⟩
theorem hol_c : HolC where
  may := fun k mo d n wd sh w hw => May_any k mo d n wd sh w hw
  dayYes := fun k mo d n wd sh y z h w hw => (Day_any k mo d n wd sh y w hw).mono fun _ _ he => ⟨he.1 z h, he.2.2⟩
  dayNo := fun k mo d n wd sh y h w hw => (Day_any k mo d n wd sh y w hw).mono fun _ _ he => ⟨he.2.1 h, he.2.2⟩
  is := fun k mo d n wd sh y m a h w hw => Is_at k mo d n wd sh y m a h w hw
  isNo := fun k mo d n wd sh D h w _ => Is_no k mo d n wd sh D h w
end Go.Proofs.YtlhmfgbaefaneabGreatDoor.holi
