/-
  The steps of the walks, part 33: RolB, CntA.
-/
import Derived.Deep.RegionHeld3
import Derived.BigQuiet
import Derived.Deep.QuietTactic
import Derived.Test.YtlhmfgbaefaneabGreatDoorB32
import Derived.Test.YtlhmfgbaefaneabGreatDoorB31
import Derived.Test.YtlhmfgbaefaneabGreatDoorB30
namespace Go.Proofs.YtlhmfgbaefaneabGreatDoor.roll
open Go Go.RowKit Go.Proofs.YtlhmfgbaefaneabGreatDoor.day Go.Proofs.YtlhmfgbaefaneabGreatDoor.date Go.Proofs.YtlhmfgbaefaneabGreatDoor.law6
open Go.Proofs.YtlhmfgbaefaneabGreatDoor.ref6 (CalT openB nextD addN rollD monthOf Near)
theorem OEnd.none_ {cs : List CalT} {s D : Int} {w w' : World} {e : Ending} (h : OEnd cs s D w e w') (ht : nextD cs s D = none) : e = .returned (.tuple #[.int .i64 0, .iface 100 (.int .i64 4)]) ∧ Below w.heap.size w w' := ⟨h.2.1 ht, h.2.2⟩
def ansO : Option Int → Value
  | some t => .tuple #[.int .i64 t, .nilIface]
  | none => .tuple #[.int .i64 0, errOf 4]
theorem OEnd.ans {cs : List CalT} {s D : Int} {w w' : World} {e : Ending} (h : OEnd cs s D w e w') : e = .returned (ansO (nextD cs s D)) ∧ Below w.heap.size w w' := by
  cases ho : nextD cs s D with
  | none => exact ⟨h.2.1 ho, h.2.2⟩
  | some t => exact ⟨h.1 t ho, h.2.2⟩
set_option maxRecDepth 100000 in
set_option maxHeartbeats 4000000 in
theorem Day_plain (v : Value) (cs : List CalT) (D r s : Int) (hr : (r = 1 ∧ s = 1) ∨ (r = 3 ∧ s = -1)) (w : World) (hw : Wd w) (hc : cal.CalIs w v cs) :
    Calls Tryz.prog 18 #[v, .int .i64 D, .int .i64 r] w fun e w' => e = .returned (ansO (nextD cs s D)) ∧ Below w.heap.size w w' := by
  have HO := Lib.hid (fun W hw hc => (open_any v cs D s (by omega) W hw hc).mono fun _ _ h => h.ans)
  have HW := Lib.hid hw
  have HC := Lib.hid hc
  clear hw hc
  unfold ansO errOf at *
  generalize nextD cs s D = o at *
  rcases hr with ⟨rfl, rfl⟩ | ⟨rfl, rfl⟩
  all_goals
    cases o
    all_goals
      go_enter Tryz.func18, Tryz.ntmps18
      go_wp2_with (first
        | (go_at_call 51; (with_reducible refine (HO.out _ HW.out HC.out).mono ?_); rintro e w1 ⟨rfl, hb⟩; have HB := Lib.hid hb; clear hb HO)
        | (fail "no arm"))
      go_ret2
      exact ⟨rfl, HB.out⟩
set_option maxRecDepth 100000 in
set_option maxHeartbeats 4000000 in
theorem Day_mod (v : Value) (cs : List CalT) (D r s s' : Int) (hr : (r = 2 ∧ s = 1 ∧ s' = -1) ∨ (r = 4 ∧ s = -1 ∧ s' = 1)) (hn : IsDay D → Near cs) (w : World) (hw : Wd w) (hc : cal.CalIs w v cs) :
    Calls Tryz.prog 18 #[v, .int .i64 D, .int .i64 r] w fun e w' => e = .returned (ansO (match nextD cs s D with
      | some t => if monthOf t ≠ monthOf D then nextD cs s' D else some t
      | none => nextD cs s' D)) ∧ Below w.heap.size w w' := by
  have HO := Lib.hid (fun W hw hc => (open_any v cs D s (by omega) W hw hc).mono fun _ _ h => h.ans)
  have HO2 := Lib.hid (fun W hw hc => (open_any v cs D s' (by omega) W hw hc).mono fun _ _ h => h.ans)
  have HM := Lib.hid (fun t (ht : nextD cs s D = some t) W (hW : Wd W) => (by
    have hd : IsDay D := Classical.byContradiction fun h => (by rw [ref6.next_off h] at ht; cases ht)
    exact sameMonth_any (hn hd) (s := s) (by omega) hd ht W hW))
  have HW := Lib.hid hw
  have HC := Lib.hid hc
  have HK := Lib.hid (fun W (hb : Below w.heap.size w W) => hw.keep hb)
  have HCk := Lib.hid (fun W (hb : Below w.heap.size w W) => cal.cal_c.keep w W v cs hc hb)
  clear hw hc hn
  cases hu : nextD cs s D with
  | none =>
    rw [hu] at HO
    clear HM
    unfold ansO errOf at *
    simp only at *
    generalize nextD cs s' D = o at *
    rcases hr with ⟨rfl, rfl, rfl⟩ | ⟨rfl, rfl, rfl⟩
    all_goals
      cases o
      all_goals
        go_enter Tryz.func18, Tryz.ntmps18
        go_wp2_with (first
          | (go_at_call 51; (with_reducible refine (HO.out _ HW.out HC.out).mono ?_); rintro e w1 ⟨rfl, hb⟩; have HB := Lib.hid hb; clear hb HO)
          | (go_at_call 51; (with_reducible refine (HO2.out _ (HK.out _ HB.out) (HCk.out _ HB.out)).mono ?_); rintro e w2 ⟨rfl, hb⟩; have HB2 := Lib.hid (HB.out.trans (hb.mono HB.out.size)); clear hb HO2)
          | (fail "no arm"))
        go_ret2
        exact ⟨rfl, HB2.out⟩
  | some t =>
    rw [hu] at HO
    have HMt := Lib.hid (HM.out t hu)
    clear HM hu
    by_cases hm : monthOf t = monthOf D
    · simp only
      rw [if_neg (fun h => h hm)]
      rw [decide_eq_true hm] at HMt
      clear hm HO2
      unfold ansO errOf at *
      simp only at *
      rcases hr with ⟨rfl, rfl, rfl⟩ | ⟨rfl, rfl, rfl⟩
      all_goals
        go_enter Tryz.func18, Tryz.ntmps18
        go_wp2_with (first
          | (go_at_call 51; (with_reducible refine (HO.out _ HW.out HC.out).mono ?_); rintro e w1 ⟨rfl, hb⟩; have HB := Lib.hid hb; clear hb HO)
          | (go_at_call 52; (with_reducible refine (HMt.out _ (HK.out _ HB.out)).mono ?_); rintro e w2 ⟨rfl, hb⟩; have HB2 := Lib.hid (HB.out.trans (hb.mono HB.out.size)); clear hb HMt)
          | (fail "no arm"))
        go_ret2
        exact ⟨rfl, HB2.out⟩
    · simp only
      rw [if_pos hm]
      rw [decide_eq_false hm] at HMt
      clear hm
      unfold ansO errOf at *
      simp only at *
      generalize nextD cs s' D = o at *
      rcases hr with ⟨rfl, rfl, rfl⟩ | ⟨rfl, rfl, rfl⟩
      all_goals
        cases o
        all_goals
          go_enter Tryz.func18, Tryz.ntmps18
          go_wp2_with (first
            | (go_at_call 51; (with_reducible refine (HO.out _ HW.out HC.out).mono ?_); rintro e w1 ⟨rfl, hb⟩; have HB := Lib.hid hb; clear hb HO)
            | (go_at_call 52; (with_reducible refine (HMt.out _ (HK.out _ HB.out)).mono ?_); rintro e w2 ⟨rfl, hb⟩; have HB2 := Lib.hid (HB.out.trans (hb.mono HB.out.size)); clear hb HMt)
            | (go_at_call 51; (with_reducible refine (HO2.out _ (HK.out _ HB2.out) (HCk.out _ HB2.out)).mono ?_); rintro e w3 ⟨rfl, hb⟩; have HB3 := Lib.hid (HB2.out.trans (hb.mono HB2.out.size)); clear hb HO2)
            | (fail "no arm"))
          go_ret2
          exact ⟨rfl, HB3.out⟩
set_option maxRecDepth 100000 in
set_option maxHeartbeats 4000000 in
theorem Day_zero (v : Value) (cs : List CalT) (D : Int) (w : World) (hw : Wd w) (hc : cal.CalIs w v cs) :
    Calls Tryz.prog 18 #[v, .int .i64 D, .int .i64 0] w fun e w' => (IsDay D → e = .returned (.tuple #[.int .i64 D, .nilIface])) ∧ (¬ IsDay D → e = .returned (.tuple #[.int .i64 0, errOf 4])) ∧ Below w.heap.size w w' := by
  by_cases hd : IsDay D
  · have HA := Lib.hid (cal.cal_c.add v cs D 0 D w hw hc hd (by decide) (by decide) rfl)
    have HD := Lib.hid hd
    clear hw hc hd
    go_enter Tryz.func18, Tryz.ntmps18
    go_wp2_with (first
      | (go_at_call 17; (with_reducible refine (HA.out).mono ?_); rintro e w1 ⟨rfl, hb⟩; have HB := Lib.hid hb; clear hb HA)
      | (fail "no arm"))
    go_ret2
    exact ⟨fun _ => rfl, fun h => absurd HD.out h, HB.out⟩
  · have HA := Lib.hid (cal.cal_c.addDay v cs D 0 w hw hc hd (by decide) (by decide))
    have HD := Lib.hid hd
    clear hw hc hd
    unfold errOf at *
    go_enter Tryz.func18, Tryz.ntmps18
    go_wp2_with (first
      | (go_at_call 17; (with_reducible refine (HA.out).mono ?_); rintro e w1 ⟨rfl, hb⟩; have HB := Lib.hid hb; clear hb HA)
      | (fail "no arm"))
    go_ret2
    exact ⟨fun h => absurd h HD.out, fun _ => rfl, HB.out⟩
set_option maxRecDepth 100000 in
set_option maxHeartbeats 4000000 in
theorem Day_form (v : Value) (D r : Int) (hr : r < 0 ∨ 4 < r) (w : World) :
    Calls Tryz.prog 18 #[v, .int .i64 D, .int .i64 r] w fun e w' => e = .returned (.tuple #[.int .i64 0, errOf 1]) ∧ Below w.heap.size w w' := by
  have HO := Lib.hid (fun W => OfE 1 rfl W)
  unfold errOf
  have r0 : (r == 0) = false := beq_eq_false_iff_ne.2 (by omega)
  have r1 : (r == 1) = false := beq_eq_false_iff_ne.2 (by omega)
  have r2 : (r == 2) = false := beq_eq_false_iff_ne.2 (by omega)
  have r3 : (r == 3) = false := beq_eq_false_iff_ne.2 (by omega)
  have r4 : (r == 4) = false := beq_eq_false_iff_ne.2 (by omega)
  clear hr
  go_enter Tryz.func18, Tryz.ntmps18
  go_wp2_with (first
    | (go_at_call 49; (with_reducible refine (HO.out _).mono ?_); rintro e w1 ⟨rfl, rfl⟩)
    | (fail "no arm"))
  go_ret2
  exact ⟨rfl, Below.refl _ _⟩
theorem ansO_some {o : Option Int} {t : Int} (h : o = some t) : ansO o = .tuple #[.int .i64 t, .nilIface] := by rw [h]; rfl
theorem ansO_none {o : Option Int} (h : o = none) : ansO o = .tuple #[.int .i64 0, errOf 4] := by rw [h]; rfl
theorem Day_any (v : Value) (cs : List CalT) (D r : Int) (w : World) (hw : Wd w) (hc : cal.CalIs w v cs) (hn : r = 2 ∨ r = 4 → Near cs) (hd : IsDay D) (r0 : 0 ≤ r) (r4 : r ≤ 4) :
    Calls Tryz.prog 18 #[v, .int .i64 D, .int .i64 r] w fun e w' => e = .returned (ansO (rollD cs D r)) ∧ Below w.heap.size w w' := by
  rcases (show r = 0 ∨ r = 1 ∨ r = 2 ∨ r = 3 ∨ r = 4 by omega) with rfl | rfl | rfl | rfl | rfl
  · exact (Day_zero v cs D w hw hc).mono fun _ _ h => ⟨h.1 hd, h.2.2⟩
  · rw [ref6.roll_1]; exact Day_plain v cs D 1 1 (Or.inl ⟨rfl, rfl⟩) w hw hc
  · rw [ref6.roll_2]; exact Day_mod v cs D 2 1 (-1) (Or.inl ⟨rfl, rfl, rfl⟩) (fun _ => hn (Or.inl rfl)) w hw hc
  · rw [ref6.roll_3]; exact Day_plain v cs D 3 (-1) (Or.inr ⟨rfl, rfl⟩) w hw hc
  · rw [ref6.roll_4]; exact Day_mod v cs D 4 (-1) 1 (Or.inr ⟨rfl, rfl, rfl⟩) (fun _ => hn (Or.inr rfl)) w hw hc
theorem rol_c : RolC cal.CalIs where
  yes v cs D r t w hw hc hn hd r0 r4 ht := by
    have := Day_any v cs D r w hw hc hn hd r0 r4
    rwa [ansO_some ht] at this
  no v cs D r w hw hc hn hd r0 r4 ht := by
    have := Day_any v cs D r w hw hc hn hd r0 r4
    rwa [ansO_none ht] at this
  day v cs D r w hw hc hd r0 r4 := by
    have h1 : nextD cs 1 D = none := ref6.next_off hd
    have h2 : nextD cs (-1) D = none := ref6.next_off hd
    rcases (show r = 0 ∨ r = 1 ∨ r = 2 ∨ r = 3 ∨ r = 4 by omega) with rfl | rfl | rfl | rfl | rfl
    · exact (Day_zero v cs D w hw hc).mono fun _ _ h => ⟨h.2.1 hd, h.2.2⟩
    · have := Day_plain v cs D 1 1 (Or.inl ⟨rfl, rfl⟩) w hw hc
      rwa [ansO_none h1] at this
    · have := Day_mod v cs D 2 1 (-1) (Or.inl ⟨rfl, rfl, rfl⟩) (fun h => absurd h hd) w hw hc
      rw [h1] at this
      rwa [ansO_none h2] at this
    · have := Day_plain v cs D 3 (-1) (Or.inr ⟨rfl, rfl⟩) w hw hc
      rwa [ansO_none h2] at this
    · have := Day_mod v cs D 4 (-1) 1 (Or.inr ⟨rfl, rfl, rfl⟩) (fun h => absurd h hd) w hw hc
      rw [h2] at this
      rwa [ansO_none h1] at this
  form v cs D r w _ _ hr := Day_form v D r hr w
end Go.Proofs.YtlhmfgbaefaneabGreatDoor.roll
namespace Go.Proofs.YtlhmfgbaefaneabGreatDoor.count
open Go Go.RowKit Go.Proofs.YtlhmfgbaefaneabGreatDoor.day Go.Proofs.YtlhmfgbaefaneabGreatDoor.date Go.Proofs.YtlhmfgbaefaneabGreatDoor.law6
open Go.Proofs.YtlhmfgbaefaneabGreatDoor.ref6 (CAt thirty quiet_same drewN_below6)
open Go.Proofs.YtlhmfgbaefaneabGreatDoor.num (IsZ Lz)
set_option maxRecDepth 100000 in
theorem May_any (k : Int) (w : World) : Calls Tryz.prog 53 #[.int .i64 k] w fun e w' => e = .returned (.bool (decide (1 ≤ k ∧ k ≤ 4))) ∧ w = w' := by
  by_cases h1 : 1 ≤ k
  · by_cases h2 : k ≤ 4
    · rw [decide_eq_true ⟨h1, h2⟩]
      go_enter Tryz.func53, Tryz.ntmps53
      go_wp2
      go_ret
      exact ⟨rfl, rfl⟩
    · rw [decide_eq_false (fun h => h2 h.2)]
      go_enter Tryz.func53, Tryz.ntmps53
      go_wp2
      go_ret
      exact ⟨rfl, rfl⟩
  · rw [decide_eq_false (fun h => h1 h.1)]
    go_enter Tryz.func53, Tryz.ntmps53
    go_wp2
    go_ret
    exact ⟨rfl, rfl⟩
def civErr (v : Bool) : Value := if v then .nilIface else .iface 100 (.int .i64 4)
theorem civ_any (n : Int) : ∃ y m d : Int, ∀ w, Wd w → Calls Tryz.prog 36 #[.int .i64 n] w fun e w' => e = .returned (.tuple #[.agg #[.int .i64 y, .int .i64 m, .int .i64 d], civErr (decide (IsDay n))]) ∧ Below w.heap.size w w' := by
  by_cases h : IsDay n
  · rw [decide_eq_true h]
    obtain ⟨y, m, d, hc, rfl⟩ := h.civil
    exact ⟨y, m, d, fun w hw => Civil_at y m d hc w hw.lens⟩
  · rw [decide_eq_false h]
    exact ⟨0, 0, 0, fun w _ => Civil_no n h w⟩
set_option maxRecDepth 100000 in
set_option maxHeartbeats 4000000 in
theorem areDays_any (a b : Int) (w : World) (hw : Wd w) :
    Calls Tryz.prog 54 #[.int .i64 a, .int .i64 b] w fun e w' => e = .returned (.bool (decide (IsDay a ∧ IsDay b))) ∧ Below w.heap.size w w' := by
  obtain ⟨ya, ma, da, HA⟩ := civ_any a
  obtain ⟨yb, mb, db, HB⟩ := civ_any b
  have hA := Lib.hid (HA w hw)
  have hB := Lib.hid (fun W (h : Below w.heap.size w W) => HB W (hw.keep h))
  rw [show decide (IsDay a ∧ IsDay b) = (decide (IsDay a) && decide (IsDay b)) by simp]
  clear hw HA HB
  generalize decide (IsDay a) = va at *
  generalize decide (IsDay b) = vb at *
  unfold civErr at hA hB
  cases va <;> cases vb
  all_goals
    simp only [Bool.false_eq_true, if_true, if_false] at hA hB
    go_enter Tryz.func54, Tryz.ntmps54
    go_wp2_with (first
      | (go_at_call 36; (with_reducible refine (hA.out).mono ?_); rintro e w1 ⟨rfl, hb⟩; have HC := Lib.hid (hb.alloc hb.size (.cells #[.int .i64 ya, .int .i64 ma, .int .i64 da] 48)); clear hb hA)
      | (go_at_call 36; (with_reducible refine (hB.out _ HC.out).mono ?_); rintro e w2 ⟨rfl, hb⟩; have HC2 := Lib.hid ((HC.out.trans (hb.mono HC.out.size)).alloc (HC.out.trans (hb.mono HC.out.size)).size (.cells #[.int .i64 yb, .int .i64 mb, .int .i64 db] 48)); clear hb hB)
      | (fail "no arm"))
    go_ret
    exact ⟨rfl, HC2.out⟩
set_option maxRecDepth 100000 in
set_option maxHeartbeats 4000000 in
theorem inThirties_at (y m d : Int) (h : IsCivil y m d) (w : World) (hw : Wd w) :
    Calls Tryz.prog 87 #[.int .i64 (dayOf y m d)] w fun e w' => e = .returned (.int .i64 (360 * y + 30 * m + min d 30)) ∧ Below w.heap.size w w' := by
  have HC := Lib.hid (Civil_at y m d h w hw.lens)
  obtain ⟨a1, a2, a5, a6⟩ := id h
  obtain ⟨a3, a4⟩ := h.month
  have a7 := mlen_hi y m
  have a8 : d ≤ 31 := by omega
  clear h hw a6 a7
  generalize dayOf y m d = n at *
  go_enter Tryz.func87, Tryz.ntmps87
  go_wp2_with (first
    | (go_at_call 36; (with_reducible refine (HC.out).mono ?_); rintro e w1 ⟨rfl, hb⟩
       obtain ⟨c0, c1, c2, -⟩ := (CAt.new w1 y m d).cells
       have HB := Lib.hid (hb.alloc hb.size (.cells #[.int .i64 y, .int .i64 m, .int .i64 d] 48)); clear hb HC)
    | (fail "no arm"))
  go_ret
  exact ⟨by go_num, HB.out⟩
set_option maxRecDepth 100000 in
set_option maxHeartbeats 4000000 in
theorem Days_at (k y m d y' m' d' : Int) (k0 : 1 ≤ k) (k1 : k ≤ 4) (h : IsCivil y m d) (h' : IsCivil y' m' d') (w : World) (hw : Wd w) :
    Calls Tryz.prog 47 #[.int .i64 k, .int .i64 (dayOf y m d), .int .i64 (dayOf y' m' d')] w fun e w' => e = .returned (.int .i64 (cdays k y m d y' m' d')) ∧ Below w.heap.size w w' := by
  have HM := Lib.hid (by have H := May_any k w; rw [decide_eq_true ⟨k0, k1⟩] at H; exact H)
  have HD := Lib.hid (by have H := areDays_any (dayOf y m d) (dayOf y' m' d') w hw; rw [decide_eq_true ⟨dayOf_isDay h, dayOf_isDay h'⟩] at H; exact H)
  have HT := Lib.hid (fun W (hb : Below w.heap.size w W) => inThirties_at y' m' d' h' W (hw.keep hb))
  have HT2 := Lib.hid (fun W (hb : Below w.heap.size w W) => inThirties_at y m d h W (hw.keep hb))
  have i1 := dayOf_isDay h
  have i2 := dayOf_isDay h'
  obtain ⟨i1, i3⟩ := i1
  obtain ⟨i2, i4⟩ := i2
  obtain ⟨a1, a2, a5, a6⟩ := id h
  obtain ⟨b1, b2, b5, b6⟩ := id h'
  obtain ⟨a3, a4⟩ := h.month
  obtain ⟨b3, b4⟩ := h'.month
  have a7 := mlen_hi y m
  have b7 := mlen_hi y' m'
  have a8 : d ≤ 31 := by omega
  have b8 : d' ≤ 31 := by omega
  have hX : 0 ≤ 360 * y + 30 * m + min d 30 ∧ 360 * y + 30 * m + min d 30 ≤ 1000000 := by omega
  have hX' : 0 ≤ 360 * y' + 30 * m' + min d' 30 ∧ 360 * y' + 30 * m' + min d' 30 ≤ 1000000 := by omega
  have hE : thirty y m d y' m' d' = (360 * y' + 30 * m' + min d' 30) - (360 * y + 30 * m + min d 30) := by unfold thirty; omega
  unfold cdays
  rw [hE]
  clear h h' a1 a2 a5 a6 b1 b2 b5 b6 a3 a4 b3 b4 a7 b7 a8 b8 hw hE
  generalize 360 * y + 30 * m + min d 30 = X at *
  generalize 360 * y' + 30 * m' + min d' 30 = X' at *
  generalize dayOf y m d = n at *
  generalize dayOf y' m' d' = n' at *
  obtain ⟨x0, x1⟩ := hX
  obtain ⟨x2, x3⟩ := hX'
  by_cases hk : k = 1
  · rw [if_pos hk]
    subst hk
    clear k0 k1
    go_enter Tryz.func47, Tryz.ntmps47
    go_wp2_with (first
      | (go_at_call 53; (with_reducible refine (HM.out).mono ?_); rintro e w0 ⟨rfl, rfl⟩; clear HM)
      | (go_at_call 54; (with_reducible refine (HD.out).mono ?_); rintro e w1 ⟨rfl, hb⟩; have HB := Lib.hid hb; clear hb HD)
      | (go_at_call 87; (with_reducible refine (HT.out _ HB.out).mono ?_); rintro e w2 ⟨rfl, hb⟩; have HB2 := Lib.hid (HB.out.trans (hb.mono HB.out.size)); clear hb HT)
      | (go_at_call 87; (with_reducible refine (HT2.out _ HB2.out).mono ?_); rintro e w3 ⟨rfl, hb⟩; have HB3 := Lib.hid (HB2.out.trans (hb.mono HB2.out.size)); clear hb HT2)
      | (fail "no arm"))
    go_ret
    exact ⟨by go_num, HB3.out⟩
  · rw [if_neg hk]
    go_enter Tryz.func47, Tryz.ntmps47
    go_wp2_with (first
      | (go_at_call 53; (with_reducible refine (HM.out).mono ?_); rintro e w0 ⟨rfl, rfl⟩; clear HM)
      | (go_at_call 54; (with_reducible refine (HD.out).mono ?_); rintro e w1 ⟨rfl, hb⟩; have HB := Lib.hid hb; clear hb HD)
      | (fail "no arm"))
    go_ret
    exact ⟨by go_num, HB.out⟩
set_option maxRecDepth 100000 in
set_option maxHeartbeats 4000000 in
theorem Days_no (k a b : Int) (h : ¬ (1 ≤ k ∧ k ≤ 4 ∧ IsDay a ∧ IsDay b)) (w : World) (hw : Wd w) :
    Calls Tryz.prog 47 #[.int .i64 k, .int .i64 a, .int .i64 b] w fun e w' => e = .returned (.int .i64 0) ∧ Below w.heap.size w w' := by
  have HM := Lib.hid (May_any k w)
  have HD := Lib.hid (areDays_any a b w hw)
  have HR := Lib.hid (Below.refl w.heap.size w)
  clear hw
  by_cases hk : 1 ≤ k ∧ k ≤ 4
  · rw [decide_eq_true hk] at HM
    rw [decide_eq_false (fun hd => h ⟨hk.1, hk.2, hd.1, hd.2⟩)] at HD
    clear h hk
    go_enter Tryz.func47, Tryz.ntmps47
    go_wp2_with (first
      | (go_at_call 53; (with_reducible refine (HM.out).mono ?_); rintro e w0 ⟨rfl, rfl⟩; clear HM)
      | (go_at_call 54; (with_reducible refine (HD.out).mono ?_); rintro e w1 ⟨rfl, hb⟩; have HB := Lib.hid hb; clear hb HD)
      | (fail "no arm"))
    go_ret
    exact ⟨rfl, HB.out⟩
  · rw [decide_eq_false hk] at HM
    clear h hk HD
    go_enter Tryz.func47, Tryz.ntmps47
    go_wp2_with (first
      | (go_at_call 53; (with_reducible refine (HM.out).mono ?_); rintro e w0 ⟨rfl, rfl⟩; clear HM)
      | (fail "no arm"))
    go_ret
    exact ⟨rfl, HR.out⟩
set_option maxRecDepth 100000 in
theorem number_any (n : Int) (h0 : -9223372036854775808 ≤ n) (h1 : n < 9223372036854775808) (w : World) :
    Calls Tryz.prog 55 #[.int .i64 n] w fun e w' => ∃ u, e = .returned u ∧ (IsZ w' u n ∧ u ≠ .pointer none) ∧ Below w.heap.size w w' := by
  have HO := Lib.hid (num.Of_any n w h0 h1)
  go_enter Tryz.func55, Tryz.ntmps55
  go_wp2_with (first
    | (go_at_call 89; (with_reducible refine (HO.out).mono ?_); rintro e w1 ⟨u, rfl, hz, hb⟩; have HZ := Lib.hid (And.intro hz hb); clear hz hb HO)
    | (fail "no arm"))
  go_ret
  exact ⟨u, rfl, HZ.out.1, HZ.out.2⟩
set_option maxRecDepth 100000 in
theorem yearOf_any (k : Int) (w : World) : Calls Tryz.prog 58 #[.int .i64 k] w fun e w' => e = .returned (.int .i64 (if k = 3 then 365 else 360)) ∧ w = w' := by
  by_cases h : k = 3
  · rw [if_pos h]
    subst h
    go_enter Tryz.func58, Tryz.ntmps58
    go_wp2
    go_ret
    exact ⟨rfl, rfl⟩
  · rw [if_neg h]
    go_enter Tryz.func58, Tryz.ntmps58
    go_wp2
    go_ret
    exact ⟨rfl, rfl⟩
theorem cdays_in {k y m d y' m' d' : Int} (h : IsCivil y m d) (h' : IsCivil y' m' d') : -1000000 ≤ cdays k y m d y' m' d' ∧ cdays k y m d y' m' d' ≤ 1000000 := by
  obtain ⟨a1, a2, a5, a6⟩ := id h
  obtain ⟨b1, b2, b5, b6⟩ := id h'
  obtain ⟨a3, a4⟩ := h.month
  obtain ⟨b3, b4⟩ := h'.month
  have a7 := mlen_hi y m
  have b7 := mlen_hi y' m'
  obtain ⟨i1, i3⟩ := dayOf_isDay h
  obtain ⟨i2, i4⟩ := dayOf_isDay h'
  unfold cdays thirty
  split <;> omega
set_option maxRecDepth 100000 in
set_option maxHeartbeats 4000000 in
theorem Part_plain (k y m d y' m' d' s t f : Int) (k0 : 1 ≤ k) (k1 : k ≤ 3) (h : IsCivil y m d) (h' : IsCivil y' m' d') (hle : dayOf y m d ≤ dayOf y' m' d') (w : World) (hw : Wd w) :
    Calls Tryz.prog 19 #[.int .i64 k, .int .i64 (dayOf y m d), .int .i64 (dayOf y' m' d'), .int .i64 s, .int .i64 t, .int .i64 f] w fun e w' => ∃ u, e = .returned (.tuple #[u, .nilIface]) ∧ (rat.IsR w' u ((cdays k y m d y' m' d' : Rat) / ((if k = 3 then 365 else 360 : Int) : Rat)) ∧ u ≠ .pointer none) ∧ Below w.heap.size w w' := by
  have hk4 : k ≤ 4 := by omega
  have HM := Lib.hid (by have H := May_any k w; rw [decide_eq_true ⟨k0, hk4⟩] at H; exact H)
  have HA := Lib.hid (by have H := areDays_any (dayOf y m d) (dayOf y' m' d') w hw; rw [decide_eq_true ⟨dayOf_isDay h, dayOf_isDay h'⟩] at H; exact H)
  have HD := Lib.hid (fun W (hb : Below w.heap.size w W) => Days_at k y m d y' m' d' k0 hk4 h h' W (hw.keep hb))
  obtain ⟨c0, c1⟩ := cdays_in (k := k) h h'
  have HN := Lib.hid (fun W => number_any (cdays k y m d y' m' d') (by omega) (by omega) W)
  have HS := Lib.hid (show Lz (cdays k y m d y' m' d') 300000 from (num.Lz_small (by omega)).le (by decide))
  obtain ⟨Y, hY, hY2⟩ : ∃ Y : Int, (if k = 3 then 365 else 360 : Int) = Y ∧ (Y = 365 ∨ Y = 360) := ⟨_, rfl, by split <;> simp⟩
  have HY := Lib.hid (fun W => yearOf_any k W)
  rw [hY] at HY
  rw [hY]
  have HN2 := Lib.hid (fun W => number_any Y (by omega) (by omega) W)
  have HS2 := Lib.hid (show Lz Y 300000 ∧ Y ≠ 0 from ⟨(num.Lz_small (by omega)).le (by decide), by omega⟩)
  have hkn : k ≠ 4 := by omega
  clear h h' hw k0 k1 hk4 c0 c1 hY hY2
  generalize cdays k y m d y' m' d' = z at *
  generalize dayOf y m d = n at *
  generalize dayOf y' m' d' = n' at *
  have hnl : ¬ n' < n := by omega
  clear hle
  go_enter Tryz.func19, Tryz.ntmps19
  go_wp2_with (first
    | (go_at_call 53; (with_reducible refine (HM.out).mono ?_); rintro e w0 ⟨rfl, rfl⟩; clear HM)
    | (go_at_call 54; (with_reducible refine (HA.out).mono ?_); rintro e w1 ⟨rfl, hb⟩; have HB := Lib.hid hb; clear hb HA)
    | (go_at_call 47; (with_reducible refine (HD.out _ HB.out).mono ?_); rintro e w2 ⟨rfl, hb⟩; have HB2 := Lib.hid (HB.out.trans (hb.mono HB.out.size)); clear hb HD)
    | (go_at_call 55; (with_reducible refine (HN.out _).mono ?_); rintro e w3 ⟨u1, rfl, ⟨hz, -⟩, hb⟩; have HZ := Lib.hid hz; have HB3 := Lib.hid (HB2.out.trans (hb.mono HB2.out.size)); clear hz hb HN)
    | (go_at_call 58; (with_reducible refine (HY.out _).mono ?_); rintro e w4 ⟨rfl, rfl⟩; clear HY)
    | (go_at_call 55; (with_reducible refine (HN2.out _).mono ?_); rintro e w5 ⟨u2, rfl, ⟨hz, -⟩, hb⟩; have HZ2 := Lib.hid (And.intro (HZ.out.below hb) hz); have HB4 := Lib.hid (HB3.out.trans (hb.mono HB3.out.size)); clear hz hb HN2)
    | (go_at_call 56; (with_reducible refine (rat.New_ok u1 u2 z Y _ HZ2.out.1 HZ2.out.2 HS.out HS2.out.1 HS2.out.2).mono ?_); rintro e w6 ⟨u3, rfl, hr, hb⟩; have HR := Lib.hid hr; have HB5 := Lib.hid (HB4.out.trans (hb.mono HB4.out.size)); clear hr hb)
    | (fail "no arm"))
  go_ret2
  exact ⟨_, rfl, HR.out, HB5.out⟩
set_option maxRecDepth 100000 in
set_option maxHeartbeats 4000000 in
theorem Part_act (y m d y' m' d' s t f : Int) (h : IsCivil y m d) (h' : IsCivil y' m' d') (hle : dayOf y m d ≤ dayOf y' m' d') (hs : IsDay s) (ht : IsDay t) (hst : s < t) (f0 : 1 ≤ f) (f1 : f < 9223372036854775808) (w : World) (hw : Wd w) :
    Calls Tryz.prog 19 #[.int .i64 4, .int .i64 (dayOf y m d), .int .i64 (dayOf y' m' d'), .int .i64 s, .int .i64 t, .int .i64 f] w fun e w' => ∃ u, e = .returned (.tuple #[u, .nilIface]) ∧ (rat.IsR w' u (((dayOf y' m' d' - dayOf y m d : Int) : Rat) / ((f * (t - s) : Int) : Rat)) ∧ u ≠ .pointer none) ∧ Below w.heap.size w w' := by
  have HM := Lib.hid (by have H := May_any 4 w; rw [decide_eq_true (show (1 : Int) ≤ 4 ∧ (4 : Int) ≤ 4 by decide)] at H; exact H)
  have HA := Lib.hid (by have H := areDays_any (dayOf y m d) (dayOf y' m' d') w hw; rw [decide_eq_true ⟨dayOf_isDay h, dayOf_isDay h'⟩] at H; exact H)
  have HA2 := Lib.hid (fun W (hb : Below w.heap.size w W) => (by have H := areDays_any s t W (hw.keep hb); rw [decide_eq_true ⟨hs, ht⟩] at H; exact H))
  have HD := Lib.hid (fun W (hb : Below w.heap.size w W) => (by have H := Days_at 4 y m d y' m' d' (by decide) (by decide) h h' W (hw.keep hb); unfold cdays at H; rw [if_neg (by decide)] at H; exact H))
  obtain ⟨i1, i3⟩ := dayOf_isDay h
  obtain ⟨i2, i4⟩ := dayOf_isDay h'
  obtain ⟨s0, s1⟩ := hs
  obtain ⟨t0, t1⟩ := ht
  clear h h' hw
  generalize dayOf y m d = n at *
  generalize dayOf y' m' d' = n' at *
  have HN := Lib.hid (fun W => number_any (n' - n) (by omega) (by omega) W)
  have HS := Lib.hid (show Lz (n' - n) 300000 from (num.Lz_small (by omega)).le (by decide))
  have HN1 := Lib.hid (fun W => number_any f (by omega) (by omega) W)
  have HN2 := Lib.hid (fun W => number_any (t - s) (by omega) (by omega) W)
  have hL1 : Lz f 1 := num.Lz_small (by omega)
  have hL2 : Lz (t - s) 1 := num.Lz_small (by omega)
  have HS2 := Lib.hid (show Lz (f * (t - s)) 300000 ∧ f * (t - s) ≠ 0 from ⟨(num.Lz_mul hL1 hL2).le (by decide), fun e => by rcases Int.mul_eq_zero.1 e with e | e <;> omega⟩)
  have HMu := Lib.hid (fun a b W ha hb => num.Mul_any a b f (t - s) W ha hb (Nat.le_trans hL1 (by decide)) (Nat.le_trans hL2 (by decide)))
  have hnl : ¬ n' < n := by omega
  have hsl : ¬ t ≤ s := by omega
  have hfl : ¬ f < 1 := by omega
  generalize hq : f * (t - s) = q at *
  clear hle hL1 hL2 hst f0 f1 hq
  go_enter Tryz.func19, Tryz.ntmps19
  go_wp2_with (first
    | (go_at_call 53; (with_reducible refine (HM.out).mono ?_); rintro e w0 ⟨rfl, rfl⟩; clear HM)
    | (go_at_call 54; (with_reducible refine (HA.out).mono ?_); rintro e w1 ⟨rfl, hb⟩; have HB := Lib.hid hb; clear hb HA)
    | (go_at_call 54; (with_reducible refine (HA2.out _ HB.out).mono ?_); rintro e w1b ⟨rfl, hb⟩; have HB1 := Lib.hid (HB.out.trans (hb.mono HB.out.size)); clear hb HA2)
    | (go_at_call 47; (with_reducible refine (HD.out _ HB1.out).mono ?_); rintro e w2 ⟨rfl, hb⟩; have HB2 := Lib.hid (HB1.out.trans (hb.mono HB1.out.size)); clear hb HD)
    | (go_at_call 55; (with_reducible refine (HN.out _).mono ?_); rintro e w3 ⟨u1, rfl, ⟨hz, -⟩, hb⟩; have HZ := Lib.hid hz; have HB3 := Lib.hid (HB2.out.trans (hb.mono HB2.out.size)); clear hz hb HN)
    | (go_at_call 55; (with_reducible refine (HN1.out _).mono ?_); rintro e w4 ⟨u2, rfl, ⟨hz, -⟩, hb⟩; have HZ1 := Lib.hid (And.intro (HZ.out.below hb) hz); have HB4 := Lib.hid (HB3.out.trans (hb.mono HB3.out.size)); clear hz hb HN1)
    | (go_at_call 55; (with_reducible refine (HN2.out _).mono ?_); rintro e w5 ⟨u3, rfl, ⟨hz, -⟩, hb⟩; have HZ2 := Lib.hid (And.intro (HZ1.out.1.below hb) (And.intro (HZ1.out.2.below hb) hz)); have HB5 := Lib.hid (HB4.out.trans (hb.mono HB4.out.size)); clear hz hb HN2)
    | (go_at_call 57; (with_reducible refine (HMu.out _ _ _ HZ2.out.2.1 HZ2.out.2.2).mono ?_); rintro e w6 ⟨u4, rfl, ⟨hz, -⟩, hb⟩; have HZ3 := Lib.hid (And.intro (HZ2.out.1.below hb) hz); have HB6 := Lib.hid (HB5.out.trans (hb.mono HB5.out.size)); clear hz hb HMu)
    | (go_at_call 56; (with_reducible refine (rat.New_ok u1 u4 (n' - n) q _ HZ3.out.1 HZ3.out.2 HS.out HS2.out.1 HS2.out.2).mono ?_); rintro e w7 ⟨u5, rfl, hr, hb⟩; have HR := Lib.hid hr; have HB7 := Lib.hid (HB6.out.trans (hb.mono HB6.out.size)); clear hr hb)
    | (fail "no arm"))
  go_ret2
  exact ⟨_, rfl, HR.out, HB7.out⟩
set_option maxRecDepth 100000 in
set_option maxHeartbeats 4000000 in
theorem Part_form (k a b s t f : Int) (h : k < 1 ∨ 4 < k) (w : World) :
    Calls Tryz.prog 19 #[.int .i64 k, .int .i64 a, .int .i64 b, .int .i64 s, .int .i64 t, .int .i64 f] w fun e w' => e = .returned (.tuple #[.pointer none, errOf 1]) ∧ Below w.heap.size w w' := by
  unfold errOf
  have HM := Lib.hid (by have H := May_any k w; rw [decide_eq_false (by omega)] at H; exact H)
  have HO := Lib.hid (fun W => OfE 1 rfl W)
  have hk4 : k ≠ 4 := by omega
  have HR := Lib.hid (Below.refl w.heap.size w)
  clear h
  go_enter Tryz.func19, Tryz.ntmps19
  go_wp2_with (first
    | (go_at_call 53; (with_reducible refine (HM.out).mono ?_); rintro e w0 ⟨rfl, rfl⟩; clear HM)
    | (go_at_call 49; (with_reducible refine (HO.out _).mono ?_); rintro e w9 ⟨rfl, rfl⟩)
    | (fail "no arm"))
  go_ret2
  exact ⟨rfl, HR.out⟩
set_option maxRecDepth 100000 in
set_option maxHeartbeats 4000000 in
theorem Part_date (k a b s t f : Int) (k0 : 1 ≤ k) (k1 : k ≤ 4) (h : ¬ (IsDay a ∧ IsDay b ∧ a ≤ b ∧ (k = 4 → IsDay s ∧ IsDay t))) (w : World) (hw : Wd w) :
    Calls Tryz.prog 19 #[.int .i64 k, .int .i64 a, .int .i64 b, .int .i64 s, .int .i64 t, .int .i64 f] w fun e w' => e = .returned (.tuple #[.pointer none, errOf 4]) ∧ Below w.heap.size w w' := by
  unfold errOf
  have HM := Lib.hid (by have H := May_any k w; rw [decide_eq_true ⟨k0, k1⟩] at H; exact H)
  have HA := Lib.hid (areDays_any a b w hw)
  have HO := Lib.hid (fun W => OfE 4 rfl W)
  by_cases hd : IsDay a ∧ IsDay b
  · rw [decide_eq_true hd] at HA
    by_cases hab : b < a
    · clear h hd hw k0 k1
      by_cases hk : k = 4
      · subst hk
        go_enter Tryz.func19, Tryz.ntmps19
        go_wp2_with (first
          | (go_at_call 53; (with_reducible refine (HM.out).mono ?_); rintro e w0 ⟨rfl, rfl⟩; clear HM)
          | (go_at_call 54; (with_reducible refine (HA.out).mono ?_); rintro e w1 ⟨rfl, hb⟩; have HB := Lib.hid hb; clear hb HA)
          | (go_at_call 49; (with_reducible refine (HO.out _).mono ?_); rintro e w9 ⟨rfl, rfl⟩)
          | (fail "no arm"))
        go_ret2
        exact ⟨rfl, HB.out⟩
      · go_enter Tryz.func19, Tryz.ntmps19
        go_wp2_with (first
          | (go_at_call 53; (with_reducible refine (HM.out).mono ?_); rintro e w0 ⟨rfl, rfl⟩; clear HM)
          | (go_at_call 54; (with_reducible refine (HA.out).mono ?_); rintro e w1 ⟨rfl, hb⟩; have HB := Lib.hid hb; clear hb HA)
          | (go_at_call 49; (with_reducible refine (HO.out _).mono ?_); rintro e w9 ⟨rfl, rfl⟩)
          | (fail "no arm"))
        go_ret2
        exact ⟨rfl, HB.out⟩
    · have hk : k = 4 ∧ ¬ (IsDay s ∧ IsDay t) := by
        by_cases hk : k = 4
        · exact ⟨hk, fun hst => h ⟨hd.1, hd.2, by omega, fun _ => hst⟩⟩
        · exact absurd ⟨hd.1, hd.2, by omega, fun e => absurd e hk⟩ h
      obtain ⟨rfl, hst⟩ := hk
      have HA2 := Lib.hid (fun W (hb : Below w.heap.size w W) => (by have H := areDays_any s t W (hw.keep hb); rw [decide_eq_false hst] at H; exact H))
      clear h hd hw k0 k1 hst
      go_enter Tryz.func19, Tryz.ntmps19
      go_wp2_with (first
        | (go_at_call 53; (with_reducible refine (HM.out).mono ?_); rintro e w0 ⟨rfl, rfl⟩; clear HM)
        | (go_at_call 54; (with_reducible refine (HA.out).mono ?_); rintro e w1 ⟨rfl, hb⟩; have HB := Lib.hid hb; clear hb HA)
        | (go_at_call 54; (with_reducible refine (HA2.out _ HB.out).mono ?_); rintro e w1b ⟨rfl, hb⟩; have HB1 := Lib.hid (HB.out.trans (hb.mono HB.out.size)); clear hb HA2)
        | (go_at_call 49; (with_reducible refine (HO.out _).mono ?_); rintro e w9 ⟨rfl, rfl⟩)
        | (fail "no arm"))
      go_ret2
      exact ⟨rfl, HB1.out⟩
  · rw [decide_eq_false hd] at HA
    clear h hd hw k0 k1
    by_cases hk : k = 4
    · subst hk
      go_enter Tryz.func19, Tryz.ntmps19
      go_wp2_with (first
        | (go_at_call 53; (with_reducible refine (HM.out).mono ?_); rintro e w0 ⟨rfl, rfl⟩; clear HM)
        | (go_at_call 54; (with_reducible refine (HA.out).mono ?_); rintro e w1 ⟨rfl, hb⟩; have HB := Lib.hid hb; clear hb HA)
        | (go_at_call 49; (with_reducible refine (HO.out _).mono ?_); rintro e w9 ⟨rfl, rfl⟩)
        | (fail "no arm"))
      go_ret2
      exact ⟨rfl, HB.out⟩
    · go_enter Tryz.func19, Tryz.ntmps19
      go_wp2_with (first
        | (go_at_call 53; (with_reducible refine (HM.out).mono ?_); rintro e w0 ⟨rfl, rfl⟩; clear HM)
        | (go_at_call 54; (with_reducible refine (HA.out).mono ?_); rintro e w1 ⟨rfl, hb⟩; have HB := Lib.hid hb; clear hb HA)
        | (go_at_call 49; (with_reducible refine (HO.out _).mono ?_); rintro e w9 ⟨rfl, rfl⟩)
        | (fail "no arm"))
      go_ret2
      exact ⟨rfl, HB.out⟩
set_option maxRecDepth 100000 in
set_option maxHeartbeats 4000000 in
theorem Part_range (a b s t f : Int) (ha : IsDay a) (hb : IsDay b) (hab : a ≤ b) (hs : IsDay s) (ht : IsDay t) (h : ¬ (s < t ∧ 1 ≤ f)) (w : World) (hw : Wd w) :
    Calls Tryz.prog 19 #[.int .i64 4, .int .i64 a, .int .i64 b, .int .i64 s, .int .i64 t, .int .i64 f] w fun e w' => e = .returned (.tuple #[.pointer none, errOf 2]) ∧ Below w.heap.size w w' := by
  unfold errOf
  have HM := Lib.hid (by have H := May_any 4 w; rw [decide_eq_true (show (1 : Int) ≤ 4 ∧ (4 : Int) ≤ 4 by decide)] at H; exact H)
  have HA := Lib.hid (by have H := areDays_any a b w hw; rw [decide_eq_true ⟨ha, hb⟩] at H; exact H)
  have HA2 := Lib.hid (fun W (hb : Below w.heap.size w W) => (by have H := areDays_any s t W (hw.keep hb); rw [decide_eq_true ⟨hs, ht⟩] at H; exact H))
  have HO := Lib.hid (fun W => OfE 2 rfl W)
  have hnl : ¬ b < a := by omega
  clear ha hb hs ht hw hab
  by_cases hst : t ≤ s
  · clear h
    go_enter Tryz.func19, Tryz.ntmps19
    go_wp2_with (first
      | (go_at_call 53; (with_reducible refine (HM.out).mono ?_); rintro e w0 ⟨rfl, rfl⟩; clear HM)
      | (go_at_call 54; (with_reducible refine (HA.out).mono ?_); rintro e w1 ⟨rfl, hb⟩; have HB := Lib.hid hb; clear hb HA)
      | (go_at_call 54; (with_reducible refine (HA2.out _ HB.out).mono ?_); rintro e w1b ⟨rfl, hb⟩; have HB1 := Lib.hid (HB.out.trans (hb.mono HB.out.size)); clear hb HA2)
      | (go_at_call 49; (with_reducible refine (HO.out _).mono ?_); rintro e w9 ⟨rfl, rfl⟩)
      | (fail "no arm"))
    go_ret2
    exact ⟨rfl, HB1.out⟩
  · have hf : f < 1 := by omega
    clear h
    go_enter Tryz.func19, Tryz.ntmps19
    go_wp2_with (first
      | (go_at_call 53; (with_reducible refine (HM.out).mono ?_); rintro e w0 ⟨rfl, rfl⟩; clear HM)
      | (go_at_call 54; (with_reducible refine (HA.out).mono ?_); rintro e w1 ⟨rfl, hb⟩; have HB := Lib.hid hb; clear hb HA)
      | (go_at_call 54; (with_reducible refine (HA2.out _ HB.out).mono ?_); rintro e w1b ⟨rfl, hb⟩; have HB1 := Lib.hid (HB.out.trans (hb.mono HB.out.size)); clear hb HA2)
      | (go_at_call 49; (with_reducible refine (HO.out _).mono ?_); rintro e w9 ⟨rfl, rfl⟩)
      | (fail "no arm"))
    go_ret2
    exact ⟨rfl, HB1.out⟩
theorem cnt_c : CntC where
  may := fun k w _ => (May_any k w).mono fun _ _ ⟨he, hw⟩ => ⟨he, hw ▸ Below.refl _ _⟩
  days := fun k y m d y' m' d' k0 k1 h h' w hw => Days_at k y m d y' m' d' k0 k1 h h' w hw
  daysNo := fun k a b h w hw => Days_no k a b h w hw
  part := fun k y m d y' m' d' s t f k0 k1 h h' hle hp w hw => by
    unfold cpart
    by_cases hk : k = 4
    · rw [if_pos hk]
      obtain ⟨p1, p2, p3, p4, p5⟩ := hp hk
      subst hk
      exact Part_act y m d y' m' d' s t f h h' hle p1 p2 p3 p4 (by omega) w hw
    · rw [if_neg hk]
      exact Part_plain k y m d y' m' d' s t f k0 (by omega) h h' hle w hw
  partForm := fun k a b s t f h w _ => Part_form k a b s t f h w
  partDate := fun k a b s t f k0 k1 h w hw => Part_date k a b s t f k0 k1 h w hw
  partRange := fun a b s t f ha hb hab hs ht h w hw => Part_range a b s t f ha hb hab hs ht h w hw
end Go.Proofs.YtlhmfgbaefaneabGreatDoor.count
