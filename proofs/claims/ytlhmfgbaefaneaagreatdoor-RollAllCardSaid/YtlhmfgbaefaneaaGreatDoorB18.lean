/-
  The steps of the walks, part 18: CntA, DecM, DecA, DecCut, DecForm, RefGetDec2.
-/
import Derived.Deep.RegionHeld3
import Derived.BigQuiet
import Derived.Deep.QuietTactic
import Derived.Lib.Bytealg
import Derived.Laws.Externs
import Derived.Test.YtlhmfgbaefaneaaGreatDoorB16
import Derived.Test.YtlhmfgbaefaneaaGreatDoorB06
import Derived.Test.YtlhmfgbaefaneaaGreatDoorB15
import Derived.Test.YtlhmfgbaefaneaaGreatDoorB02
namespace Go.Proofs.YtlhmfgbaefaneaaGreatDoor.count
open Go Go.RowKit Go.Proofs.YtlhmfgbaefaneaaGreatDoor.day Go.Proofs.YtlhmfgbaefaneaaGreatDoor.date Go.Proofs.YtlhmfgbaefaneaaGreatDoor.law6
open Go.Proofs.YtlhmfgbaefaneaaGreatDoor.ref6 (CAt thirty quiet_same drewN_below6)
open Go.Proofs.YtlhmfgbaefaneaaGreatDoor.num (IsZ Lz)
set_option maxRecDepth 100000 in
theorem May_any (k : Int) (w : World) : Calls Tryz.prog 61 #[.int .i64 k] w fun e w' => e = .returned (.bool (decide (1 ≤ k ∧ k ≤ 4))) ∧ w = w' := by
  by_cases h1 : 1 ≤ k
  · by_cases h2 : k ≤ 4
    · rw [decide_eq_true ⟨h1, h2⟩]
      go_enter Tryz.func61, Tryz.ntmps61
      go_wp2
      go_ret
      exact ⟨rfl, rfl⟩
    · rw [decide_eq_false (fun h => h2 h.2)]
      go_enter Tryz.func61, Tryz.ntmps61
      go_wp2
      go_ret
      exact ⟨rfl, rfl⟩
  · rw [decide_eq_false (fun h => h1 h.1)]
    go_enter Tryz.func61, Tryz.ntmps61
    go_wp2
    go_ret
    exact ⟨rfl, rfl⟩
def civErr (v : Bool) : Value := if v then .nilIface else .iface 128 (.int .i64 4)
theorem civ_any (n : Int) : ∃ y m d : Int, ∀ w, Wd w → Calls Tryz.prog 20 #[.int .i64 n] w fun e w' => e = .returned (.tuple #[.agg #[.int .i64 y, .int .i64 m, .int .i64 d], civErr (decide (IsDay n))]) ∧ Below w.heap.size w w' := by
  by_cases h : IsDay n
  · rw [decide_eq_true h]
    obtain ⟨y, m, d, hc, rfl⟩ := h.civil
    exact ⟨y, m, d, fun w hw => Civil_at y m d hc w hw.lens⟩
  · rw [decide_eq_false h]
    exact ⟨0, 0, 0, fun w _ => Civil_no n h w⟩
set_option maxRecDepth 100000 in
set_option maxHeartbeats 4000000 in
theorem areDays_any (a b : Int) (w : World) (hw : Wd w) :
    Calls Tryz.prog 95 #[.int .i64 a, .int .i64 b] w fun e w' => e = .returned (.bool (decide (IsDay a ∧ IsDay b))) ∧ Below w.heap.size w w' := by
  obtain ⟨ya, ma, da, HA⟩ := civ_any a
  obtain ⟨yb, mb, db, HB⟩ := civ_any b
  have hA := Lib.hid (HA w hw)
  have hB := Lib.hid (fun W (h : Below w.heap.size w W) => HB W (hw.keep h))
  rw [show decide (IsDay a ∧ IsDay b) = (decide (IsDay a) && decide (IsDay b)) by simp]
  clear hw HA HB
  generalize decide (IsDay a) = va at *
  generalize decide (IsDay b) = vb at *
  unfold civErr at hA hB
  cases va <;> cases vb
  all_goals
    simp only [Bool.false_eq_true, if_true, if_false] at hA hB
    go_enter Tryz.func95, Tryz.ntmps95
    go_wp2_with (first
      | (go_at_call 20; (with_reducible refine (hA.out).mono ?_); rintro e w1 ⟨rfl, hb⟩; have HC := Lib.hid (hb.alloc hb.size (.cells #[.int .i64 ya, .int .i64 ma, .int .i64 da] 23)); clear hb hA)
      | (go_at_call 20; (with_reducible refine (hB.out _ HC.out).mono ?_); rintro e w2 ⟨rfl, hb⟩; have HC2 := Lib.hid ((HC.out.trans (hb.mono HC.out.size)).alloc (HC.out.trans (hb.mono HC.out.size)).size (.cells #[.int .i64 yb, .int .i64 mb, .int .i64 db] 23)); clear hb hB)
      | (fail "no arm"))
    go_ret
    exact ⟨rfl, HC2.out⟩
set_option maxRecDepth 100000 in
set_option maxHeartbeats 4000000 in
theorem inThirties_at (y m d : Int) (h : IsCivil y m d) (w : World) (hw : Wd w) :
    Calls Tryz.prog 100 #[.int .i64 (dayOf y m d)] w fun e w' => e = .returned (.int .i64 (360 * y + 30 * m + min d 30)) ∧ Below w.heap.size w w' := by
  have HC := Lib.hid (Civil_at y m d h w hw.lens)
  obtain ⟨a1, a2, a5, a6⟩ := id h
  obtain ⟨a3, a4⟩ := h.month
  have a7 := mlen_hi y m
  have a8 : d ≤ 31 := by omega
  clear h hw a6 a7
  generalize dayOf y m d = n at *
  go_enter Tryz.func100, Tryz.ntmps100
  go_wp2_with (first
    | (go_at_call 20; (with_reducible refine (HC.out).mono ?_); rintro e w1 ⟨rfl, hb⟩
       obtain ⟨c0, c1, c2, -⟩ := (CAt.new w1 y m d).cells
       have HB := Lib.hid (hb.alloc hb.size (.cells #[.int .i64 y, .int .i64 m, .int .i64 d] 23)); clear hb HC)
    | (fail "no arm"))
  go_ret
  exact ⟨by go_num, HB.out⟩
set_option maxRecDepth 100000 in
set_option maxHeartbeats 4000000 in
theorem Days_at (k y m d y' m' d' : Int) (k0 : 1 ≤ k) (k1 : k ≤ 4) (h : IsCivil y m d) (h' : IsCivil y' m' d') (w : World) (hw : Wd w) :
    Calls Tryz.prog 59 #[.int .i64 k, .int .i64 (dayOf y m d), .int .i64 (dayOf y' m' d')] w fun e w' => e = .returned (.int .i64 (cdays k y m d y' m' d')) ∧ Below w.heap.size w w' := by
  have HM := Lib.hid (by have H := May_any k w; rw [decide_eq_true ⟨k0, k1⟩] at H; exact H)
  have HD := Lib.hid (by have H := areDays_any (dayOf y m d) (dayOf y' m' d') w hw; rw [decide_eq_true ⟨dayOf_isDay h, dayOf_isDay h'⟩] at H; exact H)
  have HT := Lib.hid (fun W (hb : Below w.heap.size w W) => inThirties_at y' m' d' h' W (hw.keep hb))
  have HT2 := Lib.hid (fun W (hb : Below w.heap.size w W) => inThirties_at y m d h W (hw.keep hb))
  have i1 := dayOf_isDay h
  have i2 := dayOf_isDay h'
  obtain ⟨i1, i3⟩ := i1
  obtain ⟨i2, i4⟩ := i2
  obtain ⟨a1, a2, a5, a6⟩ := id h
  obtain ⟨b1, b2, b5, b6⟩ := id h'
  obtain ⟨a3, a4⟩ := h.month
  obtain ⟨b3, b4⟩ := h'.month
  have a7 := mlen_hi y m
  have b7 := mlen_hi y' m'
  have a8 : d ≤ 31 := by omega
  have b8 : d' ≤ 31 := by omega
  have hX : 0 ≤ 360 * y + 30 * m + min d 30 ∧ 360 * y + 30 * m + min d 30 ≤ 1000000 := by omega
  have hX' : 0 ≤ 360 * y' + 30 * m' + min d' 30 ∧ 360 * y' + 30 * m' + min d' 30 ≤ 1000000 := by omega
  have hE : thirty y m d y' m' d' = (360 * y' + 30 * m' + min d' 30) - (360 * y + 30 * m + min d 30) := by unfold thirty; omega
  unfold cdays
  rw [hE]
  clear h h' a1 a2 a5 a6 b1 b2 b5 b6 a3 a4 b3 b4 a7 b7 a8 b8 hw hE
  generalize 360 * y + 30 * m + min d 30 = X at *
  generalize 360 * y' + 30 * m' + min d' 30 = X' at *
  generalize dayOf y m d = n at *
  generalize dayOf y' m' d' = n' at *
  obtain ⟨x0, x1⟩ := hX
  obtain ⟨x2, x3⟩ := hX'
  by_cases hk : k = 1
  · rw [if_pos hk]
    subst hk
    clear k0 k1
    go_enter Tryz.func59, Tryz.ntmps59
    go_wp2_with (first
      | (go_at_call 61; (with_reducible refine (HM.out).mono ?_); rintro e w0 ⟨rfl, rfl⟩; clear HM)
      | (go_at_call 95; (with_reducible refine (HD.out).mono ?_); rintro e w1 ⟨rfl, hb⟩; have HB := Lib.hid hb; clear hb HD)
      | (go_at_call 100; (with_reducible refine (HT.out _ HB.out).mono ?_); rintro e w2 ⟨rfl, hb⟩; have HB2 := Lib.hid (HB.out.trans (hb.mono HB.out.size)); clear hb HT)
      | (go_at_call 100; (with_reducible refine (HT2.out _ HB2.out).mono ?_); rintro e w3 ⟨rfl, hb⟩; have HB3 := Lib.hid (HB2.out.trans (hb.mono HB2.out.size)); clear hb HT2)
      | (fail "no arm"))
    go_ret
    exact ⟨by go_num, HB3.out⟩
  · rw [if_neg hk]
    go_enter Tryz.func59, Tryz.ntmps59
    go_wp2_with (first
      | (go_at_call 61; (with_reducible refine (HM.out).mono ?_); rintro e w0 ⟨rfl, rfl⟩; clear HM)
      | (go_at_call 95; (with_reducible refine (HD.out).mono ?_); rintro e w1 ⟨rfl, hb⟩; have HB := Lib.hid hb; clear hb HD)
      | (fail "no arm"))
    go_ret
    exact ⟨by go_num, HB.out⟩
set_option maxRecDepth 100000 in
set_option maxHeartbeats 4000000 in
theorem Days_no (k a b : Int) (h : ¬ (1 ≤ k ∧ k ≤ 4 ∧ IsDay a ∧ IsDay b)) (w : World) (hw : Wd w) :
    Calls Tryz.prog 59 #[.int .i64 k, .int .i64 a, .int .i64 b] w fun e w' => e = .returned (.int .i64 0) ∧ Below w.heap.size w w' := by
  have HM := Lib.hid (May_any k w)
  have HD := Lib.hid (areDays_any a b w hw)
  have HR := Lib.hid (Below.refl w.heap.size w)
  clear hw
  by_cases hk : 1 ≤ k ∧ k ≤ 4
  · rw [decide_eq_true hk] at HM
    rw [decide_eq_false (fun hd => h ⟨hk.1, hk.2, hd.1, hd.2⟩)] at HD
    clear h hk
    go_enter Tryz.func59, Tryz.ntmps59
    go_wp2_with (first
      | (go_at_call 61; (with_reducible refine (HM.out).mono ?_); rintro e w0 ⟨rfl, rfl⟩; clear HM)
      | (go_at_call 95; (with_reducible refine (HD.out).mono ?_); rintro e w1 ⟨rfl, hb⟩; have HB := Lib.hid hb; clear hb HD)
      | (fail "no arm"))
    go_ret
    exact ⟨rfl, HB.out⟩
  · rw [decide_eq_false hk] at HM
    clear h hk HD
    go_enter Tryz.func59, Tryz.ntmps59
    go_wp2_with (first
      | (go_at_call 61; (with_reducible refine (HM.out).mono ?_); rintro e w0 ⟨rfl, rfl⟩; clear HM)
      | (fail "no arm"))
    go_ret
    exact ⟨rfl, HR.out⟩
set_option maxRecDepth 100000 in
theorem number_any (n : Int) (h0 : -9223372036854775808 ≤ n) (h1 : n < 9223372036854775808) (w : World) :
    Calls Tryz.prog 96 #[.int .i64 n] w fun e w' => ∃ u, e = .returned u ∧ (IsZ w' u n ∧ u ≠ .pointer none) ∧ Below w.heap.size w w' := by
  have HO := Lib.hid (num.Of_any n w h0 h1)
  go_enter Tryz.func96, Tryz.ntmps96
  go_wp2_with (first
    | (go_at_call 103; (with_reducible refine (HO.out).mono ?_); rintro e w1 ⟨u, rfl, hz, hb⟩; have HZ := Lib.hid (And.intro hz hb); clear hz hb HO)
    | (fail "no arm"))
  go_ret
  exact ⟨u, rfl, HZ.out.1, HZ.out.2⟩
set_option maxRecDepth 100000 in
theorem yearOf_any (k : Int) (w : World) : Calls Tryz.prog 99 #[.int .i64 k] w fun e w' => e = .returned (.int .i64 (if k = 3 then 365 else 360)) ∧ w = w' := by
  by_cases h : k = 3
  · rw [if_pos h]
    subst h
    go_enter Tryz.func99, Tryz.ntmps99
    go_wp2
    go_ret
    exact ⟨rfl, rfl⟩
  · rw [if_neg h]
    go_enter Tryz.func99, Tryz.ntmps99
    go_wp2
    go_ret
    exact ⟨rfl, rfl⟩
theorem cdays_in {k y m d y' m' d' : Int} (h : IsCivil y m d) (h' : IsCivil y' m' d') : -1000000 ≤ cdays k y m d y' m' d' ∧ cdays k y m d y' m' d' ≤ 1000000 := by
  obtain ⟨a1, a2, a5, a6⟩ := id h
  obtain ⟨b1, b2, b5, b6⟩ := id h'
  obtain ⟨a3, a4⟩ := h.month
  obtain ⟨b3, b4⟩ := h'.month
  have a7 := mlen_hi y m
  have b7 := mlen_hi y' m'
  obtain ⟨i1, i3⟩ := dayOf_isDay h
  obtain ⟨i2, i4⟩ := dayOf_isDay h'
  unfold cdays thirty
  split <;> omega
set_option maxRecDepth 100000 in
set_option maxHeartbeats 4000000 in
theorem Part_plain (k y m d y' m' d' s t f : Int) (k0 : 1 ≤ k) (k1 : k ≤ 3) (h : IsCivil y m d) (h' : IsCivil y' m' d') (hle : dayOf y m d ≤ dayOf y' m' d') (w : World) (hw : Wd w) :
    Calls Tryz.prog 57 #[.int .i64 k, .int .i64 (dayOf y m d), .int .i64 (dayOf y' m' d'), .int .i64 s, .int .i64 t, .int .i64 f] w fun e w' => ∃ u, e = .returned (.tuple #[u, .nilIface]) ∧ (rat.IsR w' u ((cdays k y m d y' m' d' : Rat) / ((if k = 3 then 365 else 360 : Int) : Rat)) ∧ u ≠ .pointer none) ∧ Below w.heap.size w w' := by
  have hk4 : k ≤ 4 := by omega
  have HM := Lib.hid (by have H := May_any k w; rw [decide_eq_true ⟨k0, hk4⟩] at H; exact H)
  have HA := Lib.hid (by have H := areDays_any (dayOf y m d) (dayOf y' m' d') w hw; rw [decide_eq_true ⟨dayOf_isDay h, dayOf_isDay h'⟩] at H; exact H)
  have HD := Lib.hid (fun W (hb : Below w.heap.size w W) => Days_at k y m d y' m' d' k0 hk4 h h' W (hw.keep hb))
  obtain ⟨c0, c1⟩ := cdays_in (k := k) h h'
  have HN := Lib.hid (fun W => number_any (cdays k y m d y' m' d') (by omega) (by omega) W)
  have HS := Lib.hid (show Lz (cdays k y m d y' m' d') 300000 from (num.Lz_small (by omega)).le (by decide))
  obtain ⟨Y, hY, hY2⟩ : ∃ Y : Int, (if k = 3 then 365 else 360 : Int) = Y ∧ (Y = 365 ∨ Y = 360) := ⟨_, rfl, by split <;> simp⟩
  have HY := Lib.hid (fun W => yearOf_any k W)
  rw [hY] at HY
  rw [hY]
  have HN2 := Lib.hid (fun W => number_any Y (by omega) (by omega) W)
  have HS2 := Lib.hid (show Lz Y 300000 ∧ Y ≠ 0 from ⟨(num.Lz_small (by omega)).le (by decide), by omega⟩)
  have hkn : k ≠ 4 := by omega
  clear h h' hw k0 k1 hk4 c0 c1 hY hY2
  generalize cdays k y m d y' m' d' = z at *
  generalize dayOf y m d = n at *
  generalize dayOf y' m' d' = n' at *
  have hnl : ¬ n' < n := by omega
  clear hle
  go_enter Tryz.func57, Tryz.ntmps57
  go_wp2_with (first
    | (go_at_call 61; (with_reducible refine (HM.out).mono ?_); rintro e w0 ⟨rfl, rfl⟩; clear HM)
    | (go_at_call 95; (with_reducible refine (HA.out).mono ?_); rintro e w1 ⟨rfl, hb⟩; have HB := Lib.hid hb; clear hb HA)
    | (go_at_call 59; (with_reducible refine (HD.out _ HB.out).mono ?_); rintro e w2 ⟨rfl, hb⟩; have HB2 := Lib.hid (HB.out.trans (hb.mono HB.out.size)); clear hb HD)
    | (go_at_call 96; (with_reducible refine (HN.out _).mono ?_); rintro e w3 ⟨u1, rfl, ⟨hz, -⟩, hb⟩; have HZ := Lib.hid hz; have HB3 := Lib.hid (HB2.out.trans (hb.mono HB2.out.size)); clear hz hb HN)
    | (go_at_call 99; (with_reducible refine (HY.out _).mono ?_); rintro e w4 ⟨rfl, rfl⟩; clear HY)
    | (go_at_call 96; (with_reducible refine (HN2.out _).mono ?_); rintro e w5 ⟨u2, rfl, ⟨hz, -⟩, hb⟩; have HZ2 := Lib.hid (And.intro (HZ.out.below hb) hz); have HB4 := Lib.hid (HB3.out.trans (hb.mono HB3.out.size)); clear hz hb HN2)
    | (go_at_call 97; (with_reducible refine (rat.New_ok u1 u2 z Y _ HZ2.out.1 HZ2.out.2 HS.out HS2.out.1 HS2.out.2).mono ?_); rintro e w6 ⟨u3, rfl, hr, hb⟩; have HR := Lib.hid hr; have HB5 := Lib.hid (HB4.out.trans (hb.mono HB4.out.size)); clear hr hb)
    | (fail "no arm"))
  go_ret2
  exact ⟨_, rfl, HR.out, HB5.out⟩
set_option maxRecDepth 100000 in
set_option maxHeartbeats 4000000 in
theorem Part_act (y m d y' m' d' s t f : Int) (h : IsCivil y m d) (h' : IsCivil y' m' d') (hle : dayOf y m d ≤ dayOf y' m' d') (hs : IsDay s) (ht : IsDay t) (hst : s < t) (f0 : 1 ≤ f) (f1 : f < 9223372036854775808) (w : World) (hw : Wd w) :
    Calls Tryz.prog 57 #[.int .i64 4, .int .i64 (dayOf y m d), .int .i64 (dayOf y' m' d'), .int .i64 s, .int .i64 t, .int .i64 f] w fun e w' => ∃ u, e = .returned (.tuple #[u, .nilIface]) ∧ (rat.IsR w' u (((dayOf y' m' d' - dayOf y m d : Int) : Rat) / ((f * (t - s) : Int) : Rat)) ∧ u ≠ .pointer none) ∧ Below w.heap.size w w' := by
  have HM := Lib.hid (by have H := May_any 4 w; rw [decide_eq_true (show (1 : Int) ≤ 4 ∧ (4 : Int) ≤ 4 by decide)] at H; exact H)
  have HA := Lib.hid (by have H := areDays_any (dayOf y m d) (dayOf y' m' d') w hw; rw [decide_eq_true ⟨dayOf_isDay h, dayOf_isDay h'⟩] at H; exact H)
  have HA2 := Lib.hid (fun W (hb : Below w.heap.size w W) => (by have H := areDays_any s t W (hw.keep hb); rw [decide_eq_true ⟨hs, ht⟩] at H; exact H))
  have HD := Lib.hid (fun W (hb : Below w.heap.size w W) => (by have H := Days_at 4 y m d y' m' d' (by decide) (by decide) h h' W (hw.keep hb); unfold cdays at H; rw [if_neg (by decide)] at H; exact H))
  obtain ⟨i1, i3⟩ := dayOf_isDay h
  obtain ⟨i2, i4⟩ := dayOf_isDay h'
  obtain ⟨s0, s1⟩ := hs
  obtain ⟨t0, t1⟩ := ht
  clear h h' hw
  generalize dayOf y m d = n at *
  generalize dayOf y' m' d' = n' at *
  have HN := Lib.hid (fun W => number_any (n' - n) (by omega) (by omega) W)
  have HS := Lib.hid (show Lz (n' - n) 300000 from (num.Lz_small (by omega)).le (by decide))
  have HN1 := Lib.hid (fun W => number_any f (by omega) (by omega) W)
  have HN2 := Lib.hid (fun W => number_any (t - s) (by omega) (by omega) W)
  have hL1 : Lz f 1 := num.Lz_small (by omega)
  have hL2 : Lz (t - s) 1 := num.Lz_small (by omega)
  have HS2 := Lib.hid (show Lz (f * (t - s)) 300000 ∧ f * (t - s) ≠ 0 from ⟨(num.Lz_mul hL1 hL2).le (by decide), fun e => by rcases Int.mul_eq_zero.1 e with e | e <;> omega⟩)
  have HMu := Lib.hid (fun a b W ha hb => num.Mul_any a b f (t - s) W ha hb (Nat.le_trans hL1 (by decide)) (Nat.le_trans hL2 (by decide)))
  have hnl : ¬ n' < n := by omega
  have hsl : ¬ t ≤ s := by omega
  have hfl : ¬ f < 1 := by omega
  generalize hq : f * (t - s) = q at *
  clear hle hL1 hL2 hst f0 f1 hq
  go_enter Tryz.func57, Tryz.ntmps57
  go_wp2_with (first
    | (go_at_call 61; (with_reducible refine (HM.out).mono ?_); rintro e w0 ⟨rfl, rfl⟩; clear HM)
    | (go_at_call 95; (with_reducible refine (HA.out).mono ?_); rintro e w1 ⟨rfl, hb⟩; have HB := Lib.hid hb; clear hb HA)
    | (go_at_call 95; (with_reducible refine (HA2.out _ HB.out).mono ?_); rintro e w1b ⟨rfl, hb⟩; have HB1 := Lib.hid (HB.out.trans (hb.mono HB.out.size)); clear hb HA2)
    | (go_at_call 59; (with_reducible refine (HD.out _ HB1.out).mono ?_); rintro e w2 ⟨rfl, hb⟩; have HB2 := Lib.hid (HB1.out.trans (hb.mono HB1.out.size)); clear hb HD)
    | (go_at_call 96; (with_reducible refine (HN.out _).mono ?_); rintro e w3 ⟨u1, rfl, ⟨hz, -⟩, hb⟩; have HZ := Lib.hid hz; have HB3 := Lib.hid (HB2.out.trans (hb.mono HB2.out.size)); clear hz hb HN)
    | (go_at_call 96; (with_reducible refine (HN1.out _).mono ?_); rintro e w4 ⟨u2, rfl, ⟨hz, -⟩, hb⟩; have HZ1 := Lib.hid (And.intro (HZ.out.below hb) hz); have HB4 := Lib.hid (HB3.out.trans (hb.mono HB3.out.size)); clear hz hb HN1)
    | (go_at_call 96; (with_reducible refine (HN2.out _).mono ?_); rintro e w5 ⟨u3, rfl, ⟨hz, -⟩, hb⟩; have HZ2 := Lib.hid (And.intro (HZ1.out.1.below hb) (And.intro (HZ1.out.2.below hb) hz)); have HB5 := Lib.hid (HB4.out.trans (hb.mono HB4.out.size)); clear hz hb HN2)
    | (go_at_call 98; (with_reducible refine (HMu.out _ _ _ HZ2.out.2.1 HZ2.out.2.2).mono ?_); rintro e w6 ⟨u4, rfl, ⟨hz, -⟩, hb⟩; have HZ3 := Lib.hid (And.intro (HZ2.out.1.below hb) hz); have HB6 := Lib.hid (HB5.out.trans (hb.mono HB5.out.size)); clear hz hb HMu)
    | (go_at_call 97; (with_reducible refine (rat.New_ok u1 u4 (n' - n) q _ HZ3.out.1 HZ3.out.2 HS.out HS2.out.1 HS2.out.2).mono ?_); rintro e w7 ⟨u5, rfl, hr, hb⟩; have HR := Lib.hid hr; have HB7 := Lib.hid (HB6.out.trans (hb.mono HB6.out.size)); clear hr hb)
    | (fail "no arm"))
  go_ret2
  exact ⟨_, rfl, HR.out, HB7.out⟩
set_option maxRecDepth 100000 in
set_option maxHeartbeats 4000000 in
theorem Part_form (k a b s t f : Int) (h : k < 1 ∨ 4 < k) (w : World) :
    Calls Tryz.prog 57 #[.int .i64 k, .int .i64 a, .int .i64 b, .int .i64 s, .int .i64 t, .int .i64 f] w fun e w' => e = .returned (.tuple #[.pointer none, errOf 1]) ∧ Below w.heap.size w w' := by
  unfold errOf
  have HM := Lib.hid (by have H := May_any k w; rw [decide_eq_false (by omega)] at H; exact H)
  have HO := Lib.hid (fun W => OfE 1 rfl W)
  have hk4 : k ≠ 4 := by omega
  have HR := Lib.hid (Below.refl w.heap.size w)
  clear h
  go_enter Tryz.func57, Tryz.ntmps57
  go_wp2_with (first
    | (go_at_call 61; (with_reducible refine (HM.out).mono ?_); rintro e w0 ⟨rfl, rfl⟩; clear HM)
    | (go_at_call 71; (with_reducible refine (HO.out _).mono ?_); rintro e w9 ⟨rfl, rfl⟩)
    | (fail "no arm"))
  go_ret2
  exact ⟨rfl, HR.out⟩
set_option maxRecDepth 100000 in
set_option maxHeartbeats 4000000 in
theorem Part_date (k a b s t f : Int) (k0 : 1 ≤ k) (k1 : k ≤ 4) (h : ¬ (IsDay a ∧ IsDay b ∧ a ≤ b ∧ (k = 4 → IsDay s ∧ IsDay t))) (w : World) (hw : Wd w) :
    Calls Tryz.prog 57 #[.int .i64 k, .int .i64 a, .int .i64 b, .int .i64 s, .int .i64 t, .int .i64 f] w fun e w' => e = .returned (.tuple #[.pointer none, errOf 4]) ∧ Below w.heap.size w w' := by
  unfold errOf
  have HM := Lib.hid (by have H := May_any k w; rw [decide_eq_true ⟨k0, k1⟩] at H; exact H)
  have HA := Lib.hid (areDays_any a b w hw)
  have HO := Lib.hid (fun W => OfE 4 rfl W)
  by_cases hd : IsDay a ∧ IsDay b
  · rw [decide_eq_true hd] at HA
    by_cases hab : b < a
    · clear h hd hw k0 k1
      by_cases hk : k = 4
      · subst hk
        go_enter Tryz.func57, Tryz.ntmps57
        go_wp2_with (first
          | (go_at_call 61; (with_reducible refine (HM.out).mono ?_); rintro e w0 ⟨rfl, rfl⟩; clear HM)
          | (go_at_call 95; (with_reducible refine (HA.out).mono ?_); rintro e w1 ⟨rfl, hb⟩; have HB := Lib.hid hb; clear hb HA)
          | (go_at_call 71; (with_reducible refine (HO.out _).mono ?_); rintro e w9 ⟨rfl, rfl⟩)
          | (fail "no arm"))
        go_ret2
        exact ⟨rfl, HB.out⟩
      · go_enter Tryz.func57, Tryz.ntmps57
        go_wp2_with (first
          | (go_at_call 61; (with_reducible refine (HM.out).mono ?_); rintro e w0 ⟨rfl, rfl⟩; clear HM)
          | (go_at_call 95; (with_reducible refine (HA.out).mono ?_); rintro e w1 ⟨rfl, hb⟩; have HB := Lib.hid hb; clear hb HA)
          | (go_at_call 71; (with_reducible refine (HO.out _).mono ?_); rintro e w9 ⟨rfl, rfl⟩)
          | (fail "no arm"))
        go_ret2
        exact ⟨rfl, HB.out⟩
    · have hk : k = 4 ∧ ¬ (IsDay s ∧ IsDay t) := by
        by_cases hk : k = 4
        · exact ⟨hk, fun hst => h ⟨hd.1, hd.2, by omega, fun _ => hst⟩⟩
        · exact absurd ⟨hd.1, hd.2, by omega, fun e => absurd e hk⟩ h
      obtain ⟨rfl, hst⟩ := hk
      have HA2 := Lib.hid (fun W (hb : Below w.heap.size w W) => (by have H := areDays_any s t W (hw.keep hb); rw [decide_eq_false hst] at H; exact H))
      clear h hd hw k0 k1 hst
      go_enter Tryz.func57, Tryz.ntmps57
      go_wp2_with (first
        | (go_at_call 61; (with_reducible refine (HM.out).mono ?_); rintro e w0 ⟨rfl, rfl⟩; clear HM)
        | (go_at_call 95; (with_reducible refine (HA.out).mono ?_); rintro e w1 ⟨rfl, hb⟩; have HB := Lib.hid hb; clear hb HA)
        | (go_at_call 95; (with_reducible refine (HA2.out _ HB.out).mono ?_); rintro e w1b ⟨rfl, hb⟩; have HB1 := Lib.hid (HB.out.trans (hb.mono HB.out.size)); clear hb HA2)
        | (go_at_call 71; (with_reducible refine (HO.out _).mono ?_); rintro e w9 ⟨rfl, rfl⟩)
        | (fail "no arm"))
      go_ret2
      exact ⟨rfl, HB1.out⟩
  · rw [decide_eq_false hd] at HA
    clear h hd hw k0 k1
    by_cases hk : k = 4
    · subst hk
      go_enter Tryz.func57, Tryz.ntmps57
      go_wp2_with (first
        | (go_at_call 61; (with_reducible refine (HM.out).mono ?_); rintro e w0 ⟨rfl, rfl⟩; clear HM)
        | (go_at_call 95; (with_reducible refine (HA.out).mono ?_); rintro e w1 ⟨rfl, hb⟩; have HB := Lib.hid hb; clear hb HA)
        | (go_at_call 71; (with_reducible refine (HO.out _).mono ?_); rintro e w9 ⟨rfl, rfl⟩)
        | (fail "no arm"))
      go_ret2
      exact ⟨rfl, HB.out⟩
    · go_enter Tryz.func57, Tryz.ntmps57
      go_wp2_with (first
        | (go_at_call 61; (with_reducible refine (HM.out).mono ?_); rintro e w0 ⟨rfl, rfl⟩; clear HM)
        | (go_at_call 95; (with_reducible refine (HA.out).mono ?_); rintro e w1 ⟨rfl, hb⟩; have HB := Lib.hid hb; clear hb HA)
        | (go_at_call 71; (with_reducible refine (HO.out _).mono ?_); rintro e w9 ⟨rfl, rfl⟩)
        | (fail "no arm"))
      go_ret2
      exact ⟨rfl, HB.out⟩
set_option maxRecDepth 100000 in
set_option maxHeartbeats 4000000 in
theorem Part_range (a b s t f : Int) (ha : IsDay a) (hb : IsDay b) (hab : a ≤ b) (hs : IsDay s) (ht : IsDay t) (h : ¬ (s < t ∧ 1 ≤ f)) (w : World) (hw : Wd w) :
    Calls Tryz.prog 57 #[.int .i64 4, .int .i64 a, .int .i64 b, .int .i64 s, .int .i64 t, .int .i64 f] w fun e w' => e = .returned (.tuple #[.pointer none, errOf 2]) ∧ Below w.heap.size w w' := by
  unfold errOf
  have HM := Lib.hid (by have H := May_any 4 w; rw [decide_eq_true (show (1 : Int) ≤ 4 ∧ (4 : Int) ≤ 4 by decide)] at H; exact H)
  have HA := Lib.hid (by have H := areDays_any a b w hw; rw [decide_eq_true ⟨ha, hb⟩] at H; exact H)
  have HA2 := Lib.hid (fun W (hb : Below w.heap.size w W) => (by have H := areDays_any s t W (hw.keep hb); rw [decide_eq_true ⟨hs, ht⟩] at H; exact H))
  have HO := Lib.hid (fun W => OfE 2 rfl W)
  have hnl : ¬ b < a := by omega
  clear ha hb hs ht hw hab
  by_cases hst : t ≤ s
  · clear h
    go_enter Tryz.func57, Tryz.ntmps57
    go_wp2_with (first
      | (go_at_call 61; (with_reducible refine (HM.out).mono ?_); rintro e w0 ⟨rfl, rfl⟩; clear HM)
      | (go_at_call 95; (with_reducible refine (HA.out).mono ?_); rintro e w1 ⟨rfl, hb⟩; have HB := Lib.hid hb; clear hb HA)
      | (go_at_call 95; (with_reducible refine (HA2.out _ HB.out).mono ?_); rintro e w1b ⟨rfl, hb⟩; have HB1 := Lib.hid (HB.out.trans (hb.mono HB.out.size)); clear hb HA2)
      | (go_at_call 71; (with_reducible refine (HO.out _).mono ?_); rintro e w9 ⟨rfl, rfl⟩)
      | (fail "no arm"))
    go_ret2
    exact ⟨rfl, HB1.out⟩
  · have hf : f < 1 := by omega
    clear h
    go_enter Tryz.func57, Tryz.ntmps57
    go_wp2_with (first
      | (go_at_call 61; (with_reducible refine (HM.out).mono ?_); rintro e w0 ⟨rfl, rfl⟩; clear HM)
      | (go_at_call 95; (with_reducible refine (HA.out).mono ?_); rintro e w1 ⟨rfl, hb⟩; have HB := Lib.hid hb; clear hb HA)
      | (go_at_call 95; (with_reducible refine (HA2.out _ HB.out).mono ?_); rintro e w1b ⟨rfl, hb⟩; have HB1 := Lib.hid (HB.out.trans (hb.mono HB.out.size)); clear hb HA2)
      | (go_at_call 71; (with_reducible refine (HO.out _).mono ?_); rintro e w9 ⟨rfl, rfl⟩)
      | (fail "no arm"))
    go_ret2
    exact ⟨rfl, HB1.out⟩
theorem cnt_c : CntC where
  may := fun k w _ => (May_any k w).mono fun _ _ ⟨he, hw⟩ => ⟨he, hw ▸ Below.refl _ _⟩
  days := fun k y m d y' m' d' k0 k1 h h' w hw => Days_at k y m d y' m' d' k0 k1 h h' w hw
  daysNo := fun k a b h w hw => Days_no k a b h w hw
  part := fun k y m d y' m' d' s t f k0 k1 h h' hle hp w hw => by
    unfold cpart
    by_cases hk : k = 4
    · rw [if_pos hk]
      obtain ⟨p1, p2, p3, p4, p5⟩ := hp hk
      subst hk
      exact Part_act y m d y' m' d' s t f h h' hle p1 p2 p3 p4 (by omega) w hw
    · rw [if_neg hk]
      exact Part_plain k y m d y' m' d' s t f k0 (by omega) h h' hle w hw
  partForm := fun k a b s t f h w _ => Part_form k a b s t f h w
  partDate := fun k a b s t f k0 k1 h w hw => Part_date k a b s t f k0 k1 h w hw
  partRange := fun a b s t f ha hb hab hs ht h w hw => Part_range a b s t f ha hb hab hs ht h w hw
end Go.Proofs.YtlhmfgbaefaneaaGreatDoor.count
namespace Go.Proofs.YtlhmfgbaefaneaaGreatDoor.dec
open Go.RowKit Go.Proofs.YtlhmfgbaefaneaaGreatDoor.nat Go.Proofs.YtlhmfgbaefaneaaGreatDoor.num
open Go.Proofs.YtlhmfgbaefaneaaGreatDoor.rat (IsR Lr)
open Go.Proofs.YtlhmfgbaefaneaaGreatDoor.ref (str str_size str_append nearN nearUp signed decText)
def upB (mode C : Int) (odd : Bool) : Bool := ((mode == 1) && decide (0 ≤ C)) || ((mode == 2) && (decide (0 < C) || ((C == 0) && odd)))
theorem up_near (x d : Nat) (mode : Int) : upB mode (cmp3 ((x % d + x % d : Nat) : Int) (d : Int)) (decide (x / d % 2 = 1)) = nearUp x d mode := by
  have hC : cmp3 ((x % d + x % d : Nat) : Int) (d : Int) = ref.cmpN (x % d * 2) d := by
    rw [show x % d + x % d = x % d * 2 by omega]
    unfold cmp3 ref.cmpN
    (repeat' split) <;> omega
  rw [hC, ref.near_up (x := x) (d := d) (mode := mode) rfl]
  rfl
def putText (q : Rat) (k : Nat) (mode : Int) : List UInt8 := decText (signed (decide (q.num < 0)) (nearN (q.num.natAbs * 10 ^ k) q.den mode)) k
theorem text_of (below : Bool) (x k : Nat) : decText (signed below x) k = if below = true ∧ x ≠ 0 then 45 :: ref.decBody x k else ref.decBody x k := by
  unfold decText signed
  cases below
  · simp
  · by_cases h : x = 0
    · subst h; simp
    · simp [h]
theorem Ln_ten {k : Nat} (hk : k ≤ 20) : Ln (10 ^ k) 21 := rat.Ln_tens (n := 21) (Nat.lt_of_lt_of_le (show 10 ^ k < 10 ^ (k + 1) by rw [Nat.pow_succ]; have : 0 < 10 ^ k := Nat.pow_pos (by omega); omega) (Nat.pow_le_pow_right (by omega) (by omega))) (Nat.le_refl _)
theorem Ln_near {x d n : Nat} (mode : Int) (h : Ln x n) : Ln (nearN x d mode) (n + 2) := by
  have h1 : nearN x d mode ≤ x + 1 := by
    unfold nearN
    have := Nat.div_le_self x d
    split <;> omega
  exact (Ln_less h1 (Ln_add h (Ln_small (x := 1) (by decide)))).le (by omega)
theorem near_two {x d : Nat} {mode : Int} (h : nearUp x d mode = true) : nearN x d mode = x / d + 1 := by unfold nearN; rw [h]; rfl
theorem near_one {x d : Nat} {mode : Int} (h : nearUp x d mode = false) : nearN x d mode = x / d := by unfold nearN; rw [h]; rfl
theorem sign_ways (z : Int) : (sg z = -1 ∧ decide (z < 0) = true) ∨ (sg z = 0 ∧ decide (z < 0) = false) ∨ (sg z = 1 ∧ decide (z < 0) = false) := by
  unfold sg cmp3
  rcases Int.lt_trichotomy z 0 with h | h | h
  · exact Or.inl ⟨by rw [if_pos h], by simpa using h⟩
  · subst h; exact Or.inr (Or.inl ⟨rfl, rfl⟩)
  · exact Or.inr (Or.inr ⟨by rw [if_neg (by omega), if_pos h], by simp; omega⟩)
theorem sgn_signed (p : Bool) (x : Nat) : num.sgn p x = signed p x := rfl
end Go.Proofs.YtlhmfgbaefaneaaGreatDoor.dec
namespace Go.Proofs.YtlhmfgbaefaneaaGreatDoor.dec
open Go.RowKit Go.Proofs.YtlhmfgbaefaneaaGreatDoor.nat Go.Proofs.YtlhmfgbaefaneaaGreatDoor.num
open Go.Proofs.YtlhmfgbaefaneaaGreatDoor.rat (IsR Lr)
open Go.Proofs.YtlhmfgbaefaneaaGreatDoor.ref (str str_size str_append nearN nearUp signed decText)
set_option maxRecDepth 100000 in
set_option maxHeartbeats 4000000 in
theorem tenPower_any (k : Nat) (w : World) (hk : k ≤ 20) :
    Calls Tryz.prog 191 #[.int .i64 (k : Nat)] w fun e w' => ∃ u, e = .returned u ∧ (nat.IsN w' u (10 ^ k) ∧ u ≠ .pointer none) ∧ Below w.heap.size w w' := by
  have h10 := Ln_ten hk
  have c1 := fun (W : World)    => nat.Of_int 10 10 rfl (by decide) W
  have C1 := Lib.hid c1
  clear c1
  have c2 := fun (W : World) (v0 : Value) (hh0 : nat.IsN W v0 (10 : Nat))  => nat.Pow_any v0 10 (k : Int) W hh0 ((Ln_small (x := 10) (by decide)).le (by decide)) (by omega) (by rw [Int.toNat_natCast]; exact h10.le (by decide))
  rw [Int.toNat_natCast] at c2
  have C2 := Lib.hid c2
  clear c2
  go_enter Tryz.func191, Tryz.ntmps191
  go_wp2_with (first
    | (go_at_call 134; (with_reducible refine (C1.out _ ).mono ?_); rintro e W1 ⟨t, rfl, ⟨h_t, n_t⟩, hb⟩
       have H_t := Lib.hid h_t
       have N_t := Lib.hid n_t
       have HB1 := Lib.hid hb
       clear h_t n_t hb C1)
    | (go_at_call 151; (with_reducible refine (C2.out _ _ H_t.out).mono ?_); rintro e W2 ⟨u, rfl, ⟨h_u, n_u⟩, hb⟩
       have H_u := Lib.hid h_u
       have N_u := Lib.hid n_u
       have HB2 := Lib.hid hb
       clear h_u n_u hb C2)
    | (fail "no arm"))
  go_ret
  exact ⟨_, rfl, ⟨H_u.out, N_u.out⟩, (nat.below_tr HB1.out HB2.out)⟩
set_option maxRecDepth 100000 in
theorem arePlaces_yes (z : Int) (w : World) (h : 0 ≤ z ∧ z ≤ 20) :
    Calls Tryz.prog 185 #[.int .i64 z] w fun e w' => e = .returned (.bool true) ∧ w = w' := by
  obtain ⟨h1, h2⟩ := h
  go_enter Tryz.func185, Tryz.ntmps185
  go_wp2
  go_ret
  exact ⟨rfl, rfl⟩
set_option maxRecDepth 100000 in
theorem isMode_yes (m : Int) (w : World) (h : m = 1 ∨ m = 2 ∨ m = 3) :
    Calls Tryz.prog 186 #[.int .i64 m] w fun e w' => e = .returned (.bool true) ∧ w = w' := by
  rcases h with rfl | rfl | rfl
  all_goals
    go_enter Tryz.func186, Tryz.ntmps186
    go_wp2
    go_ret
    exact ⟨rfl, rfl⟩
set_option maxRecDepth 100000 in
set_option maxHeartbeats 4000000 in
theorem isOdd_yes (a : Value) (X : Nat) (w : World) (ha : nat.IsN w a X) (sx : Ln X 200000) (ho : X % 2 = 1) :
    Calls Tryz.prog 263 #[a] w fun e w' => e = .returned (.bool true) ∧ Below w.heap.size w w' := by
  have H_a := Lib.hid ha
  clear ha
  have HO := Lib.hid ho
  clear ho
  have c1 := fun (W : World)    => nat.Of_int 2 2 rfl (by decide) W
  have C1 := Lib.hid c1
  clear c1
  have c2 := fun (W : World) (v0 : Value) (v1 : Value) (hh0 : nat.IsN W v0 X) (hh1 : nat.IsN W v1 (2 : Nat))  => nat.Div_ok v0 v1 X 2 W hh0 hh1 (by decide) (sx.le (by decide)) ((Ln_small (x := 2) (by decide)).le (by decide))
  have C2 := Lib.hid c2
  clear c2
  have c3 := fun (W : World) (v0 : Value) (hh0 : nat.IsN W v0 (X % 2))  => nat.Zero_any v0 (X % 2) W hh0
  rw [decide_eq_false (by have := HO.out; omega)] at c3
  have C3 := Lib.hid c3
  clear c3
  go_enter Tryz.func263, Tryz.ntmps263
  go_wp2_with (first
    | (go_at_call 134; (with_reducible refine (C1.out _ ).mono ?_); rintro e W1 ⟨t, rfl, ⟨h_t, n_t⟩, hb⟩
       have H_t := Lib.hid h_t
       have N_t := Lib.hid n_t
       have HB1 := Lib.hid hb
       clear h_t n_t hb C1)
    | (go_at_call 144; (with_reducible refine (C2.out _ _ _ (H_a.out.below HB1.out) H_t.out).mono ?_); rintro e W2 ⟨q, r, rfl, -, ⟨h_r, n_r⟩, hb⟩
       have H_r := Lib.hid h_r
       have N_r := Lib.hid n_r
       have HB2 := Lib.hid hb
       clear h_r n_r hb C2)
    | (go_at_call 164; (with_reducible refine (C3.out _ _ H_r.out).mono ?_); rintro e w9 ⟨rfl, rfl⟩
       clear C3)
    | (fail "no arm"))
  go_ret
  exact ⟨rfl, (nat.below_tr HB1.out HB2.out)⟩
set_option maxRecDepth 100000 in
set_option maxHeartbeats 4000000 in
theorem isOdd_no (a : Value) (X : Nat) (w : World) (ha : nat.IsN w a X) (sx : Ln X 200000) (ho : X % 2 = 0) :
    Calls Tryz.prog 263 #[a] w fun e w' => e = .returned (.bool false) ∧ Below w.heap.size w w' := by
  have H_a := Lib.hid ha
  clear ha
  have HO := Lib.hid ho
  clear ho
  have c1 := fun (W : World)    => nat.Of_int 2 2 rfl (by decide) W
  have C1 := Lib.hid c1
  clear c1
  have c2 := fun (W : World) (v0 : Value) (v1 : Value) (hh0 : nat.IsN W v0 X) (hh1 : nat.IsN W v1 (2 : Nat))  => nat.Div_ok v0 v1 X 2 W hh0 hh1 (by decide) (sx.le (by decide)) ((Ln_small (x := 2) (by decide)).le (by decide))
  have C2 := Lib.hid c2
  clear c2
  have c3 := fun (W : World) (v0 : Value) (hh0 : nat.IsN W v0 (X % 2))  => nat.Zero_any v0 (X % 2) W hh0
  rw [decide_eq_true HO.out] at c3
  have C3 := Lib.hid c3
  clear c3
  go_enter Tryz.func263, Tryz.ntmps263
  go_wp2_with (first
    | (go_at_call 134; (with_reducible refine (C1.out _ ).mono ?_); rintro e W1 ⟨t, rfl, ⟨h_t, n_t⟩, hb⟩
       have H_t := Lib.hid h_t
       have N_t := Lib.hid n_t
       have HB1 := Lib.hid hb
       clear h_t n_t hb C1)
    | (go_at_call 144; (with_reducible refine (C2.out _ _ _ (H_a.out.below HB1.out) H_t.out).mono ?_); rintro e W2 ⟨q, r, rfl, -, ⟨h_r, n_r⟩, hb⟩
       have H_r := Lib.hid h_r
       have N_r := Lib.hid n_r
       have HB2 := Lib.hid hb
       clear h_r n_r hb C2)
    | (go_at_call 164; (with_reducible refine (C3.out _ _ H_r.out).mono ?_); rintro e w9 ⟨rfl, rfl⟩
       clear C3)
    | (fail "no arm"))
  go_ret
  exact ⟨rfl, (nat.below_tr HB1.out HB2.out)⟩
theorem isOdd_any (a : Value) (X : Nat) (w : World) (ha : nat.IsN w a X) (sx : Ln X 200000) :
    Calls Tryz.prog 263 #[a] w fun e w' => e = .returned (.bool (decide (X % 2 = 1))) ∧ Below w.heap.size w w' := by
  rcases (show X % 2 = 1 ∨ X % 2 = 0 by omega) with h | h
  · rw [decide_eq_true h]; exact isOdd_yes a X w ha sx h
  · rw [decide_eq_false (by omega)]; exact isOdd_no a X w ha sx h
set_option maxRecDepth 100000 in
set_option maxHeartbeats 4000000 in
theorem goesUp_any (mode C : Int) (a : Value) (X : Nat) (w : World) (ha : nat.IsN w a X) (sx : Ln X 200000) (k1 : -9223372036854775808 ≤ C) (k2 : C < 9223372036854775808) :
    Calls Tryz.prog 228 #[.int .i64 mode, .int .i64 C, a] w fun e w' => e = .returned (.bool (upB mode C (decide (X % 2 = 1)))) ∧ Below w.heap.size w w' := by
  have HO := Lib.hid (isOdd_any a X w ha sx)
  clear ha sx
  generalize decide (X % 2 = 1) = o at *
  have hcase : (mode = 1 ∧ 0 ≤ C ∧ upB mode C o = true) ∨ (mode = 1 ∧ C < 0 ∧ upB mode C o = false) ∨ (mode = 2 ∧ 0 < C ∧ upB mode C o = true) ∨ (mode = 2 ∧ C = 0 ∧ upB mode C o = o) ∨ (mode = 2 ∧ C < 0 ∧ upB mode C o = false) ∨ ((mode == 1) = false ∧ (mode == 2) = false ∧ upB mode C o = false) := by
    unfold upB
    by_cases h1 : mode = 1
    · subst h1
      by_cases h2 : 0 ≤ C
      · exact Or.inl ⟨rfl, h2, by simp [h2]⟩
      · exact Or.inr (Or.inl ⟨rfl, by omega, by simp; omega⟩)
    · by_cases h3 : mode = 2
      · subst h3
        rcases (show C < 0 ∨ C = 0 ∨ 0 < C by omega) with h | h | h
        · exact Or.inr (Or.inr (Or.inr (Or.inr (Or.inl ⟨rfl, h, by simp; omega⟩))))
        · subst h
          exact Or.inr (Or.inr (Or.inr (Or.inl ⟨rfl, rfl, by simp⟩)))
        · exact Or.inr (Or.inr (Or.inl ⟨rfl, h, by simp [h]⟩))
      · exact Or.inr (Or.inr (Or.inr (Or.inr (Or.inr ⟨by simp [h1], by simp [h3], by simp [h1, h3]⟩))))
  generalize upB mode C o = up at *
  rcases hcase with ⟨rfl, h1, rfl⟩ | ⟨rfl, h1, rfl⟩ | ⟨rfl, h1, rfl⟩ | ⟨rfl, rfl, rfl⟩ | ⟨rfl, h1, rfl⟩ | ⟨h0, h1, rfl⟩
  case' inr.inr.inl => have h0 : ¬ C = 0 := by omega
  all_goals
    go_enter Tryz.func228, Tryz.ntmps228
    go_wp2_with (first
      | (go_at_call 263; (with_reducible refine (HO.out).mono ?_); rintro e w1 ⟨rfl, hb⟩)
      | (fail "no arm"))
    go_ret
    first
      | exact ⟨rfl, hb⟩
      | exact ⟨rfl, Below.refl _ _⟩
      | exact ⟨by simp; omega, Below.refl _ _⟩
set_option maxRecDepth 100000 in
set_option maxHeartbeats 4000000 in
theorem cutOff_any (a : Value) (q : Rat) (k : Nat) (w : World) (ha : IsR w a q) (sq : Lr q 20000) (hk : k ≤ 20) :
    Calls Tryz.prog 227 #[a, .int .i64 (k : Nat)] w fun e w' => ∃ s r, e = .returned (.tuple #[s, r]) ∧ (nat.IsN w' s (q.num.natAbs * 10 ^ k / q.den) ∧ s ≠ .pointer none) ∧ (nat.IsN w' r (q.num.natAbs * 10 ^ k % q.den) ∧ r ≠ .pointer none) ∧ Below w.heap.size w w' := by
  have H_a := Lib.hid ha
  clear ha
  have h10 := Ln_ten hk
  have c1 := fun (W : World) (v0 : Value) (hh0 : rat.IsR W v0 q)  => rat.Num_any v0 q W hh0
  have C1 := Lib.hid c1
  clear c1
  have c2 := fun (W : World) (v0 : Value) (hh0 : num.IsZ W v0 q.num)  => num.Abs_any v0 q.num W hh0
  have C2 := Lib.hid c2
  clear c2
  have c3 := fun (W : World)    => tenPower_any k W hk
  have C3 := Lib.hid c3
  clear c3
  have c4 := fun (W : World) (v0 : Value) (v1 : Value) (hh0 : nat.IsN W v0 (Int.natAbs q.num)) (hh1 : nat.IsN W v1 (10 ^ k))  => nat.Mul_any v0 v1 (Int.natAbs q.num) (10 ^ k) W hh0 hh1 ((Ln_abs sq.1).le (by decide)) (h10.le (by decide))
  have C4 := Lib.hid c4
  clear c4
  have c5 := fun (W : World) (v0 : Value) (hh0 : rat.IsR W v0 q)  => rat.Den_any v0 q W hh0
  have C5 := Lib.hid c5
  clear c5
  have c6 := fun (W : World) (v0 : Value) (hh0 : num.IsZ W v0 ((q.den : Nat) : Int))  => num.Abs_any v0 ((q.den : Nat) : Int) W hh0
  rw [Int.natAbs_natCast] at c6
  have C6 := Lib.hid c6
  clear c6
  have c7 := fun (W : World) (v0 : Value) (v1 : Value) (hh0 : nat.IsN W v0 ((Int.natAbs q.num) * (10 ^ k))) (hh1 : nat.IsN W v1 q.den)  => nat.Div_ok v0 v1 ((Int.natAbs q.num) * (10 ^ k)) q.den W hh0 hh1 q.den_pos ((Ln_mul (Ln_abs sq.1) h10).le (by decide)) (sq.2.le (by decide))
  have C7 := Lib.hid c7
  clear c7
  go_enter Tryz.func227, Tryz.ntmps227
  go_wp2_with (first
    | (go_at_call 104; (with_reducible refine (C1.out _ _ H_a.out).mono ?_); rintro e W1 ⟨n, rfl, ⟨h_n, n_n⟩, hb⟩
       have H_n := Lib.hid h_n
       have N_n := Lib.hid n_n
       have HB1 := Lib.hid hb
       clear h_n n_n hb C1)
    | (go_at_call 138; (with_reducible refine (C2.out _ _ H_n.out).mono ?_); rintro e W2 ⟨x, rfl, ⟨h_x, n_x⟩, hb⟩
       have H_x := Lib.hid h_x
       have N_x := Lib.hid n_x
       have HB2 := Lib.hid hb
       clear h_x n_x hb C2)
    | (go_at_call 191; (with_reducible refine (C3.out _ ).mono ?_); rintro e W3 ⟨t, rfl, ⟨h_t, n_t⟩, hb⟩
       have H_t := Lib.hid h_t
       have N_t := Lib.hid n_t
       have HB3 := Lib.hid hb
       clear h_t n_t hb C3)
    | (go_at_call 131; (with_reducible refine (C4.out _ _ _ (H_x.out.below HB3.out) H_t.out).mono ?_); rintro e W4 ⟨m, rfl, ⟨h_m, n_m⟩, hb⟩
       have H_m := Lib.hid h_m
       have N_m := Lib.hid n_m
       have HB4 := Lib.hid hb
       clear h_m n_m hb C4)
    | (go_at_call 101; (with_reducible refine (C5.out _ _ ((((H_a.out.below HB1.out).below HB2.out).below HB3.out).below HB4.out)).mono ?_); rintro e W5 ⟨d, rfl, ⟨h_d, n_d⟩, hb⟩
       have H_d := Lib.hid h_d
       have N_d := Lib.hid n_d
       have HB5 := Lib.hid hb
       clear h_d n_d hb C5)
    | (go_at_call 138; (with_reducible refine (C6.out _ _ H_d.out).mono ?_); rintro e W6 ⟨y, rfl, ⟨h_y, n_y⟩, hb⟩
       have H_y := Lib.hid h_y
       have N_y := Lib.hid n_y
       have HB6 := Lib.hid hb
       clear h_y n_y hb C6)
    | (go_at_call 144; (with_reducible refine (C7.out _ _ _ ((H_m.out.below HB5.out).below HB6.out) H_y.out).mono ?_); rintro e W7 ⟨s, r, rfl, ⟨h_s, n_s⟩, ⟨h_r, n_r⟩, hb⟩
       have H_s := Lib.hid h_s
       have N_s := Lib.hid n_s
       have H_r := Lib.hid h_r
       have N_r := Lib.hid n_r
       have HB7 := Lib.hid hb
       clear h_s n_s h_r n_r hb C7)
    | (fail "no arm"))
  go_ret2
  exact ⟨_, _, rfl, ⟨H_s.out, N_s.out⟩, ⟨H_r.out, N_r.out⟩, (nat.below_tr (nat.below_tr (nat.below_tr (nat.below_tr (nat.below_tr (nat.below_tr HB1.out HB2.out) HB3.out) HB4.out) HB5.out) HB6.out) HB7.out)⟩
set_option maxRecDepth 100000 in
set_option maxHeartbeats 4000000 in
theorem rounded_up (a : Value) (q : Rat) (k : Nat) (mode : Int) (w : World) (ha : IsR w a q) (sq : Lr q 20000) (hk : k ≤ 20) (hu : nearUp (q.num.natAbs * 10 ^ k) q.den mode = true) :
    Calls Tryz.prog 188 #[a, .int .i64 (k : Nat), .int .i64 mode] w fun e w' => ∃ u, e = .returned u ∧ (nat.IsN w' u (nearN (q.num.natAbs * 10 ^ k) q.den mode) ∧ u ≠ .pointer none) ∧ Below w.heap.size w w' := by
  have H_a := Lib.hid ha
  clear ha
  have h10 := Ln_ten hk
  have hT : Ln (q.num.natAbs * 10 ^ k) 20021 := Ln_mul (Ln_abs sq.1) h10
  rw [near_two hu]
  rw [← up_near] at hu
  obtain ⟨T, hTT⟩ : ∃ T, q.num.natAbs * 10 ^ k = T := ⟨_, rfl⟩
  have CO := fun W (v : Value) (h : IsR W v q) => cutOff_any v q k W h sq hk
  rw [hTT] at hT hu CO ⊢
  have CO := Lib.hid CO
  obtain ⟨C, hC⟩ : ∃ C, cmp3 ((T % q.den + T % q.den : Nat) : Int) (q.den : Int) = C := ⟨_, rfl⟩
  rw [hC] at hu
  have hC1 : -1 ≤ C := by rw [← hC]; unfold cmp3; (repeat' split) <;> omega
  have hC2 : C ≤ 1 := by rw [← hC]; unfold cmp3; (repeat' split) <;> omega
  clear hTT
  have c1 := fun (W : World) (v0 : Value) (hh0 : rat.IsR W v0 q)  => CO.out W v0 hh0
  have C1 := Lib.hid c1
  clear c1
  have c2 := fun (W : World) (v0 : Value) (v1 : Value) (hh0 : nat.IsN W v0 (T % q.den)) (hh1 : nat.IsN W v1 (T % q.den))  => nat.Add_any v0 v1 (T % q.den) (T % q.den) W hh0 hh1 ((Ln_less (Nat.mod_le _ _) hT).le (by decide)) ((Ln_less (Nat.mod_le _ _) hT).le (by decide))
  have C2 := Lib.hid c2
  clear c2
  have c3 := fun (W : World) (v0 : Value) (hh0 : rat.IsR W v0 q)  => rat.Den_any v0 q W hh0
  have C3 := Lib.hid c3
  clear c3
  have c4 := fun (W : World) (v0 : Value) (hh0 : num.IsZ W v0 ((q.den : Nat) : Int))  => num.Abs_any v0 ((q.den : Nat) : Int) W hh0
  rw [Int.natAbs_natCast] at c4
  have C4 := Lib.hid c4
  clear c4
  have c5 := fun (W : World) (v0 : Value) (v1 : Value) (hh0 : nat.IsN W v0 ((T % q.den) + (T % q.den))) (hh1 : nat.IsN W v1 q.den)  => nat.Cmp_b v0 v1 ((T % q.den) + (T % q.den)) q.den W hh0 hh1 ((Ln_add (Ln_less (Nat.mod_le _ _) hT) (Ln_less (Nat.mod_le _ _) hT)).le (by decide)) (sq.2.le (by decide))
  rw [hC] at c5
  have C5 := Lib.hid c5
  clear c5
  have c6 := fun (W : World) (v0 : Value) (hh0 : nat.IsN W v0 (T / q.den))  => goesUp_any mode C v0 (T / q.den) W hh0 ((Ln_less (Nat.div_le_self _ _) hT).le (by decide)) (by omega) (by omega)
  rw [hu] at c6
  have C6 := Lib.hid c6
  clear c6
  have c7 := fun (W : World)    => nat.Of_int 1 1 rfl (by decide) W
  have C7 := Lib.hid c7
  clear c7
  have c8 := fun (W : World) (v0 : Value) (v1 : Value) (hh0 : nat.IsN W v0 (T / q.den)) (hh1 : nat.IsN W v1 (1 : Nat))  => nat.Add_any v0 v1 (T / q.den) (1 : Nat) W hh0 hh1 ((Ln_less (Nat.div_le_self _ _) hT).le (by decide)) ((Ln_small (by decide)).le (by decide))
  have C8 := Lib.hid c8
  clear c8
  go_enter Tryz.func188, Tryz.ntmps188
  go_wp2_with (first
    | (go_at_call 227; (with_reducible refine (C1.out _ _ H_a.out).mono ?_); rintro e W1 ⟨s, r, rfl, ⟨h_s, n_s⟩, ⟨h_r, n_r⟩, hb⟩
       have H_s := Lib.hid h_s
       have N_s := Lib.hid n_s
       have H_r := Lib.hid h_r
       have N_r := Lib.hid n_r
       have HB1 := Lib.hid hb
       clear h_s n_s h_r n_r hb C1)
    | (go_at_call 141; (with_reducible refine (C2.out _ _ _ H_r.out H_r.out).mono ?_); rintro e W2 ⟨rr, rfl, ⟨h_rr, n_rr⟩, hb⟩
       have H_rr := Lib.hid h_rr
       have N_rr := Lib.hid n_rr
       have HB2 := Lib.hid hb
       clear h_rr n_rr hb C2)
    | (go_at_call 101; (with_reducible refine (C3.out _ _ ((H_a.out.below HB1.out).below HB2.out)).mono ?_); rintro e W3 ⟨d, rfl, ⟨h_d, n_d⟩, hb⟩
       have H_d := Lib.hid h_d
       have N_d := Lib.hid n_d
       have HB3 := Lib.hid hb
       clear h_d n_d hb C3)
    | (go_at_call 138; (with_reducible refine (C4.out _ _ H_d.out).mono ?_); rintro e W4 ⟨y, rfl, ⟨h_y, n_y⟩, hb⟩
       have H_y := Lib.hid h_y
       have N_y := Lib.hid n_y
       have HB4 := Lib.hid hb
       clear h_y n_y hb C4)
    | (go_at_call 133; (with_reducible refine (C5.out _ _ _ ((H_rr.out.below HB3.out).below HB4.out) H_y.out).mono ?_); rintro e W5 ⟨rfl, hb⟩
       have HB5 := Lib.hid hb
       clear hb C5)
    | (go_at_call 228; (with_reducible refine (C6.out _ _ ((((H_s.out.below HB2.out).below HB3.out).below HB4.out).below HB5.out)).mono ?_); rintro e W6 ⟨rfl, hb⟩
       have HB6 := Lib.hid hb
       clear hb C6)
    | (go_at_call 134; (with_reducible refine (C7.out _ ).mono ?_); rintro e W7 ⟨o, rfl, ⟨h_o, n_o⟩, hb⟩
       have H_o := Lib.hid h_o
       have N_o := Lib.hid n_o
       have HB7 := Lib.hid hb
       clear h_o n_o hb C7)
    | (go_at_call 141; (with_reducible refine (C8.out _ _ _ ((((((H_s.out.below HB2.out).below HB3.out).below HB4.out).below HB5.out).below HB6.out).below HB7.out) H_o.out).mono ?_); rintro e W8 ⟨u, rfl, ⟨h_u, n_u⟩, hb⟩
       have H_u := Lib.hid h_u
       have N_u := Lib.hid n_u
       have HB8 := Lib.hid hb
       clear h_u n_u hb C8)
    | (fail "no arm"))
  go_ret
  exact ⟨_, rfl, ⟨H_u.out, N_u.out⟩, (nat.below_tr (nat.below_tr (nat.below_tr (nat.below_tr (nat.below_tr (nat.below_tr (nat.below_tr HB1.out HB2.out) HB3.out) HB4.out) HB5.out) HB6.out) HB7.out) HB8.out)⟩
set_option maxRecDepth 100000 in
set_option maxHeartbeats 4000000 in
theorem rounded_cut (a : Value) (q : Rat) (k : Nat) (mode : Int) (w : World) (ha : IsR w a q) (sq : Lr q 20000) (hk : k ≤ 20) (hu : nearUp (q.num.natAbs * 10 ^ k) q.den mode = false) :
    Calls Tryz.prog 188 #[a, .int .i64 (k : Nat), .int .i64 mode] w fun e w' => ∃ u, e = .returned u ∧ (nat.IsN w' u (nearN (q.num.natAbs * 10 ^ k) q.den mode) ∧ u ≠ .pointer none) ∧ Below w.heap.size w w' := by
  have H_a := Lib.hid ha
  clear ha
  have h10 := Ln_ten hk
  have hT : Ln (q.num.natAbs * 10 ^ k) 20021 := Ln_mul (Ln_abs sq.1) h10
  rw [near_one hu]
  rw [← up_near] at hu
  obtain ⟨T, hTT⟩ : ∃ T, q.num.natAbs * 10 ^ k = T := ⟨_, rfl⟩
  have CO := fun W (v : Value) (h : IsR W v q) => cutOff_any v q k W h sq hk
  rw [hTT] at hT hu CO ⊢
  have CO := Lib.hid CO
  obtain ⟨C, hC⟩ : ∃ C, cmp3 ((T % q.den + T % q.den : Nat) : Int) (q.den : Int) = C := ⟨_, rfl⟩
  rw [hC] at hu
  have hC1 : -1 ≤ C := by rw [← hC]; unfold cmp3; (repeat' split) <;> omega
  have hC2 : C ≤ 1 := by rw [← hC]; unfold cmp3; (repeat' split) <;> omega
  clear hTT
  have c1 := fun (W : World) (v0 : Value) (hh0 : rat.IsR W v0 q)  => CO.out W v0 hh0
  have C1 := Lib.hid c1
  clear c1
  have c2 := fun (W : World) (v0 : Value) (v1 : Value) (hh0 : nat.IsN W v0 (T % q.den)) (hh1 : nat.IsN W v1 (T % q.den))  => nat.Add_any v0 v1 (T % q.den) (T % q.den) W hh0 hh1 ((Ln_less (Nat.mod_le _ _) hT).le (by decide)) ((Ln_less (Nat.mod_le _ _) hT).le (by decide))
  have C2 := Lib.hid c2
  clear c2
  have c3 := fun (W : World) (v0 : Value) (hh0 : rat.IsR W v0 q)  => rat.Den_any v0 q W hh0
  have C3 := Lib.hid c3
  clear c3
  have c4 := fun (W : World) (v0 : Value) (hh0 : num.IsZ W v0 ((q.den : Nat) : Int))  => num.Abs_any v0 ((q.den : Nat) : Int) W hh0
  rw [Int.natAbs_natCast] at c4
  have C4 := Lib.hid c4
  clear c4
  have c5 := fun (W : World) (v0 : Value) (v1 : Value) (hh0 : nat.IsN W v0 ((T % q.den) + (T % q.den))) (hh1 : nat.IsN W v1 q.den)  => nat.Cmp_b v0 v1 ((T % q.den) + (T % q.den)) q.den W hh0 hh1 ((Ln_add (Ln_less (Nat.mod_le _ _) hT) (Ln_less (Nat.mod_le _ _) hT)).le (by decide)) (sq.2.le (by decide))
  rw [hC] at c5
  have C5 := Lib.hid c5
  clear c5
  have c6 := fun (W : World) (v0 : Value) (hh0 : nat.IsN W v0 (T / q.den))  => goesUp_any mode C v0 (T / q.den) W hh0 ((Ln_less (Nat.div_le_self _ _) hT).le (by decide)) (by omega) (by omega)
  rw [hu] at c6
  have C6 := Lib.hid c6
  clear c6
  go_enter Tryz.func188, Tryz.ntmps188
  go_wp2_with (first
    | (go_at_call 227; (with_reducible refine (C1.out _ _ H_a.out).mono ?_); rintro e W1 ⟨s, r, rfl, ⟨h_s, n_s⟩, ⟨h_r, n_r⟩, hb⟩
       have H_s := Lib.hid h_s
       have N_s := Lib.hid n_s
       have H_r := Lib.hid h_r
       have N_r := Lib.hid n_r
       have HB1 := Lib.hid hb
       clear h_s n_s h_r n_r hb C1)
    | (go_at_call 141; (with_reducible refine (C2.out _ _ _ H_r.out H_r.out).mono ?_); rintro e W2 ⟨rr, rfl, ⟨h_rr, n_rr⟩, hb⟩
       have H_rr := Lib.hid h_rr
       have N_rr := Lib.hid n_rr
       have HB2 := Lib.hid hb
       clear h_rr n_rr hb C2)
    | (go_at_call 101; (with_reducible refine (C3.out _ _ ((H_a.out.below HB1.out).below HB2.out)).mono ?_); rintro e W3 ⟨d, rfl, ⟨h_d, n_d⟩, hb⟩
       have H_d := Lib.hid h_d
       have N_d := Lib.hid n_d
       have HB3 := Lib.hid hb
       clear h_d n_d hb C3)
    | (go_at_call 138; (with_reducible refine (C4.out _ _ H_d.out).mono ?_); rintro e W4 ⟨y, rfl, ⟨h_y, n_y⟩, hb⟩
       have H_y := Lib.hid h_y
       have N_y := Lib.hid n_y
       have HB4 := Lib.hid hb
       clear h_y n_y hb C4)
    | (go_at_call 133; (with_reducible refine (C5.out _ _ _ ((H_rr.out.below HB3.out).below HB4.out) H_y.out).mono ?_); rintro e W5 ⟨rfl, hb⟩
       have HB5 := Lib.hid hb
       clear hb C5)
    | (go_at_call 228; (with_reducible refine (C6.out _ _ ((((H_s.out.below HB2.out).below HB3.out).below HB4.out).below HB5.out)).mono ?_); rintro e W6 ⟨rfl, hb⟩
       have HB6 := Lib.hid hb
       clear hb C6)
    | (fail "no arm"))
  go_ret
  exact ⟨_, rfl, ⟨(((((H_s.out.below HB2.out).below HB3.out).below HB4.out).below HB5.out).below HB6.out), N_s.out⟩, (nat.below_tr (nat.below_tr (nat.below_tr (nat.below_tr (nat.below_tr HB1.out HB2.out) HB3.out) HB4.out) HB5.out) HB6.out)⟩
theorem rounded_any (a : Value) (q : Rat) (k : Nat) (mode : Int) (w : World) (ha : IsR w a q) (sq : Lr q 20000) (hk : k ≤ 20) :
    Calls Tryz.prog 188 #[a, .int .i64 (k : Nat), .int .i64 mode] w fun e w' => ∃ u, e = .returned u ∧ (nat.IsN w' u (nearN (q.num.natAbs * 10 ^ k) q.den mode) ∧ u ≠ .pointer none) ∧ Below w.heap.size w w' := by
  rcases hu : nearUp (q.num.natAbs * 10 ^ k) q.den mode with _ | _
  · exact rounded_cut a q k mode w ha sq hk hu
  · exact rounded_up a q k mode w ha sq hk hu
end Go.Proofs.YtlhmfgbaefaneaaGreatDoor.dec
namespace Go.Proofs.YtlhmfgbaefaneaaGreatDoor.dec
open Go.RowKit Go.Proofs.YtlhmfgbaefaneaaGreatDoor.nat Go.Proofs.YtlhmfgbaefaneaaGreatDoor.num
open Go.Proofs.YtlhmfgbaefaneaaGreatDoor.ref (str str_size str_append)
theorem ext_ahead (a b : List UInt8) : (str (a ++ 46 :: b)).extract 0 a.length = str a := by apply ByteArray.ext; simp [str]
theorem ext_behind (a b : List UInt8) : (str (a ++ 46 :: b)).extract (a.length + 1) (a ++ 46 :: b).length = str b := by
  apply ByteArray.ext
  simp [str]
  rw [List.take_of_length_le (by omega)]
theorem index_none {l : List UInt8} (h : ∀ c ∈ l, c ≠ 46) : Lib.indexByte l 46 = -1 := by
  induction l with
  | nil => rfl
  | cons b l ih =>
    unfold Lib.indexByte
    have hb : (b == 46) = false := by simpa using h b (by simp)
    rw [hb, ih fun c hc => h c (by simp [hc])]
    rfl
theorem index_at {a b : List UInt8} (h : ∀ c ∈ a, c ≠ 46) : Lib.indexByte (a ++ 46 :: b) 46 = a.length := by
  induction a with
  | nil => rfl
  | cons x a ih =>
    have hx : (x == 46) = false := by simpa using h x (by simp)
    have hi := ih fun c hc => h c (by simp [hc])
    show Lib.indexByte (x :: (a ++ 46 :: b)) 46 = _
    unfold Lib.indexByte
    rw [hx, hi]
    have h1 : ((a.length : Int) == -1) = false := by simp
    simp only [Bool.false_eq_true, if_false, h1, List.length_cons]
    omega
set_option maxRecDepth 100000 in
theorem IndexByte_point (l : List UInt8) (w : World) :
    Calls Tryz.prog 286 #[.string (str l), .int .u8 46] w fun e w' => e = .returned (.int .i64 (Lib.indexByte l 46)) ∧ w = w' := by
  have hr := fun w => Lib.run_indexByteString (P := Tryz.prog) (str l) 46 w
  rw [show (str l).data.toList = l from rfl, show ((46 : Int).toNat.toUInt8) = 46 by decide] at hr
  generalize str l = s at *
  go_enter Tryz.func286, Tryz.ntmps286
  go_wp2
  rw [run_callFunc_extern Tryz.func288 (by kernel_rfl) (by kernel_rfl) (by kernel_rfl) (e := Extern.BytealgIndexByte.indexByte) (by kernel_rfl), hr]
  simp only [Result.andThen]
  rw [Oper.upon_value]
  go_wp2
  go_ret
  exact ⟨rfl, rfl⟩
set_option maxRecDepth 100000 in
theorem Index_point (l : List UInt8) (w : World) :
    Calls Tryz.prog 277 #[.string (str l), .string ⟨#[46]⟩] w fun e w' => e = .returned (.int .i64 (Lib.indexByte l 46)) ∧ w = w' := by
  have HI := Lib.hid (IndexByte_point l w)
  have kz : (⟨#[46]⟩ : ByteArray).size = 1 := rfl
  have kg : ∀ h : 0 < (⟨#[46]⟩ : ByteArray).size, ((⟨#[46]⟩ : ByteArray)[0]'h).toNat = 46 := fun _ => rfl
  have hk : ((⟨#[46]⟩ : ByteArray).toList == (str l).toList) = decide (l = [46]) := by
    rw [ByteArray.toList_eq, ByteArray.toList_eq]
    simp [str]
    by_cases h : l = [46]
    · rw [decide_eq_true h, h]; rfl
    · rw [decide_eq_false h, beq_eq_false_iff_ne]; exact fun e => h e.symm
  by_cases hl : l = [46]
  · rw [decide_eq_true hl] at hk
    have h0 : Lib.indexByte l 46 = 0 := by rw [hl]; rfl
    rw [h0]
    generalize (⟨#[46]⟩ : ByteArray) = k at *
    generalize str l = s at *
    clear hl h0
    go_enter Tryz.func277, Tryz.ntmps277
    go_wp2
    go_ret
    exact ⟨rfl, rfl⟩
  · rw [decide_eq_false hl] at hk
    generalize (⟨#[46]⟩ : ByteArray) = k at *
    generalize str l = s at *
    clear hl
    go_enter Tryz.func277, Tryz.ntmps277
    go_wp2_with (first
      | (go_at_call 286; (with_reducible refine (HI.out).mono ?_); rintro e w1 ⟨rfl, rfl⟩)
      | (fail "no arm"))
    go_ret
    exact ⟨rfl, rfl⟩
set_option maxRecDepth 100000 in
theorem Cut_whole (l : List UInt8) (w : World) (_hl : l.length ≤ 4611686018427387904) (h : ∀ c ∈ l, c ≠ 46) :
    Calls Tryz.prog 230 #[.string (str l), .string ⟨#[46]⟩] w fun e w' => e = .returned (.tuple #[.string (str l), .string (str []), .bool false]) ∧ Below w.heap.size w w' := by
  have hI := Index_point l w
  rw [index_none h] at hI
  have HI := Lib.hid hI
  have he : (⟨#[]⟩ : ByteArray) = str [] := rfl
  generalize (⟨#[46]⟩ : ByteArray) = k at *
  generalize str l = s at *
  clear hI
  have HC : Hid (Calls Tryz.prog 264 #[.string s, .string k] w fun e w' => e = .returned (.tuple #[.string s, .string ⟨#[]⟩, .bool false]) ∧ w = w') := Lib.hid (by
    go_enter Tryz.func264, Tryz.ntmps264
    go_wp2_with (first
      | (go_at_call 277; (with_reducible refine (HI.out).mono ?_); rintro e w1 ⟨rfl, rfl⟩)
      | (fail "no arm"))
    go_ret3
    exact ⟨rfl, rfl⟩)
  rw [← he]
  clear he
  go_enter Tryz.func230, Tryz.ntmps230
  go_wp2_with (first
    | (go_at_call 264; (with_reducible refine (HC.out).mono ?_); rintro e w1 ⟨rfl, rfl⟩)
    | (fail "no arm"))
  go_ret3
  exact ⟨rfl, Below.refl _ _⟩
set_option maxRecDepth 100000 in
theorem Cut_point (a b : List UInt8) (w : World) (hl : (a ++ 46 :: b).length ≤ 4611686018427387904) (h : ∀ c ∈ a, c ≠ 46) :
    Calls Tryz.prog 230 #[.string (str (a ++ 46 :: b)), .string ⟨#[46]⟩] w fun e w' => e = .returned (.tuple #[.string (str a), .string (str b), .bool true]) ∧ Below w.heap.size w w' := by
  have hI := Index_point (a ++ 46 :: b) w
  rw [index_at h] at hI
  have HI := Lib.hid hI
  have HA := Lib.hid (ext_ahead a b)
  have HB := Lib.hid (ext_behind a b)
  have hz : (str (a ++ 46 :: b)).size = a.length + (b.length + 1) := by rw [str_size]; simp
  have kz : (⟨#[46]⟩ : ByteArray).size = 1 := rfl
  have hlen : (a ++ 46 :: b).length = a.length + (b.length + 1) := by simp
  rw [hlen] at HB hl
  generalize (⟨#[46]⟩ : ByteArray) = k at *
  generalize str (a ++ 46 :: b) = s at *
  generalize str a = sa at *
  generalize str b = sb at *
  generalize a.length = A at *
  generalize b.length = B at *
  clear hI hlen h
  have HC : Hid (Calls Tryz.prog 264 #[.string s, .string k] w fun e w' => e = .returned (.tuple #[.string sa, .string sb, .bool true]) ∧ Below w.heap.size w w') := Lib.hid (by
    go_enter Tryz.func264, Tryz.ntmps264
    go_wp2_with (first
      | (go_at_call 277; (with_reducible refine (HI.out).mono ?_); rintro e w1 ⟨rfl, rfl⟩)
      | (fail "no arm"))
    go_quiet (fail)
    go_wp2
    go_ret3
    exact ⟨by rw [HA.out, HB.out]; rfl, drew_below _ _⟩)
  go_enter Tryz.func230, Tryz.ntmps230
  go_wp2_with (first
    | (go_at_call 264; (with_reducible refine (HC.out).mono ?_); rintro e w1 ⟨rfl, hb⟩)
    | (fail "no arm"))
  go_ret3
  exact ⟨rfl, hb⟩
set_option maxRecDepth 100000 in
theorem Mul_one (n : Nat) (w : World) (hn : n ≤ 21) :
    Calls Tryz.prog 155 #[.int .u64 1, .int .u64 (n : Nat)] w fun e w' => e = .returned (.tuple #[.int .u64 0, .int .u64 (n : Nat)]) ∧ w = w' := by
  have M := nat.Mul64_any 1 n (by omega) (by omega) w
  rw [show 1 * n / 18446744073709551616 = 0 by omega, show 1 * n % 18446744073709551616 = n by omega] at M
  have HM : Hid (Calls Tryz.prog 201 #[.int .u64 1, .int .u64 (n : Nat)] w fun e w' => e = .returned (.tuple #[.int .u64 0, .int .u64 (n : Nat)]) ∧ w' = w) := Lib.hid M
  clear M
  go_enter Tryz.func155, Tryz.ntmps155
  go_wp2_with (first
    | (go_at_call 201; (with_reducible refine (HM.out).mono ?_); rintro e w1 ⟨rfl, rfl⟩)
    | (fail "no arm"))
  go_ret2
  exact ⟨rfl, rfl⟩
set_option maxRecDepth 100000 in
theorem HasPrefix_any (s p : ByteArray) (b : Bool) (w : World) (hp : p.size ≤ s.size) (_hs : s.size ≤ 4611686018427387904) (hx : ((s.extract 0 p.size).toList == p.toList) = b) :
    Calls Tryz.prog 156 #[.string s, .string p] w fun e w' => e = .returned (.bool b) ∧ w = w' := by
  have HC : Hid (Calls Tryz.prog 202 #[.string s, .string p] w fun e w' => e = .returned (.bool b) ∧ w = w') := Lib.hid (by
    go_enter Tryz.func202, Tryz.ntmps202
    go_wp2
    go_ret
    exact ⟨rfl, rfl⟩)
  clear hx
  go_enter Tryz.func156, Tryz.ntmps156
  go_wp2_with (first
    | (go_at_call 202; (with_reducible refine (HC.out).mono ?_); rintro e w1 ⟨rfl, rfl⟩)
    | (fail "no arm"))
  go_ret
  exact ⟨rfl, rfl⟩
theorem zeroes_ext (n : Nat) (hn : n ≤ 64) : (⟨#[48, 48, 48, 48, 48, 48, 48, 48, 48, 48, 48, 48, 48, 48, 48, 48, 48, 48, 48, 48, 48, 48, 48, 48, 48, 48, 48, 48, 48, 48, 48, 48, 48, 48, 48, 48, 48, 48, 48, 48, 48, 48, 48, 48, 48, 48, 48, 48, 48, 48, 48, 48, 48, 48, 48, 48, 48, 48, 48, 48, 48, 48, 48, 48]⟩ : ByteArray).extract 0 n = str (List.replicate n 48) := by
  have h : ∀ L : List UInt8, (str L).extract 0 n = str (L.take n) := fun L => by apply ByteArray.ext; simp [str]
  rw [show (⟨#[48, 48, 48, 48, 48, 48, 48, 48, 48, 48, 48, 48, 48, 48, 48, 48, 48, 48, 48, 48, 48, 48, 48, 48, 48, 48, 48, 48, 48, 48, 48, 48, 48, 48, 48, 48, 48, 48, 48, 48, 48, 48, 48, 48, 48, 48, 48, 48, 48, 48, 48, 48, 48, 48, 48, 48, 48, 48, 48, 48, 48, 48, 48, 48]⟩ : ByteArray) = str (List.replicate 64 48) from rfl, h, List.take_replicate, Nat.min_eq_left hn]
set_option maxRecDepth 100000 in
theorem Repeat_nought (z : Int) (n : Nat) (hz : z = n) (w : World) (h1 : 1 ≤ n) (h2 : n ≤ 21) :
    Calls Tryz.prog 121 #[.string ⟨#[48]⟩, .int .i64 z] w fun e w' => e = .returned (.string (str (List.replicate n 48))) ∧ Below w.heap.size w w' := by
  subst hz
  rcases (show n = 1 ∨ 2 ≤ n by omega) with rfl | h3
  · have he : (⟨#[48]⟩ : ByteArray) = str (List.replicate 1 48) := rfl
    rw [he]
    generalize str (List.replicate 1 48) = s at *
    clear he
    go_enter Tryz.func121, Tryz.ntmps121
    go_wp2
    go_ret
    exact ⟨rfl, Below.refl _ _⟩
  · have HM := Lib.hid (fun W => Mul_one n W h2)
    have HS := Lib.hid (fun W => HasPrefix_any ⟨#[32, 32, 32, 32, 32, 32, 32, 32, 32, 32, 32, 32, 32, 32, 32, 32, 32, 32, 32, 32, 32, 32, 32, 32, 32, 32, 32, 32, 32, 32, 32, 32, 32, 32, 32, 32, 32, 32, 32, 32, 32, 32, 32, 32, 32, 32, 32, 32, 32, 32, 32, 32, 32, 32, 32, 32, 32, 32, 32, 32, 32, 32, 32, 32, 32, 32, 32, 32, 32, 32, 32, 32, 32, 32, 32, 32, 32, 32, 32, 32, 32, 32, 32, 32, 32, 32, 32, 32, 32, 32, 32, 32, 32, 32, 32, 32, 32, 32, 32, 32, 32, 32, 32, 32, 32, 32, 32, 32, 32, 32, 32, 32, 32, 32, 32, 32, 32, 32, 32, 32, 32, 32, 32, 32, 32, 32, 32, 32]⟩ ⟨#[48]⟩ false W (by decide) (by decide) (by decide +kernel))
    have HD := Lib.hid (fun W => HasPrefix_any ⟨#[45, 45, 45, 45, 45, 45, 45, 45, 45, 45, 45, 45, 45, 45, 45, 45, 45, 45, 45, 45, 45, 45, 45, 45, 45, 45, 45, 45, 45, 45, 45, 45, 45, 45, 45, 45, 45, 45, 45, 45, 45, 45, 45, 45, 45, 45, 45, 45, 45, 45, 45, 45, 45, 45, 45, 45, 45, 45, 45, 45, 45, 45, 45, 45, 45, 45, 45, 45, 45, 45, 45, 45, 45, 45, 45, 45, 45, 45, 45, 45, 45, 45, 45, 45, 45, 45, 45, 45, 45, 45, 45, 45, 45, 45, 45, 45, 45, 45, 45, 45, 45, 45, 45, 45, 45, 45, 45, 45, 45, 45, 45, 45, 45, 45, 45, 45, 45, 45, 45, 45, 45, 45, 45, 45, 45, 45, 45, 45]⟩ ⟨#[48]⟩ false W (by decide) (by decide) (by decide +kernel))
    have HZ := Lib.hid (fun W => HasPrefix_any ⟨#[48, 48, 48, 48, 48, 48, 48, 48, 48, 48, 48, 48, 48, 48, 48, 48, 48, 48, 48, 48, 48, 48, 48, 48, 48, 48, 48, 48, 48, 48, 48, 48, 48, 48, 48, 48, 48, 48, 48, 48, 48, 48, 48, 48, 48, 48, 48, 48, 48, 48, 48, 48, 48, 48, 48, 48, 48, 48, 48, 48, 48, 48, 48, 48]⟩ ⟨#[48]⟩ true W (by decide) (by decide) (by decide +kernel))
    have hx := zeroes_ext n (by omega)
    have hsz : (⟨#[48, 48, 48, 48, 48, 48, 48, 48, 48, 48, 48, 48, 48, 48, 48, 48, 48, 48, 48, 48, 48, 48, 48, 48, 48, 48, 48, 48, 48, 48, 48, 48, 48, 48, 48, 48, 48, 48, 48, 48, 48, 48, 48, 48, 48, 48, 48, 48, 48, 48, 48, 48, 48, 48, 48, 48, 48, 48, 48, 48, 48, 48, 48, 48]⟩ : ByteArray).size = 64 := rfl
    generalize str (List.replicate n 48) = R at *
    have kz : (⟨#[48]⟩ : ByteArray).size = 1 := rfl
    have kg : ∀ h : 0 < (⟨#[48]⟩ : ByteArray).size, ((⟨#[48]⟩ : ByteArray)[0]'h).toNat = 48 := fun _ => rfl
    generalize (⟨#[48]⟩ : ByteArray) = k at *
    have hn0 : ((n : Int) == 0) = false := by simp; omega
    have hn1 : ((n : Int) == 1) = false := by simp; omega
    go_enter Tryz.func121, Tryz.ntmps121
    go_wp2_with (first
      | (go_at_call 155; (with_reducible refine (HM.out _).mono ?_); rintro e w1 ⟨rfl, rfl⟩)
      | (go_at_call 156; (with_reducible refine (HS.out _).mono ?_); rintro e w1 ⟨rfl, rfl⟩)
      | (go_at_call 156; (with_reducible refine (HD.out _).mono ?_); rintro e w1 ⟨rfl, rfl⟩)
      | (go_at_call 156; (with_reducible refine (HZ.out _).mono ?_); rintro e w1 ⟨rfl, rfl⟩)
      | (fail "no arm"))
    go_ret
    exact ⟨rfl, Below.refl _ _⟩
end Go.Proofs.YtlhmfgbaefaneaaGreatDoor.dec
namespace Go.Proofs.YtlhmfgbaefaneaaGreatDoor.ref
def DecBody (t : List UInt8) (n k : Nat) : Prop :=
  (k = 0 ∧ Numeral t ∧ n = seg t 0 t.length) ∨
    ∃ a b, t = a ++ 46 :: b ∧ Numeral a ∧ b.length = k ∧ 1 ≤ k ∧ k ≤ 20 ∧ (∀ i, i < k → IsDig b i) ∧ n = seg a 0 a.length * 10 ^ k + seg b 0 k
def DecForm (l : List UInt8) (neg : Bool) (n k : Nat) : Prop :=
  l.length ≤ 60 ∧ ∃ t, l = (if neg then 45 :: t else t) ∧ (neg = true → n ≠ 0) ∧ DecBody t n k
theorem numeral_ne {l : List UInt8} (h : Numeral l) {d : UInt8} (hd : d.toNat < 48) {c : UInt8} (hc : c ∈ l) : c ≠ d := by
  rintro rfl
  have := numeral_mem h hc
  omega
theorem point_first (l : List UInt8) : (∀ c ∈ l, c ≠ 46) ∨ ∃ a b, l = a ++ 46 :: b ∧ ∀ c ∈ a, c ≠ 46 := by
  induction l with
  | nil => exact Or.inl fun c h => by simp at h
  | cons x l ih =>
    by_cases hx : x = 46
    · exact Or.inr ⟨[], l, by rw [hx]; rfl, fun c h => by simp at h⟩
    · rcases ih with h | ⟨a, b, rfl, h⟩
      · refine Or.inl fun c hc => ?_
        rcases List.mem_cons.1 hc with rfl | hc
        · exact hx
        · exact h c hc
      · refine Or.inr ⟨x :: a, b, rfl, fun c hc => ?_⟩
        rcases List.mem_cons.1 hc with rfl | hc
        · exact hx
        · exact h c hc
theorem cut_inj {d : UInt8} {a b a' b' : List UInt8} (he : a ++ d :: b = a' ++ d :: b') (hn : ∀ c ∈ a, c ≠ d) (hn' : ∀ c ∈ a', c ≠ d) : a = a' ∧ b = b' := by
  induction a generalizing a' with
  | nil =>
    rcases a' with _ | ⟨c, a'⟩
    · simp at he; exact ⟨rfl, he⟩
    · simp at he
      exact absurd he.1.symm (hn' c (by simp))
  | cons x a ih =>
    rcases a' with _ | ⟨c, a'⟩
    · simp at he
      exact absurd he.1 (hn x (by simp))
    · simp at he
      obtain ⟨rfl, he⟩ := he
      obtain ⟨rfl, rfl⟩ := ih he (fun c hc => hn c (by simp [hc])) (fun c hc => hn' c (by simp [hc]))
      exact ⟨rfl, rfl⟩
theorem DecBody.whole {t : List UInt8} {n k : Nat} (h : DecBody t n k) (hn : ∀ c ∈ t, c ≠ 46) : k = 0 ∧ Numeral t ∧ n = seg t 0 t.length := by
  rcases h with h | ⟨a, b, rfl, _⟩
  · exact h
  · exact absurd rfl (hn 46 (by simp))
theorem DecBody.parts {a b : List UInt8} {n k : Nat} (h : DecBody (a ++ 46 :: b) n k) (hn : ∀ c ∈ a, c ≠ 46) :
    Numeral a ∧ b.length = k ∧ 1 ≤ k ∧ k ≤ 20 ∧ (∀ i, i < k → IsDig b i) ∧ n = seg a 0 a.length * 10 ^ k + seg b 0 k := by
  rcases h with ⟨-, h, -⟩ | ⟨a', b', he, h1, h2⟩
  · exact absurd rfl (numeral_ne h (d := 46) (by decide) (by simp))
  · obtain ⟨rfl, rfl⟩ := cut_inj he hn fun c hc => numeral_ne h1 (by decide) hc
    exact ⟨h1, h2⟩
theorem DecBody.head {t : List UInt8} {n k : Nat} (h : DecBody t n k) : ∃ c u, t = c :: u ∧ 48 ≤ c.toNat ∧ c.toNat ≤ 57 := by
  rcases h with ⟨-, h, -⟩ | ⟨a, b, rfl, h, -⟩
  · rcases t with _ | ⟨c, u⟩
    · exact absurd h.1 (by simp)
    · exact ⟨c, u, rfl, numeral_mem h (by simp)⟩
  · rcases a with _ | ⟨c, u⟩
    · exact absurd h.1 (by simp)
    · exact ⟨c, u ++ 46 :: b, rfl, numeral_mem h (by simp)⟩
theorem DecForm.minus {t : List UInt8} {neg : Bool} {n k : Nat} (h : DecForm (45 :: t) neg n k) : neg = true ∧ n ≠ 0 ∧ DecBody t n k := by
  obtain ⟨-, u, he, h1, h2⟩ := h
  cases neg
  · obtain ⟨c, v, rfl, hc⟩ := h2.head
    simp at he
    obtain ⟨rfl, -⟩ := he
    simp at hc
  · simp at he
    subst he
    exact ⟨rfl, h1 rfl, h2⟩
theorem DecForm.plain {l : List UInt8} {neg : Bool} {n k : Nat} (h : DecForm l neg n k) (hl : ∀ t, l ≠ 45 :: t) : neg = false ∧ DecBody l n k := by
  obtain ⟨-, u, he, h1, h2⟩ := h
  cases neg
  · simp at he
    subst he
    exact ⟨rfl, h2⟩
  · exact absurd he (hl u)
theorem DecBody.inj {t : List UInt8} {n k n' k' : Nat} (h : DecBody t n k) (h' : DecBody t n' k') : n = n' ∧ k = k' := by
  rcases point_first t with hn | ⟨a, b, rfl, hn⟩
  · obtain ⟨rfl, -, rfl⟩ := h.whole hn
    obtain ⟨rfl, -, rfl⟩ := h'.whole hn
    exact ⟨rfl, rfl⟩
  · obtain ⟨-, rfl, -, -, -, rfl⟩ := h.parts hn
    obtain ⟨-, rfl, -, -, -, rfl⟩ := h'.parts hn
    exact ⟨rfl, rfl⟩
theorem DecForm.inj {l : List UInt8} {p p' : Bool} {n k n' k' : Nat} (h : DecForm l p n k) (h' : DecForm l p' n' k') : p = p' ∧ n = n' ∧ k = k' := by
  by_cases hm : ∃ t, l = 45 :: t
  · obtain ⟨t, rfl⟩ := hm
    obtain ⟨rfl, -, h1⟩ := h.minus
    obtain ⟨rfl, -, h2⟩ := h'.minus
    exact ⟨rfl, h1.inj h2⟩
  · obtain ⟨rfl, h1⟩ := h.plain fun t e => hm ⟨t, e⟩
    obtain ⟨rfl, h2⟩ := h'.plain fun t e => hm ⟨t, e⟩
    exact ⟨rfl, h1.inj h2⟩
end Go.Proofs.YtlhmfgbaefaneaaGreatDoor.ref
namespace Go.Proofs.YtlhmfgbaefaneaaGreatDoor.ref
open Go.RowKit
theorem wrap_digit {c : Nat} (h1 : 48 ≤ c) (h2 : c ≤ 57) : IntKind.u64.wrap (IntKind.u8.wrap ((c : Int) - 48)) = (c : Int) - 48 := by
  rcases (show c = 48 ∨ c = 49 ∨ c = 50 ∨ c = 51 ∨ c = 52 ∨ c = 53 ∨ c = 54 ∨ c = 55 ∨ c = 56 ∨ c = 57 by omega) with rfl | rfl | rfl | rfl | rfl | rfl | rfl | rfl | rfl | rfl <;> rfl
theorem dec_step {b : List UInt8} {X i Y c : Nat} (hY : Y = X * 10 ^ i + seg b 0 i) (hc : ch b i = c) : Y * 10 + (c - 48) = X * 10 ^ (i + 1) + seg b 0 (i + 1) := by
  have h : seg b 0 (i + 1) = seg b 0 i * 10 + (ch b (0 + i) - 48) := rfl
  rw [h, Nat.zero_add, hc, hY, Nat.pow_succ, Nat.add_mul, Nat.mul_assoc, Nat.add_assoc]
theorem dec_low {Y i d : Nat} (h : Y < 10 ^ (60 + i)) (hd : d ≤ 9) : Y * 10 + d < 10 ^ (60 + (i + 1)) := by
  rw [show 60 + (i + 1) = (60 + i) + 1 by omega, Nat.pow_succ]
  omega
end Go.Proofs.YtlhmfgbaefaneaaGreatDoor.ref
