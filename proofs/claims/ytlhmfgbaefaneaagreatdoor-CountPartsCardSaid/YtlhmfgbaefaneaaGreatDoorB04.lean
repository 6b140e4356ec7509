/-
  The steps of the walks, part 4: Month, MonthB, Easter, Holi, HoliB, HoliC.
-/
import Derived.Deep.RegionHeld3
import Derived.BigQuiet
import Derived.Deep.QuietTactic
import Derived.Test.YtlhmfgbaefaneaaGreatDoorB03
import Derived.Test.YtlhmfgbaefaneaaGreatDoorB02
namespace Go.Proofs.YtlhmfgbaefaneaaGreatDoor.month
open Go Go.RowKit Go.Proofs.YtlhmfgbaefaneaaGreatDoor.day Go.Proofs.YtlhmfgbaefaneaaGreatDoor.date Go.Proofs.YtlhmfgbaefaneaaGreatDoor.law6
open Go.Proofs.YtlhmfgbaefaneaaGreatDoor.ref6 (CAt quiet_same drewN_below6 clip)
set_option maxRecDepth 100000 in
theorem inMonths_any (y m d : Int) (h0 : 1000 ≤ y) (h1 : y ≤ 3000) (m0 : 1 ≤ m) (m1 : m ≤ 12) (w : World) :
    Calls Tryz.prog 82 #[.agg #[.int .i64 y, .int .i64 m, .int .i64 d]] w fun e w' => e = .returned (.int .i64 (12 * y + m - 1)) ∧ Below w.heap.size w w' := by
  obtain ⟨c0, c1, -⟩ := (CAt.new w y m d).cells
  have HB := Lib.hid ((Below.refl w.heap.size w).alloc (Nat.le_refl _) (.cells #[.int .i64 y, .int .i64 m, .int .i64 d] 23))
  go_enter Tryz.func82, Tryz.ntmps82
  go_wp2
  go_ret
  exact ⟨rfl, HB.out⟩
set_option maxRecDepth 100000 in
theorem fromMonths_any (t : Int) (h0 : 0 ≤ t) (h1 : t ≤ 1000000) (w : World) :
    Calls Tryz.prog 81 #[.int .i64 t] w fun e w' => e = .returned (.agg #[.int .i64 (t / 12), .int .i64 (t % 12 + 1), .int .i64 0]) ∧ Below w.heap.size w w' := by
  have HB := Lib.hid ((Below.refl w.heap.size w).alloc (Nat.le_refl _) (.cells #[.int .i64 (t / 12), .int .i64 (t % 12 + 1), .int .i64 0] 23))
  obtain ⟨c0, c1, c2, -⟩ := (CAt.new w (t / 12) (t % 12 + 1) 0).cells
  go_enter Tryz.func81, Tryz.ntmps81
  go_wp2
  refine bodyPost_ret (v := .agg #[.int .i64 (t / 12), .int .i64 (t % 12 + 1), .int .i64 0]) ?_ rfl ⟨rfl, HB.out⟩
  simp [results, Tryz.results81, go_sem, c0, c1, c2]
set_option maxRecDepth 100000 in
set_option maxHeartbeats 4000000 in
theorem isLast_any (y m d : Int) (w : World) (hL : Lens w) :
    Calls Tryz.prog 83 #[.agg #[.int .i64 y, .int .i64 m, .int .i64 d]] w fun e w' => e = .returned (.bool (decide (d = mlen y m))) ∧ Below w.heap.size w w' := by
  have HL := Lib.hid (fun (n : Nat) (o : Obj) => Length_any y m ((w.alloc o).drewN n) ((hL.alloc o).drewN n))
  obtain ⟨c0, c1, c2, -⟩ := (CAt.new w y m d).cells
  generalize mlen y m = L at *
  clear hL
  go_enter Tryz.func83, Tryz.ntmps83
  go_wp2
  go_quiet (first | (go_at_call 33; with_reducible exact quiet_same (HL.out _ _)))
  go_wp2
  go_ret
  refine ⟨by congr 2, drewN_below6 ((Below.refl _ _).alloc (Nat.le_refl _) _) nq⟩
set_option maxRecDepth 100000 in
set_option maxHeartbeats 4000000 in
theorem Last_at (y m d : Int) (h : IsCivil y m d) (w : World) (hw : Wd w) :
    Calls Tryz.prog 38 #[.int .i64 (dayOf y m d)] w fun e w' => e = .returned (.bool (decide (d = mlen y m))) ∧ Below w.heap.size w w' := by
  have HC := Lib.hid (Civil_at y m d h w hw.lens)
  have HL := Lib.hid (fun W (hb : Below w.heap.size w W) => isLast_any y m d W (hw.keep hb).lens)
  generalize dayOf y m d = n at *
  generalize decide (d = mlen y m) = L at *
  clear h hw
  go_enter Tryz.func38, Tryz.ntmps38
  go_wp2_with (first
    | (go_at_call 20; (with_reducible refine (HC.out).mono ?_); rintro e w1 ⟨rfl, hb⟩
       obtain ⟨c0, c1, c2, -⟩ := (CAt.new w1 y m d).cells
       have HB := Lib.hid (hb.alloc hb.size (.cells #[.int .i64 y, .int .i64 m, .int .i64 d] 23)); clear hb HC)
    | (go_at_call 83; (with_reducible refine (HL.out _ HB.out).mono ?_); rintro e w2 ⟨rfl, hb⟩
       have HB2 := Lib.hid (HB.out.trans (hb.mono HB.out.size)); clear hb HL)
    | (fail "no arm"))
  go_ret
  exact ⟨rfl, HB2.out⟩
set_option maxRecDepth 100000 in
set_option maxHeartbeats 4000000 in
theorem End_yes (y m : Int) (h0 : 1900 ≤ y) (h1 : y ≤ 2199) (m0 : 1 ≤ m) (m1 : m ≤ 12) (w : World) (hw : Wd w) :
    Calls Tryz.prog 37 #[.int .i64 y, .int .i64 m] w fun e w' => e = .returned (.tuple #[.int .i64 (dayOf y m (mlen y m)), .nilIface]) ∧ Below w.heap.size w w' := by
  have hm := mlen_lo (y := y) m0 m1
  have HL := Lib.hid (Length_any y m w hw.lens)
  have HO := Lib.hid (Of_yes y m (mlen y m) ⟨h0, h1, by omega, by omega⟩ w hw.lens)
  generalize mlen y m = L at *
  go_enter Tryz.func37, Tryz.ntmps37
  go_wp2_with (first
    | (go_at_call 33; (with_reducible refine (HL.out).mono ?_); rintro e w1 ⟨rfl, rfl⟩; clear HL)
    | (go_at_call 22; (with_reducible refine (HO.out).mono ?_); rintro e w2 ⟨rfl, hb⟩; have HB := Lib.hid hb; clear HO hb)
    | (fail "no arm"))
  go_ret2
  exact ⟨rfl, HB.out⟩
set_option maxRecDepth 100000 in
set_option maxHeartbeats 4000000 in
theorem End_no (y m : Int) (h : ¬ (1900 ≤ y ∧ y ≤ 2199 ∧ 1 ≤ m ∧ m ≤ 12)) (w : World) (hw : Wd w) :
    Calls Tryz.prog 37 #[.int .i64 y, .int .i64 m] w fun e w' => e = .returned (.tuple #[.int .i64 0, errOf 4]) ∧ Below w.heap.size w w' := by
  have HL := Lib.hid (Length_any y m w hw.lens)
  have HO := Lib.hid (Of_no y m (mlen y m) (fun hc => h (by have := hc.month; exact ⟨hc.1, hc.2.1, this.1, this.2⟩)) w hw.lens)
  unfold errOf at *
  generalize mlen y m = L at *
  clear h
  go_enter Tryz.func37, Tryz.ntmps37
  go_wp2_with (first
    | (go_at_call 33; (with_reducible refine (HL.out).mono ?_); rintro e w1 ⟨rfl, rfl⟩; clear HL)
    | (go_at_call 22; (with_reducible refine (HO.out).mono ?_); rintro e w2 ⟨rfl, hb⟩; have HB := Lib.hid hb; clear HO hb)
    | (fail "no arm"))
  go_ret2
  exact ⟨rfl, HB.out⟩
end Go.Proofs.YtlhmfgbaefaneaaGreatDoor.month
namespace Go.Proofs.YtlhmfgbaefaneaaGreatDoor.month
open Go Go.RowKit Go.Proofs.YtlhmfgbaefaneaaGreatDoor.day Go.Proofs.YtlhmfgbaefaneaaGreatDoor.date Go.Proofs.YtlhmfgbaefaneaaGreatDoor.law6
open Go.Proofs.YtlhmfgbaefaneaaGreatDoor.ref6 (CAt quiet_same drewN_below6 clip)
set_option maxRecDepth 100000 in
set_option maxHeartbeats 4000000 in
theorem Between_at (y m d : Int) (h : IsCivil y m d) (y' m' d' : Int) (h' : IsCivil y' m' d') (w : World) (hw : Wd w) :
    Calls Tryz.prog 40 #[.int .i64 (dayOf y m d), .int .i64 (dayOf y' m' d')] w fun e w' => e = .returned (.int .i64 (12 * (y' - y) + (m' - m))) ∧ Below w.heap.size w w' := by
  have HC := Lib.hid (Civil_at y m d h w hw.lens)
  have HC2 := Lib.hid (fun W (hb : Below w.heap.size w W) => Civil_at y' m' d' h' W (hw.keep hb).lens)
  obtain ⟨a1, a2, -⟩ := id h
  obtain ⟨b1, b2, -⟩ := id h'
  obtain ⟨a3, a4⟩ := h.month
  obtain ⟨b3, b4⟩ := h'.month
  have HA := Lib.hid (fun W => inMonths_any y m d (by omega) (by omega) a3 a4 W)
  have HA2 := Lib.hid (fun W => inMonths_any y' m' d' (by omega) (by omega) b3 b4 W)
  clear h h' hw
  generalize dayOf y m d = n at *
  generalize dayOf y' m' d' = n' at *
  go_enter Tryz.func40, Tryz.ntmps40
  go_wp2_with (first
    | (go_at_call 20; (with_reducible refine (HC.out).mono ?_); rintro e w1 ⟨rfl, hb⟩
       have HM := Lib.hid (CAt.new w1 y m d)
       have HB := Lib.hid (hb.alloc hb.size (.cells #[.int .i64 y, .int .i64 m, .int .i64 d] 23)); clear hb HC)
    | (go_at_call 20; (with_reducible refine (HC2.out _ HB.out).mono ?_); rintro e w2 ⟨rfl, hb⟩
       have HN := Lib.hid (CAt.new w2 y' m' d')
       have HM2 := Lib.hid ((HM.out.below hb).below ((Below.refl _ _).alloc (Nat.le_refl _) (.cells #[.int .i64 y', .int .i64 m', .int .i64 d'] 23)))
       have HB2 := Lib.hid ((HB.out.trans (hb.mono HB.out.size)).alloc (HB.out.trans (hb.mono HB.out.size)).size (.cells #[.int .i64 y', .int .i64 m', .int .i64 d'] 23)); clear hb HC2)
    | (fail "no arm"))
  obtain ⟨V, hV⟩ : ∃ V, V = w2.alloc (.cells #[.int .i64 y', .int .i64 m', .int .i64 d'] 23) := ⟨_, rfl⟩
  rw [← hV] at HN HM2 HB2 ⊢
  have HOLD := Lib.hid (fun W (hW : Below V.heap.size V W) => (show Below V.heap.size V W ∧ W.cell? ⟨w1.heap.size, 0, none⟩ = some (.int .i64 y) ∧ W.cell? ⟨w1.heap.size, 1, none⟩ = some (.int .i64 m) ∧ W.cell? ⟨w1.heap.size, 2, none⟩ = some (.int .i64 d) ∧ W.cell? ⟨w2.heap.size, 0, none⟩ = some (.int .i64 y') ∧ W.cell? ⟨w2.heap.size, 1, none⟩ = some (.int .i64 m') ∧ W.cell? ⟨w2.heap.size, 2, none⟩ = some (.int .i64 d') from
    have c := (HM2.out.below hW).cells
    have c' := (HN.out.below hW).cells
    ⟨hW, c.1, c.2.1, c.2.2.1, c'.1, c'.2.1, c'.2.2.1⟩))
  clear hV HM HN HM2 HB
  go_region_held3 (fun w' => Below V.heap.size V w' ∧ w'.cell? ⟨w1.heap.size, 0, none⟩ = some (.int .i64 y) ∧ w'.cell? ⟨w1.heap.size, 1, none⟩ = some (.int .i64 m) ∧ w'.cell? ⟨w1.heap.size, 2, none⟩ = some (.int .i64 d) ∧ w'.cell? ⟨w2.heap.size, 0, none⟩ = some (.int .i64 y') ∧ w'.cell? ⟨w2.heap.size, 1, none⟩ = some (.int .i64 m') ∧ w'.cell? ⟨w2.heap.size, 2, none⟩ = some (.int .i64 d'))
    (first
      | exact HOLD.out _ (Below.refl _ _).drew
      | exact HOLD.out _ HB4.out
      | exact HOLD.out _ HB3.out
      | exact HOLD.out _ (And.left ‹_ ∧ _› : Below V.heap.size V _).drew)
    (first
      | (go_at_call 82; (with_reducible refine (HA.out _).mono ?_); rintro e' w3 ⟨rfl, hb3⟩
         have HB3 := Lib.hid ((And.left ‹_ ∧ _› : Below V.heap.size V _).trans (hb3.mono (And.left ‹_ ∧ _› : Below V.heap.size V _).size)); clear hb3)
      | (go_at_call 82; (with_reducible refine (HA2.out _).mono ?_); rintro e' w4 ⟨rfl, hb4⟩
         have HB4 := Lib.hid ((And.left ‹_ ∧ _› : Below V.heap.size V _).trans (hb4.mono (And.left ‹_ ∧ _› : Below V.heap.size V _).size)); clear hb4)
      | (fail "no arm"))
  all_goals go_wp2
  all_goals go_ret
  all_goals exact ⟨by show Ending.returned (.int .i64 (IntKind.i64.wrap (12 * y' + m' - 1 - (12 * y + m - 1)))) = _; rw [show IntKind.i64.wrap (12 * y' + m' - 1 - (12 * y + m - 1)) = 12 * (y' - y) + (m' - m) from by rw [IntKind.wrap_i64]; omega], HB2.out.trans ((And.left ‹_ ∧ _› : Below V.heap.size V _).mono HB2.out.size)⟩
set_option maxRecDepth 100000 in
set_option maxHeartbeats 4000000 in
theorem Between_no (a b : Int) (h : ¬ (IsDay a ∧ IsDay b)) (w : World) (hw : Wd w) :
    Calls Tryz.prog 40 #[.int .i64 a, .int .i64 b] w fun e w' => e = .returned (.int .i64 0) ∧ Below w.heap.size w w' := by
  have HW := Lib.hid (fun W (hb : Below w.heap.size w W) => (hw.keep hb).lens)
  have HL := Lib.hid hw.lens
  have HN := Lib.hid (fun (n : Int) (hn : ¬ IsDay n) W => (show Calls Tryz.prog 20 #[.int .i64 n] W fun e w' => e = .returned (.tuple #[.agg #[.int .i64 0, .int .i64 0, .int .i64 0], .iface 128 (.int .i64 4)]) ∧ Below W.heap.size W w' from Civil_no n hn W))
  clear hw
  by_cases h1 : IsDay a
  · by_cases h2 : IsDay b
    · exact absurd ⟨h1, h2⟩ h
    · obtain ⟨y, m, d, hc, rfl⟩ := h1.civil
      have HC := Lib.hid (Civil_at y m d hc w HL.out)
      have HC2 := Lib.hid (fun W => HN.out b h2 W)
      clear h h2 HN hc HW
      generalize dayOf y m d = n at *
      go_enter Tryz.func40, Tryz.ntmps40
      go_wp2_with (first
        | (go_at_call 20; (with_reducible refine (HC.out).mono ?_); rintro e w1 ⟨rfl, hb⟩
           have HB := Lib.hid (hb.alloc hb.size (.cells #[.int .i64 y, .int .i64 m, .int .i64 d] 23)); clear hb HC)
        | (go_at_call 20; (with_reducible refine (HC2.out _).mono ?_); rintro e w2 ⟨rfl, hb⟩
           have HB2 := Lib.hid ((HB.out.trans (hb.mono HB.out.size)).alloc (HB.out.trans (hb.mono HB.out.size)).size (.cells #[.int .i64 0, .int .i64 0, .int .i64 0] 23)); clear hb HC2)
        | (fail "no arm"))
      go_ret
      exact ⟨rfl, HB2.out⟩
  · have HC := Lib.hid (HN.out a h1 w)
    by_cases h2 : IsDay b
    · obtain ⟨y, m, d, hc, rfl⟩ := h2.civil
      have HC2 := Lib.hid (fun W (hb : Below w.heap.size w W) => Civil_at y m d hc W (HW.out W hb))
      clear h h1 hc HN
      generalize dayOf y m d = n at *
      go_enter Tryz.func40, Tryz.ntmps40
      go_wp2_with (first
        | (go_at_call 20; (with_reducible refine (HC.out).mono ?_); rintro e w1 ⟨rfl, hb⟩
           have HB := Lib.hid (hb.alloc hb.size (.cells #[.int .i64 0, .int .i64 0, .int .i64 0] 23)); clear hb HC)
        | (go_at_call 20; (with_reducible refine (HC2.out _ HB.out).mono ?_); rintro e w2 ⟨rfl, hb⟩
           have HB2 := Lib.hid ((HB.out.trans (hb.mono HB.out.size)).alloc (HB.out.trans (hb.mono HB.out.size)).size (.cells #[.int .i64 y, .int .i64 m, .int .i64 d] 23)); clear hb HC2)
        | (fail "no arm"))
      go_ret
      exact ⟨rfl, HB2.out⟩
    · have HC2 := Lib.hid (fun W => HN.out b h2 W)
      clear h h1 h2 HN
      go_enter Tryz.func40, Tryz.ntmps40
      go_wp2_with (first
        | (go_at_call 20; (with_reducible refine (HC.out).mono ?_); rintro e w1 ⟨rfl, hb⟩
           have HB := Lib.hid (hb.alloc hb.size (.cells #[.int .i64 0, .int .i64 0, .int .i64 0] 23)); clear hb HC)
        | (go_at_call 20; (with_reducible refine (HC2.out _).mono ?_); rintro e w2 ⟨rfl, hb⟩
           have HB2 := Lib.hid ((HB.out.trans (hb.mono HB.out.size)).alloc (HB.out.trans (hb.mono HB.out.size)).size (.cells #[.int .i64 0, .int .i64 0, .int .i64 0] 23)); clear hb HC2)
        | (fail "no arm"))
      go_ret
      exact ⟨rfl, HB2.out⟩
theorem below_set2 {n b : Nat} {w W : World} (h : Below n w W) (hn : n ≤ b) (v : Value) : Below n w (W.setCell ⟨b, 2, none⟩ v) := h.setCell hn v
set_option maxRecDepth 100000 in
set_option maxHeartbeats 4000000 in
theorem Add_main (y m d k : Int) (fin : Bool) (h : IsCivil y m d) (k0 : -3600 ≤ k) (k1 : k ≤ 3600) (Y M : Int) (hY : mY y m k = Y) (hM : mM y m k = M) (a : Int) (er : Value) (w : World) (hw : Wd w)
    (HO : ∀ W, Lens W → Calls Tryz.prog 22 #[.agg #[.int .i64 Y, .int .i64 M, .int .i64 (clip fin y m d Y M)]] W fun e w' => e = .returned (.tuple #[.int .i64 a, er]) ∧ Below W.heap.size W w') :
    Calls Tryz.prog 35 #[.int .i64 (dayOf y m d), .int .i64 k, .bool fin] w fun e w' => e = .returned (.tuple #[.int .i64 a, er]) ∧ Below w.heap.size w w' := by
  have HC := Lib.hid (Civil_at y m d h w hw.lens)
  obtain ⟨a1, a2, a5, -⟩ := id h
  obtain ⟨a3, a4⟩ := h.month
  have HA := Lib.hid (fun W => inMonths_any y m d (by omega) (by omega) a3 a4 W)
  have hfm := fun W => fromMonths_any (12 * y + m - 1 + k) (by omega) (by omega) W
  rw [show (12 * y + m - 1 + k) / 12 = Y by rw [← hY]; unfold mY; congr 1; omega, show (12 * y + m - 1 + k) % 12 + 1 = M by rw [← hM]; unfold mM; congr 2; omega] at hfm
  have HF := Lib.hid hfm
  have HW := Lib.hid (fun W (hb : Below w.heap.size w W) => (hw.keep hb).lens)
  have HLn := Lib.hid (fun W (hL : Lens W) => Length_any Y M W hL)
  have HIs := Lib.hid (fun W (hL : Lens W) => isLast_any y m d W hL)
  obtain ⟨b, hb⟩ : ∃ b, decide (d = mlen y m) = b := ⟨_, rfl⟩
  rw [hb] at HIs
  have HK : clip fin y m d Y M = if (fin && b) = true then mlen Y M else min d (mlen Y M) := by
    unfold clip
    rw [← hb]
    cases fin
    · simp only [Bool.false_and, Bool.false_eq_true, false_and, false_or, if_false]
      split <;> omega
    · by_cases hq : d = mlen y m
      · simp [hq]
      · simp only [hq, decide_false, Bool.and_false, Bool.false_eq_true, and_false, false_or, if_false]
        split <;> omega
  rw [HK] at HO
  have HOf := Lib.hid HO
  clear HO HK hb hfm hY hM h hw
  generalize dayOf y m d = n at *
  generalize mlen Y M = L at *
  cases fin
  all_goals try cases b
  all_goals
    simp only [Bool.false_and, Bool.true_and, Bool.false_eq_true, if_false, if_true] at HOf
    go_enter Tryz.func35, Tryz.ntmps35
    go_wp2_with (first
      | (go_at_call 20; (with_reducible refine (HC.out).mono ?_); rintro e w1 ⟨rfl, hb⟩
         have HM := Lib.hid (CAt.new w1 y m d)
         obtain ⟨c0, c1, c2, -⟩ := (CAt.new w1 y m d).cells
         have HB := Lib.hid (hb.alloc hb.size (.cells #[.int .i64 y, .int .i64 m, .int .i64 d] 23)); clear hb HC)
      | (go_at_call 82; (with_reducible refine (HA.out _).mono ?_); rintro e w2 ⟨rfl, hb⟩
         have HM2 := Lib.hid (HM.out.below hb)
         have HB2 := Lib.hid (HB.out.trans (hb.mono HB.out.size)); clear hb HA HM HB c0 c1 c2)
      | (go_at_call 81; (with_reducible refine (HF.out _).mono ?_); rintro e w3 ⟨rfl, hb⟩
         have HM3 := Lib.hid ((HM2.out.below hb).below ((Below.refl _ _).alloc (Nat.le_refl _) (.cells #[.int .i64 Y, .int .i64 M, .int .i64 0] 23)))
         have HT3 := Lib.hid (CAt.new w3 Y M 0)
         have HS3 := Lib.hid (show w.heap.size ≤ w3.heap.size from Nat.le_trans HB2.out.size hb.size)
         have HB3 := Lib.hid ((HB2.out.trans (hb.mono HB2.out.size)).alloc (HB2.out.trans (hb.mono HB2.out.size)).size (.cells #[.int .i64 Y, .int .i64 M, .int .i64 0] 23))
         have HV3 := Lib.hid (fun v : Int => (HB2.out.trans (hb.mono HB2.out.size)).alloc (HB2.out.trans (hb.mono HB2.out.size)).size (.cells #[.int .i64 Y, .int .i64 M, .int .i64 v] 23))
         obtain ⟨c0, c1, c2, -⟩ := HM3.out.cells
         obtain ⟨t0, t1, t2, g0, g1, g2⟩ := HT3.out.cells
         obtain ⟨e0, e1, e2, -⟩ := ((HM2.out.below hb).below ((Below.refl _ _).alloc (Nat.le_refl _) (.cells #[.int .i64 Y, .int .i64 M, .int .i64 (min d L)] 23))).cells
         obtain ⟨s0, s1, s2, h0, h1, h2⟩ := (CAt.new w3 Y M (min d L)).cells
         clear hb HF HM2 HB2)
      | (go_at_call 33; (with_reducible refine (HLn.out _ (HW.out _ HB3.out)).mono ?_); rintro e w9 ⟨rfl, rfl⟩
         clear HLn)
      | (go_at_call 83; (with_reducible refine (HIs.out _ (HW.out _ (HV3.out (min d L)))).mono ?_); rintro e w4 ⟨rfl, hb⟩
         have HT4 := Lib.hid ((CAt.new w3 Y M (min d L)).below hb)
         have HB4 := Lib.hid ((HV3.out (min d L)).trans (hb.mono (HV3.out (min d L)).size))
         clear c0 c1 c2 t0 t1 t2 g0 g1 g2 e0 e1 e2 s0 s1 s2 h0 h1 h2
         obtain ⟨t0, t1, t2, g0, g1, g2⟩ := HT4.out.cells
         clear hb HIs)
      | (go_at_call 22; (with_reducible refine (HOf.out _ (HW.out _ (below_set2 HB4.out HS3.out _))).mono ?_); rintro e w5 ⟨rfl, hb⟩; have HB5 := Lib.hid ((below_set2 HB4.out HS3.out _).trans (hb.mono (below_set2 HB4.out HS3.out _).size)); clear hb)
      | (go_at_call 22; (with_reducible refine (HOf.out _ (HW.out _ HB4.out)).mono ?_); rintro e w5 ⟨rfl, hb⟩; have HB5 := Lib.hid (HB4.out.trans (hb.mono HB4.out.size)); clear hb)
      | (go_at_call 22; (with_reducible refine (HOf.out _ (HW.out _ (below_set2 HB3.out HS3.out _))).mono ?_); rintro e w5 ⟨rfl, hb⟩; have HB5 := Lib.hid ((below_set2 HB3.out HS3.out _).trans (hb.mono (below_set2 HB3.out HS3.out _).size)); clear hb)
      | (go_at_call 22; (with_reducible refine (HOf.out _ (HW.out _ (HV3.out (min d L)))).mono ?_); rintro e w5 ⟨rfl, hb⟩; have HB5 := Lib.hid ((HV3.out (min d L)).trans (hb.mono (HV3.out (min d L)).size)); clear hb)
      | (fail "no arm"))
    go_ret2
    exact ⟨rfl, HB5.out⟩
set_option maxRecDepth 100000 in
set_option maxHeartbeats 4000000 in
theorem Add_far (y m d k : Int) (fin : Bool) (h : IsCivil y m d) (hk : k < -3600 ∨ 3600 < k) (w : World) (hw : Wd w) :
    Calls Tryz.prog 35 #[.int .i64 (dayOf y m d), .int .i64 k, .bool fin] w fun e w' => e = .returned (.tuple #[.int .i64 0, errOf 4]) ∧ Below w.heap.size w w' := by
  have HC := Lib.hid (Civil_at y m d h w hw.lens)
  have HO := Lib.hid (fun W => OfE 4 rfl W)
  unfold errOf
  clear h hw
  generalize dayOf y m d = n at *
  rcases hk with hk | hk
  all_goals
    try (have hk2 : -3600 ≤ k := by omega)
    go_enter Tryz.func35, Tryz.ntmps35
    go_wp2_with (first
      | (go_at_call 20; (with_reducible refine (HC.out).mono ?_); rintro e w1 ⟨rfl, hb⟩
         have HB := Lib.hid (hb.alloc hb.size (.cells #[.int .i64 y, .int .i64 m, .int .i64 d] 23)); clear hb HC)
      | (go_at_call 71; (with_reducible refine (HO.out _).mono ?_); rintro e w9 ⟨rfl, rfl⟩)
      | (fail "no arm"))
    go_ret2
    exact ⟨rfl, HB.out⟩
theorem mon_c : MonC where
  addYes := fun y m d k fin h k0 k1 h1 h2 w hw => by
    have hM := mM_in y m k
    exact Add_main y m d k fin h k0 k1 _ _ rfl rfl _ _ w hw (fun W hL => Of_yes _ _ _ ((clip_civil h.2.2.1 hM.1 hM.2).2 ⟨h1, h2⟩) W hL)
  addNo := fun y m d k fin _ _ h hn w hw => by
    have hM := mM_in y m k
    by_cases hk : -3600 ≤ k ∧ k ≤ 3600
    · exact Add_main y m d k fin h hk.1 hk.2 _ _ rfl rfl _ _ w hw (fun W hL => Of_no _ _ _ (fun hc => hn ⟨hk.1, hk.2, (clip_civil h.2.2.1 hM.1 hM.2).1 hc⟩) W hL)
    · exact Add_far y m d k fin h (by omega) w hw
  last := fun y m d h w hw => Last_at y m d h w hw
  endYes := fun y m a b c d w hw => End_yes y m a b c d w hw
  endNo := fun y m h w hw => End_no y m h w hw
  between := fun y m d y' m' d' h h' w hw => Between_at y m d h y' m' d' h' w hw
  betweenNo := fun a b h w hw => Between_no a b h w hw
end Go.Proofs.YtlhmfgbaefaneaaGreatDoor.month
namespace Go.Proofs.YtlhmfgbaefaneaaGreatDoor.easter
open Go Go.RowKit Go.Proofs.YtlhmfgbaefaneaaGreatDoor.day Go.Proofs.YtlhmfgbaefaneaaGreatDoor.date Go.Proofs.YtlhmfgbaefaneaaGreatDoor.law6
set_option maxRecDepth 100000 in
theorem moonDays_at (y : Int) (h1 : 1900 ≤ y) (h2 : y ≤ 2199) (w : World) :
    Calls Tryz.prog 84 #[.int .i64 y] w fun e w' => e = .returned (.int .i64 (easterH y)) ∧ w = w' := by
  have HH := Lib.hid (show (19 * (y % 19) + y / 100 - y / 100 / 4 - (y / 100 - (y / 100 + 8) / 25 + 1) / 3 + 15) % 30 = easterH y from rfl)
  obtain ⟨b1, b2⟩ := easterH_in y
  generalize easterH y = H at *
  go_enter Tryz.func84, Tryz.ntmps84
  go_wp2
  go_ret
  exact ⟨by rw [← HH.out]; rfl, rfl⟩
set_option maxRecDepth 100000 in
theorem moonDays_any (y : Int) (w : World) :
    Calls Tryz.prog 84 #[.int .i64 y] w fun e w' => (∃ z : Int, e = .returned (.int .i64 z)) ∧ w = w' := by
  go_enter Tryz.func84, Tryz.ntmps84
  go_wp2
  go_ret
  exact ⟨⟨_, rfl⟩, rfl⟩
set_option maxRecDepth 100000 in
theorem waitDays_at (y : Int) (h1 : 1900 ≤ y) (h2 : y ≤ 2199) (w : World) :
    Calls Tryz.prog 85 #[.int .i64 y, .int .i64 (easterH y)] w fun e w' => e = .returned (.int .i64 (easterL y)) ∧ w = w' := by
  have HL := Lib.hid (show (32 + 2 * (y / 100 % 4) + 2 * (y % 100 / 4) - easterH y - y % 4) % 7 = easterL y from by unfold easterL; rw [Int.emod_emod_of_dvd y (show (4 : Int) ∣ 100 by decide)])
  obtain ⟨b1, b2⟩ := easterH_in y
  obtain ⟨b3, b4⟩ := easterL_in y
  generalize easterH y = H at *
  generalize easterL y = L at *
  go_enter Tryz.func85, Tryz.ntmps85
  go_wp2
  go_ret
  exact ⟨by rw [← HL.out]; rfl, rfl⟩
set_option maxRecDepth 100000 in
theorem waitDays_any (y m : Int) (w : World) :
    Calls Tryz.prog 85 #[.int .i64 y, .int .i64 m] w fun e w' => (∃ z : Int, e = .returned (.int .i64 z)) ∧ w = w' := by
  go_enter Tryz.func85, Tryz.ntmps85
  go_wp2
  go_ret
  exact ⟨⟨_, rfl⟩, rfl⟩
set_option maxRecDepth 100000 in
theorem weeksOff_at (y : Int) (h1 : 1900 ≤ y) (h2 : y ≤ 2199) (w : World) :
    Calls Tryz.prog 86 #[.int .i64 y, .int .i64 (easterH y), .int .i64 (easterL y)] w fun e w' => e = .returned (.int .i64 ((y % 19 + 11 * easterH y + 22 * easterL y) / 451)) ∧ w = w' := by
  obtain ⟨b1, b2⟩ := easterH_in y
  obtain ⟨b3, b4⟩ := easterL_in y
  generalize easterH y = H at *
  generalize easterL y = L at *
  go_enter Tryz.func86, Tryz.ntmps86
  go_wp2
  go_ret
  exact ⟨rfl, rfl⟩
set_option maxRecDepth 100000 in
theorem weeksOff_any (y m l : Int) (w : World) :
    Calls Tryz.prog 86 #[.int .i64 y, .int .i64 m, .int .i64 l] w fun e w' => (∃ z : Int, e = .returned (.int .i64 z)) ∧ w = w' := by
  go_enter Tryz.func86, Tryz.ntmps86
  go_wp2
  go_ret
  exact ⟨⟨_, rfl⟩, rfl⟩
set_option maxRecDepth 100000 in
set_option maxHeartbeats 4000000 in
theorem Sunday_at (y : Int) (h1 : 1900 ≤ y) (h2 : y ≤ 2199) (w : World) (hw : Wd w) :
    Calls Tryz.prog 42 #[.int .i64 y] w fun e w' => e = .returned (.tuple #[.int .i64 (easterDay y), .nilIface]) ∧ Below w.heap.size w w' := by
  have HO := Lib.hid (fun W (hb : Below w.heap.size w W) => Of_yes _ _ _ (easter_civil h1 h2) W (hw.keep hb).lens)
  have H1 := Lib.hid (fun W => moonDays_at y h1 h2 W)
  have H2 := Lib.hid (fun W => waitDays_at y h1 h2 W)
  have H3 := Lib.hid (fun W => weeksOff_at y h1 h2 W)
  have HN := Lib.hid (show easterH y + easterL y - 7 * ((y % 19 + 11 * easterH y + 22 * easterL y) / 451) + 114 = easterN y from rfl)
  obtain ⟨b1, b2⟩ := easterH_in y
  obtain ⟨b3, b4⟩ := easterL_in y
  obtain ⟨b5, b6⟩ := easterN_in y
  have k0 : 0 ≤ (y % 19 + 11 * easterH y + 22 * easterL y) / 451 := by omega
  have HE := Lib.hid (show dayOf y (easterN y / 31) (easterN y % 31 + 1) = easterDay y from rfl)
  generalize easterDay y = E at *
  generalize easterH y = H at *
  generalize easterL y = L at *
  generalize easterN y = N at *
  generalize (y % 19 + 11 * H + 22 * L) / 451 = K at *
  rw [HE.out] at HO
  have HK := Lib.hid (show 114 + H + L - 7 * K = N by have := HN.out; omega)
  have k1 : K ≤ 10 := by have := HN.out; omega
  clear HE HN hw
  go_enter Tryz.func42, Tryz.ntmps42
  go_wp2_with (first
    | (go_at_call 84; (with_reducible refine (H1.out _).mono ?_); rintro e w1 ⟨rfl, rfl⟩)
    | (go_at_call 85; (with_reducible refine (H2.out _).mono ?_); rintro e w1 ⟨rfl, rfl⟩)
    | (go_at_call 86; (with_reducible refine (H3.out _).mono ?_); rintro e w1 ⟨rfl, rfl⟩)
    | (go_at_call 22; rw [HK.out]; (with_reducible refine (HO.out _ (Below.refl _ _)).mono ?_); rintro e w1 ⟨rfl, hb⟩; have HB := Lib.hid hb; clear hb)
    | (fail "no arm"))
  go_ret2
  exact ⟨rfl, HB.out⟩
set_option maxRecDepth 100000 in
set_option maxHeartbeats 4000000 in
theorem Sunday_no (y : Int) (h : ¬ (1900 ≤ y ∧ y ≤ 2199)) (w : World) (hw : Wd w) :
    Calls Tryz.prog 42 #[.int .i64 y] w fun e w' => e = .returned (.tuple #[.int .i64 0, errOf 4]) ∧ Below w.heap.size w w' := by
  unfold errOf
  have HO := Lib.hid (fun (m d : Int) W (hb : Below w.heap.size w W) => show Calls Tryz.prog 22 #[.agg #[.int .i64 y, .int .i64 m, .int .i64 d]] W fun e w' => e = .returned (.tuple #[.int .i64 0, .iface 128 (.int .i64 4)]) ∧ Below W.heap.size W w' from Of_no y m d (fun hc => h ⟨hc.1, hc.2.1⟩) W (hw.keep hb).lens)
  have H1 := Lib.hid (fun W => moonDays_any y W)
  have H2 := Lib.hid (fun m W => waitDays_any y m W)
  have H3 := Lib.hid (fun m l W => weeksOff_any y m l W)
  clear h hw
  go_enter Tryz.func42, Tryz.ntmps42
  go_wp2_with (first
    | (go_at_call 84; (with_reducible refine (H1.out _).mono ?_); rintro e w1 ⟨⟨z1, rfl⟩, rfl⟩)
    | (go_at_call 85; (with_reducible refine (H2.out _ _).mono ?_); rintro e w1 ⟨⟨z2, rfl⟩, rfl⟩)
    | (go_at_call 86; (with_reducible refine (H3.out _ _ _).mono ?_); rintro e w1 ⟨⟨z3, rfl⟩, rfl⟩)
    | (go_at_call 22; (with_reducible refine (HO.out _ _ _ (Below.refl _ _)).mono ?_); rintro e w1 ⟨rfl, hb⟩; have HB := Lib.hid hb; clear hb)
    | (fail "no arm"))
  go_ret2
  exact ⟨rfl, HB.out⟩
theorem eas_c : EasC := ⟨fun y h1 h2 w hw => Sunday_at y h1 h2 w hw, fun y h w hw => Sunday_no y h w hw⟩
end Go.Proofs.YtlhmfgbaefaneaaGreatDoor.easter
namespace Go.Proofs.YtlhmfgbaefaneaaGreatDoor.holi
open Go Go.RowKit Go.Proofs.YtlhmfgbaefaneaaGreatDoor.day Go.Proofs.YtlhmfgbaefaneaaGreatDoor.date Go.Proofs.YtlhmfgbaefaneaaGreatDoor.law6
open Go.Proofs.YtlhmfgbaefaneaaGreatDoor.ref6 (May holiday ruleDay rawDay shiftDay nthDay daysW HolEnd RAt quiet_same drewN_below6)
set_option maxRecDepth 100000 in
theorem daysFrom_at (a b : Int) (a0 : 0 ≤ a) (a1 : a ≤ 6) (b0 : 0 ≤ b) (b1 : b ≤ 6) (w : World) :
    Calls Tryz.prog 243 #[.int .i64 a, .int .i64 b] w fun e w' => e = .returned (.int .i64 ((b - a + 7) % 7)) ∧ w = w' := by
  go_enter Tryz.func243, Tryz.ntmps243
  go_wp2
  go_ret
  exact ⟨rfl, rfl⟩
set_option maxRecDepth 100000 in
theorem isNth_any (n : Int) (w : World) :
    Calls Tryz.prog 124 #[.int .i64 n] w fun e w' => e = .returned (.bool (decide (1 ≤ n ∧ n ≤ 5 ∨ n = -1))) ∧ w = w' := by
  obtain ⟨q, hq⟩ : ∃ q, decide (1 ≤ n ∧ n ≤ 5 ∨ n = -1) = q := ⟨_, rfl⟩
  rw [hq]
  rcases (show ((n == -1) = true ∧ q = true) ∨ ((n == -1) = false ∧ n < 1 ∧ q = false) ∨ ((n == -1) = false ∧ 1 ≤ n ∧ decide (n ≤ 5) = false ∧ q = false) ∨ ((n == -1) = false ∧ 1 ≤ n ∧ decide (n ≤ 5) = true ∧ q = true) from by
    by_cases h : n = -1
    · exact Or.inl ⟨by simpa using h, by rw [← hq]; exact decide_eq_true (Or.inr h)⟩
    · have h2 : (n == -1) = false := by simpa using h
      by_cases h3 : n < 1
      · exact Or.inr (Or.inl ⟨h2, h3, by rw [← hq]; exact decide_eq_false (by omega)⟩)
      · by_cases h4 : n ≤ 5
        · exact Or.inr (Or.inr (Or.inr ⟨h2, by omega, decide_eq_true h4, by rw [← hq]; exact decide_eq_true (Or.inl ⟨by omega, h4⟩)⟩))
        · exact Or.inr (Or.inr (Or.inl ⟨h2, by omega, decide_eq_false h4, by rw [← hq]; exact decide_eq_false (by omega)⟩))) with ⟨h1, h⟩ | ⟨h1, h2, h⟩ | ⟨h1, h2, h3, h⟩ | ⟨h1, h2, h3, h⟩
  all_goals
    clear hq
    subst h
    go_enter Tryz.func124, Tryz.ntmps124
    go_wp2
    go_ret
    exact ⟨by first | rfl | simp [*], rfl⟩
set_option maxRecDepth 100000 in
set_option maxHeartbeats 4000000 in
theorem May_1 (mo d n wd : Int) (sh : Bool) (w : World) (hw : Wd w) :
    Calls Tryz.prog 87 #[.agg #[.int .i64 1, .int .i64 mo, .int .i64 d, .int .i64 n, .int .i64 wd, .bool sh]] w fun e w' => e = .returned (.bool (decide (1 ≤ d) && decide (d ≤ mlen 2000 mo) && (n == 0) && (wd == 0))) ∧ Below w.heap.size w w' := by
  have HL := Lib.hid (fun (k : Nat) (o : Obj) => Length_any 2000 mo ((w.alloc o).drewN k) ((hw.lens.alloc o).drewN k))
  generalize mlen 2000 mo = L at *
  have hcase : decide (1 ≤ d) = false ∨ (decide (1 ≤ d) = true ∧ decide (d ≤ L) = false) ∨ (decide (1 ≤ d) = true ∧ decide (d ≤ L) = true ∧ (n == 0) = false) ∨ (decide (1 ≤ d) = true ∧ decide (d ≤ L) = true ∧ (n == 0) = true ∧ (wd == 0) = false) ∨ (decide (1 ≤ d) = true ∧ decide (d ≤ L) = true ∧ (n == 0) = true ∧ (wd == 0) = true) := by
    cases decide (1 ≤ d) <;> cases decide (d ≤ L) <;> cases (n == 0) <;> cases (wd == 0) <;> simp
  clear hw
  rcases hcase with c0 | ⟨c0, c1⟩ | ⟨c0, c1, c2⟩ | ⟨c0, c1, c2, c3⟩ | ⟨c0, c1, c2, c3⟩
  all_goals
    go_enter Tryz.func87, Tryz.ntmps87
    go_wp2
    go_quiet (first | (go_at_call 33; with_reducible exact quiet_same (HL.out _ _)))
    go_wp2
    go_ret
    exact ⟨by first | rfl | simp [*], drewN_below6 ((Below.refl _ _).alloc (Nat.le_refl _) _) nq⟩
set_option maxRecDepth 100000 in
set_option maxHeartbeats 4000000 in
theorem May_2 (mo d n wd : Int) (sh : Bool) (w : World) :
    Calls Tryz.prog 87 #[.agg #[.int .i64 2, .int .i64 mo, .int .i64 d, .int .i64 n, .int .i64 wd, .bool sh]] w fun e w' => e = .returned (.bool (decide (1 ≤ mo) && decide (mo ≤ 12) && decide (1 ≤ n ∧ n ≤ 5 ∨ n = -1) && decide (0 ≤ wd) && decide (wd < 7) && (d == 0) && !sh)) ∧ Below w.heap.size w w' := by
  have HN := Lib.hid (fun W => isNth_any n W)
  generalize decide (1 ≤ n ∧ n ≤ 5 ∨ n = -1) = q at *
  go_enter Tryz.func87, Tryz.ntmps87
  go_wp2_with (first
    | (go_at_call 124; (with_reducible refine (HN.out _).mono ?_); rintro e w1 ⟨rfl, rfl⟩)
    | (fail "no arm"))
  all_goals
    go_ret
    exact ⟨by simp [*] <;> omega, (Below.refl _ _).alloc (Nat.le_refl _) _⟩
set_option maxRecDepth 100000 in
set_option maxHeartbeats 4000000 in
theorem May_3 (mo d n wd : Int) (sh : Bool) (w : World) :
    Calls Tryz.prog 87 #[.agg #[.int .i64 3, .int .i64 mo, .int .i64 d, .int .i64 n, .int .i64 wd, .bool sh]] w fun e w' => e = .returned (.bool (decide (-100 ≤ n) && decide (n ≤ 100) && (mo == 0) && (d == 0) && (wd == 0) && !sh)) ∧ Below w.heap.size w w' := by
  go_enter Tryz.func87, Tryz.ntmps87
  go_wp2
  all_goals
    go_ret
    exact ⟨by simp [*] <;> omega, (Below.refl _ _).alloc (Nat.le_refl _) _⟩
set_option maxRecDepth 100000 in
set_option maxHeartbeats 4000000 in
theorem May_0 (k mo d n wd : Int) (sh : Bool) (h1 : k ≠ 1) (h2 : k ≠ 2) (h3 : k ≠ 3) (w : World) :
    Calls Tryz.prog 87 #[.agg #[.int .i64 k, .int .i64 mo, .int .i64 d, .int .i64 n, .int .i64 wd, .bool sh]] w fun e w' => e = .returned (.bool false) ∧ Below w.heap.size w w' := by
  go_enter Tryz.func87, Tryz.ntmps87
  go_wp2
  all_goals
    go_ret
    exact ⟨by simp [*] <;> omega, (Below.refl _ _).alloc (Nat.le_refl _) _⟩
theorem mlen_none {y m : Int} (h : ¬ (1 ≤ m ∧ m ≤ 12)) : mlen y m ≤ 0 := by unfold mlen; split <;> (try split) <;> omega
theorem May_any (k mo d n wd : Int) (sh : Bool) (w : World) (hw : Wd w) :
    Calls Tryz.prog 87 #[.agg #[.int .i64 k, .int .i64 mo, .int .i64 d, .int .i64 n, .int .i64 wd, .bool sh]] w fun e w' => e = .returned (.bool (decide (May ⟨k, mo, d, n, wd, sh⟩))) ∧ Below w.heap.size w w' := by
  by_cases h1 : k = 1
  · subst h1
    refine (May_1 mo d n wd sh w hw).mono fun e w' ⟨he, hb⟩ => ⟨he.trans ?_, hb⟩
    congr 2
    rw [Bool.eq_iff_iff]
    simp only [Bool.and_eq_true, decide_eq_true_eq, beq_iff_eq]
    constructor
    · rintro ⟨⟨⟨a, b⟩, c⟩, e⟩
      by_cases hm : 1 ≤ mo ∧ mo ≤ 12
      · exact Or.inl ⟨rfl, hm.1, hm.2, a, b, c, e⟩
      · have := mlen_none (y := 2000) hm; omega
    · rintro (⟨-, -, -, a, b, c, e⟩ | ⟨h, -⟩ | ⟨h, -⟩)
      · exact ⟨⟨⟨a, b⟩, c⟩, e⟩
      · cases h
      · cases h
  · by_cases h2 : k = 2
    · subst h2
      refine (May_2 mo d n wd sh w).mono fun e w' ⟨he, hb⟩ => ⟨he.trans ?_, hb⟩
      congr 2
      rw [Bool.eq_iff_iff, decide_eq_true_iff]
      simp [May, and_assoc, show wd < 7 ↔ wd ≤ 6 by omega]
    · by_cases h3 : k = 3
      · subst h3
        refine (May_3 mo d n wd sh w).mono fun e w' ⟨he, hb⟩ => ⟨he.trans ?_, hb⟩
        congr 2
        rw [Bool.eq_iff_iff, decide_eq_true_iff]
        simp [May, and_assoc]
      · refine (May_0 k mo d n wd sh h1 h2 h3 w).mono fun e w' ⟨he, hb⟩ => ⟨he.trans ?_, hb⟩
        rw [decide_eq_false (fun h => h.elim (fun h => h1 h.1) (fun h => h.elim (fun h => h2 h.1) (fun h => h3 h.1)))]
end Go.Proofs.YtlhmfgbaefaneaaGreatDoor.holi
namespace Go.Proofs.YtlhmfgbaefaneaaGreatDoor.holi
open Go Go.RowKit Go.Proofs.YtlhmfgbaefaneaaGreatDoor.day Go.Proofs.YtlhmfgbaefaneaaGreatDoor.date Go.Proofs.YtlhmfgbaefaneaaGreatDoor.law6
open Go.Proofs.YtlhmfgbaefaneaaGreatDoor.ref6 (May holiday ruleDay rawDay shiftDay nthDay daysW HolEnd RAt quiet_same drewN_below6)
def rawY (k mo d n wd : Int) (sh : Bool) (y : Int) : Option Int := if 1900 ≤ y ∧ y ≤ 2199 then rawDay k mo d n wd sh y else none
theorem box_below (w : World) (o : Obj) : Below w.heap.size w (w.alloc o) := (Below.refl _ _).alloc (Nat.le_refl _) _
set_option maxRecDepth 100000 in
set_option maxHeartbeats 4000000 in
theorem fixed_yes (k mo d n wd : Int) (sh : Bool) (y : Int) (h : IsCivil y mo d) (w : World) (hw : Wd w) :
    Calls Tryz.prog 197 #[.agg #[.int .i64 k, .int .i64 mo, .int .i64 d, .int .i64 n, .int .i64 wd, .bool sh], .int .i64 y] w fun e w' => e = .returned (.tuple #[.int .i64 (shiftDay sh (dayOf y mo d)), .bool true]) ∧ Below w.heap.size w w' := by
  have HO := Lib.hid (fun W (hb : Below w.heap.size w W) => Of_yes y mo d h W (hw.keep hb).lens)
  have HWd := Lib.hid (fun W => Weekday_day (dayOf y mo d) (dayOf_isDay h) W)
  have HB0 := Lib.hid (box_below w (.cells #[.int .i64 k, .int .i64 mo, .int .i64 d, .int .i64 n, .int .i64 wd, .bool sh] 60))
  have HR := Lib.hid (RAt.new w k mo d n wd sh)
  obtain ⟨b1, b2⟩ := dayOf_isDay h
  generalize dayOf y mo d = D at *
  have hs : (sh = false ∧ shiftDay sh D = D) ∨ (sh = true ∧ (wday D == 6) = true ∧ shiftDay sh D = D - 1) ∨ (sh = true ∧ (wday D == 6) = false ∧ (wday D == 0) = true ∧ shiftDay sh D = D + 1) ∨ (sh = true ∧ (wday D == 6) = false ∧ (wday D == 0) = false ∧ shiftDay sh D = D) := by
    unfold shiftDay wday
    cases sh
    · exact Or.inl ⟨rfl, by simp⟩
    · right
      by_cases e1 : (D + 1) % 7 = 6
      · left; simp [e1]
      · right
        by_cases e2 : (D + 1) % 7 = 0
        · left; simp [e2]
        · right; simp [e1, e2]
  clear h hw
  generalize shiftDay sh D = Z at *
  generalize wday D = wk at *
  rcases hs with ⟨rfl, rfl⟩ | ⟨rfl, s1, rfl⟩ | ⟨rfl, s1, s2, rfl⟩ | ⟨rfl, s1, s2, rfl⟩
  all_goals
    obtain ⟨c0, c1, c2, c3, c4, c5⟩ := HR.out.at
    go_enter Tryz.func197, Tryz.ntmps197
    go_wp2_with (first
      | (go_at_call 22; (with_reducible refine (HO.out _ HB0.out).mono ?_); rintro e w1 ⟨rfl, hb⟩
         have HB1 := Lib.hid (HB0.out.trans (hb.mono HB0.out.size))
         have HR1 := Lib.hid (HR.out.below hb)
         obtain ⟨e0, e1, e2, e3, e4, e5⟩ := (HR.out.below hb).at
         clear hb c0 c1 c2 c3 c4 c5)
      | (go_at_call 26; (with_reducible refine (HWd.out _).mono ?_); rintro e w2 ⟨rfl, rfl⟩)
      | (fail "no arm"))
    go_ret2
    exact ⟨by first | rfl | go_num, HB1.out⟩
set_option maxRecDepth 100000 in
set_option maxHeartbeats 4000000 in
theorem fixed_no (k mo d n wd : Int) (sh : Bool) (y : Int) (h : ¬ IsCivil y mo d) (w : World) (hw : Wd w) :
    Calls Tryz.prog 197 #[.agg #[.int .i64 k, .int .i64 mo, .int .i64 d, .int .i64 n, .int .i64 wd, .bool sh], .int .i64 y] w fun e w' => e = .returned (.tuple #[.int .i64 0, .bool false]) ∧ Below w.heap.size w w' := by
  have HO := Lib.hid (fun W (hb : Below w.heap.size w W) => Of_no y mo d h W (hw.keep hb).lens)
  unfold errOf at HO
  have HB0 := Lib.hid (box_below w (.cells #[.int .i64 k, .int .i64 mo, .int .i64 d, .int .i64 n, .int .i64 wd, .bool sh] 60))
  obtain ⟨c0, c1, c2, c3, c4, c5⟩ := (RAt.new w k mo d n wd sh).at
  clear h hw
  go_enter Tryz.func197, Tryz.ntmps197
  go_wp2_with (first
    | (go_at_call 22; (with_reducible refine (HO.out _ HB0.out).mono ?_); rintro e w1 ⟨rfl, hb⟩
       have HB1 := Lib.hid (HB0.out.trans (hb.mono HB0.out.size))
       clear hb c0 c1 c2 c3 c4 c5)
    | (fail "no arm"))
  go_ret2
  exact ⟨rfl, HB1.out⟩
theorem nth_last {y mo wd : Int} (m1 : 1 ≤ mo) (m2 : mo ≤ 12) (w1 : 0 ≤ wd) (w2 : wd ≤ 6) :
    nthDay y mo (-1) wd = some (dayOf y mo (mlen y mo) - (wday (dayOf y mo (mlen y mo)) - wd + 7) % 7) := by
  have l1 := mlen_lo (y := y) m1 m2
  have hC := ref6.daysW_count y mo wd w1 w2 (mlen y mo).toNat
  have hA := ref6.daysW_at y mo wd w1 w2 (mlen y mo).toNat
  rw [Int.toNat_of_nonneg (by omega)] at hC
  have e : dayOf y mo (mlen y mo) = dayOf y mo 1 + (mlen y mo - 1) := by rw [← ref6.dayOf_add]; congr 1; omega
  unfold nthDay
  rw [e]
  unfold wday
  generalize daysW y mo wd (mlen y mo).toNat = L at *
  generalize dayOf y mo 1 = D at *
  generalize mlen y mo = M at *
  rw [if_neg (by omega), if_pos (by decide), hA (L.length - 1) (by omega)]
  congr 1
  omega
theorem nth_num {y mo n wd : Int} (m1 : 1 ≤ mo) (m2 : mo ≤ 12) (n1 : 1 ≤ n) (w1 : 0 ≤ wd) (w2 : wd ≤ 6) :
    nthDay y mo n wd = if dayOf y mo 1 + (wd - wday (dayOf y mo 1) + 7) % 7 + 7 * (n - 1) ≤ dayOf y mo (mlen y mo) then some (dayOf y mo 1 + (wd - wday (dayOf y mo 1) + 7) % 7 + 7 * (n - 1)) else none := by
  have l1 := mlen_lo (y := y) m1 m2
  have hC := ref6.daysW_count y mo wd w1 w2 (mlen y mo).toNat
  have hA := ref6.daysW_at y mo wd w1 w2 (mlen y mo).toNat
  rw [Int.toNat_of_nonneg (by omega)] at hC
  have e : dayOf y mo (mlen y mo) = dayOf y mo 1 + (mlen y mo - 1) := by rw [← ref6.dayOf_add]; congr 1; omega
  unfold nthDay
  rw [e]
  unfold wday
  generalize daysW y mo wd (mlen y mo).toNat = L at *
  generalize dayOf y mo 1 = D at *
  generalize mlen y mo = M at *
  by_cases hn : (L.length : Int) < n
  · rw [if_pos hn, if_neg (by omega)]
  · rw [if_neg (by omega), if_neg (by omega), hA (n - 1).toNat (by omega), if_pos (by omega)]
    congr 1
    omega
set_option maxRecDepth 100000 in
set_option maxHeartbeats 4000000 in
theorem nth_out (k mo d n wd : Int) (sh : Bool) (y : Int) (h : ¬ (1900 ≤ y ∧ y ≤ 2199)) (w : World) (hw : Wd w) :
    Calls Tryz.prog 198 #[.agg #[.int .i64 k, .int .i64 mo, .int .i64 d, .int .i64 n, .int .i64 wd, .bool sh], .int .i64 y] w fun e w' => e = .returned (.tuple #[.int .i64 0, .bool false]) ∧ Below w.heap.size w w' := by
  have HE := Lib.hid (fun W (hb : Below w.heap.size w W) => month.End_no y mo (fun h' => h ⟨h'.1, h'.2.1⟩) W (hw.keep hb))
  unfold errOf at HE
  have HB0 := Lib.hid (box_below w (.cells #[.int .i64 k, .int .i64 mo, .int .i64 d, .int .i64 n, .int .i64 wd, .bool sh] 60))
  obtain ⟨c0, c1, c2, c3, c4, c5⟩ := (RAt.new w k mo d n wd sh).at
  clear h hw
  go_enter Tryz.func198, Tryz.ntmps198
  go_wp2_with (first
    | (go_at_call 37; (with_reducible refine (HE.out _ HB0.out).mono ?_); rintro e w1 ⟨rfl, hb⟩
       have HB1 := Lib.hid (HB0.out.trans (hb.mono HB0.out.size))
       clear hb c0 c1 c2 c3 c4 c5)
    | (fail "no arm"))
  go_ret2
  exact ⟨rfl, HB1.out⟩
set_option maxRecDepth 100000 in
set_option maxHeartbeats 4000000 in
theorem nth_end (k mo d wd : Int) (sh : Bool) (y : Int) (m1 : 1 ≤ mo) (m2 : mo ≤ 12) (w1 : 0 ≤ wd) (w2 : wd ≤ 6) (y1 : 1900 ≤ y) (y2 : y ≤ 2199) (w : World) (hw : Wd w) :
    Calls Tryz.prog 198 #[.agg #[.int .i64 k, .int .i64 mo, .int .i64 d, .int .i64 (-1), .int .i64 wd, .bool sh], .int .i64 y] w fun e w' => HolEnd (nthDay y mo (-1) wd) w e w' := by
  have HE := Lib.hid (fun W (hb : Below w.heap.size w W) => month.End_yes y mo y1 y2 m1 m2 W (hw.keep hb))
  have hd : IsDay (dayOf y mo (mlen y mo)) := dayOf_isDay ⟨y1, y2, by have := mlen_lo (y := y) m1 m2; omega, Int.le_refl _⟩
  have hk : 0 ≤ wday (dayOf y mo (mlen y mo)) ∧ wday (dayOf y mo (mlen y mo)) ≤ 6 := by unfold wday; omega
  have HWd := Lib.hid (fun W => Weekday_day (dayOf y mo (mlen y mo)) hd W)
  rw [nth_last m1 m2 w1 w2]
  have HR := Lib.hid (RAt.new w k mo d (-1) wd sh)
  obtain ⟨c0, c1, c2, c3, c4, c5⟩ := HR.out.at
  have HB0 := Lib.hid (box_below w (.cells #[.int .i64 k, .int .i64 mo, .int .i64 d, .int .i64 (-1), .int .i64 wd, .bool sh] 60))
  have HDf := Lib.hid (fun W => daysFrom_at wd (wday (dayOf y mo (mlen y mo))) w1 w2 hk.1 hk.2 W)
  obtain ⟨d1, d2⟩ := hd
  generalize dayOf y mo (mlen y mo) = D at *
  obtain ⟨k1, k2⟩ := hk
  generalize wday D = wk at *
  obtain ⟨q1, q2⟩ : 0 ≤ (wk - wd + 7) % 7 ∧ (wk - wd + 7) % 7 ≤ 6 := by omega
  generalize (wk - wd + 7) % 7 = q at *
  clear m1 m2 w1 w2 hw
  go_enter Tryz.func198, Tryz.ntmps198
  go_wp2_with (first
    | (go_at_call 37; (with_reducible refine (HE.out _ HB0.out).mono ?_); rintro e w1 ⟨rfl, hb⟩
       have HB1 := Lib.hid (HB0.out.trans (hb.mono HB0.out.size))
       obtain ⟨e0, e1, e2, e3, e4, e5⟩ := (HR.out.below hb).at
       clear hb c0 c1 c2 c3 c4 c5)
    | (fail "no arm"))
  go_quiet (first
    | (go_at_call 26; with_reducible exact quiet_same (HWd.out _))
    | (go_at_call 243; with_reducible exact quiet_same (HDf.out _)))
  go_wp2
  go_ret2
  exact ⟨fun z hz => (by cases hz; first | rfl | go_num), fun hz => (by cases hz), drewN_below6 HB1.out nq⟩
set_option maxRecDepth 100000 in
set_option maxHeartbeats 4000000 in
theorem nth_at (k mo d n wd : Int) (sh : Bool) (y : Int) (m1 : 1 ≤ mo) (m2 : mo ≤ 12) (n1 : 1 ≤ n) (n2 : n ≤ 5) (w1 : 0 ≤ wd) (w2 : wd ≤ 6) (y1 : 1900 ≤ y) (y2 : y ≤ 2199) (w : World) (hw : Wd w) :
    Calls Tryz.prog 198 #[.agg #[.int .i64 k, .int .i64 mo, .int .i64 d, .int .i64 n, .int .i64 wd, .bool sh], .int .i64 y] w fun e w' => HolEnd (nthDay y mo n wd) w e w' := by
  have HE := Lib.hid (fun W (hb : Below w.heap.size w W) => month.End_yes y mo y1 y2 m1 m2 W (hw.keep hb))
  have HLn := Lib.hid (fun W (hb : Below w.heap.size w W) => Length_any y mo W (hw.keep hb).lens)
  have l1 := mlen_lo (y := y) m1 m2
  have l2 := mlen_hi y mo
  have hd : IsDay (dayOf y mo (mlen y mo)) := dayOf_isDay ⟨y1, y2, by omega, Int.le_refl _⟩
  have hd1 : IsDay (dayOf y mo 1) := dayOf_isDay ⟨y1, y2, by omega, by omega⟩
  have e : dayOf y mo (mlen y mo) = dayOf y mo 1 + (mlen y mo - 1) := by rw [← ref6.dayOf_add]; congr 1; omega
  rw [nth_num m1 m2 n1 w1 w2]
  have hk : 0 ≤ wday (dayOf y mo 1) ∧ wday (dayOf y mo 1) ≤ 6 := by unfold wday; omega
  have HWd := Lib.hid (fun W => Weekday_day (dayOf y mo 1) hd1 W)
  have HR := Lib.hid (RAt.new w k mo d n wd sh)
  obtain ⟨c0, c1, c2, c3, c4, c5⟩ := HR.out.at
  have HB0 := Lib.hid (box_below w (.cells #[.int .i64 k, .int .i64 mo, .int .i64 d, .int .i64 n, .int .i64 wd, .bool sh] 60))
  have HDf := Lib.hid (fun W => daysFrom_at (wday (dayOf y mo 1)) wd hk.1 hk.2 w1 w2 W)
  obtain ⟨d1, d2⟩ := hd
  obtain ⟨d3, d4⟩ := hd1
  have HD := Lib.hid (show dayOf y mo (mlen y mo) - mlen y mo + 1 = dayOf y mo 1 by omega)
  clear e
  generalize dayOf y mo (mlen y mo) = E at *
  generalize mlen y mo = M at *
  generalize dayOf y mo 1 = D at *
  obtain ⟨k1, k2⟩ := hk
  generalize wday D = wk at *
  obtain ⟨q1, q2⟩ : 0 ≤ (wd - wk + 7) % 7 ∧ (wd - wk + 7) % 7 ≤ 6 := by omega
  generalize (wd - wk + 7) % 7 = q at *
  have hn0 : (n == -1) = false := by simp; omega
  clear m1 m2 w1 w2 hw
  by_cases hle : D + q + 7 * (n - 1) ≤ E
  · rw [if_pos hle]
    go_enter Tryz.func198, Tryz.ntmps198
    go_wp2_with (first
      | (go_at_call 37; (with_reducible refine (HE.out _ HB0.out).mono ?_); rintro e w1 ⟨rfl, hb⟩
         have HB1 := Lib.hid (HB0.out.trans (hb.mono HB0.out.size))
         obtain ⟨e0, e1, e2, e3, e4, e5⟩ := (HR.out.below hb).at
         clear hb c0 c1 c2 c3 c4 c5)
      | (go_at_call 33; (with_reducible refine (HLn.out _ HB1.out).mono ?_); rintro e w2 ⟨rfl, rfl⟩)
      | (fail "no arm"))
    rw [HD.out]
    go_quiet (first
      | (go_at_call 26; with_reducible exact quiet_same (HWd.out _))
      | (go_at_call 243; with_reducible exact quiet_same (HDf.out _)))
    go_wp2
    go_ret2
    exact ⟨fun z hz => (by cases hz; first | rfl | go_num), fun hz => (by cases hz), drewN_below6 HB1.out nq⟩
  · rw [if_neg hle]
    have HNe := Lib.hid (show decide (D + q + 7 * (n - 1) ≤ E) = false from decide_eq_false hle)
    clear hle
    go_enter Tryz.func198, Tryz.ntmps198
    go_wp2_with (first
      | (go_at_call 37; (with_reducible refine (HE.out _ HB0.out).mono ?_); rintro e w1 ⟨rfl, hb⟩
         have HB1 := Lib.hid (HB0.out.trans (hb.mono HB0.out.size))
         obtain ⟨e0, e1, e2, e3, e4, e5⟩ := (HR.out.below hb).at
         clear hb c0 c1 c2 c3 c4 c5)
      | (go_at_call 33; (with_reducible refine (HLn.out _ HB1.out).mono ?_); rintro e w2 ⟨rfl, rfl⟩)
      | (fail "no arm"))
    rw [HD.out]
    go_quiet (first
      | (go_at_call 26; with_reducible exact quiet_same (HWd.out _))
      | (go_at_call 243; with_reducible exact quiet_same (HDf.out _)))
    go_wp2
    go_ret2
    exact ⟨fun z hz => (by cases hz), fun hz => ⟨D + q + 7 * (n - 1), by rw [← HNe.out]; rfl⟩, drewN_below6 HB1.out nq⟩
end Go.Proofs.YtlhmfgbaefaneaaGreatDoor.holi
namespace Go.Proofs.YtlhmfgbaefaneaaGreatDoor.holi
open Go Go.RowKit Go.Proofs.YtlhmfgbaefaneaaGreatDoor.day Go.Proofs.YtlhmfgbaefaneaaGreatDoor.date Go.Proofs.YtlhmfgbaefaneaaGreatDoor.law6
open Go.Proofs.YtlhmfgbaefaneaaGreatDoor.ref6 (May holiday ruleDay rawDay shiftDay nthDay daysW HolEnd RAt quiet_same drewN_below6)
theorem fixed_any (mo d n wd : Int) (sh : Bool) (y : Int) (w : World) (hw : Wd w) :
    Calls Tryz.prog 197 #[.agg #[.int .i64 1, .int .i64 mo, .int .i64 d, .int .i64 n, .int .i64 wd, .bool sh], .int .i64 y] w fun e w' => HolEnd (rawY 1 mo d n wd sh y) w e w' := by
  unfold rawY rawDay
  rw [if_pos (show (1 : Int) = 1 from rfl)]
  by_cases hc : IsCivil y mo d
  · rw [if_pos ⟨hc.1, hc.2.1⟩, if_pos hc]
    refine (fixed_yes 1 mo d n wd sh y hc w hw).mono ?_
    rintro e w' ⟨rfl, hb⟩
    exact ⟨fun z hz => (by cases hz; rfl), fun hz => (by cases hz), hb⟩
  · rw [if_neg hc]
    refine (fixed_no 1 mo d n wd sh y hc w hw).mono ?_
    rintro e w' ⟨rfl, hb⟩
    exact ⟨fun z hz => (by split at hz <;> cases hz), fun hz => ⟨0, rfl⟩, hb⟩
theorem nth_any (mo d n wd : Int) (sh : Bool) (y : Int) (w : World) (hw : Wd w) (hm : May ⟨2, mo, d, n, wd, sh⟩) :
    Calls Tryz.prog 198 #[.agg #[.int .i64 2, .int .i64 mo, .int .i64 d, .int .i64 n, .int .i64 wd, .bool sh], .int .i64 y] w fun e w' => HolEnd (rawY 2 mo d n wd sh y) w e w' := by
  obtain ⟨m1, m2, hn, w1, w2⟩ : 1 ≤ mo ∧ mo ≤ 12 ∧ (1 ≤ n ∧ n ≤ 5 ∨ n = -1) ∧ 0 ≤ wd ∧ wd ≤ 6 := by
    rcases hm with h | h | h
    · have := h.1; simp only at this; omega
    · exact ⟨h.2.1, h.2.2.1, h.2.2.2.1, h.2.2.2.2.1, h.2.2.2.2.2.1⟩
    · have := h.1; simp only at this; omega
  unfold rawY rawDay
  rw [if_neg (show ¬ (2 : Int) = 1 by decide), if_neg (show ¬ (2 : Int) = 3 by decide)]
  by_cases hy : 1900 ≤ y ∧ y ≤ 2199
  · rw [if_pos hy]
    rcases hn with ⟨n1, n2⟩ | rfl
    · exact nth_at 2 mo d n wd sh y m1 m2 n1 n2 w1 w2 hy.1 hy.2 w hw
    · exact nth_end 2 mo d wd sh y m1 m2 w1 w2 hy.1 hy.2 w hw
  · rw [if_neg hy]
    refine (nth_out 2 mo d n wd sh y hy w hw).mono ?_
    rintro e w' ⟨rfl, hb⟩
    exact ⟨fun z hz => (by cases hz), fun hz => ⟨0, rfl⟩, hb⟩
theorem HolEnd.tup {o : Option Int} {w w' : World} {e : Ending} (h : HolEnd o w e w') : ∃ (z : Int) (b : Bool), e = .returned (.tuple #[.int .i64 z, .bool b]) ∧ (b = true → o = some z) ∧ (b = false → o = none) ∧ Below w.heap.size w w' := by
  rcases o with _ | z
  · obtain ⟨z, hz⟩ := h.2.1 rfl
    exact ⟨z, false, hz, fun h => (by cases h), fun _ => rfl, h.2.2⟩
  · exact ⟨z, true, h.1 z rfl, fun _ => rfl, fun h => (by cases h), h.2.2⟩
theorem HolEnd.of {o : Option Int} {w w' : World} {z : Int} {b : Bool} (h1 : b = true → o = some z) (h2 : b = false → o = none) (hb : Below w.heap.size w w') : HolEnd o w (.returned (.tuple #[.int .i64 z, .bool b])) w' := by
  cases b
  · exact ⟨fun y hy => (by rw [h2 rfl] at hy; cases hy), fun _ => ⟨z, rfl⟩, hb⟩
  · refine ⟨fun y hy => ?_, fun hy => (by rw [h1 rfl] at hy; cases hy), hb⟩
    rw [h1 rfl] at hy
    cases hy
    rfl
set_option maxRecDepth 100000 in
set_option maxHeartbeats 4000000 in
theorem dayOf_any (k mo d n wd : Int) (sh : Bool) (y : Int) (hm : May ⟨k, mo, d, n, wd, sh⟩) (w : World) (hw : Wd w) :
    Calls Tryz.prog 153 #[.agg #[.int .i64 k, .int .i64 mo, .int .i64 d, .int .i64 n, .int .i64 wd, .bool sh], .int .i64 y] w fun e w' => HolEnd (rawY k mo d n wd sh y) w e w' := by
  have HB0 := Lib.hid (box_below w (.cells #[.int .i64 k, .int .i64 mo, .int .i64 d, .int .i64 n, .int .i64 wd, .bool sh] 60))
  have HR := Lib.hid (RAt.new w k mo d n wd sh)
  rcases (show k = 1 ∨ k = 2 ∨ k = 3 from by
    rcases hm with h | h | h
    · exact Or.inl h.1
    · exact Or.inr (Or.inl h.1)
    · exact Or.inr (Or.inr h.1)) with rfl | rfl | rfl
  · have HF := Lib.hid (fun W (hb : Below w.heap.size w W) => fixed_any mo d n wd sh y W (hw.keep hb))
    generalize rawY 1 mo d n wd sh y = o at *
    obtain ⟨c0, c1, c2, c3, c4, c5⟩ := HR.out.at
    clear hm hw
    go_enter Tryz.func153, Tryz.ntmps153
    go_wp2_with (first
      | (go_at_call 197; (with_reducible refine (HF.out _ HB0.out).mono ?_); rintro e w1 he
         obtain ⟨z, b, rfl, hz1, hz2, hb⟩ := HolEnd.tup he
         have HB1 := Lib.hid (HB0.out.trans (hb.mono HB0.out.size)); have HZ1 := Lib.hid hz1; have HZ2 := Lib.hid hz2
         clear hb he hz1 hz2 c0 c1 c2 c3 c4 c5)
      | (fail "no arm"))
    go_ret2
    exact HolEnd.of HZ1.out HZ2.out HB1.out
  · have HF := Lib.hid (fun W (hb : Below w.heap.size w W) => nth_any mo d n wd sh y W (hw.keep hb) hm)
    generalize rawY 2 mo d n wd sh y = o at *
    obtain ⟨c0, c1, c2, c3, c4, c5⟩ := HR.out.at
    clear hm hw
    go_enter Tryz.func153, Tryz.ntmps153
    go_wp2_with (first
      | (go_at_call 198; (with_reducible refine (HF.out _ HB0.out).mono ?_); rintro e w1 he
         obtain ⟨z, b, rfl, hz1, hz2, hb⟩ := HolEnd.tup he
         have HB1 := Lib.hid (HB0.out.trans (hb.mono HB0.out.size)); have HZ1 := Lib.hid hz1; have HZ2 := Lib.hid hz2
         clear hb he hz1 hz2 c0 c1 c2 c3 c4 c5)
      | (fail "no arm"))
    go_ret2
    exact HolEnd.of HZ1.out HZ2.out HB1.out
  · obtain ⟨n1, n2⟩ : -100 ≤ n ∧ n ≤ 100 := by
      rcases hm with h | h | h
      · have := h.1; simp only at this; omega
      · have := h.1; simp only at this; omega
      · exact ⟨h.2.1, h.2.2.1⟩
    unfold rawY rawDay
    rw [if_neg (show ¬ (3 : Int) = 1 by decide), if_pos (show (3 : Int) = 3 from rfl)]
    obtain ⟨c0, c1, c2, c3, c4, c5⟩ := HR.out.at
    by_cases hy : 1900 ≤ y ∧ y ≤ 2199
    · rw [if_pos hy]
      have HF := Lib.hid (fun W (hb : Below w.heap.size w W) => easter.Sunday_at y hy.1 hy.2 W (hw.keep hb))
      obtain ⟨e1, e2⟩ := ref6.easterDay_in hy.1 hy.2
      generalize easterDay y = E at *
      clear hm hw hy
      go_enter Tryz.func153, Tryz.ntmps153
      go_wp2_with (first
        | (go_at_call 42; (with_reducible refine (HF.out _ HB0.out).mono ?_); rintro e w1 ⟨rfl, hb⟩
           have HB1 := Lib.hid (HB0.out.trans (hb.mono HB0.out.size))
           obtain ⟨e0, e1, e2, e3, e4, e5⟩ := (HR.out.below hb).at
           clear hb c0 c1 c2 c3 c4 c5)
        | (fail "no arm"))
      go_quiet (fail)
      go_wp2
      go_ret2
      exact ⟨fun z hz => (by cases hz; first | rfl | go_num), fun hz => (by cases hz), drewN_below6 HB1.out nq⟩
    · rw [if_neg hy]
      have HF := Lib.hid (fun W (hb : Below w.heap.size w W) => easter.Sunday_no y hy W (hw.keep hb))
      unfold errOf at HF
      clear hm hw hy
      go_enter Tryz.func153, Tryz.ntmps153
      go_wp2_with (first
        | (go_at_call 42; (with_reducible refine (HF.out _ HB0.out).mono ?_); rintro e w1 ⟨rfl, hb⟩
           have HB1 := Lib.hid (HB0.out.trans (hb.mono HB0.out.size))
           obtain ⟨e0, e1, e2, e3, e4, e5⟩ := (HR.out.below hb).at
           clear hb c0 c1 c2 c3 c4 c5)
        | (fail "no arm"))
      go_quiet (fail)
      go_wp2
      go_ret2
      exact ⟨fun z hz => (by cases hz), fun hz => ⟨_, rfl⟩, drewN_below6 HB1.out nq⟩
theorem hol_raw {k mo d n wd : Int} {sh : Bool} {y : Int} (hm : May ⟨k, mo, d, n, wd, sh⟩) : holiday k mo d n wd sh y = (rawY k mo d n wd sh y).bind (fun z => if IsDay z then some z else none) := by
  unfold holiday rawY
  by_cases hy : 1900 ≤ y ∧ y ≤ 2199
  · rw [if_pos ⟨hm, hy⟩, if_pos hy]
  · rw [if_neg (fun h => hy h.2), if_neg hy]; rfl
def DayEnd (o : Option Int) (w : World) (e : Ending) (w' : World) : Prop :=
  (∀ z, o = some z → e = .returned (.tuple #[.int .i64 z, .bool true])) ∧ (o = none → e = .returned (.tuple #[.int .i64 0, .bool false])) ∧ Below w.heap.size w w'
theorem DayEnd.no {o : Option Int} {w w' : World} (h : o = none) (hb : Below w.heap.size w w') : DayEnd o w (.returned (.tuple #[.int .i64 0, .bool false])) w' := ⟨fun z hz => (by rw [h] at hz; cases hz), fun _ => rfl, hb⟩
theorem DayEnd.yes {o : Option Int} {z : Int} {w w' : World} (h : o = some z) (hb : Below w.heap.size w w') : DayEnd o w (.returned (.tuple #[.int .i64 z, .bool true])) w' := ⟨fun y hy => (by rw [h] at hy; cases hy; rfl), fun hy => (by rw [h] at hy; cases hy), hb⟩
set_option maxRecDepth 100000 in
set_option maxHeartbeats 4000000 in
theorem Day_any (k mo d n wd : Int) (sh : Bool) (y : Int) (w : World) (hw : Wd w) :
    Calls Tryz.prog 118 #[.agg #[.int .i64 k, .int .i64 mo, .int .i64 d, .int .i64 n, .int .i64 wd, .bool sh], .int .i64 y] w fun e w' => DayEnd (holiday k mo d n wd sh y) w e w' := by
  have HB0 := Lib.hid (box_below w (.cells #[.int .i64 k, .int .i64 mo, .int .i64 d, .int .i64 n, .int .i64 wd, .bool sh] 60))
  have HR := Lib.hid (RAt.new w k mo d n wd sh)
  have HM := Lib.hid (fun W (hb : Below w.heap.size w W) => May_any k mo d n wd sh W (hw.keep hb))
  obtain ⟨c0, c1, c2, c3, c4, c5⟩ := HR.out.at
  by_cases hm : May ⟨k, mo, d, n, wd, sh⟩
  · rw [decide_eq_true hm] at HM
    rw [hol_raw hm]
    have HD := Lib.hid (fun W (hb : Below w.heap.size w W) => dayOf_any k mo d n wd sh y hm W (hw.keep hb))
    generalize rawY k mo d n wd sh y = o at *
    clear hm hw
    rcases o with _ | z
    · go_enter Tryz.func118, Tryz.ntmps118
      go_wp2_with (first
        | (go_at_call 87; (with_reducible refine (HM.out _ HB0.out).mono ?_); rintro e w1 ⟨rfl, hb⟩
           have HB1 := Lib.hid (HB0.out.trans (hb.mono HB0.out.size))
           obtain ⟨e0, e1, e2, e3, e4, e5⟩ := (HR.out.below hb).at
           clear hb c0 c1 c2 c3 c4 c5)
        | (go_at_call 153; (with_reducible refine (HD.out _ HB1.out).mono ?_); rintro e w2 ⟨-, he, hb⟩
           obtain ⟨z, rfl⟩ := he rfl
           have HB2 := Lib.hid (HB1.out.trans (hb.mono HB1.out.size))
           clear hb he e0 e1 e2 e3 e4 e5)
        | (fail "no arm"))
      go_ret2
      exact DayEnd.no rfl HB2.out
    · have hz : (z < 0 ∧ ¬ IsDay z) ∨ (0 ≤ z ∧ 109572 < z ∧ ¬ IsDay z) ∨ (0 ≤ z ∧ z ≤ 109572 ∧ IsDay z) := by unfold IsDay; omega
      rcases hz with ⟨z1, hz⟩ | ⟨z1, z2, hz⟩ | ⟨z1, z2, hz⟩
      all_goals
        have HZ := Lib.hid hz
        clear hz
        go_enter Tryz.func118, Tryz.ntmps118
        go_wp2_with (first
          | (go_at_call 87; (with_reducible refine (HM.out _ HB0.out).mono ?_); rintro e w1 ⟨rfl, hb⟩
             have HB1 := Lib.hid (HB0.out.trans (hb.mono HB0.out.size))
             obtain ⟨e0, e1, e2, e3, e4, e5⟩ := (HR.out.below hb).at
             clear hb c0 c1 c2 c3 c4 c5)
          | (go_at_call 153; (with_reducible refine (HD.out _ HB1.out).mono ?_); rintro e w2 ⟨he, -, hb⟩
             obtain rfl := he z rfl
             have HB2 := Lib.hid (HB1.out.trans (hb.mono HB1.out.size))
             clear hb he e0 e1 e2 e3 e4 e5)
          | (fail "no arm"))
        go_ret2
        first
          | exact DayEnd.no (if_neg HZ.out) HB2.out
          | exact DayEnd.yes (if_pos HZ.out) HB2.out
  · rw [decide_eq_false hm] at HM
    have HN := Lib.hid (show holiday k mo d n wd sh y = none from if_neg (fun h => hm h.1))
    clear hm hw
    go_enter Tryz.func118, Tryz.ntmps118
    go_wp2_with (first
      | (go_at_call 87; (with_reducible refine (HM.out _ HB0.out).mono ?_); rintro e w1 ⟨rfl, hb⟩
         have HB1 := Lib.hid (HB0.out.trans (hb.mono HB0.out.size))
         clear hb c0 c1 c2 c3 c4 c5)
      | (fail "no arm"))
    go_ret2
    exact DayEnd.no HN.out HB1.out
set_option maxRecDepth 100000 in
set_option maxHeartbeats 4000000 in
theorem Is_no (k mo d n wd : Int) (sh : Bool) (D : Int) (h : ¬ IsDay D) (w : World) :
    Calls Tryz.prog 69 #[.agg #[.int .i64 k, .int .i64 mo, .int .i64 d, .int .i64 n, .int .i64 wd, .bool sh], .int .i64 D] w fun e w' => e = .returned (.bool false) ∧ Below w.heap.size w w' := by
  have HC := Lib.hid (fun W => (show Calls Tryz.prog 20 #[.int .i64 D] W fun e w' => e = .returned (.tuple #[.agg #[.int .i64 0, .int .i64 0, .int .i64 0], .iface 128 (.int .i64 4)]) ∧ Below W.heap.size W w' from Civil_no D h W))
  have HB0 := Lib.hid (box_below w (.cells #[.int .i64 k, .int .i64 mo, .int .i64 d, .int .i64 n, .int .i64 wd, .bool sh] 60))
  clear h
  go_enter Tryz.func69, Tryz.ntmps69
  go_wp2_with (first
    | (go_at_call 20; (with_reducible refine (HC.out _).mono ?_); rintro e w1 ⟨rfl, hb⟩
       have HB1 := Lib.hid ((HB0.out.trans (hb.mono HB0.out.size)).alloc (HB0.out.trans (hb.mono HB0.out.size)).size (.cells #[.int .i64 0, .int .i64 0, .int .i64 0] 23))
       clear hb)
    | (fail "no arm"))
  go_ret
  exact ⟨rfl, HB1.out⟩
def IsRel (w : World) (k mo d n wd : Int) (sh : Bool) (y m a D : Int) (B : Nat) (kv : Value) (wr : World) : Prop :=
  ∃ j : Int, -1 ≤ j ∧ j ≤ 2 ∧ kv = .int .i64 (y + j) ∧ (∀ i, -1 ≤ i → i < j → holiday k mo d n wd sh (y + i) ≠ some D) ∧ RAt wr w.heap.size k mo d n wd sh ∧ ref6.CAt wr B y m a ∧ Below w.heap.size w wr
set_option maxRecDepth 100000 in
set_option maxHeartbeats 4000000 in
theorem Is_at (k mo d n wd : Int) (sh : Bool) (y m a : Int) (h : IsCivil y m a) (w : World) (hw : Wd w) :
    Calls Tryz.prog 69 #[.agg #[.int .i64 k, .int .i64 mo, .int .i64 d, .int .i64 n, .int .i64 wd, .bool sh], .int .i64 (dayOf y m a)] w fun e w' => e = .returned (.bool (decide (ruleDay k mo d n wd sh y (dayOf y m a)))) ∧ Below w.heap.size w w' := by
  have HC := Lib.hid (fun W (hb : Below w.heap.size w W) => Civil_at y m a h W (hw.keep hb).lens)
  have HH := Lib.hid (fun Y W (hb : Below w.heap.size w W) => Day_any k mo d n wd sh Y W (hw.keep hb))
  have HR := Lib.hid (RAt.new w k mo d n wd sh)
  have HB0 := Lib.hid (box_below w (.cells #[.int .i64 k, .int .i64 mo, .int .i64 d, .int .i64 n, .int .i64 wd, .bool sh] 60))
  obtain ⟨y1, y2, -⟩ := id h
  clear h hw
  generalize dayOf y m a = D at *
  obtain ⟨ans, hans⟩ : ∃ b, decide (ruleDay k mo d n wd sh y D) = b := ⟨_, rfl⟩
  have HAns := Lib.hid hans
  rw [hans]
  clear hans
  go_enter Tryz.func69, Tryz.ntmps69
  go_wp2_with (first
    | (go_at_call 20; (with_reducible refine (HC.out _ HB0.out).mono ?_); rintro e w1 ⟨rfl, hb⟩
       have HBo := Lib.hid (HB0.out.trans (hb.mono HB0.out.size))
       have HB := Lib.hid (HBo.out.alloc HBo.out.size (.cells #[.int .i64 y, .int .i64 m, .int .i64 a] 23))
       have HR1 := Lib.hid ((HR.out.below hb).below ((Below.refl _ _).alloc (Nat.le_refl _) (.cells #[.int .i64 y, .int .i64 m, .int .i64 a] 23)))
       have HC1 := Lib.hid (ref6.CAt.new w1 y m a)
       obtain ⟨c0, c1, c2, -⟩ := (ref6.CAt.new w1 y m a).cells
       clear hb HBo)
    | (fail "no arm"))
  go_loopw [7] (fun kv wr => IsRel w k mo d n wd sh y m a D w1.heap.size kv wr) (fun kv _ => (y + 2 - intOf kv).toNat)
  case atStart => exact ⟨-1, by omega, by omega, by go_num, fun i h1 h2 => by omega, HR1.out, HC1.out, HB.out⟩
  case round =>
    obtain ⟨j, j1, j2, rfl, hno, hr, hc, hb⟩ := hrel
    clear c0 c1 c2
    obtain ⟨c0, c1, c2, c3, c4, c5⟩ := hr.at
    obtain ⟨g0, g1, g2, -⟩ := hc.cells
    have HR2 := Lib.hid hr
    have HC2 := Lib.hid hc
    have HB2 := Lib.hid hb
    have HNo := Lib.hid hno
    clear hr hb hno hc
    by_cases hj : j ≤ 1
    · have HH1 := Lib.hid (HH.out (y + j))
      rcases ho : holiday k mo d n wd sh (y + j) with _ | z
      · rw [ho] at HH1
        have HO := Lib.hid ho
        clear ho
        go_wp2_with (first
          | (go_at_call 118; (with_reducible refine (HH1.out _ HB2.out).mono ?_); rintro e w4 ⟨-, he, hb⟩
             obtain rfl := he rfl
             have HB4 := Lib.hid (HB2.out.trans (hb.mono HB2.out.size))
             have HR4 := Lib.hid (HR2.out.below hb)
             have HC4 := Lib.hid (HC2.out.below hb)
             clear hb he)
          | (fail "no arm"))
        go_roundw
        case rel => exact ⟨j + 1, by omega, by omega, by go_num, fun i h1 h2 => (by
          by_cases e : i = j
          · rw [e, HO.out]; intro h; cases h
          · exact HNo.out i h1 (by omega)), HR4.out, HC4.out, HB4.out⟩
        case measure => simp [intOf] <;> omega
      · rw [ho] at HH1
        have HO := Lib.hid ho
        clear ho
        by_cases hz : z = D
        · subst hz
          have ha : ans = true := by
            rw [← HAns.out]
            refine decide_eq_true ?_
            unfold ruleDay
            rcases (show j = -1 ∨ j = 0 ∨ j = 1 by omega) with e | e | e
            · exact Or.inl (by rw [← HO.out, e]; rfl)
            · exact Or.inr (Or.inl (by rw [← HO.out, e, Int.add_zero]))
            · exact Or.inr (Or.inr (by rw [← HO.out, e]))
          have HA := Lib.hid ha
          clear ha
          go_wp2_with (first
            | (go_at_call 118; (with_reducible refine (HH1.out _ HB2.out).mono ?_); rintro e w4 ⟨he, -, hb⟩
               obtain rfl := he z rfl
               have HB4 := Lib.hid (HB2.out.trans (hb.mono HB2.out.size))
               clear hb he)
            | (fail "no arm"))
          go_ret
          exact ⟨by rw [HA.out]; rfl, HB4.out⟩
        · have hz2 : (z == D) = false := by simpa using hz
          have HZ := Lib.hid hz
          clear hz
          go_wp2_with (first
            | (go_at_call 118; (with_reducible refine (HH1.out _ HB2.out).mono ?_); rintro e w4 ⟨he, -, hb⟩
               obtain rfl := he z rfl
               have HB4 := Lib.hid (HB2.out.trans (hb.mono HB2.out.size))
               have HR4 := Lib.hid (HR2.out.below hb)
               have HC4 := Lib.hid (HC2.out.below hb)
               clear hb he)
            | (fail "no arm"))
          go_roundw
          case rel => exact ⟨j + 1, by omega, by omega, by go_num, fun i h1 h2 => (by
            by_cases e : i = j
            · rw [e, HO.out]; intro h; exact HZ.out (Option.some.inj h)
            · exact HNo.out i h1 (by omega)), HR4.out, HC4.out, HB4.out⟩
          case measure => simp [intOf] <;> omega
    · have ha : ans = false := by
        rw [← HAns.out]
        refine decide_eq_false ?_
        unfold ruleDay
        rintro (h | h | h)
        · exact HNo.out (-1) (by omega) (by omega) h
        · exact HNo.out 0 (by omega) (by omega) (by rwa [Int.add_zero])
        · exact HNo.out 1 (by omega) (by omega) h
      have HA := Lib.hid ha
      clear ha
      go_wp2
      go_ret
      exact ⟨by rw [HA.out]; rfl, HB2.out⟩
theorem hol_c : HolC where
  may := fun k mo d n wd sh w hw => May_any k mo d n wd sh w hw
  dayYes := fun k mo d n wd sh y z h w hw => (Day_any k mo d n wd sh y w hw).mono fun _ _ he => ⟨he.1 z h, he.2.2⟩
  dayNo := fun k mo d n wd sh y h w hw => (Day_any k mo d n wd sh y w hw).mono fun _ _ he => ⟨he.2.1 h, he.2.2⟩
  is := fun k mo d n wd sh y m a h w hw => Is_at k mo d n wd sh y m a h w hw
  isNo := fun k mo d n wd sh D h w _ => Is_no k mo d n wd sh D h w
end Go.Proofs.YtlhmfgbaefaneaaGreatDoor.holi
