/-
  The steps of the walks, part 7: MonthB, Easter, Holi.
-/
import Derived.Test.YtlhmfgbaefaneabGreatDoorB06
import Derived.Test.YtlhmfgbaefaneabGreatDoorB03
namespace Go.Proofs.YtlhmfgbaefaneabGreatDoor.month
open Go Go.RowKit Go.Proofs.YtlhmfgbaefaneabGreatDoor.day Go.Proofs.YtlhmfgbaefaneabGreatDoor.date Go.Proofs.YtlhmfgbaefaneabGreatDoor.law6
open Go.Proofs.YtlhmfgbaefaneabGreatDoor.ref6 (CAt quiet_same drewN_below6 clip)
set_option maxRecDepth 100000 in
set_option maxHeartbeats 4000000 in
theorem Between_at (y m d : Int) (h : IsCivil y m d) (y' m' d' : Int) (h' : IsCivil y' m' d') (w : World) (hw : Wd w) :
    Calls Tryz.prog 25 #[.int .i64 (dayOf y m d), .int .i64 (dayOf y' m' d')] w fun e w' => e = .returned (.int .i64 (12 * (y' - y) + (m' - m))) ∧ Below w.heap.size w w' := by
  have HC := Lib.hid (Civil_at y m d h w hw.lens)
  have HC2 := Lib.hid (fun W (hb : Below w.heap.size w W) => Civil_at y' m' d' h' W (hw.keep hb).lens)
  obtain ⟨a1, a2, -⟩ := id h
  obtain ⟨b1, b2, -⟩ := id h'
  obtain ⟨a3, a4⟩ := h.month
  obtain ⟨b3, b4⟩ := h'.month
  have HA := Lib.hid (fun W => inMonths_any y m d (by omega) (by omega) a3 a4 W)
  have HA2 := Lib.hid (fun W => inMonths_any y' m' d' (by omega) (by omega) b3 b4 W)
  clear h h' hw
  generalize dayOf y m d = n at *
  generalize dayOf y' m' d' = n' at *
  go_enter Tryz.func25, Tryz.ntmps25
  go_wp2_with (first
    | (go_at_call 36; (with_reducible refine (HC.out).mono ?_); rintro e w1 ⟨rfl, hb⟩
       have HM := Lib.hid (CAt.new w1 y m d)
       have HB := Lib.hid (hb.alloc hb.size (.cells #[.int .i64 y, .int .i64 m, .int .i64 d] 48)); clear hb HC)
    | (go_at_call 36; (with_reducible refine (HC2.out _ HB.out).mono ?_); rintro e w2 ⟨rfl, hb⟩
       have HN := Lib.hid (CAt.new w2 y' m' d')
       have HM2 := Lib.hid ((HM.out.below hb).below ((Below.refl _ _).alloc (Nat.le_refl _) (.cells #[.int .i64 y', .int .i64 m', .int .i64 d'] 48)))
       have HB2 := Lib.hid ((HB.out.trans (hb.mono HB.out.size)).alloc (HB.out.trans (hb.mono HB.out.size)).size (.cells #[.int .i64 y', .int .i64 m', .int .i64 d'] 48)); clear hb HC2)
    | (fail "no arm"))
  obtain ⟨V, hV⟩ : ∃ V, V = w2.alloc (.cells #[.int .i64 y', .int .i64 m', .int .i64 d'] 48) := ⟨_, rfl⟩
  rw [← hV] at HN HM2 HB2 ⊢
  have HOLD := Lib.hid (fun W (hW : Below V.heap.size V W) => (show Below V.heap.size V W ∧ W.cell? ⟨w1.heap.size, 0, none⟩ = some (.int .i64 y) ∧ W.cell? ⟨w1.heap.size, 1, none⟩ = some (.int .i64 m) ∧ W.cell? ⟨w1.heap.size, 2, none⟩ = some (.int .i64 d) ∧ W.cell? ⟨w2.heap.size, 0, none⟩ = some (.int .i64 y') ∧ W.cell? ⟨w2.heap.size, 1, none⟩ = some (.int .i64 m') ∧ W.cell? ⟨w2.heap.size, 2, none⟩ = some (.int .i64 d') from
    have c := (HM2.out.below hW).cells
    have c' := (HN.out.below hW).cells
    ⟨hW, c.1, c.2.1, c.2.2.1, c'.1, c'.2.1, c'.2.2.1⟩))
  clear hV HM HN HM2 HB
  go_region_held3 (fun w' => Below V.heap.size V w' ∧ w'.cell? ⟨w1.heap.size, 0, none⟩ = some (.int .i64 y) ∧ w'.cell? ⟨w1.heap.size, 1, none⟩ = some (.int .i64 m) ∧ w'.cell? ⟨w1.heap.size, 2, none⟩ = some (.int .i64 d) ∧ w'.cell? ⟨w2.heap.size, 0, none⟩ = some (.int .i64 y') ∧ w'.cell? ⟨w2.heap.size, 1, none⟩ = some (.int .i64 m') ∧ w'.cell? ⟨w2.heap.size, 2, none⟩ = some (.int .i64 d'))
    (first
      | exact HOLD.out _ (Below.refl _ _).drew
      | exact HOLD.out _ HB4.out
      | exact HOLD.out _ HB3.out
      | exact HOLD.out _ (And.left ‹_ ∧ _› : Below V.heap.size V _).drew)
    (first
      | (go_at_call 65; (with_reducible refine (HA.out _).mono ?_); rintro e' w3 ⟨rfl, hb3⟩
         have HB3 := Lib.hid ((And.left ‹_ ∧ _› : Below V.heap.size V _).trans (hb3.mono (And.left ‹_ ∧ _› : Below V.heap.size V _).size)); clear hb3)
      | (go_at_call 65; (with_reducible refine (HA2.out _).mono ?_); rintro e' w4 ⟨rfl, hb4⟩
         have HB4 := Lib.hid ((And.left ‹_ ∧ _› : Below V.heap.size V _).trans (hb4.mono (And.left ‹_ ∧ _› : Below V.heap.size V _).size)); clear hb4)
      | (fail "no arm"))
  all_goals go_wp2
  all_goals go_ret
  all_goals exact ⟨by show Ending.returned (.int .i64 (IntKind.i64.wrap (12 * y' + m' - 1 - (12 * y + m - 1)))) = _; rw [show IntKind.i64.wrap (12 * y' + m' - 1 - (12 * y + m - 1)) = 12 * (y' - y) + (m' - m) from by rw [IntKind.wrap_i64]; omega], HB2.out.trans ((And.left ‹_ ∧ _› : Below V.heap.size V _).mono HB2.out.size)⟩
set_option maxRecDepth 100000 in
set_option maxHeartbeats 4000000 in
theorem Between_no (a b : Int) (h : ¬ (IsDay a ∧ IsDay b)) (w : World) (hw : Wd w) :
    Calls Tryz.prog 25 #[.int .i64 a, .int .i64 b] w fun e w' => e = .returned (.int .i64 0) ∧ Below w.heap.size w w' := by
  have HW := Lib.hid (fun W (hb : Below w.heap.size w W) => (hw.keep hb).lens)
  have HL := Lib.hid hw.lens
  have HN := Lib.hid (fun (n : Int) (hn : ¬ IsDay n) W => (show Calls Tryz.prog 36 #[.int .i64 n] W fun e w' => e = .returned (.tuple #[.agg #[.int .i64 0, .int .i64 0, .int .i64 0], .iface 100 (.int .i64 4)]) ∧ Below W.heap.size W w' from Civil_no n hn W))
  clear hw
  by_cases h1 : IsDay a
  · by_cases h2 : IsDay b
    · exact absurd ⟨h1, h2⟩ h
    · obtain ⟨y, m, d, hc, rfl⟩ := h1.civil
      have HC := Lib.hid (Civil_at y m d hc w HL.out)
      have HC2 := Lib.hid (fun W => HN.out b h2 W)
      clear h h2 HN hc HW
      generalize dayOf y m d = n at *
      go_enter Tryz.func25, Tryz.ntmps25
      go_wp2_with (first
        | (go_at_call 36; (with_reducible refine (HC.out).mono ?_); rintro e w1 ⟨rfl, hb⟩
           have HB := Lib.hid (hb.alloc hb.size (.cells #[.int .i64 y, .int .i64 m, .int .i64 d] 48)); clear hb HC)
        | (go_at_call 36; (with_reducible refine (HC2.out _).mono ?_); rintro e w2 ⟨rfl, hb⟩
           have HB2 := Lib.hid ((HB.out.trans (hb.mono HB.out.size)).alloc (HB.out.trans (hb.mono HB.out.size)).size (.cells #[.int .i64 0, .int .i64 0, .int .i64 0] 48)); clear hb HC2)
        | (fail "no arm"))
      go_ret
      exact ⟨rfl, HB2.out⟩
  · have HC := Lib.hid (HN.out a h1 w)
    by_cases h2 : IsDay b
    · obtain ⟨y, m, d, hc, rfl⟩ := h2.civil
      have HC2 := Lib.hid (fun W (hb : Below w.heap.size w W) => Civil_at y m d hc W (HW.out W hb))
      clear h h1 hc HN
      generalize dayOf y m d = n at *
      go_enter Tryz.func25, Tryz.ntmps25
      go_wp2_with (first
        | (go_at_call 36; (with_reducible refine (HC.out).mono ?_); rintro e w1 ⟨rfl, hb⟩
           have HB := Lib.hid (hb.alloc hb.size (.cells #[.int .i64 0, .int .i64 0, .int .i64 0] 48)); clear hb HC)
        | (go_at_call 36; (with_reducible refine (HC2.out _ HB.out).mono ?_); rintro e w2 ⟨rfl, hb⟩
           have HB2 := Lib.hid ((HB.out.trans (hb.mono HB.out.size)).alloc (HB.out.trans (hb.mono HB.out.size)).size (.cells #[.int .i64 y, .int .i64 m, .int .i64 d] 48)); clear hb HC2)
        | (fail "no arm"))
      go_ret
      exact ⟨rfl, HB2.out⟩
    · have HC2 := Lib.hid (fun W => HN.out b h2 W)
      clear h h1 h2 HN
      go_enter Tryz.func25, Tryz.ntmps25
      go_wp2_with (first
        | (go_at_call 36; (with_reducible refine (HC.out).mono ?_); rintro e w1 ⟨rfl, hb⟩
           have HB := Lib.hid (hb.alloc hb.size (.cells #[.int .i64 0, .int .i64 0, .int .i64 0] 48)); clear hb HC)
        | (go_at_call 36; (with_reducible refine (HC2.out _).mono ?_); rintro e w2 ⟨rfl, hb⟩
           have HB2 := Lib.hid ((HB.out.trans (hb.mono HB.out.size)).alloc (HB.out.trans (hb.mono HB.out.size)).size (.cells #[.int .i64 0, .int .i64 0, .int .i64 0] 48)); clear hb HC2)
        | (fail "no arm"))
      go_ret
      exact ⟨rfl, HB2.out⟩
theorem below_set2 {n b : Nat} {w W : World} (h : Below n w W) (hn : n ≤ b) (v : Value) : Below n w (W.setCell ⟨b, 2, none⟩ v) := h.setCell hn v
set_option maxRecDepth 100000 in
set_option maxHeartbeats 4000000 in
theorem Add_main (y m d k : Int) (fin : Bool) (h : IsCivil y m d) (k0 : -3600 ≤ k) (k1 : k ≤ 3600) (Y M : Int) (hY : mY y m k = Y) (hM : mM y m k = M) (a : Int) (er : Value) (w : World) (hw : Wd w)
    (HO : ∀ W, Lens W → Calls Tryz.prog 31 #[.agg #[.int .i64 Y, .int .i64 M, .int .i64 (clip fin y m d Y M)]] W fun e w' => e = .returned (.tuple #[.int .i64 a, er]) ∧ Below W.heap.size W w') :
    Calls Tryz.prog 35 #[.int .i64 (dayOf y m d), .int .i64 k, .bool fin] w fun e w' => e = .returned (.tuple #[.int .i64 a, er]) ∧ Below w.heap.size w w' := by
  have HC := Lib.hid (Civil_at y m d h w hw.lens)
  obtain ⟨a1, a2, a5, -⟩ := id h
  obtain ⟨a3, a4⟩ := h.month
  have HA := Lib.hid (fun W => inMonths_any y m d (by omega) (by omega) a3 a4 W)
  have hfm := fun W => fromMonths_any (12 * y + m - 1 + k) (by omega) (by omega) W
  rw [show (12 * y + m - 1 + k) / 12 = Y by rw [← hY]; unfold mY; congr 1; omega, show (12 * y + m - 1 + k) % 12 + 1 = M by rw [← hM]; unfold mM; congr 2; omega] at hfm
  have HF := Lib.hid hfm
  have HW := Lib.hid (fun W (hb : Below w.heap.size w W) => (hw.keep hb).lens)
  have HLn := Lib.hid (fun W (hL : Lens W) => Length_any Y M W hL)
  have HIs := Lib.hid (fun W (hL : Lens W) => isLast_any y m d W hL)
  obtain ⟨b, hb⟩ : ∃ b, decide (d = mlen y m) = b := ⟨_, rfl⟩
  rw [hb] at HIs
  have HK : clip fin y m d Y M = if (fin && b) = true then mlen Y M else min d (mlen Y M) := by
    unfold clip
    rw [← hb]
    cases fin
    · simp only [Bool.false_and, Bool.false_eq_true, false_and, false_or, if_false]
      split <;> omega
    · by_cases hq : d = mlen y m
      · simp [hq]
      · simp only [hq, decide_false, Bool.and_false, Bool.false_eq_true, and_false, false_or, if_false]
        split <;> omega
  rw [HK] at HO
  have HOf := Lib.hid HO
  clear HO HK hb hfm hY hM h hw
  generalize dayOf y m d = n at *
  generalize mlen Y M = L at *
  cases fin
  all_goals try cases b
  all_goals
    simp only [Bool.false_and, Bool.true_and, Bool.false_eq_true, if_false, if_true] at HOf
    go_enter Tryz.func35, Tryz.ntmps35
    go_wp2_with (first
      | (go_at_call 36; (with_reducible refine (HC.out).mono ?_); rintro e w1 ⟨rfl, hb⟩
         have HM := Lib.hid (CAt.new w1 y m d)
         obtain ⟨c0, c1, c2, -⟩ := (CAt.new w1 y m d).cells
         have HB := Lib.hid (hb.alloc hb.size (.cells #[.int .i64 y, .int .i64 m, .int .i64 d] 48)); clear hb HC)
      | (go_at_call 65; (with_reducible refine (HA.out _).mono ?_); rintro e w2 ⟨rfl, hb⟩
         have HM2 := Lib.hid (HM.out.below hb)
         have HB2 := Lib.hid (HB.out.trans (hb.mono HB.out.size)); clear hb HA HM HB c0 c1 c2)
      | (go_at_call 74; (with_reducible refine (HF.out _).mono ?_); rintro e w3 ⟨rfl, hb⟩
         have HM3 := Lib.hid ((HM2.out.below hb).below ((Below.refl _ _).alloc (Nat.le_refl _) (.cells #[.int .i64 Y, .int .i64 M, .int .i64 0] 48)))
         have HT3 := Lib.hid (CAt.new w3 Y M 0)
         have HS3 := Lib.hid (show w.heap.size ≤ w3.heap.size from Nat.le_trans HB2.out.size hb.size)
         have HB3 := Lib.hid ((HB2.out.trans (hb.mono HB2.out.size)).alloc (HB2.out.trans (hb.mono HB2.out.size)).size (.cells #[.int .i64 Y, .int .i64 M, .int .i64 0] 48))
         have HV3 := Lib.hid (fun v : Int => (HB2.out.trans (hb.mono HB2.out.size)).alloc (HB2.out.trans (hb.mono HB2.out.size)).size (.cells #[.int .i64 Y, .int .i64 M, .int .i64 v] 48))
         obtain ⟨c0, c1, c2, -⟩ := HM3.out.cells
         obtain ⟨t0, t1, t2, g0, g1, g2⟩ := HT3.out.cells
         obtain ⟨e0, e1, e2, -⟩ := ((HM2.out.below hb).below ((Below.refl _ _).alloc (Nat.le_refl _) (.cells #[.int .i64 Y, .int .i64 M, .int .i64 (min d L)] 48))).cells
         obtain ⟨s0, s1, s2, h0, h1, h2⟩ := (CAt.new w3 Y M (min d L)).cells
         clear hb HF HM2 HB2)
      | (go_at_call 32; (with_reducible refine (HLn.out _ (HW.out _ HB3.out)).mono ?_); rintro e w9 ⟨rfl, rfl⟩
         clear HLn)
      | (go_at_call 66; (with_reducible refine (HIs.out _ (HW.out _ (HV3.out (min d L)))).mono ?_); rintro e w4 ⟨rfl, hb⟩
         have HT4 := Lib.hid ((CAt.new w3 Y M (min d L)).below hb)
         have HB4 := Lib.hid ((HV3.out (min d L)).trans (hb.mono (HV3.out (min d L)).size))
         clear c0 c1 c2 t0 t1 t2 g0 g1 g2 e0 e1 e2 s0 s1 s2 h0 h1 h2
         obtain ⟨t0, t1, t2, g0, g1, g2⟩ := HT4.out.cells
         clear hb HIs)
      | (go_at_call 31; (with_reducible refine (HOf.out _ (HW.out _ (below_set2 HB4.out HS3.out _))).mono ?_); rintro e w5 ⟨rfl, hb⟩; have HB5 := Lib.hid ((below_set2 HB4.out HS3.out _).trans (hb.mono (below_set2 HB4.out HS3.out _).size)); clear hb)
      | (go_at_call 31; (with_reducible refine (HOf.out _ (HW.out _ HB4.out)).mono ?_); rintro e w5 ⟨rfl, hb⟩; have HB5 := Lib.hid (HB4.out.trans (hb.mono HB4.out.size)); clear hb)
      | (go_at_call 31; (with_reducible refine (HOf.out _ (HW.out _ (below_set2 HB3.out HS3.out _))).mono ?_); rintro e w5 ⟨rfl, hb⟩; have HB5 := Lib.hid ((below_set2 HB3.out HS3.out _).trans (hb.mono (below_set2 HB3.out HS3.out _).size)); clear hb)
      | (go_at_call 31; (with_reducible refine (HOf.out _ (HW.out _ (HV3.out (min d L)))).mono ?_); rintro e w5 ⟨rfl, hb⟩; have HB5 := Lib.hid ((HV3.out (min d L)).trans (hb.mono (HV3.out (min d L)).size)); clear hb)
      | (fail "no arm"))
    go_ret2
    exact ⟨rfl, HB5.out⟩
set_option maxRecDepth 100000 in
set_option maxHeartbeats 4000000 in
theorem Add_far (y m d k : Int) (fin : Bool) (h : IsCivil y m d) (hk : k < -3600 ∨ 3600 < k) (w : World) (hw : Wd w) :
    Calls Tryz.prog 35 #[.int .i64 (dayOf y m d), .int .i64 k, .bool fin] w fun e w' => e = .returned (.tuple #[.int .i64 0, errOf 4]) ∧ Below w.heap.size w w' := by
  have HC := Lib.hid (Civil_at y m d h w hw.lens)
  have HO := Lib.hid (fun W => OfE 4 rfl W)
  unfold errOf
  clear h hw
  generalize dayOf y m d = n at *
  rcases hk with hk | hk
  all_goals
    try (have hk2 : -3600 ≤ k := by omega)
    go_enter Tryz.func35, Tryz.ntmps35
    go_wp2_with (first
      | (go_at_call 36; (with_reducible refine (HC.out).mono ?_); rintro e w1 ⟨rfl, hb⟩
         have HB := Lib.hid (hb.alloc hb.size (.cells #[.int .i64 y, .int .i64 m, .int .i64 d] 48)); clear hb HC)
      | (go_at_call 49; (with_reducible refine (HO.out _).mono ?_); rintro e w9 ⟨rfl, rfl⟩)
      | (fail "no arm"))
    go_ret2
    exact ⟨rfl, HB.out⟩
theorem mon_c : MonC where
  addYes := fun y m d k fin h k0 k1 h1 h2 w hw => by
    have hM := mM_in y m k
    exact Add_main y m d k fin h k0 k1 _ _ rfl rfl _ _ w hw (fun W hL => Of_yes _ _ _ ((clip_civil h.2.2.1 hM.1 hM.2).2 ⟨h1, h2⟩) W hL)
  addNo := fun y m d k fin _ _ h hn w hw => by
    have hM := mM_in y m k
    by_cases hk : -3600 ≤ k ∧ k ≤ 3600
    · exact Add_main y m d k fin h hk.1 hk.2 _ _ rfl rfl _ _ w hw (fun W hL => Of_no _ _ _ (fun hc => hn ⟨hk.1, hk.2, (clip_civil h.2.2.1 hM.1 hM.2).1 hc⟩) W hL)
    · exact Add_far y m d k fin h (by omega) w hw
  last := fun y m d h w hw => Last_at y m d h w hw
  endYes := fun y m a b c d w hw => End_yes y m a b c d w hw
  endNo := fun y m h w hw => End_no y m h w hw
  between := fun y m d y' m' d' h h' w hw => Between_at y m d h y' m' d' h' w hw
  betweenNo := fun a b h w hw => Between_no a b h w hw
end Go.Proofs.YtlhmfgbaefaneabGreatDoor.month
namespace Go.Proofs.YtlhmfgbaefaneabGreatDoor.easter
open Go Go.RowKit Go.Proofs.YtlhmfgbaefaneabGreatDoor.day Go.Proofs.YtlhmfgbaefaneabGreatDoor.date Go.Proofs.YtlhmfgbaefaneabGreatDoor.law6
set_option maxRecDepth 100000 in
theorem moonDays_at (y : Int) (h1 : 1900 ≤ y) (h2 : y ≤ 2199) (w : World) :
    Calls Tryz.prog 76 #[.int .i64 y] w fun e w' => e = .returned (.int .i64 (easterH y)) ∧ w = w' := by
  have HH := Lib.hid (show (19 * (y % 19) + y / 100 - y / 100 / 4 - (y / 100 - (y / 100 + 8) / 25 + 1) / 3 + 15) % 30 = easterH y from rfl)
  obtain ⟨b1, b2⟩ := easterH_in y
  generalize easterH y = H at *
  go_enter Tryz.func76, Tryz.ntmps76
  go_wp2
  go_ret
  exact ⟨by rw [← HH.out]; rfl, rfl⟩
set_option maxRecDepth 100000 in
theorem moonDays_any (y : Int) (w : World) :
    Calls Tryz.prog 76 #[.int .i64 y] w fun e w' => (∃ z : Int, e = .returned (.int .i64 z)) ∧ w = w' := by
  go_enter Tryz.func76, Tryz.ntmps76
  go_wp2
  go_ret
  exact ⟨⟨_, rfl⟩, rfl⟩
set_option maxRecDepth 100000 in
theorem waitDays_at (y : Int) (h1 : 1900 ≤ y) (h2 : y ≤ 2199) (w : World) :
    Calls Tryz.prog 77 #[.int .i64 y, .int .i64 (easterH y)] w fun e w' => e = .returned (.int .i64 (easterL y)) ∧ w = w' := by
  have HL := Lib.hid (show (32 + 2 * (y / 100 % 4) + 2 * (y % 100 / 4) - easterH y - y % 4) % 7 = easterL y from by unfold easterL; rw [Int.emod_emod_of_dvd y (show (4 : Int) ∣ 100 by decide)])
  obtain ⟨b1, b2⟩ := easterH_in y
  obtain ⟨b3, b4⟩ := easterL_in y
  generalize easterH y = H at *
  generalize easterL y = L at *
  go_enter Tryz.func77, Tryz.ntmps77
  go_wp2
  go_ret
  exact ⟨by rw [← HL.out]; rfl, rfl⟩
set_option maxRecDepth 100000 in
theorem waitDays_any (y m : Int) (w : World) :
    Calls Tryz.prog 77 #[.int .i64 y, .int .i64 m] w fun e w' => (∃ z : Int, e = .returned (.int .i64 z)) ∧ w = w' := by
  go_enter Tryz.func77, Tryz.ntmps77
  go_wp2
  go_ret
  exact ⟨⟨_, rfl⟩, rfl⟩
set_option maxRecDepth 100000 in
theorem weeksOff_at (y : Int) (h1 : 1900 ≤ y) (h2 : y ≤ 2199) (w : World) :
    Calls Tryz.prog 78 #[.int .i64 y, .int .i64 (easterH y), .int .i64 (easterL y)] w fun e w' => e = .returned (.int .i64 ((y % 19 + 11 * easterH y + 22 * easterL y) / 451)) ∧ w = w' := by
  obtain ⟨b1, b2⟩ := easterH_in y
  obtain ⟨b3, b4⟩ := easterL_in y
  generalize easterH y = H at *
  generalize easterL y = L at *
  go_enter Tryz.func78, Tryz.ntmps78
  go_wp2
  go_ret
  exact ⟨rfl, rfl⟩
set_option maxRecDepth 100000 in
theorem weeksOff_any (y m l : Int) (w : World) :
    Calls Tryz.prog 78 #[.int .i64 y, .int .i64 m, .int .i64 l] w fun e w' => (∃ z : Int, e = .returned (.int .i64 z)) ∧ w = w' := by
  go_enter Tryz.func78, Tryz.ntmps78
  go_wp2
  go_ret
  exact ⟨⟨_, rfl⟩, rfl⟩
set_option maxRecDepth 100000 in
set_option maxHeartbeats 4000000 in
theorem Sunday_at (y : Int) (h1 : 1900 ≤ y) (h2 : y ≤ 2199) (w : World) (hw : Wd w) :
    Calls Tryz.prog 38 #[.int .i64 y] w fun e w' => e = .returned (.tuple #[.int .i64 (easterDay y), .nilIface]) ∧ Below w.heap.size w w' := by
  have HO := Lib.hid (fun W (hb : Below w.heap.size w W) => Of_yes _ _ _ (easter_civil h1 h2) W (hw.keep hb).lens)
  have H1 := Lib.hid (fun W => moonDays_at y h1 h2 W)
  have H2 := Lib.hid (fun W => waitDays_at y h1 h2 W)
  have H3 := Lib.hid (fun W => weeksOff_at y h1 h2 W)
  have HN := Lib.hid (show easterH y + easterL y - 7 * ((y % 19 + 11 * easterH y + 22 * easterL y) / 451) + 114 = easterN y from rfl)
  obtain ⟨b1, b2⟩ := easterH_in y
  obtain ⟨b3, b4⟩ := easterL_in y
  obtain ⟨b5, b6⟩ := easterN_in y
  have k0 : 0 ≤ (y % 19 + 11 * easterH y + 22 * easterL y) / 451 := by omega
  have HE := Lib.hid (show dayOf y (easterN y / 31) (easterN y % 31 + 1) = easterDay y from rfl)
  generalize easterDay y = E at *
  generalize easterH y = H at *
  generalize easterL y = L at *
  generalize easterN y = N at *
  generalize (y % 19 + 11 * H + 22 * L) / 451 = K at *
  rw [HE.out] at HO
  have HK := Lib.hid (show 114 + H + L - 7 * K = N by have := HN.out; omega)
  have k1 : K ≤ 10 := by have := HN.out; omega
  clear HE HN hw
  go_enter Tryz.func38, Tryz.ntmps38
  go_wp2_with (first
    | (go_at_call 76; (with_reducible refine (H1.out _).mono ?_); rintro e w1 ⟨rfl, rfl⟩)
    | (go_at_call 77; (with_reducible refine (H2.out _).mono ?_); rintro e w1 ⟨rfl, rfl⟩)
    | (go_at_call 78; (with_reducible refine (H3.out _).mono ?_); rintro e w1 ⟨rfl, rfl⟩)
    | (go_at_call 31; rw [HK.out]; (with_reducible refine (HO.out _ (Below.refl _ _)).mono ?_); rintro e w1 ⟨rfl, hb⟩; have HB := Lib.hid hb; clear hb)
    | (fail "no arm"))
  go_ret2
  exact ⟨rfl, HB.out⟩
set_option maxRecDepth 100000 in
set_option maxHeartbeats 4000000 in
theorem Sunday_no (y : Int) (h : ¬ (1900 ≤ y ∧ y ≤ 2199)) (w : World) (hw : Wd w) :
    Calls Tryz.prog 38 #[.int .i64 y] w fun e w' => e = .returned (.tuple #[.int .i64 0, errOf 4]) ∧ Below w.heap.size w w' := by
  unfold errOf
  have HO := Lib.hid (fun (m d : Int) W (hb : Below w.heap.size w W) => show Calls Tryz.prog 31 #[.agg #[.int .i64 y, .int .i64 m, .int .i64 d]] W fun e w' => e = .returned (.tuple #[.int .i64 0, .iface 100 (.int .i64 4)]) ∧ Below W.heap.size W w' from Of_no y m d (fun hc => h ⟨hc.1, hc.2.1⟩) W (hw.keep hb).lens)
  have H1 := Lib.hid (fun W => moonDays_any y W)
  have H2 := Lib.hid (fun m W => waitDays_any y m W)
  have H3 := Lib.hid (fun m l W => weeksOff_any y m l W)
  clear h hw
  go_enter Tryz.func38, Tryz.ntmps38
  go_wp2_with (first
    | (go_at_call 76; (with_reducible refine (H1.out _).mono ?_); rintro e w1 ⟨⟨z1, rfl⟩, rfl⟩)
    | (go_at_call 77; (with_reducible refine (H2.out _ _).mono ?_); rintro e w1 ⟨⟨z2, rfl⟩, rfl⟩)
    | (go_at_call 78; (with_reducible refine (H3.out _ _ _).mono ?_); rintro e w1 ⟨⟨z3, rfl⟩, rfl⟩)
    | (go_at_call 31; (with_reducible refine (HO.out _ _ _ (Below.refl _ _)).mono ?_); rintro e w1 ⟨rfl, hb⟩; have HB := Lib.hid hb; clear hb)
    | (fail "no arm"))
  go_ret2
  exact ⟨rfl, HB.out⟩
theorem eas_c : EasC := ⟨fun y h1 h2 w hw => Sunday_at y h1 h2 w hw, fun y h w hw => Sunday_no y h w hw⟩
end Go.Proofs.YtlhmfgbaefaneabGreatDoor.easter
namespace Go.Proofs.YtlhmfgbaefaneabGreatDoor.holi
open Go Go.RowKit Go.Proofs.YtlhmfgbaefaneabGreatDoor.day Go.Proofs.YtlhmfgbaefaneabGreatDoor.date Go.Proofs.YtlhmfgbaefaneabGreatDoor.law6
open Go.Proofs.YtlhmfgbaefaneabGreatDoor.ref6 (May holiday ruleDay rawDay shiftDay nthDay daysW HolEnd RAt quiet_same drewN_below6)
set_option maxRecDepth 100000 in
theorem daysFrom_at (a b : Int) (a0 : 0 ≤ a) (a1 : a ≤ 6) (b0 : 0 ≤ b) (b1 : b ≤ 6) (w : World) :
    Calls Tryz.prog 139 #[.int .i64 a, .int .i64 b] w fun e w' => e = .returned (.int .i64 ((b - a + 7) % 7)) ∧ w = w' := by
  go_enter Tryz.func139, Tryz.ntmps139
  go_wp2
  go_ret
  exact ⟨rfl, rfl⟩
set_option maxRecDepth 100000 in
theorem isNth_any (n : Int) (w : World) :
    Calls Tryz.prog 64 #[.int .i64 n] w fun e w' => e = .returned (.bool (decide (1 ≤ n ∧ n ≤ 5 ∨ n = -1))) ∧ w = w' := by
  obtain ⟨q, hq⟩ : ∃ q, decide (1 ≤ n ∧ n ≤ 5 ∨ n = -1) = q := ⟨_, rfl⟩
  rw [hq]
  rcases (show ((n == -1) = true ∧ q = true) ∨ ((n == -1) = false ∧ n < 1 ∧ q = false) ∨ ((n == -1) = false ∧ 1 ≤ n ∧ decide (n ≤ 5) = false ∧ q = false) ∨ ((n == -1) = false ∧ 1 ≤ n ∧ decide (n ≤ 5) = true ∧ q = true) from by
    by_cases h : n = -1
    · exact Or.inl ⟨by simpa using h, by rw [← hq]; exact decide_eq_true (Or.inr h)⟩
    · have h2 : (n == -1) = false := by simpa using h
      by_cases h3 : n < 1
      · exact Or.inr (Or.inl ⟨h2, h3, by rw [← hq]; exact decide_eq_false (by omega)⟩)
      · by_cases h4 : n ≤ 5
        · exact Or.inr (Or.inr (Or.inr ⟨h2, by omega, decide_eq_true h4, by rw [← hq]; exact decide_eq_true (Or.inl ⟨by omega, h4⟩)⟩))
        · exact Or.inr (Or.inr (Or.inl ⟨h2, by omega, decide_eq_false h4, by rw [← hq]; exact decide_eq_false (by omega)⟩))) with ⟨h1, h⟩ | ⟨h1, h2, h⟩ | ⟨h1, h2, h3, h⟩ | ⟨h1, h2, h3, h⟩
  all_goals
    clear hq
    subst h
    go_enter Tryz.func64, Tryz.ntmps64
    go_wp2
    go_ret
    exact ⟨by first | rfl | simp [*], rfl⟩
set_option maxRecDepth 100000 in
set_option maxHeartbeats 4000000 in
theorem May_1 (mo d n wd : Int) (sh : Bool) (w : World) (hw : Wd w) :
    Calls Tryz.prog 24 #[.agg #[.int .i64 1, .int .i64 mo, .int .i64 d, .int .i64 n, .int .i64 wd, .bool sh]] w fun e w' => e = .returned (.bool (decide (1 ≤ d) && decide (d ≤ mlen 2000 mo) && (n == 0) && (wd == 0))) ∧ Below w.heap.size w w' := by
  have HL := Lib.hid (fun (k : Nat) (o : Obj) => Length_any 2000 mo ((w.alloc o).drewN k) ((hw.lens.alloc o).drewN k))
  generalize mlen 2000 mo = L at *
  have hcase : decide (1 ≤ d) = false ∨ (decide (1 ≤ d) = true ∧ decide (d ≤ L) = false) ∨ (decide (1 ≤ d) = true ∧ decide (d ≤ L) = true ∧ (n == 0) = false) ∨ (decide (1 ≤ d) = true ∧ decide (d ≤ L) = true ∧ (n == 0) = true ∧ (wd == 0) = false) ∨ (decide (1 ≤ d) = true ∧ decide (d ≤ L) = true ∧ (n == 0) = true ∧ (wd == 0) = true) := by
    cases decide (1 ≤ d) <;> cases decide (d ≤ L) <;> cases (n == 0) <;> cases (wd == 0) <;> simp
  clear hw
  rcases hcase with c0 | ⟨c0, c1⟩ | ⟨c0, c1, c2⟩ | ⟨c0, c1, c2, c3⟩ | ⟨c0, c1, c2, c3⟩
  all_goals
    go_enter Tryz.func24, Tryz.ntmps24
    go_wp2
    go_quiet (first | (go_at_call 32; with_reducible exact quiet_same (HL.out _ _)))
    go_wp2
    go_ret
    exact ⟨by first | rfl | simp [*], drewN_below6 ((Below.refl _ _).alloc (Nat.le_refl _) _) nq⟩
set_option maxRecDepth 100000 in
set_option maxHeartbeats 4000000 in
theorem May_2 (mo d n wd : Int) (sh : Bool) (w : World) :
    Calls Tryz.prog 24 #[.agg #[.int .i64 2, .int .i64 mo, .int .i64 d, .int .i64 n, .int .i64 wd, .bool sh]] w fun e w' => e = .returned (.bool (decide (1 ≤ mo) && decide (mo ≤ 12) && decide (1 ≤ n ∧ n ≤ 5 ∨ n = -1) && decide (0 ≤ wd) && decide (wd < 7) && (d == 0) && !sh)) ∧ Below w.heap.size w w' := by
  have HN := Lib.hid (fun W => isNth_any n W)
  generalize decide (1 ≤ n ∧ n ≤ 5 ∨ n = -1) = q at *
  go_enter Tryz.func24, Tryz.ntmps24
  go_wp2_with (first
    | (go_at_call 64; (with_reducible refine (HN.out _).mono ?_); rintro e w1 ⟨rfl, rfl⟩)
    | (fail "no arm"))
  all_goals
    go_ret
    exact ⟨by simp [*] <;> omega, (Below.refl _ _).alloc (Nat.le_refl _) _⟩
set_option maxRecDepth 100000 in
set_option maxHeartbeats 4000000 in
theorem May_3 (mo d n wd : Int) (sh : Bool) (w : World) :
    Calls Tryz.prog 24 #[.agg #[.int .i64 3, .int .i64 mo, .int .i64 d, .int .i64 n, .int .i64 wd, .bool sh]] w fun e w' => e = .returned (.bool (decide (-100 ≤ n) && decide (n ≤ 100) && (mo == 0) && (d == 0) && (wd == 0) && !sh)) ∧ Below w.heap.size w w' := by
  go_enter Tryz.func24, Tryz.ntmps24
  go_wp2
  all_goals
    go_ret
    exact ⟨by simp [*] <;> omega, (Below.refl _ _).alloc (Nat.le_refl _) _⟩
set_option maxRecDepth 100000 in
set_option maxHeartbeats 4000000 in
theorem May_0 (k mo d n wd : Int) (sh : Bool) (h1 : k ≠ 1) (h2 : k ≠ 2) (h3 : k ≠ 3) (w : World) :
    Calls Tryz.prog 24 #[.agg #[.int .i64 k, .int .i64 mo, .int .i64 d, .int .i64 n, .int .i64 wd, .bool sh]] w fun e w' => e = .returned (.bool false) ∧ Below w.heap.size w w' := by
  go_enter Tryz.func24, Tryz.ntmps24
  go_wp2
  all_goals
    go_ret
    exact ⟨by simp [*] <;> omega, (Below.refl _ _).alloc (Nat.le_refl _) _⟩
theorem mlen_none {y m : Int} (h : ¬ (1 ≤ m ∧ m ≤ 12)) : mlen y m ≤ 0 := by unfold mlen; split <;> (try split) <;> omega
theorem May_any (k mo d n wd : Int) (sh : Bool) (w : World) (hw : Wd w) :
    Calls Tryz.prog 24 #[.agg #[.int .i64 k, .int .i64 mo, .int .i64 d, .int .i64 n, .int .i64 wd, .bool sh]] w fun e w' => e = .returned (.bool (decide (May ⟨k, mo, d, n, wd, sh⟩))) ∧ Below w.heap.size w w' := by
  by_cases h1 : k = 1
  · subst h1
    refine (May_1 mo d n wd sh w hw).mono fun e w' ⟨he, hb⟩ => ⟨he.trans ?_, hb⟩
    congr 2
    rw [Bool.eq_iff_iff]
    simp only [Bool.and_eq_true, decide_eq_true_eq, beq_iff_eq]
    constructor
    · rintro ⟨⟨⟨a, b⟩, c⟩, e⟩
      by_cases hm : 1 ≤ mo ∧ mo ≤ 12
      · exact Or.inl ⟨rfl, hm.1, hm.2, a, b, c, e⟩
      · have := mlen_none (y := 2000) hm; omega
    · rintro (⟨-, -, -, a, b, c, e⟩ | ⟨h, -⟩ | ⟨h, -⟩)
      · exact ⟨⟨⟨a, b⟩, c⟩, e⟩
      · cases h
      · cases h
  · by_cases h2 : k = 2
    · subst h2
      refine (May_2 mo d n wd sh w).mono fun e w' ⟨he, hb⟩ => ⟨he.trans ?_, hb⟩
      congr 2
      rw [Bool.eq_iff_iff, decide_eq_true_iff]
      simp [May, and_assoc, show wd < 7 ↔ wd ≤ 6 by omega]
    · by_cases h3 : k = 3
      · subst h3
        refine (May_3 mo d n wd sh w).mono fun e w' ⟨he, hb⟩ => ⟨he.trans ?_, hb⟩
        congr 2
        rw [Bool.eq_iff_iff, decide_eq_true_iff]
        simp [May, and_assoc]
      · refine (May_0 k mo d n wd sh h1 h2 h3 w).mono fun e w' ⟨he, hb⟩ => ⟨he.trans ?_, hb⟩
        rw [decide_eq_false (fun h => h.elim (fun h => h1 h.1) (fun h => h.elim (fun h => h2 h.1) (fun h => h3 h.1)))]
end Go.Proofs.YtlhmfgbaefaneabGreatDoor.holi
