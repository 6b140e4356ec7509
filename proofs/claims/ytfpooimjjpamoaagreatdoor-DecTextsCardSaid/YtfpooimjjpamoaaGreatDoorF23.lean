/-
  The steps of the walks, part 23: Law2Begun.
-/
import Derived.Test.YtfpooimjjpamoaaGreatDoorF22
import Derived.Test.YtfpooimjjpamoaaGreatDoorS26
namespace Go.Proofs.YtfpooimjjpamoaaGreatDoor.law2
open Go.RowKit Go.Proofs.YtfpooimjjpamoaaGreatDoor.nat
open Go.Proofs.YtfpooimjjpamoaaGreatDoor.ref (str signed decText)
theorem big_text : str (Lib.decDigits 123456789012345678901234567890) = ⟨#[49, 50, 51, 52, 53, 54, 55, 56, 57, 48, 49, 50, 51, 52, 53, 54, 55, 56, 57, 48, 49, 50, 51, 52, 53, 54, 55, 56, 57, 48]⟩ := by decide +kernel
theorem big_get (w : World) : Calls Tryz.prog 44 #[.string ⟨#[49, 50, 51, 52, 53, 54, 55, 56, 57, 48, 49, 50, 51, 52, 53, 54, 55, 56, 57, 48, 49, 50, 51, 52, 53, 54, 55, 56, 57, 48]⟩] w fun e w' => ∃ v, e = .returned (.tuple #[v, .nilIface]) ∧ (nat.IsN w' v 123456789012345678901234567890 ∧ v ≠ .pointer none) ∧ Below w.heap.size w w' := by
  obtain ⟨h1, h2, -⟩ := ref.dec_numeral (x := 123456789012345678901234567890) (p := 29) (by decide) (by decide)
  have := nat.Get_ok (Lib.decDigits 123456789012345678901234567890) w h1
  rwa [h2, big_text] at this
theorem half_text : str (dec.putText (-3 / 2) 2 1) = ⟨#[45, 49, 46, 53, 48]⟩ := by decide +kernel
theorem half_form : ref.DecForm (decText (-150) 2) (decide ((-150 : Int) < 0)) (Int.natAbs (-150)) 2 := dec.int_form (p := 3) (by decide) (by decide) (by decide)
theorem half_lit : str (decText (-150) 2) = ⟨#[45, 49, 46, 53, 48]⟩ := by decide +kernel
theorem half_get (w : World) : Calls Tryz.prog 78 #[.string ⟨#[45, 49, 46, 53, 48]⟩] w fun e w' => ∃ u, e = .returned (.tuple #[u, .int .i64 2, .nilIface]) ∧ (rat.IsR w' u (-3 / 2) ∧ u ≠ .pointer none) ∧ Below w.heap.size w w' := by
  have := DGet_yes _ _ _ _ (-3 / 2) w (by decide +kernel) half_form
  rwa [half_lit] at this
theorem half_units : signed (decide ((-3 / 2 : Rat).num < 0)) (ref.nearN (-3 / 2 : Rat).num.natAbs (-3 / 2 : Rat).den 2) = -2 := by decide +kernel
theorem half_br : Br (-3 / 2 : Rat) 20 := ⟨by unfold Bz; decide +kernel, by unfold Bn; decide +kernel⟩
theorem neg_seven : str (Lib.itoa (-7)) = ⟨#[45, 55]⟩ := by decide +kernel
theorem half_rtxt : str (rat.rtxt (-3 / 2)) = ⟨#[45, 51, 47, 50]⟩ := by decide +kernel
theorem root_text : str (Lib.decDigits 10000000000) = ⟨#[49, 48, 48, 48, 48, 48, 48, 48, 48, 48, 48]⟩ := by decide +kernel
theorem root_val {r : Nat} (h : nat.RootIs (10 ^ 20) (Int.toNat 2) r) : r = 10000000000 := by
  unfold nat.RootIs at h
  rw [show Int.toNat 2 = 2 from rfl] at h
  obtain ⟨h1, h2⟩ := h
  rcases Nat.lt_trichotomy r 10000000000 with h3 | h3 | h3
  · have := Nat.pow_le_pow_left (show r + 1 ≤ 10000000000 from h3) 2
    rw [show 10000000000 ^ 2 = 10 ^ 20 by decide] at this
    omega
  · exact h3
  · have := Nat.pow_le_pow_left (show 10000000001 ≤ r from h3) 2
    rw [show 10000000001 ^ 2 = 10 ^ 20 + 20000000001 by decide] at this
    omega
set_option maxRecDepth 100000 in
theorem Begun_one (w : World) (h : Hd w) : Calls Tryz.prog 102 #[] w fun e w' => e = .returned (.bool true) ∧ Below w.heap.size w w' := by
  have HB := Lib.hid (flt.begun_any w h)
  clear h
  go_enter Tryz.func102, Tryz.ntmps102
  go_wp2_with (first
    | (go_at_call 144; (with_reducible refine (HB.out).mono ?_); rintro e w1 ⟨rfl, hb⟩)
    | (fail "no arm"))
  go_ret
  exact ⟨rfl, hb⟩
theorem blank_rat (w : World) (t : TypeId) : rat.IsR (w.alloc (.cells #[.bool false, .slice none 0 0, .bool false, .slice none 0 0] t)) (.pointer (some ⟨w.heap.size, 0, none⟩)) 0 := by
  obtain ⟨c0, c1, c2, c3⟩ := rat.row4 (heap_alloc_new w (.cells #[.bool false, .slice none 0 0, .bool false, .slice none 0 0] t))
  have hr : nat.Rd (w.alloc (.cells #[.bool false, .slice none 0 0, .bool false, .slice none 0 0] t)) (.slice none 0 0) (nat.digs 0) := by
    rw [nat.digs_zero]
    exact ⟨none, 0, rfl, ⟨Nat.le_refl _, fun _ => rfl⟩, by decide, Or.inl rfl⟩
  exact Or.inr ⟨_, 0, 0, rfl, rat.IsZ.of_cells c0 c1 hr rfl (fun h => by cases h), rat.IsZ.of_cells c2 c3 hr rfl (fun h => by cases h), Or.inr ⟨rfl, rfl⟩⟩
set_option maxRecDepth 100000 in
set_option maxHeartbeats 4000000 in
theorem begun_all (w : World) (hd : Hd w) :
    Calls Tryz.prog 25 #[] w fun e w' => e = .returned (.bool true) ∧ Below w.heap.size w w' := by
  have HG := Lib.hid hd
  clear hd
  have RD := fun W v (h : rat.IsR W v (-3 / 2)) => dec.Round_ok v (-3 / 2) 2 1 W h (half_br.rat (by decide)) (by decide) (Or.inl rfl)
  rw [half_text, show ((2 : Nat) : Int) = 2 from rfl] at RD
  have RD := Lib.hid RD
  have UN := fun W v (h : rat.IsR W v (-3 / 2)) => dec.Units_in v (-3 / 2) 2 W h (half_br.rat (by decide)) (Or.inr (Or.inl rfl)) (by rw [half_units]; decide) (by rw [half_units]; decide)
  rw [half_units] at UN
  have UN := Lib.hid UN
  have c1 := fun (W : World)    => nat.Of_int 7 7 rfl (by decide) W
  have C1 := Lib.hid c1
  clear c1
  have c2 := fun (W : World) (v0 : Value) (v1 : Value) (hh0 : nat.IsN W v0 (123456789012345678901234567890)) (hh1 : nat.IsN W v1 (7 : Nat))  => nat.Div_ok v0 v1 (123456789012345678901234567890) (7 : Nat) W hh0 hh1 (by decide) ((show Bn 123456789012345678901234567890 30 from by unfold Bn; decide).nat (by decide)) ((Bn_small (by decide)).nat (by decide))
  have C2 := Lib.hid c2
  clear c2
  have c3 := fun (W : World)    => num.Of_any (-7) W (by decide) (by decide)
  have C3 := Lib.hid c3
  clear c3
  have c4 := fun (W : World)    => rat.Of_ok (-6) 4 W (by decide) (by decide) (by decide) (by decide) (by decide)
  rw [show ((((-6) : Int) : Rat) / ((4 : Int) : Rat)) = (-3 / 2 : Rat) from by decide +kernel] at c4
  have C4 := Lib.hid c4
  clear c4
  have c5 := fun (W : World) (v0 : Value) (v1 : Value) (hh0 : nat.IsN W v0 ((123456789012345678901234567890) / (7 : Nat))) (hh1 : nat.IsN W v1 (7 : Nat))  => nat.Mul_any v0 v1 ((123456789012345678901234567890) / (7 : Nat)) (7 : Nat) W hh0 hh1 ((Bn_div (show Bn 123456789012345678901234567890 30 from by unfold Bn; decide)).nat (by decide)) ((Bn_small (by decide)).nat (by decide))
  have C5 := Lib.hid c5
  clear c5
  have c6 := fun (W : World) (v0 : Value) (v1 : Value) (hh0 : nat.IsN W v0 (((123456789012345678901234567890) / (7 : Nat)) * (7 : Nat))) (hh1 : nat.IsN W v1 ((123456789012345678901234567890) % (7 : Nat)))  => nat.Add_any v0 v1 (((123456789012345678901234567890) / (7 : Nat)) * (7 : Nat)) ((123456789012345678901234567890) % (7 : Nat)) W hh0 hh1 ((Bn_mul (Bn_div (show Bn 123456789012345678901234567890 30 from by unfold Bn; decide)) (Bn_small (by decide))).nat (by decide)) ((Bn_mod (show Bn 123456789012345678901234567890 30 from by unfold Bn; decide)).nat (by decide))
  have C6 := Lib.hid c6
  clear c6
  have c7 := fun (W : World) (v0 : Value) (v1 : Value) (hh0 : nat.IsN W v0 ((((123456789012345678901234567890) / (7 : Nat)) * (7 : Nat)) + ((123456789012345678901234567890) % (7 : Nat)))) (hh1 : nat.IsN W v1 (123456789012345678901234567890))  => nat.Cmp_b v0 v1 ((((123456789012345678901234567890) / (7 : Nat)) * (7 : Nat)) + ((123456789012345678901234567890) % (7 : Nat))) (123456789012345678901234567890) W hh0 hh1 ((Bn_add (Bn_mul (Bn_div (show Bn 123456789012345678901234567890 30 from by unfold Bn; decide)) (Bn_small (by decide))) (Bn_mod (show Bn 123456789012345678901234567890 30 from by unfold Bn; decide))).nat (by decide)) ((show Bn 123456789012345678901234567890 30 from by unfold Bn; decide).nat (by decide))
  rw [cmp3_eqN (show ((((123456789012345678901234567890) / (7 : Nat)) * (7 : Nat)) + ((123456789012345678901234567890) % (7 : Nat))) = (123456789012345678901234567890) from (by decide))] at c7
  have C7 := Lib.hid c7
  clear c7
  have c8 := fun (W : World) (v0 : Value) (hh0 : nat.IsN W v0 (123456789012345678901234567890))  => nat.Text_any v0 (123456789012345678901234567890) W hh0 ((show Bn 123456789012345678901234567890 30 from by unfold Bn; decide).nat (by decide))
  rw [big_text] at c8
  have C8 := Lib.hid c8
  clear c8
  have c9 := fun (W : World) (v0 : Value) (hh0 : num.IsZ W v0 (-7 : Int))  => num.Text_any v0 (-7 : Int) W hh0 ((Bz_small (by decide) (by decide)).nat (by decide))
  rw [neg_seven] at c9
  have C9 := Lib.hid c9
  clear c9
  have c10 := fun (W : World) (v0 : Value) (hh0 : rat.IsR W v0 ((0 : Rat)))  => rat.Sign_any v0 ((0 : Rat)) W hh0
  rw [show num.sg (0 : Rat).num = 0 by decide +kernel] at c10
  have C10 := Lib.hid c10
  clear c10
  have c11 := fun (W : World) (v0 : Value) (hh0 : rat.IsR W v0 ((-3 / 2 : Rat)))  => rat.Text_any v0 ((-3 / 2 : Rat)) W hh0 (half_br.rat (by decide))
  rw [half_rtxt] at c11
  have C11 := Lib.hid c11
  clear c11
  have c12 := fun (W : World) (v0 : Value) (v1 : Value) (hh0 : rat.IsR W v0 ((-3 / 2 : Rat))) (hh1 : rat.IsR W v1 ((-3 / 2 : Rat)))  => rat.Cmp_any v0 v1 ((-3 / 2 : Rat)) ((-3 / 2 : Rat)) W hh0 hh1 (half_br.rat (by decide)) (half_br.rat (by decide))
  rw [cmpR_eq (show ((-3 / 2 : Rat)) = ((-3 / 2 : Rat)) from rfl)] at c12
  have C12 := Lib.hid c12
  clear c12
  have c13 := fun (W : World)    => nat.Of_int 10 10 rfl (by decide) W
  have C13 := Lib.hid c13
  clear c13
  have c14 := fun (W : World) (v0 : Value) (hh0 : nat.IsN W v0 (10 : Nat))  => NPow_at v0 10 20 20 rfl (by decide) W hh0 ((Bn_small (x := 10) (by decide)).nat (by decide)) ((show Bn (10 ^ 20) 21 from by unfold Bn; decide).nat (by decide))
  have C14 := Lib.hid c14
  clear c14
  have c15 := fun (W : World) (v0 : Value) (hh0 : nat.IsN W v0 (10 ^ 20))  => nat.Root_high v0 (10 ^ 20) 2 W hh0 ((show Bn (10 ^ 20) 21 from by unfold Bn; decide).nat (by decide)) (by decide) (by decide)
  have C15 := Lib.hid c15
  clear c15
  have c16 := fun (W : World) (v0 : Value) (hh0 : nat.IsN W v0 (10000000000 : Nat))  => nat.Text_any v0 (10000000000 : Nat) W hh0 ((Bn_small (by decide)).nat (by decide))
  rw [root_text] at c16
  have C16 := Lib.hid c16
  clear c16
  go_enter Tryz.func25, Tryz.ntmps25
  go_wp2_with (first
    | (go_at_call 44; (with_reducible refine (big_get _).mono ?_); rintro e W1 ⟨a, rfl, ⟨h_a, n_a⟩, hb⟩
       obtain ⟨p_a, rfl⟩ := h_a.some n_a
       have H_a := Lib.hid h_a
       have N_a := Lib.hid n_a
       have HB1 := Lib.hid hb
       clear h_a n_a hb)
    | (go_at_call 46; (with_reducible refine (C1.out _ ).mono ?_); rintro e W2 ⟨b, rfl, ⟨h_b, n_b⟩, hb⟩
       obtain ⟨p_b, rfl⟩ := nat.IsN.some h_b n_b
       have H_b := Lib.hid h_b
       have N_b := Lib.hid n_b
       have HB2 := Lib.hid hb
       clear h_b n_b hb C1)
    | (go_at_call 33; (with_reducible refine (C2.out _ _ _ (H_a.out.below HB2.out) H_b.out).mono ?_); rintro e W3 ⟨q, r, rfl, ⟨h_q, n_q⟩, ⟨h_r, n_r⟩, hb⟩
       obtain ⟨p_q, rfl⟩ := h_q.some n_q
       obtain ⟨p_r, rfl⟩ := h_r.some n_r
       have H_q := Lib.hid h_q
       have N_q := Lib.hid n_q
       have H_r := Lib.hid h_r
       have N_r := Lib.hid n_r
       have HB3 := Lib.hid hb
       clear h_q n_q h_r n_r hb C2)
    | (go_at_call 57; (with_reducible refine (C3.out _ ).mono ?_); rintro e W4 ⟨x, rfl, ⟨h_x, n_x⟩, hb⟩
       obtain ⟨p_x, rfl⟩ := num.IsZ.some h_x n_x
       have H_x := Lib.hid h_x
       have N_x := Lib.hid n_x
       have HB4 := Lib.hid hb
       have HB5 := Lib.hid (show Below W4.heap.size W4 (W4.alloc (.cells #[.bool false, .slice none 0 0, .bool false, .slice none 0 0] 135)) from (Below.refl _ _).alloc (Nat.le_refl _) _)
       have H_y := Lib.hid (blank_rat W4 135)
       clear h_x n_x hb C3)
    | (go_at_call 74; (with_reducible refine (C4.out _ ).mono ?_); rintro e W6 ⟨z, rfl, ⟨h_z, n_z⟩, hb⟩
       obtain ⟨p_z, rfl⟩ := h_z.some n_z
       have H_z := Lib.hid h_z
       have N_z := Lib.hid n_z
       have HB6 := Lib.hid hb
       clear h_z n_z hb C4)
    | (go_at_call 82; (with_reducible refine (RD.out _ _ H_z.out).mono ?_); rintro e W7 ⟨rfl, hb⟩
       have HB7 := Lib.hid hb
       clear hb)
    | (go_at_call 78; (with_reducible refine (half_get _).mono ?_); rintro e W8 ⟨p, rfl, ⟨h_p, n_p⟩, hb⟩
       obtain ⟨p_p, rfl⟩ := h_p.some n_p
       have H_p := Lib.hid h_p
       have N_p := Lib.hid n_p
       have HB8 := Lib.hid hb
       clear h_p n_p hb)
    | (go_at_call 84; (with_reducible refine (UN.out _ _ ((H_z.out.below HB7.out).below HB8.out)).mono ?_); rintro e W9 ⟨rfl, hb⟩
       have HB9 := Lib.hid hb
       clear hb)
    | (go_at_call 102; (with_reducible refine (Begun_one _ (((((((((HG.out.below HB1.out).below HB2.out).below HB3.out).below HB4.out).below HB5.out).below HB6.out).below HB7.out).below HB8.out).below HB9.out)).mono ?_); rintro e W10 ⟨rfl, hb⟩
       have HB10 := Lib.hid hb
       clear hb)
    | (go_at_call 37; (with_reducible refine (C5.out _ _ _ (((((((H_q.out.below HB4.out).below HB5.out).below HB6.out).below HB7.out).below HB8.out).below HB9.out).below HB10.out) ((((((((H_b.out.below HB3.out).below HB4.out).below HB5.out).below HB6.out).below HB7.out).below HB8.out).below HB9.out).below HB10.out)).mono ?_); rintro e W11 ⟨m1, rfl, ⟨h_m1, n_m1⟩, hb⟩
       have H_m1 := Lib.hid h_m1
       have N_m1 := Lib.hid n_m1
       have HB11 := Lib.hid hb
       clear h_m1 n_m1 hb C5)
    | (go_at_call 35; (with_reducible refine (C6.out _ _ _ H_m1.out ((((((((H_r.out.below HB4.out).below HB5.out).below HB6.out).below HB7.out).below HB8.out).below HB9.out).below HB10.out).below HB11.out)).mono ?_); rintro e W12 ⟨m2, rfl, ⟨h_m2, n_m2⟩, hb⟩
       have H_m2 := Lib.hid h_m2
       have N_m2 := Lib.hid n_m2
       have HB12 := Lib.hid hb
       clear h_m2 n_m2 hb C6)
    | (go_at_call 39; (with_reducible refine (C7.out _ _ _ H_m2.out (((((((((((H_a.out.below HB2.out).below HB3.out).below HB4.out).below HB5.out).below HB6.out).below HB7.out).below HB8.out).below HB9.out).below HB10.out).below HB11.out).below HB12.out)).mono ?_); rintro e W13 ⟨rfl, hb⟩
       have HB13 := Lib.hid hb
       clear hb C7)
    | (go_at_call 30; (with_reducible refine (C8.out _ _ ((((((((((((H_a.out.below HB2.out).below HB3.out).below HB4.out).below HB5.out).below HB6.out).below HB7.out).below HB8.out).below HB9.out).below HB10.out).below HB11.out).below HB12.out).below HB13.out)).mono ?_); rintro e W14 ⟨rfl, hb⟩
       have HB14 := Lib.hid hb
       clear hb C8)
    | (go_at_call 52; (with_reducible refine (C9.out _ _ ((((((((((H_x.out.below HB5.out).below HB6.out).below HB7.out).below HB8.out).below HB9.out).below HB10.out).below HB11.out).below HB12.out).below HB13.out).below HB14.out)).mono ?_); rintro e W15 ⟨rfl, hb⟩
       have HB15 := Lib.hid hb
       clear hb C9)
    | (go_at_call 90; (with_reducible refine (C10.out _ _ ((((((((((H_y.out.below HB6.out).below HB7.out).below HB8.out).below HB9.out).below HB10.out).below HB11.out).below HB12.out).below HB13.out).below HB14.out).below HB15.out)).mono ?_); rintro e W16 ⟨rfl, hb⟩
       have HB16 := Lib.hid hb
       clear hb C10)
    | (go_at_call 73; (with_reducible refine (C11.out _ _ ((((((((((H_z.out.below HB7.out).below HB8.out).below HB9.out).below HB10.out).below HB11.out).below HB12.out).below HB13.out).below HB14.out).below HB15.out).below HB16.out)).mono ?_); rintro e W17 ⟨rfl, hb⟩
       have HB17 := Lib.hid hb
       clear hb C11)
    | (go_at_call 77; (with_reducible refine (C12.out _ _ _ (((((((((H_p.out.below HB9.out).below HB10.out).below HB11.out).below HB12.out).below HB13.out).below HB14.out).below HB15.out).below HB16.out).below HB17.out) (((((((((((H_z.out.below HB7.out).below HB8.out).below HB9.out).below HB10.out).below HB11.out).below HB12.out).below HB13.out).below HB14.out).below HB15.out).below HB16.out).below HB17.out)).mono ?_); rintro e W18 ⟨rfl, hb⟩
       have HB18 := Lib.hid hb
       clear hb C12)
    | (go_at_call 46; (with_reducible refine (C13.out _ ).mono ?_); rintro e W19 ⟨t, rfl, ⟨h_t, n_t⟩, hb⟩
       have H_t := Lib.hid h_t
       have N_t := Lib.hid n_t
       have HB19 := Lib.hid hb
       clear h_t n_t hb C13)
    | (go_at_call 94; (with_reducible refine (C14.out _ _ H_t.out).mono ?_); rintro e W20 ⟨t2, rfl, ⟨h_t2, n_t2⟩, hb⟩
       have H_t2 := Lib.hid h_t2
       have N_t2 := Lib.hid n_t2
       have HB20 := Lib.hid hb
       clear h_t2 n_t2 hb C14)
    | (go_at_call 96; (with_reducible refine (C15.out _ _ H_t2.out).mono ?_); rintro e W21 ⟨t3, rfl, ⟨rr, hrr, h_t3, n_t3⟩, hb⟩
       have H_t3 := Lib.hid (show nat.IsN _ _ 10000000000 from by rw [← root_val hrr]; exact h_t3)
       have HB21 := Lib.hid hb
       clear hb C15)
    | (go_at_call 30; (with_reducible refine (C16.out _ _ H_t3.out).mono ?_); rintro e W22 ⟨rfl, hb⟩
       have HB22 := Lib.hid hb
       clear hb C16)
    | (fail "no arm"))
  skip
  all_goals (go_ret; exact ⟨rfl, (nat.below_tr (nat.below_tr (nat.below_tr (nat.below_tr (nat.below_tr (nat.below_tr (nat.below_tr (nat.below_tr (nat.below_tr (nat.below_tr (nat.below_tr (nat.below_tr (nat.below_tr (nat.below_tr (nat.below_tr (nat.below_tr (nat.below_tr (nat.below_tr (nat.below_tr (nat.below_tr (nat.below_tr HB1.out HB2.out) HB3.out) HB4.out) HB5.out) HB6.out) HB7.out) HB8.out) HB9.out) HB10.out) HB11.out) HB12.out) HB13.out) HB14.out) HB15.out) HB16.out) HB17.out) HB18.out) HB19.out) HB20.out) HB21.out) HB22.out)⟩)
end Go.Proofs.YtfpooimjjpamoaaGreatDoor.law2
