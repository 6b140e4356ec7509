/-
  The steps of the walks, part 13: DecA.
-/
import Derived.Test.YtfpooimjjpamoaaGreatDoorF12
import Derived.Test.YtfpooimjjpamoaaGreatDoorS22
import Derived.Test.YtfpooimjjpamoaaGreatDoorF11
namespace Go.Proofs.YtfpooimjjpamoaaGreatDoor.dec
open Go.RowKit Go.Proofs.YtfpooimjjpamoaaGreatDoor.nat Go.Proofs.YtfpooimjjpamoaaGreatDoor.num
open Go.Proofs.YtfpooimjjpamoaaGreatDoor.rat (IsR Lr)
open Go.Proofs.YtfpooimjjpamoaaGreatDoor.ref (str str_size str_append nearN nearUp signed decText)
set_option maxRecDepth 100000 in
set_option maxHeartbeats 4000000 in
theorem tenPower_any (k : Nat) (w : World) (hk : k ≤ 20) :
    Calls Tryz.prog 132 #[.int .i64 (k : Nat)] w fun e w' => ∃ u, e = .returned u ∧ (nat.IsN w' u (10 ^ k) ∧ u ≠ .pointer none) ∧ Below w.heap.size w w' := by
  have h10 := Ln_ten hk
  have c1 := fun (W : World)    => nat.Of_int 10 10 rfl (by decide) W
  have C1 := Lib.hid c1
  clear c1
  have c2 := fun (W : World) (v0 : Value) (hh0 : nat.IsN W v0 (10 : Nat))  => nat.Pow_any v0 10 (k : Int) W hh0 ((Ln_small (x := 10) (by decide)).le (by decide)) (by omega) (by rw [Int.toNat_natCast]; exact h10.le (by decide))
  rw [Int.toNat_natCast] at c2
  have C2 := Lib.hid c2
  clear c2
  go_enter Tryz.func132, Tryz.ntmps132
  go_wp2_with (first
    | (go_at_call 46; (with_reducible refine (C1.out _ ).mono ?_); rintro e W1 ⟨t, rfl, ⟨h_t, n_t⟩, hb⟩
       have H_t := Lib.hid h_t
       have N_t := Lib.hid n_t
       have HB1 := Lib.hid hb
       clear h_t n_t hb C1)
    | (go_at_call 94; (with_reducible refine (C2.out _ _ H_t.out).mono ?_); rintro e W2 ⟨u, rfl, ⟨h_u, n_u⟩, hb⟩
       have H_u := Lib.hid h_u
       have N_u := Lib.hid n_u
       have HB2 := Lib.hid hb
       clear h_u n_u hb C2)
    | (fail "no arm"))
  go_ret
  exact ⟨_, rfl, ⟨H_u.out, N_u.out⟩, (nat.below_tr HB1.out HB2.out)⟩
set_option maxRecDepth 100000 in
theorem arePlaces_yes (z : Int) (w : World) (h : 0 ≤ z ∧ z ≤ 20) :
    Calls Tryz.prog 133 #[.int .i64 z] w fun e w' => e = .returned (.bool true) ∧ w = w' := by
  obtain ⟨h1, h2⟩ := h
  go_enter Tryz.func133, Tryz.ntmps133
  go_wp2
  go_ret
  exact ⟨rfl, rfl⟩
set_option maxRecDepth 100000 in
theorem isMode_yes (m : Int) (w : World) (h : m = 1 ∨ m = 2 ∨ m = 3) :
    Calls Tryz.prog 136 #[.int .i64 m] w fun e w' => e = .returned (.bool true) ∧ w = w' := by
  rcases h with rfl | rfl | rfl
  all_goals
    go_enter Tryz.func136, Tryz.ntmps136
    go_wp2
    go_ret
    exact ⟨rfl, rfl⟩
set_option maxRecDepth 100000 in
set_option maxHeartbeats 4000000 in
theorem isOdd_yes (a : Value) (X : Nat) (w : World) (ha : nat.IsN w a X) (sx : Ln X 200000) (ho : X % 2 = 1) :
    Calls Tryz.prog 202 #[a] w fun e w' => e = .returned (.bool true) ∧ Below w.heap.size w w' := by
  have H_a := Lib.hid ha
  clear ha
  have HO := Lib.hid ho
  clear ho
  have c1 := fun (W : World)    => nat.Of_int 2 2 rfl (by decide) W
  have C1 := Lib.hid c1
  clear c1
  have c2 := fun (W : World) (v0 : Value) (v1 : Value) (hh0 : nat.IsN W v0 X) (hh1 : nat.IsN W v1 (2 : Nat))  => nat.Div_ok v0 v1 X 2 W hh0 hh1 (by decide) (sx.le (by decide)) ((Ln_small (x := 2) (by decide)).le (by decide))
  have C2 := Lib.hid c2
  clear c2
  have c3 := fun (W : World) (v0 : Value) (hh0 : nat.IsN W v0 (X % 2))  => nat.Zero_any v0 (X % 2) W hh0
  rw [decide_eq_false (by have := HO.out; omega)] at c3
  have C3 := Lib.hid c3
  clear c3
  go_enter Tryz.func202, Tryz.ntmps202
  go_wp2_with (first
    | (go_at_call 46; (with_reducible refine (C1.out _ ).mono ?_); rintro e W1 ⟨t, rfl, ⟨h_t, n_t⟩, hb⟩
       have H_t := Lib.hid h_t
       have N_t := Lib.hid n_t
       have HB1 := Lib.hid hb
       clear h_t n_t hb C1)
    | (go_at_call 33; (with_reducible refine (C2.out _ _ _ (H_a.out.below HB1.out) H_t.out).mono ?_); rintro e W2 ⟨q, r, rfl, -, ⟨h_r, n_r⟩, hb⟩
       have H_r := Lib.hid h_r
       have N_r := Lib.hid n_r
       have HB2 := Lib.hid hb
       clear h_r n_r hb C2)
    | (go_at_call 42; (with_reducible refine (C3.out _ _ H_r.out).mono ?_); rintro e w9 ⟨rfl, rfl⟩
       clear C3)
    | (fail "no arm"))
  go_ret
  exact ⟨rfl, (nat.below_tr HB1.out HB2.out)⟩
set_option maxRecDepth 100000 in
set_option maxHeartbeats 4000000 in
theorem isOdd_no (a : Value) (X : Nat) (w : World) (ha : nat.IsN w a X) (sx : Ln X 200000) (ho : X % 2 = 0) :
    Calls Tryz.prog 202 #[a] w fun e w' => e = .returned (.bool false) ∧ Below w.heap.size w w' := by
  have H_a := Lib.hid ha
  clear ha
  have HO := Lib.hid ho
  clear ho
  have c1 := fun (W : World)    => nat.Of_int 2 2 rfl (by decide) W
  have C1 := Lib.hid c1
  clear c1
  have c2 := fun (W : World) (v0 : Value) (v1 : Value) (hh0 : nat.IsN W v0 X) (hh1 : nat.IsN W v1 (2 : Nat))  => nat.Div_ok v0 v1 X 2 W hh0 hh1 (by decide) (sx.le (by decide)) ((Ln_small (x := 2) (by decide)).le (by decide))
  have C2 := Lib.hid c2
  clear c2
  have c3 := fun (W : World) (v0 : Value) (hh0 : nat.IsN W v0 (X % 2))  => nat.Zero_any v0 (X % 2) W hh0
  rw [decide_eq_true HO.out] at c3
  have C3 := Lib.hid c3
  clear c3
  go_enter Tryz.func202, Tryz.ntmps202
  go_wp2_with (first
    | (go_at_call 46; (with_reducible refine (C1.out _ ).mono ?_); rintro e W1 ⟨t, rfl, ⟨h_t, n_t⟩, hb⟩
       have H_t := Lib.hid h_t
       have N_t := Lib.hid n_t
       have HB1 := Lib.hid hb
       clear h_t n_t hb C1)
    | (go_at_call 33; (with_reducible refine (C2.out _ _ _ (H_a.out.below HB1.out) H_t.out).mono ?_); rintro e W2 ⟨q, r, rfl, -, ⟨h_r, n_r⟩, hb⟩
       have H_r := Lib.hid h_r
       have N_r := Lib.hid n_r
       have HB2 := Lib.hid hb
       clear h_r n_r hb C2)
    | (go_at_call 42; (with_reducible refine (C3.out _ _ H_r.out).mono ?_); rintro e w9 ⟨rfl, rfl⟩
       clear C3)
    | (fail "no arm"))
  go_ret
  exact ⟨rfl, (nat.below_tr HB1.out HB2.out)⟩
theorem isOdd_any (a : Value) (X : Nat) (w : World) (ha : nat.IsN w a X) (sx : Ln X 200000) :
    Calls Tryz.prog 202 #[a] w fun e w' => e = .returned (.bool (decide (X % 2 = 1))) ∧ Below w.heap.size w w' := by
  rcases (show X % 2 = 1 ∨ X % 2 = 0 by omega) with h | h
  · rw [decide_eq_true h]; exact isOdd_yes a X w ha sx h
  · rw [decide_eq_false (by omega)]; exact isOdd_no a X w ha sx h
set_option maxRecDepth 100000 in
set_option maxHeartbeats 4000000 in
theorem goesUp_any (mode C : Int) (a : Value) (X : Nat) (w : World) (ha : nat.IsN w a X) (sx : Ln X 200000) (k1 : -9223372036854775808 ≤ C) (k2 : C < 9223372036854775808) :
    Calls Tryz.prog 171 #[.int .i64 mode, .int .i64 C, a] w fun e w' => e = .returned (.bool (upB mode C (decide (X % 2 = 1)))) ∧ Below w.heap.size w w' := by
  have HO := Lib.hid (isOdd_any a X w ha sx)
  clear ha sx
  generalize decide (X % 2 = 1) = o at *
  have hcase : (mode = 1 ∧ 0 ≤ C ∧ upB mode C o = true) ∨ (mode = 1 ∧ C < 0 ∧ upB mode C o = false) ∨ (mode = 2 ∧ 0 < C ∧ upB mode C o = true) ∨ (mode = 2 ∧ C = 0 ∧ upB mode C o = o) ∨ (mode = 2 ∧ C < 0 ∧ upB mode C o = false) ∨ ((mode == 1) = false ∧ (mode == 2) = false ∧ upB mode C o = false) := by
    unfold upB
    by_cases h1 : mode = 1
    · subst h1
      by_cases h2 : 0 ≤ C
      · exact Or.inl ⟨rfl, h2, by simp [h2]⟩
      · exact Or.inr (Or.inl ⟨rfl, by omega, by simp; omega⟩)
    · by_cases h3 : mode = 2
      · subst h3
        rcases (show C < 0 ∨ C = 0 ∨ 0 < C by omega) with h | h | h
        · exact Or.inr (Or.inr (Or.inr (Or.inr (Or.inl ⟨rfl, h, by simp; omega⟩))))
        · subst h
          exact Or.inr (Or.inr (Or.inr (Or.inl ⟨rfl, rfl, by simp⟩)))
        · exact Or.inr (Or.inr (Or.inl ⟨rfl, h, by simp [h]⟩))
      · exact Or.inr (Or.inr (Or.inr (Or.inr (Or.inr ⟨by simp [h1], by simp [h3], by simp [h1, h3]⟩))))
  generalize upB mode C o = up at *
  rcases hcase with ⟨rfl, h1, rfl⟩ | ⟨rfl, h1, rfl⟩ | ⟨rfl, h1, rfl⟩ | ⟨rfl, rfl, rfl⟩ | ⟨rfl, h1, rfl⟩ | ⟨h0, h1, rfl⟩
  case' inr.inr.inl => have h0 : ¬ C = 0 := by omega
  all_goals
    go_enter Tryz.func171, Tryz.ntmps171
    go_wp2_with (first
      | (go_at_call 202; (with_reducible refine (HO.out).mono ?_); rintro e w1 ⟨rfl, hb⟩)
      | (fail "no arm"))
    go_ret
    first
      | exact ⟨rfl, hb⟩
      | exact ⟨rfl, Below.refl _ _⟩
      | exact ⟨by simp; omega, Below.refl _ _⟩
set_option maxRecDepth 100000 in
set_option maxHeartbeats 4000000 in
theorem cutOff_any (a : Value) (q : Rat) (k : Nat) (w : World) (ha : IsR w a q) (sq : Lr q 20000) (hk : k ≤ 20) :
    Calls Tryz.prog 134 #[a, .int .i64 (k : Nat)] w fun e w' => ∃ s r, e = .returned (.tuple #[s, r]) ∧ (nat.IsN w' s (q.num.natAbs * 10 ^ k / q.den) ∧ s ≠ .pointer none) ∧ (nat.IsN w' r (q.num.natAbs * 10 ^ k % q.den) ∧ r ≠ .pointer none) ∧ Below w.heap.size w w' := by
  have H_a := Lib.hid ha
  clear ha
  have h10 := Ln_ten hk
  have c1 := fun (W : World) (v0 : Value) (hh0 : rat.IsR W v0 q)  => rat.Num_any v0 q W hh0
  have C1 := Lib.hid c1
  clear c1
  have c2 := fun (W : World) (v0 : Value) (hh0 : num.IsZ W v0 q.num)  => num.Abs_any v0 q.num W hh0
  have C2 := Lib.hid c2
  clear c2
  have c3 := fun (W : World)    => tenPower_any k W hk
  have C3 := Lib.hid c3
  clear c3
  have c4 := fun (W : World) (v0 : Value) (v1 : Value) (hh0 : nat.IsN W v0 (Int.natAbs q.num)) (hh1 : nat.IsN W v1 (10 ^ k))  => nat.Mul_any v0 v1 (Int.natAbs q.num) (10 ^ k) W hh0 hh1 ((Ln_abs sq.1).le (by decide)) (h10.le (by decide))
  have C4 := Lib.hid c4
  clear c4
  have c5 := fun (W : World) (v0 : Value) (hh0 : rat.IsR W v0 q)  => rat.Den_any v0 q W hh0
  have C5 := Lib.hid c5
  clear c5
  have c6 := fun (W : World) (v0 : Value) (hh0 : num.IsZ W v0 ((q.den : Nat) : Int))  => num.Abs_any v0 ((q.den : Nat) : Int) W hh0
  rw [Int.natAbs_natCast] at c6
  have C6 := Lib.hid c6
  clear c6
  have c7 := fun (W : World) (v0 : Value) (v1 : Value) (hh0 : nat.IsN W v0 ((Int.natAbs q.num) * (10 ^ k))) (hh1 : nat.IsN W v1 q.den)  => nat.Div_ok v0 v1 ((Int.natAbs q.num) * (10 ^ k)) q.den W hh0 hh1 q.den_pos ((Ln_mul (Ln_abs sq.1) h10).le (by decide)) (sq.2.le (by decide))
  have C7 := Lib.hid c7
  clear c7
  go_enter Tryz.func134, Tryz.ntmps134
  go_wp2_with (first
    | (go_at_call 99; (with_reducible refine (C1.out _ _ H_a.out).mono ?_); rintro e W1 ⟨n, rfl, ⟨h_n, n_n⟩, hb⟩
       have H_n := Lib.hid h_n
       have N_n := Lib.hid n_n
       have HB1 := Lib.hid hb
       clear h_n n_n hb C1)
    | (go_at_call 66; (with_reducible refine (C2.out _ _ H_n.out).mono ?_); rintro e W2 ⟨x, rfl, ⟨h_x, n_x⟩, hb⟩
       have H_x := Lib.hid h_x
       have N_x := Lib.hid n_x
       have HB2 := Lib.hid hb
       clear h_x n_x hb C2)
    | (go_at_call 132; (with_reducible refine (C3.out _ ).mono ?_); rintro e W3 ⟨t, rfl, ⟨h_t, n_t⟩, hb⟩
       have H_t := Lib.hid h_t
       have N_t := Lib.hid n_t
       have HB3 := Lib.hid hb
       clear h_t n_t hb C3)
    | (go_at_call 37; (with_reducible refine (C4.out _ _ _ (H_x.out.below HB3.out) H_t.out).mono ?_); rintro e W4 ⟨m, rfl, ⟨h_m, n_m⟩, hb⟩
       have H_m := Lib.hid h_m
       have N_m := Lib.hid n_m
       have HB4 := Lib.hid hb
       clear h_m n_m hb C4)
    | (go_at_call 95; (with_reducible refine (C5.out _ _ ((((H_a.out.below HB1.out).below HB2.out).below HB3.out).below HB4.out)).mono ?_); rintro e W5 ⟨d, rfl, ⟨h_d, n_d⟩, hb⟩
       have H_d := Lib.hid h_d
       have N_d := Lib.hid n_d
       have HB5 := Lib.hid hb
       clear h_d n_d hb C5)
    | (go_at_call 66; (with_reducible refine (C6.out _ _ H_d.out).mono ?_); rintro e W6 ⟨y, rfl, ⟨h_y, n_y⟩, hb⟩
       have H_y := Lib.hid h_y
       have N_y := Lib.hid n_y
       have HB6 := Lib.hid hb
       clear h_y n_y hb C6)
    | (go_at_call 33; (with_reducible refine (C7.out _ _ _ ((H_m.out.below HB5.out).below HB6.out) H_y.out).mono ?_); rintro e W7 ⟨s, r, rfl, ⟨h_s, n_s⟩, ⟨h_r, n_r⟩, hb⟩
       have H_s := Lib.hid h_s
       have N_s := Lib.hid n_s
       have H_r := Lib.hid h_r
       have N_r := Lib.hid n_r
       have HB7 := Lib.hid hb
       clear h_s n_s h_r n_r hb C7)
    | (fail "no arm"))
  go_ret2
  exact ⟨_, _, rfl, ⟨H_s.out, N_s.out⟩, ⟨H_r.out, N_r.out⟩, (nat.below_tr (nat.below_tr (nat.below_tr (nat.below_tr (nat.below_tr (nat.below_tr HB1.out HB2.out) HB3.out) HB4.out) HB5.out) HB6.out) HB7.out)⟩
set_option maxRecDepth 100000 in
set_option maxHeartbeats 4000000 in
theorem rounded_up (a : Value) (q : Rat) (k : Nat) (mode : Int) (w : World) (ha : IsR w a q) (sq : Lr q 20000) (hk : k ≤ 20) (hu : nearUp (q.num.natAbs * 10 ^ k) q.den mode = true) :
    Calls Tryz.prog 137 #[a, .int .i64 (k : Nat), .int .i64 mode] w fun e w' => ∃ u, e = .returned u ∧ (nat.IsN w' u (nearN (q.num.natAbs * 10 ^ k) q.den mode) ∧ u ≠ .pointer none) ∧ Below w.heap.size w w' := by
  have H_a := Lib.hid ha
  clear ha
  have h10 := Ln_ten hk
  have hT : Ln (q.num.natAbs * 10 ^ k) 20021 := Ln_mul (Ln_abs sq.1) h10
  rw [near_two hu]
  rw [← up_near] at hu
  obtain ⟨T, hTT⟩ : ∃ T, q.num.natAbs * 10 ^ k = T := ⟨_, rfl⟩
  have CO := fun W (v : Value) (h : IsR W v q) => cutOff_any v q k W h sq hk
  rw [hTT] at hT hu CO ⊢
  have CO := Lib.hid CO
  obtain ⟨C, hC⟩ : ∃ C, cmp3 ((T % q.den + T % q.den : Nat) : Int) (q.den : Int) = C := ⟨_, rfl⟩
  rw [hC] at hu
  have hC1 : -1 ≤ C := by rw [← hC]; unfold cmp3; (repeat' split) <;> omega
  have hC2 : C ≤ 1 := by rw [← hC]; unfold cmp3; (repeat' split) <;> omega
  clear hTT
  have c1 := fun (W : World) (v0 : Value) (hh0 : rat.IsR W v0 q)  => CO.out W v0 hh0
  have C1 := Lib.hid c1
  clear c1
  have c2 := fun (W : World) (v0 : Value) (v1 : Value) (hh0 : nat.IsN W v0 (T % q.den)) (hh1 : nat.IsN W v1 (T % q.den))  => nat.Add_any v0 v1 (T % q.den) (T % q.den) W hh0 hh1 ((Ln_less (Nat.mod_le _ _) hT).le (by decide)) ((Ln_less (Nat.mod_le _ _) hT).le (by decide))
  have C2 := Lib.hid c2
  clear c2
  have c3 := fun (W : World) (v0 : Value) (hh0 : rat.IsR W v0 q)  => rat.Den_any v0 q W hh0
  have C3 := Lib.hid c3
  clear c3
  have c4 := fun (W : World) (v0 : Value) (hh0 : num.IsZ W v0 ((q.den : Nat) : Int))  => num.Abs_any v0 ((q.den : Nat) : Int) W hh0
  rw [Int.natAbs_natCast] at c4
  have C4 := Lib.hid c4
  clear c4
  have c5 := fun (W : World) (v0 : Value) (v1 : Value) (hh0 : nat.IsN W v0 ((T % q.den) + (T % q.den))) (hh1 : nat.IsN W v1 q.den)  => nat.Cmp_b v0 v1 ((T % q.den) + (T % q.den)) q.den W hh0 hh1 ((Ln_add (Ln_less (Nat.mod_le _ _) hT) (Ln_less (Nat.mod_le _ _) hT)).le (by decide)) (sq.2.le (by decide))
  rw [hC] at c5
  have C5 := Lib.hid c5
  clear c5
  have c6 := fun (W : World) (v0 : Value) (hh0 : nat.IsN W v0 (T / q.den))  => goesUp_any mode C v0 (T / q.den) W hh0 ((Ln_less (Nat.div_le_self _ _) hT).le (by decide)) (by omega) (by omega)
  rw [hu] at c6
  have C6 := Lib.hid c6
  clear c6
  have c7 := fun (W : World)    => nat.Of_int 1 1 rfl (by decide) W
  have C7 := Lib.hid c7
  clear c7
  have c8 := fun (W : World) (v0 : Value) (v1 : Value) (hh0 : nat.IsN W v0 (T / q.den)) (hh1 : nat.IsN W v1 (1 : Nat))  => nat.Add_any v0 v1 (T / q.den) (1 : Nat) W hh0 hh1 ((Ln_less (Nat.div_le_self _ _) hT).le (by decide)) ((Ln_small (by decide)).le (by decide))
  have C8 := Lib.hid c8
  clear c8
  go_enter Tryz.func137, Tryz.ntmps137
  go_wp2_with (first
    | (go_at_call 134; (with_reducible refine (C1.out _ _ H_a.out).mono ?_); rintro e W1 ⟨s, r, rfl, ⟨h_s, n_s⟩, ⟨h_r, n_r⟩, hb⟩
       have H_s := Lib.hid h_s
       have N_s := Lib.hid n_s
       have H_r := Lib.hid h_r
       have N_r := Lib.hid n_r
       have HB1 := Lib.hid hb
       clear h_s n_s h_r n_r hb C1)
    | (go_at_call 35; (with_reducible refine (C2.out _ _ _ H_r.out H_r.out).mono ?_); rintro e W2 ⟨rr, rfl, ⟨h_rr, n_rr⟩, hb⟩
       have H_rr := Lib.hid h_rr
       have N_rr := Lib.hid n_rr
       have HB2 := Lib.hid hb
       clear h_rr n_rr hb C2)
    | (go_at_call 95; (with_reducible refine (C3.out _ _ ((H_a.out.below HB1.out).below HB2.out)).mono ?_); rintro e W3 ⟨d, rfl, ⟨h_d, n_d⟩, hb⟩
       have H_d := Lib.hid h_d
       have N_d := Lib.hid n_d
       have HB3 := Lib.hid hb
       clear h_d n_d hb C3)
    | (go_at_call 66; (with_reducible refine (C4.out _ _ H_d.out).mono ?_); rintro e W4 ⟨y, rfl, ⟨h_y, n_y⟩, hb⟩
       have H_y := Lib.hid h_y
       have N_y := Lib.hid n_y
       have HB4 := Lib.hid hb
       clear h_y n_y hb C4)
    | (go_at_call 39; (with_reducible refine (C5.out _ _ _ ((H_rr.out.below HB3.out).below HB4.out) H_y.out).mono ?_); rintro e W5 ⟨rfl, hb⟩
       have HB5 := Lib.hid hb
       clear hb C5)
    | (go_at_call 171; (with_reducible refine (C6.out _ _ ((((H_s.out.below HB2.out).below HB3.out).below HB4.out).below HB5.out)).mono ?_); rintro e W6 ⟨rfl, hb⟩
       have HB6 := Lib.hid hb
       clear hb C6)
    | (go_at_call 46; (with_reducible refine (C7.out _ ).mono ?_); rintro e W7 ⟨o, rfl, ⟨h_o, n_o⟩, hb⟩
       have H_o := Lib.hid h_o
       have N_o := Lib.hid n_o
       have HB7 := Lib.hid hb
       clear h_o n_o hb C7)
    | (go_at_call 35; (with_reducible refine (C8.out _ _ _ ((((((H_s.out.below HB2.out).below HB3.out).below HB4.out).below HB5.out).below HB6.out).below HB7.out) H_o.out).mono ?_); rintro e W8 ⟨u, rfl, ⟨h_u, n_u⟩, hb⟩
       have H_u := Lib.hid h_u
       have N_u := Lib.hid n_u
       have HB8 := Lib.hid hb
       clear h_u n_u hb C8)
    | (fail "no arm"))
  go_ret
  exact ⟨_, rfl, ⟨H_u.out, N_u.out⟩, (nat.below_tr (nat.below_tr (nat.below_tr (nat.below_tr (nat.below_tr (nat.below_tr (nat.below_tr HB1.out HB2.out) HB3.out) HB4.out) HB5.out) HB6.out) HB7.out) HB8.out)⟩
set_option maxRecDepth 100000 in
set_option maxHeartbeats 4000000 in
theorem rounded_cut (a : Value) (q : Rat) (k : Nat) (mode : Int) (w : World) (ha : IsR w a q) (sq : Lr q 20000) (hk : k ≤ 20) (hu : nearUp (q.num.natAbs * 10 ^ k) q.den mode = false) :
    Calls Tryz.prog 137 #[a, .int .i64 (k : Nat), .int .i64 mode] w fun e w' => ∃ u, e = .returned u ∧ (nat.IsN w' u (nearN (q.num.natAbs * 10 ^ k) q.den mode) ∧ u ≠ .pointer none) ∧ Below w.heap.size w w' := by
  have H_a := Lib.hid ha
  clear ha
  have h10 := Ln_ten hk
  have hT : Ln (q.num.natAbs * 10 ^ k) 20021 := Ln_mul (Ln_abs sq.1) h10
  rw [near_one hu]
  rw [← up_near] at hu
  obtain ⟨T, hTT⟩ : ∃ T, q.num.natAbs * 10 ^ k = T := ⟨_, rfl⟩
  have CO := fun W (v : Value) (h : IsR W v q) => cutOff_any v q k W h sq hk
  rw [hTT] at hT hu CO ⊢
  have CO := Lib.hid CO
  obtain ⟨C, hC⟩ : ∃ C, cmp3 ((T % q.den + T % q.den : Nat) : Int) (q.den : Int) = C := ⟨_, rfl⟩
  rw [hC] at hu
  have hC1 : -1 ≤ C := by rw [← hC]; unfold cmp3; (repeat' split) <;> omega
  have hC2 : C ≤ 1 := by rw [← hC]; unfold cmp3; (repeat' split) <;> omega
  clear hTT
  have c1 := fun (W : World) (v0 : Value) (hh0 : rat.IsR W v0 q)  => CO.out W v0 hh0
  have C1 := Lib.hid c1
  clear c1
  have c2 := fun (W : World) (v0 : Value) (v1 : Value) (hh0 : nat.IsN W v0 (T % q.den)) (hh1 : nat.IsN W v1 (T % q.den))  => nat.Add_any v0 v1 (T % q.den) (T % q.den) W hh0 hh1 ((Ln_less (Nat.mod_le _ _) hT).le (by decide)) ((Ln_less (Nat.mod_le _ _) hT).le (by decide))
  have C2 := Lib.hid c2
  clear c2
  have c3 := fun (W : World) (v0 : Value) (hh0 : rat.IsR W v0 q)  => rat.Den_any v0 q W hh0
  have C3 := Lib.hid c3
  clear c3
  have c4 := fun (W : World) (v0 : Value) (hh0 : num.IsZ W v0 ((q.den : Nat) : Int))  => num.Abs_any v0 ((q.den : Nat) : Int) W hh0
  rw [Int.natAbs_natCast] at c4
  have C4 := Lib.hid c4
  clear c4
  have c5 := fun (W : World) (v0 : Value) (v1 : Value) (hh0 : nat.IsN W v0 ((T % q.den) + (T % q.den))) (hh1 : nat.IsN W v1 q.den)  => nat.Cmp_b v0 v1 ((T % q.den) + (T % q.den)) q.den W hh0 hh1 ((Ln_add (Ln_less (Nat.mod_le _ _) hT) (Ln_less (Nat.mod_le _ _) hT)).le (by decide)) (sq.2.le (by decide))
  rw [hC] at c5
  have C5 := Lib.hid c5
  clear c5
  have c6 := fun (W : World) (v0 : Value) (hh0 : nat.IsN W v0 (T / q.den))  => goesUp_any mode C v0 (T / q.den) W hh0 ((Ln_less (Nat.div_le_self _ _) hT).le (by decide)) (by omega) (by omega)
  rw [hu] at c6
  have C6 := Lib.hid c6
  clear c6
  go_enter Tryz.func137, Tryz.ntmps137
  go_wp2_with (first
    | (go_at_call 134; (with_reducible refine (C1.out _ _ H_a.out).mono ?_); rintro e W1 ⟨s, r, rfl, ⟨h_s, n_s⟩, ⟨h_r, n_r⟩, hb⟩
       have H_s := Lib.hid h_s
       have N_s := Lib.hid n_s
       have H_r := Lib.hid h_r
       have N_r := Lib.hid n_r
       have HB1 := Lib.hid hb
       clear h_s n_s h_r n_r hb C1)
    | (go_at_call 35; (with_reducible refine (C2.out _ _ _ H_r.out H_r.out).mono ?_); rintro e W2 ⟨rr, rfl, ⟨h_rr, n_rr⟩, hb⟩
       have H_rr := Lib.hid h_rr
       have N_rr := Lib.hid n_rr
       have HB2 := Lib.hid hb
       clear h_rr n_rr hb C2)
    | (go_at_call 95; (with_reducible refine (C3.out _ _ ((H_a.out.below HB1.out).below HB2.out)).mono ?_); rintro e W3 ⟨d, rfl, ⟨h_d, n_d⟩, hb⟩
       have H_d := Lib.hid h_d
       have N_d := Lib.hid n_d
       have HB3 := Lib.hid hb
       clear h_d n_d hb C3)
    | (go_at_call 66; (with_reducible refine (C4.out _ _ H_d.out).mono ?_); rintro e W4 ⟨y, rfl, ⟨h_y, n_y⟩, hb⟩
       have H_y := Lib.hid h_y
       have N_y := Lib.hid n_y
       have HB4 := Lib.hid hb
       clear h_y n_y hb C4)
    | (go_at_call 39; (with_reducible refine (C5.out _ _ _ ((H_rr.out.below HB3.out).below HB4.out) H_y.out).mono ?_); rintro e W5 ⟨rfl, hb⟩
       have HB5 := Lib.hid hb
       clear hb C5)
    | (go_at_call 171; (with_reducible refine (C6.out _ _ ((((H_s.out.below HB2.out).below HB3.out).below HB4.out).below HB5.out)).mono ?_); rintro e W6 ⟨rfl, hb⟩
       have HB6 := Lib.hid hb
       clear hb C6)
    | (fail "no arm"))
  go_ret
  exact ⟨_, rfl, ⟨(((((H_s.out.below HB2.out).below HB3.out).below HB4.out).below HB5.out).below HB6.out), N_s.out⟩, (nat.below_tr (nat.below_tr (nat.below_tr (nat.below_tr (nat.below_tr HB1.out HB2.out) HB3.out) HB4.out) HB5.out) HB6.out)⟩
theorem rounded_any (a : Value) (q : Rat) (k : Nat) (mode : Int) (w : World) (ha : IsR w a q) (sq : Lr q 20000) (hk : k ≤ 20) :
    Calls Tryz.prog 137 #[a, .int .i64 (k : Nat), .int .i64 mode] w fun e w' => ∃ u, e = .returned u ∧ (nat.IsN w' u (nearN (q.num.natAbs * 10 ^ k) q.den mode) ∧ u ≠ .pointer none) ∧ Below w.heap.size w w' := by
  rcases hu : nearUp (q.num.natAbs * 10 ^ k) q.den mode with _ | _
  · exact rounded_cut a q k mode w ha sq hk hu
  · exact rounded_up a q k mode w ha sq hk hu
end Go.Proofs.YtfpooimjjpamoaaGreatDoor.dec
