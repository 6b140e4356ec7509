/-
  The steps of the walks, part 34: DecM, DecA, DecCut.
-/
import Derived.Lib.Bytealg
import Derived.Laws.Externs
import Derived.Test.YtlhmfgbaefaneabGreatDoorB31
import Derived.Test.YtlhmfgbaefaneabGreatDoorB11
import Derived.Test.YtlhmfgbaefaneabGreatDoorB29
import Derived.Test.YtlhmfgbaefaneabGreatDoorB30
namespace Go.Proofs.YtlhmfgbaefaneabGreatDoor.dec
open Go.RowKit Go.Proofs.YtlhmfgbaefaneabGreatDoor.nat Go.Proofs.YtlhmfgbaefaneabGreatDoor.num
open Go.Proofs.YtlhmfgbaefaneabGreatDoor.rat (IsR Lr)
open Go.Proofs.YtlhmfgbaefaneabGreatDoor.ref (str str_size str_append nearN nearUp signed decText)
def upB (mode C : Int) (odd : Bool) : Bool := ((mode == 1) && decide (0 ≤ C)) || ((mode == 2) && (decide (0 < C) || ((C == 0) && odd)))
theorem up_near (x d : Nat) (mode : Int) : upB mode (cmp3 ((x % d + x % d : Nat) : Int) (d : Int)) (decide (x / d % 2 = 1)) = nearUp x d mode := by
  have hC : cmp3 ((x % d + x % d : Nat) : Int) (d : Int) = ref.cmpN (x % d * 2) d := by
    rw [show x % d + x % d = x % d * 2 by omega]
    unfold cmp3 ref.cmpN
    (repeat' split) <;> omega
  rw [hC, ref.near_up (x := x) (d := d) (mode := mode) rfl]
  rfl
def putText (q : Rat) (k : Nat) (mode : Int) : List UInt8 := decText (signed (decide (q.num < 0)) (nearN (q.num.natAbs * 10 ^ k) q.den mode)) k
theorem text_of (below : Bool) (x k : Nat) : decText (signed below x) k = if below = true ∧ x ≠ 0 then 45 :: ref.decBody x k else ref.decBody x k := by
  unfold decText signed
  cases below
  · simp
  · by_cases h : x = 0
    · subst h; simp
    · simp [h]
theorem Ln_ten {k : Nat} (hk : k ≤ 20) : Ln (10 ^ k) 21 := rat.Ln_tens (n := 21) (Nat.lt_of_lt_of_le (show 10 ^ k < 10 ^ (k + 1) by rw [Nat.pow_succ]; have : 0 < 10 ^ k := Nat.pow_pos (by omega); omega) (Nat.pow_le_pow_right (by omega) (by omega))) (Nat.le_refl _)
theorem Ln_near {x d n : Nat} (mode : Int) (h : Ln x n) : Ln (nearN x d mode) (n + 2) := by
  have h1 : nearN x d mode ≤ x + 1 := by
    unfold nearN
    have := Nat.div_le_self x d
    split <;> omega
  exact (Ln_less h1 (Ln_add h (Ln_small (x := 1) (by decide)))).le (by omega)
theorem near_two {x d : Nat} {mode : Int} (h : nearUp x d mode = true) : nearN x d mode = x / d + 1 := by unfold nearN; rw [h]; rfl
theorem near_one {x d : Nat} {mode : Int} (h : nearUp x d mode = false) : nearN x d mode = x / d := by unfold nearN; rw [h]; rfl
theorem sign_ways (z : Int) : (sg z = -1 ∧ decide (z < 0) = true) ∨ (sg z = 0 ∧ decide (z < 0) = false) ∨ (sg z = 1 ∧ decide (z < 0) = false) := by
  unfold sg cmp3
  rcases Int.lt_trichotomy z 0 with h | h | h
  · exact Or.inl ⟨by rw [if_pos h], by simpa using h⟩
  · subst h; exact Or.inr (Or.inl ⟨rfl, rfl⟩)
  · exact Or.inr (Or.inr ⟨by rw [if_neg (by omega), if_pos h], by simp; omega⟩)
theorem sgn_signed (p : Bool) (x : Nat) : num.sgn p x = signed p x := rfl
end Go.Proofs.YtlhmfgbaefaneabGreatDoor.dec
namespace Go.Proofs.YtlhmfgbaefaneabGreatDoor.dec
open Go.RowKit Go.Proofs.YtlhmfgbaefaneabGreatDoor.nat Go.Proofs.YtlhmfgbaefaneabGreatDoor.num
open Go.Proofs.YtlhmfgbaefaneabGreatDoor.rat (IsR Lr)
open Go.Proofs.YtlhmfgbaefaneabGreatDoor.ref (str str_size str_append nearN nearUp signed decText)
set_option maxRecDepth 100000 in
set_option maxHeartbeats 4000000 in
theorem tenPower_any (k : Nat) (w : World) (hk : k ≤ 20) :
    Calls Tryz.prog 158 #[.int .i64 (k : Nat)] w fun e w' => ∃ u, e = .returned u ∧ (nat.IsN w' u (10 ^ k) ∧ u ≠ .pointer none) ∧ Below w.heap.size w w' := by
  have h10 := Ln_ten hk
  have c1 := fun (W : World)    => nat.Of_int 10 10 rfl (by decide) W
  have C1 := Lib.hid c1
  clear c1
  have c2 := fun (W : World) (v0 : Value) (hh0 : nat.IsN W v0 (10 : Nat))  => nat.Pow_any v0 10 (k : Int) W hh0 ((Ln_small (x := 10) (by decide)).le (by decide)) (by omega) (by rw [Int.toNat_natCast]; exact h10.le (by decide))
  rw [Int.toNat_natCast] at c2
  have C2 := Lib.hid c2
  clear c2
  go_enter Tryz.func158, Tryz.ntmps158
  go_wp2_with (first
    | (go_at_call 110; (with_reducible refine (C1.out _ ).mono ?_); rintro e W1 ⟨t, rfl, ⟨h_t, n_t⟩, hb⟩
       have H_t := Lib.hid h_t
       have N_t := Lib.hid n_t
       have HB1 := Lib.hid hb
       clear h_t n_t hb C1)
    | (go_at_call 128; (with_reducible refine (C2.out _ _ H_t.out).mono ?_); rintro e W2 ⟨u, rfl, ⟨h_u, n_u⟩, hb⟩
       have H_u := Lib.hid h_u
       have N_u := Lib.hid n_u
       have HB2 := Lib.hid hb
       clear h_u n_u hb C2)
    | (fail "no arm"))
  go_ret
  exact ⟨_, rfl, ⟨H_u.out, N_u.out⟩, (nat.below_tr HB1.out HB2.out)⟩
set_option maxRecDepth 100000 in
theorem arePlaces_yes (z : Int) (w : World) (h : 0 ≤ z ∧ z ≤ 20) :
    Calls Tryz.prog 152 #[.int .i64 z] w fun e w' => e = .returned (.bool true) ∧ w = w' := by
  obtain ⟨h1, h2⟩ := h
  go_enter Tryz.func152, Tryz.ntmps152
  go_wp2
  go_ret
  exact ⟨rfl, rfl⟩
set_option maxRecDepth 100000 in
theorem isMode_yes (m : Int) (w : World) (h : m = 1 ∨ m = 2 ∨ m = 3) :
    Calls Tryz.prog 153 #[.int .i64 m] w fun e w' => e = .returned (.bool true) ∧ w = w' := by
  rcases h with rfl | rfl | rfl
  all_goals
    go_enter Tryz.func153, Tryz.ntmps153
    go_wp2
    go_ret
    exact ⟨rfl, rfl⟩
set_option maxRecDepth 100000 in
set_option maxHeartbeats 4000000 in
theorem isOdd_yes (a : Value) (X : Nat) (w : World) (ha : nat.IsN w a X) (sx : Ln X 200000) (ho : X % 2 = 1) :
    Calls Tryz.prog 225 #[a] w fun e w' => e = .returned (.bool true) ∧ Below w.heap.size w w' := by
  have H_a := Lib.hid ha
  clear ha
  have HO := Lib.hid ho
  clear ho
  have c1 := fun (W : World)    => nat.Of_int 2 2 rfl (by decide) W
  have C1 := Lib.hid c1
  clear c1
  have c2 := fun (W : World) (v0 : Value) (v1 : Value) (hh0 : nat.IsN W v0 X) (hh1 : nat.IsN W v1 (2 : Nat))  => nat.Div_ok v0 v1 X 2 W hh0 hh1 (by decide) (sx.le (by decide)) ((Ln_small (x := 2) (by decide)).le (by decide))
  have C2 := Lib.hid c2
  clear c2
  have c3 := fun (W : World) (v0 : Value) (hh0 : nat.IsN W v0 (X % 2))  => nat.Zero_any v0 (X % 2) W hh0
  rw [decide_eq_false (by have := HO.out; omega)] at c3
  have C3 := Lib.hid c3
  clear c3
  go_enter Tryz.func225, Tryz.ntmps225
  go_wp2_with (first
    | (go_at_call 110; (with_reducible refine (C1.out _ ).mono ?_); rintro e W1 ⟨t, rfl, ⟨h_t, n_t⟩, hb⟩
       have H_t := Lib.hid h_t
       have N_t := Lib.hid n_t
       have HB1 := Lib.hid hb
       clear h_t n_t hb C1)
    | (go_at_call 120; (with_reducible refine (C2.out _ _ _ (H_a.out.below HB1.out) H_t.out).mono ?_); rintro e W2 ⟨q, r, rfl, -, ⟨h_r, n_r⟩, hb⟩
       have H_r := Lib.hid h_r
       have N_r := Lib.hid n_r
       have HB2 := Lib.hid hb
       clear h_r n_r hb C2)
    | (go_at_call 109; (with_reducible refine (C3.out _ _ H_r.out).mono ?_); rintro e w9 ⟨rfl, rfl⟩
       clear C3)
    | (fail "no arm"))
  go_ret
  exact ⟨rfl, (nat.below_tr HB1.out HB2.out)⟩
set_option maxRecDepth 100000 in
set_option maxHeartbeats 4000000 in
theorem isOdd_no (a : Value) (X : Nat) (w : World) (ha : nat.IsN w a X) (sx : Ln X 200000) (ho : X % 2 = 0) :
    Calls Tryz.prog 225 #[a] w fun e w' => e = .returned (.bool false) ∧ Below w.heap.size w w' := by
  have H_a := Lib.hid ha
  clear ha
  have HO := Lib.hid ho
  clear ho
  have c1 := fun (W : World)    => nat.Of_int 2 2 rfl (by decide) W
  have C1 := Lib.hid c1
  clear c1
  have c2 := fun (W : World) (v0 : Value) (v1 : Value) (hh0 : nat.IsN W v0 X) (hh1 : nat.IsN W v1 (2 : Nat))  => nat.Div_ok v0 v1 X 2 W hh0 hh1 (by decide) (sx.le (by decide)) ((Ln_small (x := 2) (by decide)).le (by decide))
  have C2 := Lib.hid c2
  clear c2
  have c3 := fun (W : World) (v0 : Value) (hh0 : nat.IsN W v0 (X % 2))  => nat.Zero_any v0 (X % 2) W hh0
  rw [decide_eq_true HO.out] at c3
  have C3 := Lib.hid c3
  clear c3
  go_enter Tryz.func225, Tryz.ntmps225
  go_wp2_with (first
    | (go_at_call 110; (with_reducible refine (C1.out _ ).mono ?_); rintro e W1 ⟨t, rfl, ⟨h_t, n_t⟩, hb⟩
       have H_t := Lib.hid h_t
       have N_t := Lib.hid n_t
       have HB1 := Lib.hid hb
       clear h_t n_t hb C1)
    | (go_at_call 120; (with_reducible refine (C2.out _ _ _ (H_a.out.below HB1.out) H_t.out).mono ?_); rintro e W2 ⟨q, r, rfl, -, ⟨h_r, n_r⟩, hb⟩
       have H_r := Lib.hid h_r
       have N_r := Lib.hid n_r
       have HB2 := Lib.hid hb
       clear h_r n_r hb C2)
    | (go_at_call 109; (with_reducible refine (C3.out _ _ H_r.out).mono ?_); rintro e w9 ⟨rfl, rfl⟩
       clear C3)
    | (fail "no arm"))
  go_ret
  exact ⟨rfl, (nat.below_tr HB1.out HB2.out)⟩
theorem isOdd_any (a : Value) (X : Nat) (w : World) (ha : nat.IsN w a X) (sx : Ln X 200000) :
    Calls Tryz.prog 225 #[a] w fun e w' => e = .returned (.bool (decide (X % 2 = 1))) ∧ Below w.heap.size w w' := by
  rcases (show X % 2 = 1 ∨ X % 2 = 0 by omega) with h | h
  · rw [decide_eq_true h]; exact isOdd_yes a X w ha sx h
  · rw [decide_eq_false (by omega)]; exact isOdd_no a X w ha sx h
set_option maxRecDepth 100000 in
set_option maxHeartbeats 4000000 in
theorem goesUp_any (mode C : Int) (a : Value) (X : Nat) (w : World) (ha : nat.IsN w a X) (sx : Ln X 200000) (k1 : -9223372036854775808 ≤ C) (k2 : C < 9223372036854775808) :
    Calls Tryz.prog 190 #[.int .i64 mode, .int .i64 C, a] w fun e w' => e = .returned (.bool (upB mode C (decide (X % 2 = 1)))) ∧ Below w.heap.size w w' := by
  have HO := Lib.hid (isOdd_any a X w ha sx)
  clear ha sx
  generalize decide (X % 2 = 1) = o at *
  have hcase : (mode = 1 ∧ 0 ≤ C ∧ upB mode C o = true) ∨ (mode = 1 ∧ C < 0 ∧ upB mode C o = false) ∨ (mode = 2 ∧ 0 < C ∧ upB mode C o = true) ∨ (mode = 2 ∧ C = 0 ∧ upB mode C o = o) ∨ (mode = 2 ∧ C < 0 ∧ upB mode C o = false) ∨ ((mode == 1) = false ∧ (mode == 2) = false ∧ upB mode C o = false) := by
    unfold upB
    by_cases h1 : mode = 1
    · subst h1
      by_cases h2 : 0 ≤ C
      · exact Or.inl ⟨rfl, h2, by simp [h2]⟩
      · exact Or.inr (Or.inl ⟨rfl, by omega, by simp; omega⟩)
    · by_cases h3 : mode = 2
      · subst h3
        rcases (show C < 0 ∨ C = 0 ∨ 0 < C by omega) with h | h | h
        · exact Or.inr (Or.inr (Or.inr (Or.inr (Or.inl ⟨rfl, h, by simp; omega⟩))))
        · subst h
          exact Or.inr (Or.inr (Or.inr (Or.inl ⟨rfl, rfl, by simp⟩)))
        · exact Or.inr (Or.inr (Or.inl ⟨rfl, h, by simp [h]⟩))
      · exact Or.inr (Or.inr (Or.inr (Or.inr (Or.inr ⟨by simp [h1], by simp [h3], by simp [h1, h3]⟩))))
  generalize upB mode C o = up at *
  rcases hcase with ⟨rfl, h1, rfl⟩ | ⟨rfl, h1, rfl⟩ | ⟨rfl, h1, rfl⟩ | ⟨rfl, rfl, rfl⟩ | ⟨rfl, h1, rfl⟩ | ⟨h0, h1, rfl⟩
  case' inr.inr.inl => have h0 : ¬ C = 0 := by omega
  all_goals
    go_enter Tryz.func190, Tryz.ntmps190
    go_wp2_with (first
      | (go_at_call 225; (with_reducible refine (HO.out).mono ?_); rintro e w1 ⟨rfl, hb⟩)
      | (fail "no arm"))
    go_ret
    first
      | exact ⟨rfl, hb⟩
      | exact ⟨rfl, Below.refl _ _⟩
      | exact ⟨by simp; omega, Below.refl _ _⟩
set_option maxRecDepth 100000 in
set_option maxHeartbeats 4000000 in
theorem cutOff_any (a : Value) (q : Rat) (k : Nat) (w : World) (ha : IsR w a q) (sq : Lr q 20000) (hk : k ≤ 20) :
    Calls Tryz.prog 189 #[a, .int .i64 (k : Nat)] w fun e w' => ∃ s r, e = .returned (.tuple #[s, r]) ∧ (nat.IsN w' s (q.num.natAbs * 10 ^ k / q.den) ∧ s ≠ .pointer none) ∧ (nat.IsN w' r (q.num.natAbs * 10 ^ k % q.den) ∧ r ≠ .pointer none) ∧ Below w.heap.size w w' := by
  have H_a := Lib.hid ha
  clear ha
  have h10 := Ln_ten hk
  have c1 := fun (W : World) (v0 : Value) (hh0 : rat.IsR W v0 q)  => rat.Num_any v0 q W hh0
  have C1 := Lib.hid c1
  clear c1
  have c2 := fun (W : World) (v0 : Value) (hh0 : num.IsZ W v0 q.num)  => num.Abs_any v0 q.num W hh0
  have C2 := Lib.hid c2
  clear c2
  have c3 := fun (W : World)    => tenPower_any k W hk
  have C3 := Lib.hid c3
  clear c3
  have c4 := fun (W : World) (v0 : Value) (v1 : Value) (hh0 : nat.IsN W v0 (Int.natAbs q.num)) (hh1 : nat.IsN W v1 (10 ^ k))  => nat.Mul_any v0 v1 (Int.natAbs q.num) (10 ^ k) W hh0 hh1 ((Ln_abs sq.1).le (by decide)) (h10.le (by decide))
  have C4 := Lib.hid c4
  clear c4
  have c5 := fun (W : World) (v0 : Value) (hh0 : rat.IsR W v0 q)  => rat.Den_any v0 q W hh0
  have C5 := Lib.hid c5
  clear c5
  have c6 := fun (W : World) (v0 : Value) (hh0 : num.IsZ W v0 ((q.den : Nat) : Int))  => num.Abs_any v0 ((q.den : Nat) : Int) W hh0
  rw [Int.natAbs_natCast] at c6
  have C6 := Lib.hid c6
  clear c6
  have c7 := fun (W : World) (v0 : Value) (v1 : Value) (hh0 : nat.IsN W v0 ((Int.natAbs q.num) * (10 ^ k))) (hh1 : nat.IsN W v1 q.den)  => nat.Div_ok v0 v1 ((Int.natAbs q.num) * (10 ^ k)) q.den W hh0 hh1 q.den_pos ((Ln_mul (Ln_abs sq.1) h10).le (by decide)) (sq.2.le (by decide))
  have C7 := Lib.hid c7
  clear c7
  go_enter Tryz.func189, Tryz.ntmps189
  go_wp2_with (first
    | (go_at_call 84; (with_reducible refine (C1.out _ _ H_a.out).mono ?_); rintro e W1 ⟨n, rfl, ⟨h_n, n_n⟩, hb⟩
       have H_n := Lib.hid h_n
       have N_n := Lib.hid n_n
       have HB1 := Lib.hid hb
       clear h_n n_n hb C1)
    | (go_at_call 111; (with_reducible refine (C2.out _ _ H_n.out).mono ?_); rintro e W2 ⟨x, rfl, ⟨h_x, n_x⟩, hb⟩
       have H_x := Lib.hid h_x
       have N_x := Lib.hid n_x
       have HB2 := Lib.hid hb
       clear h_x n_x hb C2)
    | (go_at_call 158; (with_reducible refine (C3.out _ ).mono ?_); rintro e W3 ⟨t, rfl, ⟨h_t, n_t⟩, hb⟩
       have H_t := Lib.hid h_t
       have N_t := Lib.hid n_t
       have HB3 := Lib.hid hb
       clear h_t n_t hb C3)
    | (go_at_call 96; (with_reducible refine (C4.out _ _ _ (H_x.out.below HB3.out) H_t.out).mono ?_); rintro e W4 ⟨m, rfl, ⟨h_m, n_m⟩, hb⟩
       have H_m := Lib.hid h_m
       have N_m := Lib.hid n_m
       have HB4 := Lib.hid hb
       clear h_m n_m hb C4)
    | (go_at_call 85; (with_reducible refine (C5.out _ _ ((((H_a.out.below HB1.out).below HB2.out).below HB3.out).below HB4.out)).mono ?_); rintro e W5 ⟨d, rfl, ⟨h_d, n_d⟩, hb⟩
       have H_d := Lib.hid h_d
       have N_d := Lib.hid n_d
       have HB5 := Lib.hid hb
       clear h_d n_d hb C5)
    | (go_at_call 111; (with_reducible refine (C6.out _ _ H_d.out).mono ?_); rintro e W6 ⟨y, rfl, ⟨h_y, n_y⟩, hb⟩
       have H_y := Lib.hid h_y
       have N_y := Lib.hid n_y
       have HB6 := Lib.hid hb
       clear h_y n_y hb C6)
    | (go_at_call 120; (with_reducible refine (C7.out _ _ _ ((H_m.out.below HB5.out).below HB6.out) H_y.out).mono ?_); rintro e W7 ⟨s, r, rfl, ⟨h_s, n_s⟩, ⟨h_r, n_r⟩, hb⟩
       have H_s := Lib.hid h_s
       have N_s := Lib.hid n_s
       have H_r := Lib.hid h_r
       have N_r := Lib.hid n_r
       have HB7 := Lib.hid hb
       clear h_s n_s h_r n_r hb C7)
    | (fail "no arm"))
  go_ret2
  exact ⟨_, _, rfl, ⟨H_s.out, N_s.out⟩, ⟨H_r.out, N_r.out⟩, (nat.below_tr (nat.below_tr (nat.below_tr (nat.below_tr (nat.below_tr (nat.below_tr HB1.out HB2.out) HB3.out) HB4.out) HB5.out) HB6.out) HB7.out)⟩
set_option maxRecDepth 100000 in
set_option maxHeartbeats 4000000 in
theorem rounded_up (a : Value) (q : Rat) (k : Nat) (mode : Int) (w : World) (ha : IsR w a q) (sq : Lr q 20000) (hk : k ≤ 20) (hu : nearUp (q.num.natAbs * 10 ^ k) q.den mode = true) :
    Calls Tryz.prog 155 #[a, .int .i64 (k : Nat), .int .i64 mode] w fun e w' => ∃ u, e = .returned u ∧ (nat.IsN w' u (nearN (q.num.natAbs * 10 ^ k) q.den mode) ∧ u ≠ .pointer none) ∧ Below w.heap.size w w' := by
  have H_a := Lib.hid ha
  clear ha
  have h10 := Ln_ten hk
  have hT : Ln (q.num.natAbs * 10 ^ k) 20021 := Ln_mul (Ln_abs sq.1) h10
  rw [near_two hu]
  rw [← up_near] at hu
  obtain ⟨T, hTT⟩ : ∃ T, q.num.natAbs * 10 ^ k = T := ⟨_, rfl⟩
  have CO := fun W (v : Value) (h : IsR W v q) => cutOff_any v q k W h sq hk
  rw [hTT] at hT hu CO ⊢
  have CO := Lib.hid CO
  obtain ⟨C, hC⟩ : ∃ C, cmp3 ((T % q.den + T % q.den : Nat) : Int) (q.den : Int) = C := ⟨_, rfl⟩
  rw [hC] at hu
  have hC1 : -1 ≤ C := by rw [← hC]; unfold cmp3; (repeat' split) <;> omega
  have hC2 : C ≤ 1 := by rw [← hC]; unfold cmp3; (repeat' split) <;> omega
  clear hTT
  have c1 := fun (W : World) (v0 : Value) (hh0 : rat.IsR W v0 q)  => CO.out W v0 hh0
  have C1 := Lib.hid c1
  clear c1
  have c2 := fun (W : World) (v0 : Value) (v1 : Value) (hh0 : nat.IsN W v0 (T % q.den)) (hh1 : nat.IsN W v1 (T % q.den))  => nat.Add_any v0 v1 (T % q.den) (T % q.den) W hh0 hh1 ((Ln_less (Nat.mod_le _ _) hT).le (by decide)) ((Ln_less (Nat.mod_le _ _) hT).le (by decide))
  have C2 := Lib.hid c2
  clear c2
  have c3 := fun (W : World) (v0 : Value) (hh0 : rat.IsR W v0 q)  => rat.Den_any v0 q W hh0
  have C3 := Lib.hid c3
  clear c3
  have c4 := fun (W : World) (v0 : Value) (hh0 : num.IsZ W v0 ((q.den : Nat) : Int))  => num.Abs_any v0 ((q.den : Nat) : Int) W hh0
  rw [Int.natAbs_natCast] at c4
  have C4 := Lib.hid c4
  clear c4
  have c5 := fun (W : World) (v0 : Value) (v1 : Value) (hh0 : nat.IsN W v0 ((T % q.den) + (T % q.den))) (hh1 : nat.IsN W v1 q.den)  => nat.Cmp_b v0 v1 ((T % q.den) + (T % q.den)) q.den W hh0 hh1 ((Ln_add (Ln_less (Nat.mod_le _ _) hT) (Ln_less (Nat.mod_le _ _) hT)).le (by decide)) (sq.2.le (by decide))
  rw [hC] at c5
  have C5 := Lib.hid c5
  clear c5
  have c6 := fun (W : World) (v0 : Value) (hh0 : nat.IsN W v0 (T / q.den))  => goesUp_any mode C v0 (T / q.den) W hh0 ((Ln_less (Nat.div_le_self _ _) hT).le (by decide)) (by omega) (by omega)
  rw [hu] at c6
  have C6 := Lib.hid c6
  clear c6
  have c7 := fun (W : World)    => nat.Of_int 1 1 rfl (by decide) W
  have C7 := Lib.hid c7
  clear c7
  have c8 := fun (W : World) (v0 : Value) (v1 : Value) (hh0 : nat.IsN W v0 (T / q.den)) (hh1 : nat.IsN W v1 (1 : Nat))  => nat.Add_any v0 v1 (T / q.den) (1 : Nat) W hh0 hh1 ((Ln_less (Nat.div_le_self _ _) hT).le (by decide)) ((Ln_small (by decide)).le (by decide))
  have C8 := Lib.hid c8
  clear c8
  go_enter Tryz.func155, Tryz.ntmps155
  go_wp2_with (first
    | (go_at_call 189; (with_reducible refine (C1.out _ _ H_a.out).mono ?_); rintro e W1 ⟨s, r, rfl, ⟨h_s, n_s⟩, ⟨h_r, n_r⟩, hb⟩
       have H_s := Lib.hid h_s
       have N_s := Lib.hid n_s
       have H_r := Lib.hid h_r
       have N_r := Lib.hid n_r
       have HB1 := Lib.hid hb
       clear h_s n_s h_r n_r hb C1)
    | (go_at_call 126; (with_reducible refine (C2.out _ _ _ H_r.out H_r.out).mono ?_); rintro e W2 ⟨rr, rfl, ⟨h_rr, n_rr⟩, hb⟩
       have H_rr := Lib.hid h_rr
       have N_rr := Lib.hid n_rr
       have HB2 := Lib.hid hb
       clear h_rr n_rr hb C2)
    | (go_at_call 85; (with_reducible refine (C3.out _ _ ((H_a.out.below HB1.out).below HB2.out)).mono ?_); rintro e W3 ⟨d, rfl, ⟨h_d, n_d⟩, hb⟩
       have H_d := Lib.hid h_d
       have N_d := Lib.hid n_d
       have HB3 := Lib.hid hb
       clear h_d n_d hb C3)
    | (go_at_call 111; (with_reducible refine (C4.out _ _ H_d.out).mono ?_); rintro e W4 ⟨y, rfl, ⟨h_y, n_y⟩, hb⟩
       have H_y := Lib.hid h_y
       have N_y := Lib.hid n_y
       have HB4 := Lib.hid hb
       clear h_y n_y hb C4)
    | (go_at_call 108; (with_reducible refine (C5.out _ _ _ ((H_rr.out.below HB3.out).below HB4.out) H_y.out).mono ?_); rintro e W5 ⟨rfl, hb⟩
       have HB5 := Lib.hid hb
       clear hb C5)
    | (go_at_call 190; (with_reducible refine (C6.out _ _ ((((H_s.out.below HB2.out).below HB3.out).below HB4.out).below HB5.out)).mono ?_); rintro e W6 ⟨rfl, hb⟩
       have HB6 := Lib.hid hb
       clear hb C6)
    | (go_at_call 110; (with_reducible refine (C7.out _ ).mono ?_); rintro e W7 ⟨o, rfl, ⟨h_o, n_o⟩, hb⟩
       have H_o := Lib.hid h_o
       have N_o := Lib.hid n_o
       have HB7 := Lib.hid hb
       clear h_o n_o hb C7)
    | (go_at_call 126; (with_reducible refine (C8.out _ _ _ ((((((H_s.out.below HB2.out).below HB3.out).below HB4.out).below HB5.out).below HB6.out).below HB7.out) H_o.out).mono ?_); rintro e W8 ⟨u, rfl, ⟨h_u, n_u⟩, hb⟩
       have H_u := Lib.hid h_u
       have N_u := Lib.hid n_u
       have HB8 := Lib.hid hb
       clear h_u n_u hb C8)
    | (fail "no arm"))
  go_ret
  exact ⟨_, rfl, ⟨H_u.out, N_u.out⟩, (nat.below_tr (nat.below_tr (nat.below_tr (nat.below_tr (nat.below_tr (nat.below_tr (nat.below_tr HB1.out HB2.out) HB3.out) HB4.out) HB5.out) HB6.out) HB7.out) HB8.out)⟩
set_option maxRecDepth 100000 in
set_option maxHeartbeats 4000000 in
theorem rounded_cut (a : Value) (q : Rat) (k : Nat) (mode : Int) (w : World) (ha : IsR w a q) (sq : Lr q 20000) (hk : k ≤ 20) (hu : nearUp (q.num.natAbs * 10 ^ k) q.den mode = false) :
    Calls Tryz.prog 155 #[a, .int .i64 (k : Nat), .int .i64 mode] w fun e w' => ∃ u, e = .returned u ∧ (nat.IsN w' u (nearN (q.num.natAbs * 10 ^ k) q.den mode) ∧ u ≠ .pointer none) ∧ Below w.heap.size w w' := by
  have H_a := Lib.hid ha
  clear ha
  have h10 := Ln_ten hk
  have hT : Ln (q.num.natAbs * 10 ^ k) 20021 := Ln_mul (Ln_abs sq.1) h10
  rw [near_one hu]
  rw [← up_near] at hu
  obtain ⟨T, hTT⟩ : ∃ T, q.num.natAbs * 10 ^ k = T := ⟨_, rfl⟩
  have CO := fun W (v : Value) (h : IsR W v q) => cutOff_any v q k W h sq hk
  rw [hTT] at hT hu CO ⊢
  have CO := Lib.hid CO
  obtain ⟨C, hC⟩ : ∃ C, cmp3 ((T % q.den + T % q.den : Nat) : Int) (q.den : Int) = C := ⟨_, rfl⟩
  rw [hC] at hu
  have hC1 : -1 ≤ C := by rw [← hC]; unfold cmp3; (repeat' split) <;> omega
  have hC2 : C ≤ 1 := by rw [← hC]; unfold cmp3; (repeat' split) <;> omega
  clear hTT
  have c1 := fun (W : World) (v0 : Value) (hh0 : rat.IsR W v0 q)  => CO.out W v0 hh0
  have C1 := Lib.hid c1
  clear c1
  have c2 := fun (W : World) (v0 : Value) (v1 : Value) (hh0 : nat.IsN W v0 (T % q.den)) (hh1 : nat.IsN W v1 (T % q.den))  => nat.Add_any v0 v1 (T % q.den) (T % q.den) W hh0 hh1 ((Ln_less (Nat.mod_le _ _) hT).le (by decide)) ((Ln_less (Nat.mod_le _ _) hT).le (by decide))
  have C2 := Lib.hid c2
  clear c2
  have c3 := fun (W : World) (v0 : Value) (hh0 : rat.IsR W v0 q)  => rat.Den_any v0 q W hh0
  have C3 := Lib.hid c3
  clear c3
  have c4 := fun (W : World) (v0 : Value) (hh0 : num.IsZ W v0 ((q.den : Nat) : Int))  => num.Abs_any v0 ((q.den : Nat) : Int) W hh0
  rw [Int.natAbs_natCast] at c4
  have C4 := Lib.hid c4
  clear c4
  have c5 := fun (W : World) (v0 : Value) (v1 : Value) (hh0 : nat.IsN W v0 ((T % q.den) + (T % q.den))) (hh1 : nat.IsN W v1 q.den)  => nat.Cmp_b v0 v1 ((T % q.den) + (T % q.den)) q.den W hh0 hh1 ((Ln_add (Ln_less (Nat.mod_le _ _) hT) (Ln_less (Nat.mod_le _ _) hT)).le (by decide)) (sq.2.le (by decide))
  rw [hC] at c5
  have C5 := Lib.hid c5
  clear c5
  have c6 := fun (W : World) (v0 : Value) (hh0 : nat.IsN W v0 (T / q.den))  => goesUp_any mode C v0 (T / q.den) W hh0 ((Ln_less (Nat.div_le_self _ _) hT).le (by decide)) (by omega) (by omega)
  rw [hu] at c6
  have C6 := Lib.hid c6
  clear c6
  go_enter Tryz.func155, Tryz.ntmps155
  go_wp2_with (first
    | (go_at_call 189; (with_reducible refine (C1.out _ _ H_a.out).mono ?_); rintro e W1 ⟨s, r, rfl, ⟨h_s, n_s⟩, ⟨h_r, n_r⟩, hb⟩
       have H_s := Lib.hid h_s
       have N_s := Lib.hid n_s
       have H_r := Lib.hid h_r
       have N_r := Lib.hid n_r
       have HB1 := Lib.hid hb
       clear h_s n_s h_r n_r hb C1)
    | (go_at_call 126; (with_reducible refine (C2.out _ _ _ H_r.out H_r.out).mono ?_); rintro e W2 ⟨rr, rfl, ⟨h_rr, n_rr⟩, hb⟩
       have H_rr := Lib.hid h_rr
       have N_rr := Lib.hid n_rr
       have HB2 := Lib.hid hb
       clear h_rr n_rr hb C2)
    | (go_at_call 85; (with_reducible refine (C3.out _ _ ((H_a.out.below HB1.out).below HB2.out)).mono ?_); rintro e W3 ⟨d, rfl, ⟨h_d, n_d⟩, hb⟩
       have H_d := Lib.hid h_d
       have N_d := Lib.hid n_d
       have HB3 := Lib.hid hb
       clear h_d n_d hb C3)
    | (go_at_call 111; (with_reducible refine (C4.out _ _ H_d.out).mono ?_); rintro e W4 ⟨y, rfl, ⟨h_y, n_y⟩, hb⟩
       have H_y := Lib.hid h_y
       have N_y := Lib.hid n_y
       have HB4 := Lib.hid hb
       clear h_y n_y hb C4)
    | (go_at_call 108; (with_reducible refine (C5.out _ _ _ ((H_rr.out.below HB3.out).below HB4.out) H_y.out).mono ?_); rintro e W5 ⟨rfl, hb⟩
       have HB5 := Lib.hid hb
       clear hb C5)
    | (go_at_call 190; (with_reducible refine (C6.out _ _ ((((H_s.out.below HB2.out).below HB3.out).below HB4.out).below HB5.out)).mono ?_); rintro e W6 ⟨rfl, hb⟩
       have HB6 := Lib.hid hb
       clear hb C6)
    | (fail "no arm"))
  go_ret
  exact ⟨_, rfl, ⟨(((((H_s.out.below HB2.out).below HB3.out).below HB4.out).below HB5.out).below HB6.out), N_s.out⟩, (nat.below_tr (nat.below_tr (nat.below_tr (nat.below_tr (nat.below_tr HB1.out HB2.out) HB3.out) HB4.out) HB5.out) HB6.out)⟩
theorem rounded_any (a : Value) (q : Rat) (k : Nat) (mode : Int) (w : World) (ha : IsR w a q) (sq : Lr q 20000) (hk : k ≤ 20) :
    Calls Tryz.prog 155 #[a, .int .i64 (k : Nat), .int .i64 mode] w fun e w' => ∃ u, e = .returned u ∧ (nat.IsN w' u (nearN (q.num.natAbs * 10 ^ k) q.den mode) ∧ u ≠ .pointer none) ∧ Below w.heap.size w w' := by
  rcases hu : nearUp (q.num.natAbs * 10 ^ k) q.den mode with _ | _
  · exact rounded_cut a q k mode w ha sq hk hu
  · exact rounded_up a q k mode w ha sq hk hu
end Go.Proofs.YtlhmfgbaefaneabGreatDoor.dec
namespace Go.Proofs.YtlhmfgbaefaneabGreatDoor.dec
open Go.RowKit Go.Proofs.YtlhmfgbaefaneabGreatDoor.nat Go.Proofs.YtlhmfgbaefaneabGreatDoor.num
open Go.Proofs.YtlhmfgbaefaneabGreatDoor.ref (str str_size str_append)
theorem ext_ahead (a b : List UInt8) : (str (a ++ 46 :: b)).extract 0 a.length = str a := by apply ByteArray.ext; simp [str]
theorem ext_behind (a b : List UInt8) : (str (a ++ 46 :: b)).extract (a.length + 1) (a ++ 46 :: b).length = str b := by
  apply ByteArray.ext
  simp [str]
  rw [List.take_of_length_le (by omega)]
theorem index_none {l : List UInt8} (h : ∀ c ∈ l, c ≠ 46) : Lib.indexByte l 46 = -1 := by
  induction l with
  | nil => rfl
  | cons b l ih =>
    unfold Lib.indexByte
    have hb : (b == 46) = false := by simpa using h b (by simp)
    rw [hb, ih fun c hc => h c (by simp [hc])]
    rfl
theorem index_at {a b : List UInt8} (h : ∀ c ∈ a, c ≠ 46) : Lib.indexByte (a ++ 46 :: b) 46 = a.length := by
  induction a with
  | nil => rfl
  | cons x a ih =>
    have hx : (x == 46) = false := by simpa using h x (by simp)
    have hi := ih fun c hc => h c (by simp [hc])
    show Lib.indexByte (x :: (a ++ 46 :: b)) 46 = _
    unfold Lib.indexByte
    rw [hx, hi]
    have h1 : ((a.length : Int) == -1) = false := by simp
    simp only [Bool.false_eq_true, if_false, h1, List.length_cons]
    omega
set_option maxRecDepth 100000 in
theorem IndexByte_point (l : List UInt8) (w : World) :
    Calls Tryz.prog 247 #[.string (str l), .int .u8 46] w fun e w' => e = .returned (.int .i64 (Lib.indexByte l 46)) ∧ w = w' := by
  have hr := fun w => Lib.run_indexByteString (P := Tryz.prog) (str l) 46 w
  rw [show (str l).data.toList = l from rfl, show ((46 : Int).toNat.toUInt8) = 46 by decide] at hr
  generalize str l = s at *
  go_enter Tryz.func247, Tryz.ntmps247
  go_wp2
  rw [run_callFunc_extern Tryz.func253 (by kernel_rfl) (by kernel_rfl) (by kernel_rfl) (e := Extern.BytealgIndexByte.indexByte) (by kernel_rfl), hr]
  simp only [Result.andThen]
  rw [Oper.upon_value]
  go_wp2
  go_ret
  exact ⟨rfl, rfl⟩
set_option maxRecDepth 100000 in
theorem Index_point (l : List UInt8) (w : World) :
    Calls Tryz.prog 240 #[.string (str l), .string ⟨#[46]⟩] w fun e w' => e = .returned (.int .i64 (Lib.indexByte l 46)) ∧ w = w' := by
  have HI := Lib.hid (IndexByte_point l w)
  have kz : (⟨#[46]⟩ : ByteArray).size = 1 := rfl
  have kg : ∀ h : 0 < (⟨#[46]⟩ : ByteArray).size, ((⟨#[46]⟩ : ByteArray)[0]'h).toNat = 46 := fun _ => rfl
  have hk : ((⟨#[46]⟩ : ByteArray).toList == (str l).toList) = decide (l = [46]) := by
    rw [ByteArray.toList_eq, ByteArray.toList_eq]
    simp [str]
    by_cases h : l = [46]
    · rw [decide_eq_true h, h]; rfl
    · rw [decide_eq_false h, beq_eq_false_iff_ne]; exact fun e => h e.symm
  by_cases hl : l = [46]
  · rw [decide_eq_true hl] at hk
    have h0 : Lib.indexByte l 46 = 0 := by rw [hl]; rfl
    rw [h0]
    generalize (⟨#[46]⟩ : ByteArray) = k at *
    generalize str l = s at *
    clear hl h0
    go_enter Tryz.func240, Tryz.ntmps240
    go_wp2
    go_ret
    exact ⟨rfl, rfl⟩
  · rw [decide_eq_false hl] at hk
    generalize (⟨#[46]⟩ : ByteArray) = k at *
    generalize str l = s at *
    clear hl
    go_enter Tryz.func240, Tryz.ntmps240
    go_wp2_with (first
      | (go_at_call 247; (with_reducible refine (HI.out).mono ?_); rintro e w1 ⟨rfl, rfl⟩)
      | (fail "no arm"))
    go_ret
    exact ⟨rfl, rfl⟩
set_option maxRecDepth 100000 in
theorem Cut_whole (l : List UInt8) (w : World) (_hl : l.length ≤ 4611686018427387904) (h : ∀ c ∈ l, c ≠ 46) :
    Calls Tryz.prog 192 #[.string (str l), .string ⟨#[46]⟩] w fun e w' => e = .returned (.tuple #[.string (str l), .string (str []), .bool false]) ∧ Below w.heap.size w w' := by
  have hI := Index_point l w
  rw [index_none h] at hI
  have HI := Lib.hid hI
  have he : (⟨#[]⟩ : ByteArray) = str [] := rfl
  generalize (⟨#[46]⟩ : ByteArray) = k at *
  generalize str l = s at *
  clear hI
  have HC : Hid (Calls Tryz.prog 226 #[.string s, .string k] w fun e w' => e = .returned (.tuple #[.string s, .string ⟨#[]⟩, .bool false]) ∧ w = w') := Lib.hid (by
    go_enter Tryz.func226, Tryz.ntmps226
    go_wp2_with (first
      | (go_at_call 240; (with_reducible refine (HI.out).mono ?_); rintro e w1 ⟨rfl, rfl⟩)
      | (fail "no arm"))
    go_ret3
    exact ⟨rfl, rfl⟩)
  rw [← he]
  clear he
  go_enter Tryz.func192, Tryz.ntmps192
  go_wp2_with (first
    | (go_at_call 226; (with_reducible refine (HC.out).mono ?_); rintro e w1 ⟨rfl, rfl⟩)
    | (fail "no arm"))
  go_ret3
  exact ⟨rfl, Below.refl _ _⟩
set_option maxRecDepth 100000 in
theorem Cut_point (a b : List UInt8) (w : World) (hl : (a ++ 46 :: b).length ≤ 4611686018427387904) (h : ∀ c ∈ a, c ≠ 46) :
    Calls Tryz.prog 192 #[.string (str (a ++ 46 :: b)), .string ⟨#[46]⟩] w fun e w' => e = .returned (.tuple #[.string (str a), .string (str b), .bool true]) ∧ Below w.heap.size w w' := by
  have hI := Index_point (a ++ 46 :: b) w
  rw [index_at h] at hI
  have HI := Lib.hid hI
  have HA := Lib.hid (ext_ahead a b)
  have HB := Lib.hid (ext_behind a b)
  have hz : (str (a ++ 46 :: b)).size = a.length + (b.length + 1) := by rw [str_size]; simp
  have kz : (⟨#[46]⟩ : ByteArray).size = 1 := rfl
  have hlen : (a ++ 46 :: b).length = a.length + (b.length + 1) := by simp
  rw [hlen] at HB hl
  generalize (⟨#[46]⟩ : ByteArray) = k at *
  generalize str (a ++ 46 :: b) = s at *
  generalize str a = sa at *
  generalize str b = sb at *
  generalize a.length = A at *
  generalize b.length = B at *
  clear hI hlen h
  have HC : Hid (Calls Tryz.prog 226 #[.string s, .string k] w fun e w' => e = .returned (.tuple #[.string sa, .string sb, .bool true]) ∧ Below w.heap.size w w') := Lib.hid (by
    go_enter Tryz.func226, Tryz.ntmps226
    go_wp2_with (first
      | (go_at_call 240; (with_reducible refine (HI.out).mono ?_); rintro e w1 ⟨rfl, rfl⟩)
      | (fail "no arm"))
    go_quiet (fail)
    go_wp2
    go_ret3
    exact ⟨by rw [HA.out, HB.out]; rfl, drew_below _ _⟩)
  go_enter Tryz.func192, Tryz.ntmps192
  go_wp2_with (first
    | (go_at_call 226; (with_reducible refine (HC.out).mono ?_); rintro e w1 ⟨rfl, hb⟩)
    | (fail "no arm"))
  go_ret3
  exact ⟨rfl, hb⟩
set_option maxRecDepth 100000 in
theorem Mul_one (n : Nat) (w : World) (hn : n ≤ 21) :
    Calls Tryz.prog 133 #[.int .u64 1, .int .u64 (n : Nat)] w fun e w' => e = .returned (.tuple #[.int .u64 0, .int .u64 (n : Nat)]) ∧ w = w' := by
  have M := nat.Mul64_any 1 n (by omega) (by omega) w
  rw [show 1 * n / 18446744073709551616 = 0 by omega, show 1 * n % 18446744073709551616 = n by omega] at M
  have HM : Hid (Calls Tryz.prog 174 #[.int .u64 1, .int .u64 (n : Nat)] w fun e w' => e = .returned (.tuple #[.int .u64 0, .int .u64 (n : Nat)]) ∧ w' = w) := Lib.hid M
  clear M
  go_enter Tryz.func133, Tryz.ntmps133
  go_wp2_with (first
    | (go_at_call 174; (with_reducible refine (HM.out).mono ?_); rintro e w1 ⟨rfl, rfl⟩)
    | (fail "no arm"))
  go_ret2
  exact ⟨rfl, rfl⟩
set_option maxRecDepth 100000 in
theorem HasPrefix_any (s p : ByteArray) (b : Bool) (w : World) (hp : p.size ≤ s.size) (_hs : s.size ≤ 4611686018427387904) (hx : ((s.extract 0 p.size).toList == p.toList) = b) :
    Calls Tryz.prog 134 #[.string s, .string p] w fun e w' => e = .returned (.bool b) ∧ w = w' := by
  have HC : Hid (Calls Tryz.prog 175 #[.string s, .string p] w fun e w' => e = .returned (.bool b) ∧ w = w') := Lib.hid (by
    go_enter Tryz.func175, Tryz.ntmps175
    go_wp2
    go_ret
    exact ⟨rfl, rfl⟩)
  clear hx
  go_enter Tryz.func134, Tryz.ntmps134
  go_wp2_with (first
    | (go_at_call 175; (with_reducible refine (HC.out).mono ?_); rintro e w1 ⟨rfl, rfl⟩)
    | (fail "no arm"))
  go_ret
  exact ⟨rfl, rfl⟩
theorem zeroes_ext (n : Nat) (hn : n ≤ 64) : (⟨#[48, 48, 48, 48, 48, 48, 48, 48, 48, 48, 48, 48, 48, 48, 48, 48, 48, 48, 48, 48, 48, 48, 48, 48, 48, 48, 48, 48, 48, 48, 48, 48, 48, 48, 48, 48, 48, 48, 48, 48, 48, 48, 48, 48, 48, 48, 48, 48, 48, 48, 48, 48, 48, 48, 48, 48, 48, 48, 48, 48, 48, 48, 48, 48]⟩ : ByteArray).extract 0 n = str (List.replicate n 48) := by
  have h : ∀ L : List UInt8, (str L).extract 0 n = str (L.take n) := fun L => by apply ByteArray.ext; simp [str]
  rw [show (⟨#[48, 48, 48, 48, 48, 48, 48, 48, 48, 48, 48, 48, 48, 48, 48, 48, 48, 48, 48, 48, 48, 48, 48, 48, 48, 48, 48, 48, 48, 48, 48, 48, 48, 48, 48, 48, 48, 48, 48, 48, 48, 48, 48, 48, 48, 48, 48, 48, 48, 48, 48, 48, 48, 48, 48, 48, 48, 48, 48, 48, 48, 48, 48, 48]⟩ : ByteArray) = str (List.replicate 64 48) from rfl, h, List.take_replicate, Nat.min_eq_left hn]
set_option maxRecDepth 100000 in
theorem Repeat_nought (z : Int) (n : Nat) (hz : z = n) (w : World) (h1 : 1 ≤ n) (h2 : n ≤ 21) :
    Calls Tryz.prog 101 #[.string ⟨#[48]⟩, .int .i64 z] w fun e w' => e = .returned (.string (str (List.replicate n 48))) ∧ Below w.heap.size w w' := by
  subst hz
  rcases (show n = 1 ∨ 2 ≤ n by omega) with rfl | h3
  · have he : (⟨#[48]⟩ : ByteArray) = str (List.replicate 1 48) := rfl
    rw [he]
    generalize str (List.replicate 1 48) = s at *
    clear he
    go_enter Tryz.func101, Tryz.ntmps101
    go_wp2
    go_ret
    exact ⟨rfl, Below.refl _ _⟩
  · have HM := Lib.hid (fun W => Mul_one n W h2)
    have HS := Lib.hid (fun W => HasPrefix_any ⟨#[32, 32, 32, 32, 32, 32, 32, 32, 32, 32, 32, 32, 32, 32, 32, 32, 32, 32, 32, 32, 32, 32, 32, 32, 32, 32, 32, 32, 32, 32, 32, 32, 32, 32, 32, 32, 32, 32, 32, 32, 32, 32, 32, 32, 32, 32, 32, 32, 32, 32, 32, 32, 32, 32, 32, 32, 32, 32, 32, 32, 32, 32, 32, 32, 32, 32, 32, 32, 32, 32, 32, 32, 32, 32, 32, 32, 32, 32, 32, 32, 32, 32, 32, 32, 32, 32, 32, 32, 32, 32, 32, 32, 32, 32, 32, 32, 32, 32, 32, 32, 32, 32, 32, 32, 32, 32, 32, 32, 32, 32, 32, 32, 32, 32, 32, 32, 32, 32, 32, 32, 32, 32, 32, 32, 32, 32, 32, 32]⟩ ⟨#[48]⟩ false W (by decide) (by decide) (by decide +kernel))
    have HD := Lib.hid (fun W => HasPrefix_any ⟨#[45, 45, 45, 45, 45, 45, 45, 45, 45, 45, 45, 45, 45, 45, 45, 45, 45, 45, 45, 45, 45, 45, 45, 45, 45, 45, 45, 45, 45, 45, 45, 45, 45, 45, 45, 45, 45, 45, 45, 45, 45, 45, 45, 45, 45, 45, 45, 45, 45, 45, 45, 45, 45, 45, 45, 45, 45, 45, 45, 45, 45, 45, 45, 45, 45, 45, 45, 45, 45, 45, 45, 45, 45, 45, 45, 45, 45, 45, 45, 45, 45, 45, 45, 45, 45, 45, 45, 45, 45, 45, 45, 45, 45, 45, 45, 45, 45, 45, 45, 45, 45, 45, 45, 45, 45, 45, 45, 45, 45, 45, 45, 45, 45, 45, 45, 45, 45, 45, 45, 45, 45, 45, 45, 45, 45, 45, 45, 45]⟩ ⟨#[48]⟩ false W (by decide) (by decide) (by decide +kernel))
    have HZ := Lib.hid (fun W => HasPrefix_any ⟨#[48, 48, 48, 48, 48, 48, 48, 48, 48, 48, 48, 48, 48, 48, 48, 48, 48, 48, 48, 48, 48, 48, 48, 48, 48, 48, 48, 48, 48, 48, 48, 48, 48, 48, 48, 48, 48, 48, 48, 48, 48, 48, 48, 48, 48, 48, 48, 48, 48, 48, 48, 48, 48, 48, 48, 48, 48, 48, 48, 48, 48, 48, 48, 48]⟩ ⟨#[48]⟩ true W (by decide) (by decide) (by decide +kernel))
    have hx := zeroes_ext n (by omega)
    have hsz : (⟨#[48, 48, 48, 48, 48, 48, 48, 48, 48, 48, 48, 48, 48, 48, 48, 48, 48, 48, 48, 48, 48, 48, 48, 48, 48, 48, 48, 48, 48, 48, 48, 48, 48, 48, 48, 48, 48, 48, 48, 48, 48, 48, 48, 48, 48, 48, 48, 48, 48, 48, 48, 48, 48, 48, 48, 48, 48, 48, 48, 48, 48, 48, 48, 48]⟩ : ByteArray).size = 64 := rfl
    generalize str (List.replicate n 48) = R at *
    have kz : (⟨#[48]⟩ : ByteArray).size = 1 := rfl
    have kg : ∀ h : 0 < (⟨#[48]⟩ : ByteArray).size, ((⟨#[48]⟩ : ByteArray)[0]'h).toNat = 48 := fun _ => rfl
    generalize (⟨#[48]⟩ : ByteArray) = k at *
    have hn0 : ((n : Int) == 0) = false := by simp; omega
    have hn1 : ((n : Int) == 1) = false := by simp; omega
    go_enter Tryz.func101, Tryz.ntmps101
    go_wp2_with (first
      | (go_at_call 133; (with_reducible refine (HM.out _).mono ?_); rintro e w1 ⟨rfl, rfl⟩)
      | (go_at_call 134; (with_reducible refine (HS.out _).mono ?_); rintro e w1 ⟨rfl, rfl⟩)
      | (go_at_call 134; (with_reducible refine (HD.out _).mono ?_); rintro e w1 ⟨rfl, rfl⟩)
      | (go_at_call 134; (with_reducible refine (HZ.out _).mono ?_); rintro e w1 ⟨rfl, rfl⟩)
      | (fail "no arm"))
    go_ret
    exact ⟨rfl, Below.refl _ _⟩
end Go.Proofs.YtlhmfgbaefaneabGreatDoor.dec
