/-
  The steps of the walks, part 23: RatP, DecForm.
-/
import Derived.Test.YtfpooimjjpamoaaGreatDoorS22
namespace Go.Proofs.YtfpooimjjpamoaaGreatDoor.rat
open Go.RowKit Go.Proofs.YtfpooimjjpamoaaGreatDoor.nat Go.Proofs.YtfpooimjjpamoaaGreatDoor.num
theorem neg_pow_nat (x : Nat) : ∀ K : Nat, (-(x : Int)) ^ K = sgn (decide (K % 2 = 1)) (x ^ K)
  | 0 => by simp [sgn]
  | K + 1 => by
    rw [Int.pow_succ, neg_pow_nat x K]
    unfold sgn
    have e : ((x ^ (K + 1) : Nat) : Int) = ((x ^ K : Nat) : Int) * (x : Int) := by rw [Nat.pow_succ, Int.natCast_mul]
    rw [e]
    rcases Nat.mod_two_eq_zero_or_one K with h | h
    · have h2 : (K + 1) % 2 = 1 := by omega
      simp [h, h2, Int.mul_neg]
    · have h2 : (K + 1) % 2 = 0 := by omega
      simp [h, h2, Int.neg_mul, Int.mul_neg]
theorem tmod_low {k : Int} (hk : k < 0) : k.tmod 2 = -((k.natAbs % 2 : Nat) : Int) := by
  obtain ⟨n, rfl⟩ : ∃ n : Nat, k = -(n : Int) := ⟨k.natAbs, by omega⟩
  rw [Int.neg_tmod, Int.tmod_eq_emod_of_nonneg (by omega), Int.natAbs_neg, Int.natAbs_natCast]
  rfl
theorem power_sign {z : Int} {K : Nat} {b : Bool} (hb : b = (decide (z < 0) && decide (K % 2 = 1))) : sgn b (z.natAbs ^ K) = z ^ K := by
  subst hb
  by_cases h : z < 0
  · have e : z = -(z.natAbs : Int) := by omega
    rw [decide_eq_true h, Bool.true_and]
    conv => rhs; rw [e]
    rw [neg_pow_nat]
  · have e : z = (z.natAbs : Int) := by omega
    rw [decide_eq_false h, Bool.false_and]
    conv => rhs; rw [e]
    unfold sgn
    rw [Int.natCast_pow]
    rfl
theorem pow_or {x : Nat} {k : Int} (hk : k < 0) (sp : Ln (x ^ k.natAbs) 800000) : Ln (x ^ (-(k + 1)).toNat) 800000 := by
  rcases Nat.eq_zero_or_pos x with h | h
  · subst h
    refine (Ln_small (x := 0 ^ (-(k + 1)).toNat) ?_).le (by decide)
    rcases Nat.eq_zero_or_pos (-(k + 1)).toNat with h1 | h1
    · rw [h1]; decide
    · rw [Nat.zero_pow h1]; decide
  · exact Ln_less (Nat.pow_le_pow_right h (by omega)) sp
set_option maxRecDepth 100000 in
set_option maxHeartbeats 4000000 in
theorem power_pp (a : Value) (z k : Int) (w : World) (ha : IsZ w a z) (sz : Lz z 400000) (k1 : -9223372036854775808 ≤ k) (k2 : k < 9223372036854775808) (sp : Ln (z.natAbs ^ k.natAbs) 800000) (hz : ¬ z < 0) (hk : 0 ≤ k) :
    Calls Tryz.prog 143 #[a, .int .i64 k] w fun e w' => ∃ u, e = .returned u ∧ (IsZ w' u (z ^ k.natAbs) ∧ u ≠ .pointer none) ∧ Below w.heap.size w w' := by
  have H_a := Lib.hid ha
  clear ha
  have hp := power_sign (z := z) (K := k.natAbs) (b := false) (by rw [decide_eq_false hz]; rw [Bool.false_and])
  have HSg := Lib.hid (num.Sign_any a z w H_a.out)
  have c1 := fun (W : World) (v0 : Value) (hh0 : num.IsZ W v0 z)  => num.Sign_any v0 z W hh0
  have hsg := num.sg_nonneg hz
  have C1 := Lib.hid c1
  clear c1
  have c2 := fun (W : World) (v0 : Value) (hh0 : num.IsZ W v0 z)  => num.Abs_any v0 z W hh0
  have C2 := Lib.hid c2
  clear c2
  have c3 := fun (W : World) (v0 : Value) (hh0 : nat.IsN W v0 (Int.natAbs z))  => nat.Pow_any v0 z.natAbs k W hh0 (sz.le (by decide)) (by omega) (by rw [show k.toNat = k.natAbs by omega]; exact sp.le (by decide))
  rw [show k.toNat = k.natAbs by omega] at c3
  have C3 := Lib.hid c3
  clear c3
  have c4 := fun (W : World) (v0 : Value) (hh0 : nat.IsN W v0 (z.natAbs ^ k.natAbs))  => num.New_any false v0 (z.natAbs ^ k.natAbs) W hh0
  rw [hp] at c4
  have C4 := Lib.hid c4
  clear c4
  clear hp sz sp HSg
  go_enter Tryz.func143, Tryz.ntmps143
  go_wp2_with (first
    | (go_at_call 67; (with_reducible refine (C1.out _ _ H_a.out).mono ?_); rintro e w9 ⟨rfl, rfl⟩
       clear C1)
    | (go_at_call 66; (with_reducible refine (C2.out _ _ H_a.out).mono ?_); rintro e W1 ⟨x, rfl, ⟨h_x, n_x⟩, hb⟩
       have H_x := Lib.hid h_x
       have N_x := Lib.hid n_x
       have HB1 := Lib.hid hb
       clear h_x n_x hb C2)
    | (go_at_call 94; (with_reducible refine (C3.out _ _ H_x.out).mono ?_); rintro e W2 ⟨m, rfl, ⟨h_m, n_m⟩, hb⟩
       have H_m := Lib.hid h_m
       have N_m := Lib.hid n_m
       have HB2 := Lib.hid hb
       clear h_m n_m hb C3)
    | (go_at_call 97; (with_reducible refine (C4.out _ _ H_m.out).mono ?_); rintro e W3 ⟨u, rfl, ⟨h_u, n_u⟩, hb⟩
       have H_u := Lib.hid h_u
       have N_u := Lib.hid n_u
       have HB3 := Lib.hid hb
       clear h_u n_u hb C4)
    | (fail "no arm"))
  go_ret
  exact ⟨_, rfl, ⟨H_u.out, N_u.out⟩, (nat.below_tr (nat.below_tr HB1.out HB2.out) HB3.out)⟩
set_option maxRecDepth 100000 in
set_option maxHeartbeats 4000000 in
theorem power_pn (a : Value) (z k : Int) (w : World) (ha : IsZ w a z) (sz : Lz z 400000) (k1 : -9223372036854775808 ≤ k) (k2 : k < 9223372036854775808) (sp : Ln (z.natAbs ^ k.natAbs) 800000) (hz : ¬ z < 0) (hk : k < 0) :
    Calls Tryz.prog 143 #[a, .int .i64 k] w fun e w' => ∃ u, e = .returned u ∧ (IsZ w' u (z ^ k.natAbs) ∧ u ≠ .pointer none) ∧ Below w.heap.size w w' := by
  have H_a := Lib.hid ha
  clear ha
  have hp := power_sign (z := z) (K := k.natAbs) (b := false) (by rw [decide_eq_false hz]; rw [Bool.false_and])
  have HSg := Lib.hid (num.Sign_any a z w H_a.out)
  have c1 := fun (W : World) (v0 : Value) (hh0 : num.IsZ W v0 z)  => num.Sign_any v0 z W hh0
  have hsg := num.sg_nonneg hz
  have C1 := Lib.hid c1
  clear c1
  have c2 := fun (W : World) (v0 : Value) (hh0 : num.IsZ W v0 z)  => num.Abs_any v0 z W hh0
  have C2 := Lib.hid c2
  clear c2
  have c3 := fun (W : World) (v0 : Value) (hh0 : nat.IsN W v0 (Int.natAbs z))  => nat.Pow_any v0 z.natAbs (-(k + 1)) W hh0 (sz.le (by decide)) (by omega) ((pow_or hk sp).le (by decide))
  have C3 := Lib.hid c3
  clear c3
  have c4 := fun (W : World) (v0 : Value) (hh0 : num.IsZ W v0 z)  => num.Abs_any v0 z W hh0
  have C4 := Lib.hid c4
  clear c4
  have c5 := fun (W : World) (v0 : Value) (v1 : Value) (hh0 : nat.IsN W v0 (z.natAbs ^ (-(k + 1)).toNat)) (hh1 : nat.IsN W v1 (Int.natAbs z))  => nat.Mul_any v0 v1 (z.natAbs ^ (-(k + 1)).toNat) (Int.natAbs z) W hh0 hh1 ((pow_or hk sp).le (by decide)) ((Ln_abs sz).le (by decide))
  rw [show ((z.natAbs ^ (-(k + 1)).toNat) * (Int.natAbs z)) = z.natAbs ^ k.natAbs from by rw [← Nat.pow_succ]; congr 1; omega] at c5
  have C5 := Lib.hid c5
  clear c5
  have c6 := fun (W : World) (v0 : Value) (hh0 : nat.IsN W v0 (z.natAbs ^ k.natAbs))  => num.New_any false v0 (z.natAbs ^ k.natAbs) W hh0
  rw [hp] at c6
  have C6 := Lib.hid c6
  clear c6
  clear hp sz sp HSg
  go_enter Tryz.func143, Tryz.ntmps143
  go_wp2_with (first
    | (go_at_call 67; (with_reducible refine (C1.out _ _ H_a.out).mono ?_); rintro e w9 ⟨rfl, rfl⟩
       clear C1)
    | (go_at_call 66; (with_reducible refine (C2.out _ _ H_a.out).mono ?_); rintro e W1 ⟨x, rfl, ⟨h_x, n_x⟩, hb⟩
       have H_x := Lib.hid h_x
       have N_x := Lib.hid n_x
       have HB1 := Lib.hid hb
       clear h_x n_x hb C2)
    | (go_at_call 94; (with_reducible refine (C3.out _ _ H_x.out).mono ?_); rintro e W2 ⟨p, rfl, ⟨h_p, n_p⟩, hb⟩
       have H_p := Lib.hid h_p
       have N_p := Lib.hid n_p
       have HB2 := Lib.hid hb
       clear h_p n_p hb C3)
    | (go_at_call 66; (with_reducible refine (C4.out _ _ ((H_a.out.below HB1.out).below HB2.out)).mono ?_); rintro e W3 ⟨y, rfl, ⟨h_y, n_y⟩, hb⟩
       have H_y := Lib.hid h_y
       have N_y := Lib.hid n_y
       have HB3 := Lib.hid hb
       clear h_y n_y hb C4)
    | (go_at_call 37; (with_reducible refine (C5.out _ _ _ (H_p.out.below HB3.out) H_y.out).mono ?_); rintro e W4 ⟨m, rfl, ⟨h_m, n_m⟩, hb⟩
       have H_m := Lib.hid h_m
       have N_m := Lib.hid n_m
       have HB4 := Lib.hid hb
       clear h_m n_m hb C5)
    | (go_at_call 97; (with_reducible refine (C6.out _ _ H_m.out).mono ?_); rintro e W5 ⟨u, rfl, ⟨h_u, n_u⟩, hb⟩
       have H_u := Lib.hid h_u
       have N_u := Lib.hid n_u
       have HB5 := Lib.hid hb
       clear h_u n_u hb C6)
    | (fail "no arm"))
  go_ret
  exact ⟨_, rfl, ⟨H_u.out, N_u.out⟩, (nat.below_tr (nat.below_tr (nat.below_tr (nat.below_tr HB1.out HB2.out) HB3.out) HB4.out) HB5.out)⟩
set_option maxRecDepth 100000 in
set_option maxHeartbeats 4000000 in
theorem power_nep (a : Value) (z k : Int) (w : World) (ha : IsZ w a z) (sz : Lz z 400000) (k1 : -9223372036854775808 ≤ k) (k2 : k < 9223372036854775808) (sp : Ln (z.natAbs ^ k.natAbs) 800000) (hz : z < 0) (ho : k.natAbs % 2 = 0) (hk : 0 ≤ k) :
    Calls Tryz.prog 143 #[a, .int .i64 k] w fun e w' => ∃ u, e = .returned u ∧ (IsZ w' u (z ^ k.natAbs) ∧ u ≠ .pointer none) ∧ Below w.heap.size w w' := by
  have H_a := Lib.hid ha
  clear ha
  have hp := power_sign (z := z) (K := k.natAbs) (b := false) (by rw [decide_eq_true hz]; rw [ho]; rfl)
  have hm : k % 2 = 0 := by omega
  have HSg := Lib.hid (num.Sign_any a z w H_a.out)
  have c1 := fun (W : World) (v0 : Value) (hh0 : num.IsZ W v0 z)  => num.Sign_any v0 z W hh0
  rw [num.sg_neg hz] at c1
  have C1 := Lib.hid c1
  clear c1
  have c2 := fun (W : World) (v0 : Value) (hh0 : num.IsZ W v0 z)  => num.Abs_any v0 z W hh0
  have C2 := Lib.hid c2
  clear c2
  have c3 := fun (W : World) (v0 : Value) (hh0 : nat.IsN W v0 (Int.natAbs z))  => nat.Pow_any v0 z.natAbs k W hh0 (sz.le (by decide)) (by omega) (by rw [show k.toNat = k.natAbs by omega]; exact sp.le (by decide))
  rw [show k.toNat = k.natAbs by omega] at c3
  have C3 := Lib.hid c3
  clear c3
  have c4 := fun (W : World) (v0 : Value) (hh0 : nat.IsN W v0 (z.natAbs ^ k.natAbs))  => num.New_any false v0 (z.natAbs ^ k.natAbs) W hh0
  rw [hp] at c4
  have C4 := Lib.hid c4
  clear c4
  clear hp sz sp HSg ho
  go_enter Tryz.func143, Tryz.ntmps143
  go_wp2_with (first
    | (go_at_call 67; (with_reducible refine (C1.out _ _ H_a.out).mono ?_); rintro e w9 ⟨rfl, rfl⟩
       clear C1)
    | (go_at_call 66; (with_reducible refine (C2.out _ _ H_a.out).mono ?_); rintro e W1 ⟨x, rfl, ⟨h_x, n_x⟩, hb⟩
       have H_x := Lib.hid h_x
       have N_x := Lib.hid n_x
       have HB1 := Lib.hid hb
       clear h_x n_x hb C2)
    | (go_at_call 94; (with_reducible refine (C3.out _ _ H_x.out).mono ?_); rintro e W2 ⟨m, rfl, ⟨h_m, n_m⟩, hb⟩
       have H_m := Lib.hid h_m
       have N_m := Lib.hid n_m
       have HB2 := Lib.hid hb
       clear h_m n_m hb C3)
    | (go_at_call 97; (with_reducible refine (C4.out _ _ H_m.out).mono ?_); rintro e W3 ⟨u, rfl, ⟨h_u, n_u⟩, hb⟩
       have H_u := Lib.hid h_u
       have N_u := Lib.hid n_u
       have HB3 := Lib.hid hb
       clear h_u n_u hb C4)
    | (fail "no arm"))
  go_ret
  exact ⟨_, rfl, ⟨H_u.out, N_u.out⟩, (nat.below_tr (nat.below_tr HB1.out HB2.out) HB3.out)⟩
set_option maxRecDepth 100000 in
set_option maxHeartbeats 4000000 in
theorem power_nen (a : Value) (z k : Int) (w : World) (ha : IsZ w a z) (sz : Lz z 400000) (k1 : -9223372036854775808 ≤ k) (k2 : k < 9223372036854775808) (sp : Ln (z.natAbs ^ k.natAbs) 800000) (hz : z < 0) (ho : k.natAbs % 2 = 0) (hk : k < 0) :
    Calls Tryz.prog 143 #[a, .int .i64 k] w fun e w' => ∃ u, e = .returned u ∧ (IsZ w' u (z ^ k.natAbs) ∧ u ≠ .pointer none) ∧ Below w.heap.size w w' := by
  have H_a := Lib.hid ha
  clear ha
  have hp := power_sign (z := z) (K := k.natAbs) (b := false) (by rw [decide_eq_true hz]; rw [ho]; rfl)
  have hm : k.tmod 2 = 0 := by rw [tmod_low hk, ho]; rfl
  have HSg := Lib.hid (num.Sign_any a z w H_a.out)
  have c1 := fun (W : World) (v0 : Value) (hh0 : num.IsZ W v0 z)  => num.Sign_any v0 z W hh0
  rw [num.sg_neg hz] at c1
  have C1 := Lib.hid c1
  clear c1
  have c2 := fun (W : World) (v0 : Value) (hh0 : num.IsZ W v0 z)  => num.Abs_any v0 z W hh0
  have C2 := Lib.hid c2
  clear c2
  have c3 := fun (W : World) (v0 : Value) (hh0 : nat.IsN W v0 (Int.natAbs z))  => nat.Pow_any v0 z.natAbs (-(k + 1)) W hh0 (sz.le (by decide)) (by omega) ((pow_or hk sp).le (by decide))
  have C3 := Lib.hid c3
  clear c3
  have c4 := fun (W : World) (v0 : Value) (hh0 : num.IsZ W v0 z)  => num.Abs_any v0 z W hh0
  have C4 := Lib.hid c4
  clear c4
  have c5 := fun (W : World) (v0 : Value) (v1 : Value) (hh0 : nat.IsN W v0 (z.natAbs ^ (-(k + 1)).toNat)) (hh1 : nat.IsN W v1 (Int.natAbs z))  => nat.Mul_any v0 v1 (z.natAbs ^ (-(k + 1)).toNat) (Int.natAbs z) W hh0 hh1 ((pow_or hk sp).le (by decide)) ((Ln_abs sz).le (by decide))
  rw [show ((z.natAbs ^ (-(k + 1)).toNat) * (Int.natAbs z)) = z.natAbs ^ k.natAbs from by rw [← Nat.pow_succ]; congr 1; omega] at c5
  have C5 := Lib.hid c5
  clear c5
  have c6 := fun (W : World) (v0 : Value) (hh0 : nat.IsN W v0 (z.natAbs ^ k.natAbs))  => num.New_any false v0 (z.natAbs ^ k.natAbs) W hh0
  rw [hp] at c6
  have C6 := Lib.hid c6
  clear c6
  clear hp sz sp HSg ho
  go_enter Tryz.func143, Tryz.ntmps143
  go_wp2_with (first
    | (go_at_call 67; (with_reducible refine (C1.out _ _ H_a.out).mono ?_); rintro e w9 ⟨rfl, rfl⟩
       clear C1)
    | (go_at_call 66; (with_reducible refine (C2.out _ _ H_a.out).mono ?_); rintro e W1 ⟨x, rfl, ⟨h_x, n_x⟩, hb⟩
       have H_x := Lib.hid h_x
       have N_x := Lib.hid n_x
       have HB1 := Lib.hid hb
       clear h_x n_x hb C2)
    | (go_at_call 94; (with_reducible refine (C3.out _ _ H_x.out).mono ?_); rintro e W2 ⟨p, rfl, ⟨h_p, n_p⟩, hb⟩
       have H_p := Lib.hid h_p
       have N_p := Lib.hid n_p
       have HB2 := Lib.hid hb
       clear h_p n_p hb C3)
    | (go_at_call 66; (with_reducible refine (C4.out _ _ ((H_a.out.below HB1.out).below HB2.out)).mono ?_); rintro e W3 ⟨y, rfl, ⟨h_y, n_y⟩, hb⟩
       have H_y := Lib.hid h_y
       have N_y := Lib.hid n_y
       have HB3 := Lib.hid hb
       clear h_y n_y hb C4)
    | (go_at_call 37; (with_reducible refine (C5.out _ _ _ (H_p.out.below HB3.out) H_y.out).mono ?_); rintro e W4 ⟨m, rfl, ⟨h_m, n_m⟩, hb⟩
       have H_m := Lib.hid h_m
       have N_m := Lib.hid n_m
       have HB4 := Lib.hid hb
       clear h_m n_m hb C5)
    | (go_at_call 97; (with_reducible refine (C6.out _ _ H_m.out).mono ?_); rintro e W5 ⟨u, rfl, ⟨h_u, n_u⟩, hb⟩
       have H_u := Lib.hid h_u
       have N_u := Lib.hid n_u
       have HB5 := Lib.hid hb
       clear h_u n_u hb C6)
    | (fail "no arm"))
  go_ret
  exact ⟨_, rfl, ⟨H_u.out, N_u.out⟩, (nat.below_tr (nat.below_tr (nat.below_tr (nat.below_tr HB1.out HB2.out) HB3.out) HB4.out) HB5.out)⟩
set_option maxRecDepth 100000 in
set_option maxHeartbeats 4000000 in
theorem power_nop (a : Value) (z k : Int) (w : World) (ha : IsZ w a z) (sz : Lz z 400000) (k1 : -9223372036854775808 ≤ k) (k2 : k < 9223372036854775808) (sp : Ln (z.natAbs ^ k.natAbs) 800000) (hz : z < 0) (ho : k.natAbs % 2 = 1) (hk : 0 ≤ k) :
    Calls Tryz.prog 143 #[a, .int .i64 k] w fun e w' => ∃ u, e = .returned u ∧ (IsZ w' u (z ^ k.natAbs) ∧ u ≠ .pointer none) ∧ Below w.heap.size w w' := by
  have H_a := Lib.hid ha
  clear ha
  have hp := power_sign (z := z) (K := k.natAbs) (b := true) (by rw [decide_eq_true hz]; rw [ho]; rfl)
  have hm : k % 2 = 1 := by omega
  have HSg := Lib.hid (num.Sign_any a z w H_a.out)
  have c1 := fun (W : World) (v0 : Value) (hh0 : num.IsZ W v0 z)  => num.Sign_any v0 z W hh0
  rw [num.sg_neg hz] at c1
  have C1 := Lib.hid c1
  clear c1
  have c2 := fun (W : World) (v0 : Value) (hh0 : num.IsZ W v0 z)  => num.Abs_any v0 z W hh0
  have C2 := Lib.hid c2
  clear c2
  have c3 := fun (W : World) (v0 : Value) (hh0 : nat.IsN W v0 (Int.natAbs z))  => nat.Pow_any v0 z.natAbs k W hh0 (sz.le (by decide)) (by omega) (by rw [show k.toNat = k.natAbs by omega]; exact sp.le (by decide))
  rw [show k.toNat = k.natAbs by omega] at c3
  have C3 := Lib.hid c3
  clear c3
  have c4 := fun (W : World) (v0 : Value) (hh0 : nat.IsN W v0 (z.natAbs ^ k.natAbs))  => num.New_any true v0 (z.natAbs ^ k.natAbs) W hh0
  rw [hp] at c4
  have C4 := Lib.hid c4
  clear c4
  clear hp sz sp HSg ho
  go_enter Tryz.func143, Tryz.ntmps143
  go_wp2_with (first
    | (go_at_call 67; (with_reducible refine (C1.out _ _ H_a.out).mono ?_); rintro e w9 ⟨rfl, rfl⟩
       clear C1)
    | (go_at_call 66; (with_reducible refine (C2.out _ _ H_a.out).mono ?_); rintro e W1 ⟨x, rfl, ⟨h_x, n_x⟩, hb⟩
       have H_x := Lib.hid h_x
       have N_x := Lib.hid n_x
       have HB1 := Lib.hid hb
       clear h_x n_x hb C2)
    | (go_at_call 94; (with_reducible refine (C3.out _ _ H_x.out).mono ?_); rintro e W2 ⟨m, rfl, ⟨h_m, n_m⟩, hb⟩
       have H_m := Lib.hid h_m
       have N_m := Lib.hid n_m
       have HB2 := Lib.hid hb
       clear h_m n_m hb C3)
    | (go_at_call 97; (with_reducible refine (C4.out _ _ H_m.out).mono ?_); rintro e W3 ⟨u, rfl, ⟨h_u, n_u⟩, hb⟩
       have H_u := Lib.hid h_u
       have N_u := Lib.hid n_u
       have HB3 := Lib.hid hb
       clear h_u n_u hb C4)
    | (fail "no arm"))
  go_ret
  exact ⟨_, rfl, ⟨H_u.out, N_u.out⟩, (nat.below_tr (nat.below_tr HB1.out HB2.out) HB3.out)⟩
set_option maxRecDepth 100000 in
set_option maxHeartbeats 4000000 in
theorem power_non (a : Value) (z k : Int) (w : World) (ha : IsZ w a z) (sz : Lz z 400000) (k1 : -9223372036854775808 ≤ k) (k2 : k < 9223372036854775808) (sp : Ln (z.natAbs ^ k.natAbs) 800000) (hz : z < 0) (ho : k.natAbs % 2 = 1) (hk : k < 0) :
    Calls Tryz.prog 143 #[a, .int .i64 k] w fun e w' => ∃ u, e = .returned u ∧ (IsZ w' u (z ^ k.natAbs) ∧ u ≠ .pointer none) ∧ Below w.heap.size w w' := by
  have H_a := Lib.hid ha
  clear ha
  have hp := power_sign (z := z) (K := k.natAbs) (b := true) (by rw [decide_eq_true hz]; rw [ho]; rfl)
  have hm : k.tmod 2 = -1 := by rw [tmod_low hk, ho]; rfl
  have HSg := Lib.hid (num.Sign_any a z w H_a.out)
  have c1 := fun (W : World) (v0 : Value) (hh0 : num.IsZ W v0 z)  => num.Sign_any v0 z W hh0
  rw [num.sg_neg hz] at c1
  have C1 := Lib.hid c1
  clear c1
  have c2 := fun (W : World) (v0 : Value) (hh0 : num.IsZ W v0 z)  => num.Abs_any v0 z W hh0
  have C2 := Lib.hid c2
  clear c2
  have c3 := fun (W : World) (v0 : Value) (hh0 : nat.IsN W v0 (Int.natAbs z))  => nat.Pow_any v0 z.natAbs (-(k + 1)) W hh0 (sz.le (by decide)) (by omega) ((pow_or hk sp).le (by decide))
  have C3 := Lib.hid c3
  clear c3
  have c4 := fun (W : World) (v0 : Value) (hh0 : num.IsZ W v0 z)  => num.Abs_any v0 z W hh0
  have C4 := Lib.hid c4
  clear c4
  have c5 := fun (W : World) (v0 : Value) (v1 : Value) (hh0 : nat.IsN W v0 (z.natAbs ^ (-(k + 1)).toNat)) (hh1 : nat.IsN W v1 (Int.natAbs z))  => nat.Mul_any v0 v1 (z.natAbs ^ (-(k + 1)).toNat) (Int.natAbs z) W hh0 hh1 ((pow_or hk sp).le (by decide)) ((Ln_abs sz).le (by decide))
  rw [show ((z.natAbs ^ (-(k + 1)).toNat) * (Int.natAbs z)) = z.natAbs ^ k.natAbs from by rw [← Nat.pow_succ]; congr 1; omega] at c5
  have C5 := Lib.hid c5
  clear c5
  have c6 := fun (W : World) (v0 : Value) (hh0 : nat.IsN W v0 (z.natAbs ^ k.natAbs))  => num.New_any true v0 (z.natAbs ^ k.natAbs) W hh0
  rw [hp] at c6
  have C6 := Lib.hid c6
  clear c6
  clear hp sz sp HSg ho
  go_enter Tryz.func143, Tryz.ntmps143
  go_wp2_with (first
    | (go_at_call 67; (with_reducible refine (C1.out _ _ H_a.out).mono ?_); rintro e w9 ⟨rfl, rfl⟩
       clear C1)
    | (go_at_call 66; (with_reducible refine (C2.out _ _ H_a.out).mono ?_); rintro e W1 ⟨x, rfl, ⟨h_x, n_x⟩, hb⟩
       have H_x := Lib.hid h_x
       have N_x := Lib.hid n_x
       have HB1 := Lib.hid hb
       clear h_x n_x hb C2)
    | (go_at_call 94; (with_reducible refine (C3.out _ _ H_x.out).mono ?_); rintro e W2 ⟨p, rfl, ⟨h_p, n_p⟩, hb⟩
       have H_p := Lib.hid h_p
       have N_p := Lib.hid n_p
       have HB2 := Lib.hid hb
       clear h_p n_p hb C3)
    | (go_at_call 66; (with_reducible refine (C4.out _ _ ((H_a.out.below HB1.out).below HB2.out)).mono ?_); rintro e W3 ⟨y, rfl, ⟨h_y, n_y⟩, hb⟩
       have H_y := Lib.hid h_y
       have N_y := Lib.hid n_y
       have HB3 := Lib.hid hb
       clear h_y n_y hb C4)
    | (go_at_call 37; (with_reducible refine (C5.out _ _ _ (H_p.out.below HB3.out) H_y.out).mono ?_); rintro e W4 ⟨m, rfl, ⟨h_m, n_m⟩, hb⟩
       have H_m := Lib.hid h_m
       have N_m := Lib.hid n_m
       have HB4 := Lib.hid hb
       clear h_m n_m hb C5)
    | (go_at_call 97; (with_reducible refine (C6.out _ _ H_m.out).mono ?_); rintro e W5 ⟨u, rfl, ⟨h_u, n_u⟩, hb⟩
       have H_u := Lib.hid h_u
       have N_u := Lib.hid n_u
       have HB5 := Lib.hid hb
       clear h_u n_u hb C6)
    | (fail "no arm"))
  go_ret
  exact ⟨_, rfl, ⟨H_u.out, N_u.out⟩, (nat.below_tr (nat.below_tr (nat.below_tr (nat.below_tr HB1.out HB2.out) HB3.out) HB4.out) HB5.out)⟩
theorem power_any (a : Value) (z k : Int) (w : World) (ha : IsZ w a z) (sz : Lz z 400000) (k1 : -9223372036854775808 ≤ k) (k2 : k < 9223372036854775808) (sp : Ln (z.natAbs ^ k.natAbs) 800000) :
    Calls Tryz.prog 143 #[a, .int .i64 k] w fun e w' => ∃ u, e = .returned u ∧ (IsZ w' u (z ^ k.natAbs) ∧ u ≠ .pointer none) ∧ Below w.heap.size w w' := by
  rcases Int.lt_or_le k 0 with hk | hk
  · by_cases hz : z < 0
    · rcases Nat.mod_two_eq_zero_or_one k.natAbs with ho | ho
      · exact power_nen a z k w ha sz k1 k2 sp hz ho hk
      · exact power_non a z k w ha sz k1 k2 sp hz ho hk
    · exact power_pn a z k w ha sz k1 k2 sp hz hk
  · by_cases hz : z < 0
    · rcases Nat.mod_two_eq_zero_or_one k.natAbs with ho | ho
      · exact power_nep a z k w ha sz k1 k2 sp hz ho hk
      · exact power_nop a z k w ha sz k1 k2 sp hz ho hk
    · exact power_pp a z k w ha sz k1 k2 sp hz hk
set_option maxRecDepth 100000 in
set_option maxHeartbeats 4000000 in
theorem Pow_up (a : Value) (q : Rat) (k : Int) (w : World) (ha : IsR w a q) (sq : Lr q 20000) (k1 : -9223372036854775808 ≤ k) (k2 : k < 9223372036854775808) (sp : Lr (q ^ k.natAbs) 800000) (hk : 0 ≤ k) :
    Calls Tryz.prog 100 #[a, .int .i64 k] w fun e w' => ∃ u, e = .returned (.tuple #[u, .nilIface]) ∧ (IsR w' u (q ^ k.natAbs) ∧ u ≠ .pointer none) ∧ Below w.heap.size w w' := by
  have H_a := Lib.hid ha
  clear ha
  have sb := sq
  have c1 := fun (W : World) (v0 : Value) (hh0 : rat.IsR W v0 q)  => rat.Num_any v0 q W hh0
  have C1 := Lib.hid c1
  clear c1
  have c2 := fun (W : World) (v0 : Value) (hh0 : num.IsZ W v0 q.num)  => power_any v0 q.num k W hh0 (sb.1.le (by decide)) k1 k2 (by have h := sp.1; rw [Rat.num_pow] at h; unfold Lz at h; rw [Int.natAbs_pow] at h; exact h)
  rw [← Rat.num_pow] at c2
  have C2 := Lib.hid c2
  clear c2
  have c3 := fun (W : World) (v0 : Value) (hh0 : rat.IsR W v0 q)  => rat.Den_any v0 q W hh0
  have C3 := Lib.hid c3
  clear c3
  have c4 := fun (W : World) (v0 : Value) (hh0 : num.IsZ W v0 ((q.den : Nat) : Int))  => power_any v0 ((q.den : Nat) : Int) k W hh0 ((Lz_nat sb.2).le (by decide)) k1 k2 (by rw [Int.natAbs_natCast]; exact sp.2)
  rw [← Int.natCast_pow, ← Rat.den_pow] at c4
  have C4 := Lib.hid c4
  clear c4
  have c5 := fun (W : World) (v0 : Value) (v1 : Value) (hh0 : num.IsZ W v0 (q ^ k.natAbs).num) (hh1 : num.IsZ W v1 (((q ^ k.natAbs).den : Nat) : Int)) (n0 : v0 ≠ .pointer none) (n1 : v1 ≠ .pointer none) => own_at (q ^ k.natAbs) v0 v1 _ _ W hh0 n0 hh1 n1 rfl rfl
  have C5 := Lib.hid c5
  clear c5
  go_enter Tryz.func100, Tryz.ntmps100
  go_wp2_with (first
    | (go_at_call 99; (with_reducible refine (C1.out _ _ H_a.out).mono ?_); rintro e W1 ⟨n, rfl, ⟨h_n, n_n⟩, hb⟩
       have H_n := Lib.hid h_n
       have N_n := Lib.hid n_n
       have HB1 := Lib.hid hb
       clear h_n n_n hb C1)
    | (go_at_call 143; (with_reducible refine (C2.out _ _ H_n.out).mono ?_); rintro e W2 ⟨pn, rfl, ⟨h_pn, n_pn⟩, hb⟩
       have H_pn := Lib.hid h_pn
       have N_pn := Lib.hid n_pn
       have HB2 := Lib.hid hb
       clear h_pn n_pn hb C2)
    | (go_at_call 95; (with_reducible refine (C3.out _ _ ((H_a.out.below HB1.out).below HB2.out)).mono ?_); rintro e W3 ⟨d, rfl, ⟨h_d, n_d⟩, hb⟩
       have H_d := Lib.hid h_d
       have N_d := Lib.hid n_d
       have HB3 := Lib.hid hb
       clear h_d n_d hb C3)
    | (go_at_call 143; (with_reducible refine (C4.out _ _ H_d.out).mono ?_); rintro e W4 ⟨pd, rfl, ⟨h_pd, n_pd⟩, hb⟩
       have H_pd := Lib.hid h_pd
       have N_pd := Lib.hid n_pd
       have HB4 := Lib.hid hb
       clear h_pd n_pd hb C4)
    | (go_at_call 128; (with_reducible refine (C5.out _ _ _ ((H_pn.out.below HB3.out).below HB4.out) H_pd.out N_pn.out N_pd.out).mono ?_); rintro e W5 ⟨u, rfl, ⟨h_u, n_u⟩, hb⟩
       have H_u := Lib.hid h_u
       have N_u := Lib.hid n_u
       have HB5 := Lib.hid hb
       clear h_u n_u hb C5)
    | (fail "no arm"))
  go_ret2
  exact ⟨_, rfl, ⟨H_u.out, N_u.out⟩, (nat.below_tr (nat.below_tr (nat.below_tr (nat.below_tr HB1.out HB2.out) HB3.out) HB4.out) HB5.out)⟩
set_option maxRecDepth 100000 in
set_option maxHeartbeats 4000000 in
theorem Pow_down (a : Value) (q : Rat) (k : Int) (w : World) (ha : IsR w a q) (sq : Lr q 20000) (k1 : -9223372036854775808 ≤ k) (k2 : k < 9223372036854775808) (sp : Lr (q⁻¹ ^ k.natAbs) 800000) (hk : k < 0) (h0 : q ≠ 0) :
    Calls Tryz.prog 100 #[a, .int .i64 k] w fun e w' => ∃ u, e = .returned (.tuple #[u, .nilIface]) ∧ (IsR w' u (q⁻¹ ^ k.natAbs) ∧ u ≠ .pointer none) ∧ Below w.heap.size w w' := by
  have H_a := Lib.hid ha
  clear ha
  have sb := Lr_inv sq
  have c1 := fun (W : World) (v0 : Value) (hh0 : rat.IsR W v0 q)  => inverse_ok v0 q W hh0 h0
  have C1 := Lib.hid c1
  clear c1
  have c2 := fun (W : World) (v0 : Value) (hh0 : rat.IsR W v0 (q⁻¹))  => rat.Num_any v0 (q⁻¹) W hh0
  have C2 := Lib.hid c2
  clear c2
  have c3 := fun (W : World) (v0 : Value) (hh0 : num.IsZ W v0 (q⁻¹).num)  => power_any v0 (q⁻¹).num k W hh0 (sb.1.le (by decide)) k1 k2 (by have h := sp.1; rw [Rat.num_pow] at h; unfold Lz at h; rw [Int.natAbs_pow] at h; exact h)
  rw [← Rat.num_pow] at c3
  have C3 := Lib.hid c3
  clear c3
  have c4 := fun (W : World) (v0 : Value) (hh0 : rat.IsR W v0 (q⁻¹))  => rat.Den_any v0 (q⁻¹) W hh0
  have C4 := Lib.hid c4
  clear c4
  have c5 := fun (W : World) (v0 : Value) (hh0 : num.IsZ W v0 (((q⁻¹).den : Nat) : Int))  => power_any v0 (((q⁻¹).den : Nat) : Int) k W hh0 ((Lz_nat sb.2).le (by decide)) k1 k2 (by rw [Int.natAbs_natCast]; exact sp.2)
  rw [← Int.natCast_pow, ← Rat.den_pow] at c5
  have C5 := Lib.hid c5
  clear c5
  have c6 := fun (W : World) (v0 : Value) (v1 : Value) (hh0 : num.IsZ W v0 ((q⁻¹) ^ k.natAbs).num) (hh1 : num.IsZ W v1 ((((q⁻¹) ^ k.natAbs).den : Nat) : Int)) (n0 : v0 ≠ .pointer none) (n1 : v1 ≠ .pointer none) => own_at ((q⁻¹) ^ k.natAbs) v0 v1 _ _ W hh0 n0 hh1 n1 rfl rfl
  have C6 := Lib.hid c6
  clear c6
  go_enter Tryz.func100, Tryz.ntmps100
  go_wp2_with (first
    | (go_at_call 138; (with_reducible refine (C1.out _ _ H_a.out).mono ?_); rintro e W1 ⟨i, rfl, ⟨h_i, n_i⟩, hb⟩
       have H_i := Lib.hid h_i
       have N_i := Lib.hid n_i
       have HB1 := Lib.hid hb
       clear h_i n_i hb C1)
    | (go_at_call 99; (with_reducible refine (C2.out _ _ H_i.out).mono ?_); rintro e W2 ⟨n, rfl, ⟨h_n, n_n⟩, hb⟩
       have H_n := Lib.hid h_n
       have N_n := Lib.hid n_n
       have HB2 := Lib.hid hb
       clear h_n n_n hb C2)
    | (go_at_call 143; (with_reducible refine (C3.out _ _ H_n.out).mono ?_); rintro e W3 ⟨pn, rfl, ⟨h_pn, n_pn⟩, hb⟩
       have H_pn := Lib.hid h_pn
       have N_pn := Lib.hid n_pn
       have HB3 := Lib.hid hb
       clear h_pn n_pn hb C3)
    | (go_at_call 95; (with_reducible refine (C4.out _ _ ((H_i.out.below HB2.out).below HB3.out)).mono ?_); rintro e W4 ⟨d, rfl, ⟨h_d, n_d⟩, hb⟩
       have H_d := Lib.hid h_d
       have N_d := Lib.hid n_d
       have HB4 := Lib.hid hb
       clear h_d n_d hb C4)
    | (go_at_call 143; (with_reducible refine (C5.out _ _ H_d.out).mono ?_); rintro e W5 ⟨pd, rfl, ⟨h_pd, n_pd⟩, hb⟩
       have H_pd := Lib.hid h_pd
       have N_pd := Lib.hid n_pd
       have HB5 := Lib.hid hb
       clear h_pd n_pd hb C5)
    | (go_at_call 128; (with_reducible refine (C6.out _ _ _ ((H_pn.out.below HB4.out).below HB5.out) H_pd.out N_pn.out N_pd.out).mono ?_); rintro e W6 ⟨u, rfl, ⟨h_u, n_u⟩, hb⟩
       have H_u := Lib.hid h_u
       have N_u := Lib.hid n_u
       have HB6 := Lib.hid hb
       clear h_u n_u hb C6)
    | (fail "no arm"))
  go_ret2
  exact ⟨_, rfl, ⟨H_u.out, N_u.out⟩, (nat.below_tr (nat.below_tr (nat.below_tr (nat.below_tr (nat.below_tr HB1.out HB2.out) HB3.out) HB4.out) HB5.out) HB6.out)⟩
end Go.Proofs.YtfpooimjjpamoaaGreatDoor.rat
namespace Go.Proofs.YtfpooimjjpamoaaGreatDoor.ref
def DecBody (t : List UInt8) (n k : Nat) : Prop :=
  (k = 0 ∧ Numeral t ∧ n = seg t 0 t.length) ∨
    ∃ a b, t = a ++ 46 :: b ∧ Numeral a ∧ b.length = k ∧ 1 ≤ k ∧ k ≤ 20 ∧ (∀ i, i < k → IsDig b i) ∧ n = seg a 0 a.length * 10 ^ k + seg b 0 k
def DecForm (l : List UInt8) (neg : Bool) (n k : Nat) : Prop :=
  l.length ≤ 60 ∧ ∃ t, l = (if neg then 45 :: t else t) ∧ (neg = true → n ≠ 0) ∧ DecBody t n k
theorem numeral_ne {l : List UInt8} (h : Numeral l) {d : UInt8} (hd : d.toNat < 48) {c : UInt8} (hc : c ∈ l) : c ≠ d := by
  rintro rfl
  have := numeral_mem h hc
  omega
theorem point_first (l : List UInt8) : (∀ c ∈ l, c ≠ 46) ∨ ∃ a b, l = a ++ 46 :: b ∧ ∀ c ∈ a, c ≠ 46 := by
  induction l with
  | nil => exact Or.inl fun c h => by simp at h
  | cons x l ih =>
    by_cases hx : x = 46
    · exact Or.inr ⟨[], l, by rw [hx]; rfl, fun c h => by simp at h⟩
    · rcases ih with h | ⟨a, b, rfl, h⟩
      · refine Or.inl fun c hc => ?_
        rcases List.mem_cons.1 hc with rfl | hc
        · exact hx
        · exact h c hc
      · refine Or.inr ⟨x :: a, b, rfl, fun c hc => ?_⟩
        rcases List.mem_cons.1 hc with rfl | hc
        · exact hx
        · exact h c hc
theorem cut_inj {d : UInt8} {a b a' b' : List UInt8} (he : a ++ d :: b = a' ++ d :: b') (hn : ∀ c ∈ a, c ≠ d) (hn' : ∀ c ∈ a', c ≠ d) : a = a' ∧ b = b' := by
  induction a generalizing a' with
  | nil =>
    rcases a' with _ | ⟨c, a'⟩
    · simp at he; exact ⟨rfl, he⟩
    · simp at he
      exact absurd he.1.symm (hn' c (by simp))
  | cons x a ih =>
    rcases a' with _ | ⟨c, a'⟩
    · simp at he
      exact absurd he.1 (hn x (by simp))
    · simp at he
      obtain ⟨rfl, he⟩ := he
      obtain ⟨rfl, rfl⟩ := ih he (fun c hc => hn c (by simp [hc])) (fun c hc => hn' c (by simp [hc]))
      exact ⟨rfl, rfl⟩
theorem DecBody.whole {t : List UInt8} {n k : Nat} (h : DecBody t n k) (hn : ∀ c ∈ t, c ≠ 46) : k = 0 ∧ Numeral t ∧ n = seg t 0 t.length := by
  rcases h with h | ⟨a, b, rfl, _⟩
  · exact h
  · exact absurd rfl (hn 46 (by simp))
theorem DecBody.parts {a b : List UInt8} {n k : Nat} (h : DecBody (a ++ 46 :: b) n k) (hn : ∀ c ∈ a, c ≠ 46) :
    Numeral a ∧ b.length = k ∧ 1 ≤ k ∧ k ≤ 20 ∧ (∀ i, i < k → IsDig b i) ∧ n = seg a 0 a.length * 10 ^ k + seg b 0 k := by
  rcases h with ⟨-, h, -⟩ | ⟨a', b', he, h1, h2⟩
  · exact absurd rfl (numeral_ne h (d := 46) (by decide) (by simp))
  · obtain ⟨rfl, rfl⟩ := cut_inj he hn fun c hc => numeral_ne h1 (by decide) hc
    exact ⟨h1, h2⟩
theorem DecBody.head {t : List UInt8} {n k : Nat} (h : DecBody t n k) : ∃ c u, t = c :: u ∧ 48 ≤ c.toNat ∧ c.toNat ≤ 57 := by
  rcases h with ⟨-, h, -⟩ | ⟨a, b, rfl, h, -⟩
  · rcases t with _ | ⟨c, u⟩
    · exact absurd h.1 (by simp)
    · exact ⟨c, u, rfl, numeral_mem h (by simp)⟩
  · rcases a with _ | ⟨c, u⟩
    · exact absurd h.1 (by simp)
    · exact ⟨c, u ++ 46 :: b, rfl, numeral_mem h (by simp)⟩
theorem DecForm.minus {t : List UInt8} {neg : Bool} {n k : Nat} (h : DecForm (45 :: t) neg n k) : neg = true ∧ n ≠ 0 ∧ DecBody t n k := by
  obtain ⟨-, u, he, h1, h2⟩ := h
  cases neg
  · obtain ⟨c, v, rfl, hc⟩ := h2.head
    simp at he
    obtain ⟨rfl, -⟩ := he
    simp at hc
  · simp at he
    subst he
    exact ⟨rfl, h1 rfl, h2⟩
theorem DecForm.plain {l : List UInt8} {neg : Bool} {n k : Nat} (h : DecForm l neg n k) (hl : ∀ t, l ≠ 45 :: t) : neg = false ∧ DecBody l n k := by
  obtain ⟨-, u, he, h1, h2⟩ := h
  cases neg
  · simp at he
    subst he
    exact ⟨rfl, h2⟩
  · exact absurd he (hl u)
theorem DecBody.inj {t : List UInt8} {n k n' k' : Nat} (h : DecBody t n k) (h' : DecBody t n' k') : n = n' ∧ k = k' := by
  rcases point_first t with hn | ⟨a, b, rfl, hn⟩
  · obtain ⟨rfl, -, rfl⟩ := h.whole hn
    obtain ⟨rfl, -, rfl⟩ := h'.whole hn
    exact ⟨rfl, rfl⟩
  · obtain ⟨-, rfl, -, -, -, rfl⟩ := h.parts hn
    obtain ⟨-, rfl, -, -, -, rfl⟩ := h'.parts hn
    exact ⟨rfl, rfl⟩
theorem DecForm.inj {l : List UInt8} {p p' : Bool} {n k n' k' : Nat} (h : DecForm l p n k) (h' : DecForm l p' n' k') : p = p' ∧ n = n' ∧ k = k' := by
  by_cases hm : ∃ t, l = 45 :: t
  · obtain ⟨t, rfl⟩ := hm
    obtain ⟨rfl, -, h1⟩ := h.minus
    obtain ⟨rfl, -, h2⟩ := h'.minus
    exact ⟨rfl, h1.inj h2⟩
  · obtain ⟨rfl, h1⟩ := h.plain fun t e => hm ⟨t, e⟩
    obtain ⟨rfl, h2⟩ := h'.plain fun t e => hm ⟨t, e⟩
    exact ⟨rfl, h1.inj h2⟩
end Go.Proofs.YtfpooimjjpamoaaGreatDoor.ref
