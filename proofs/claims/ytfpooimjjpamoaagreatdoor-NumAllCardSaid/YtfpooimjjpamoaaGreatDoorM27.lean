/-
  The steps of the walks, part 27: RatA, RatB, Read.
-/
import Derived.Test.YtfpooimjjpamoaaGreatDoorProg
import Derived.WalkKit
import Derived.WalkSpells
import Derived.Lib.Hide
import Derived.OwnWalk
import Derived.Below
import Derived.Carry
import Derived.Outline
import Derived.Test.YtfpooimjjpamoaaGreatDoorM26
import Derived.Test.YtfpooimjjpamoaaGreatDoorM18
namespace Go.Proofs.YtfpooimjjpamoaaGreatDoor.rat
open Go.RowKit Go.Proofs.YtfpooimjjpamoaaGreatDoor.nat Go.Proofs.YtfpooimjjpamoaaGreatDoor.num
set_option maxRecDepth 100000 in
set_option maxHeartbeats 4000000 in
theorem divisor_any (a b : Value) (z y : Int) (w : World) (ha : IsZ w a z) (hb : IsZ w b y) (sz : Lz z 400000) (sy : Lz y 400000) :
    Calls Tryz.prog 129 #[a, b] w fun e w' => ∃ u, e = .returned u ∧ (IsZ w' u ((Nat.gcd z.natAbs y.natAbs : Nat) : Int) ∧ u ≠ .pointer none) ∧ Below w.heap.size w w' := by
  have H_a := Lib.hid ha
  have H_b := Lib.hid hb
  clear ha hb
  have c1 := fun (W : World) (v0 : Value) (hh0 : num.IsZ W v0 z)  => num.Abs_any v0 z W hh0
  have C1 := Lib.hid c1
  clear c1
  have c2 := fun (W : World) (v0 : Value) (hh0 : num.IsZ W v0 y)  => num.Abs_any v0 y W hh0
  have C2 := Lib.hid c2
  clear c2
  have c3 := fun (W : World) (v0 : Value) (v1 : Value) (hh0 : nat.IsN W v0 (Int.natAbs z)) (hh1 : nat.IsN W v1 (Int.natAbs y))  => nat.Gcd_any v0 v1 (Int.natAbs z) (Int.natAbs y) W hh0 hh1 ((Ln_abs sz).le (by decide)) ((Ln_abs sy).le (by decide))
  have C3 := Lib.hid c3
  clear c3
  have c4 := fun (W : World) (v0 : Value) (hh0 : nat.IsN W v0 (Nat.gcd (Int.natAbs z) (Int.natAbs y)))  => num.New_any false v0 (Nat.gcd (Int.natAbs z) (Int.natAbs y)) W hh0
  have C4 := Lib.hid c4
  clear c4
  go_enter Tryz.func129, Tryz.ntmps129
  go_wp2_with (first
    | (go_at_call 66; (with_reducible refine (C1.out _ _ H_a.out).mono ?_); rintro e W1 ⟨x, rfl, ⟨h_x, n_x⟩, hb⟩
       have H_x := Lib.hid h_x
       have N_x := Lib.hid n_x
       have HB1 := Lib.hid hb
       clear h_x n_x hb C1)
    | (go_at_call 66; (with_reducible refine (C2.out _ _ (H_b.out.below HB1.out)).mono ?_); rintro e W2 ⟨t, rfl, ⟨h_t, n_t⟩, hb⟩
       have H_t := Lib.hid h_t
       have N_t := Lib.hid n_t
       have HB2 := Lib.hid hb
       clear h_t n_t hb C2)
    | (go_at_call 40; (with_reducible refine (C3.out _ _ _ (H_x.out.below HB2.out) H_t.out).mono ?_); rintro e W3 ⟨g, rfl, ⟨h_g, n_g⟩, hb⟩
       have H_g := Lib.hid h_g
       have N_g := Lib.hid n_g
       have HB3 := Lib.hid hb
       clear h_g n_g hb C3)
    | (go_at_call 97; (with_reducible refine (C4.out _ _ H_g.out).mono ?_); rintro e W4 ⟨u, rfl, ⟨h_u, n_u⟩, hb⟩
       have H_u := Lib.hid h_u
       have N_u := Lib.hid n_u
       have HB4 := Lib.hid hb
       clear h_u n_u hb C4)
    | (fail "no arm"))
  go_ret
  exact ⟨_, rfl, ⟨H_u.out, N_u.out⟩, (nat.below_tr (nat.below_tr (nat.below_tr HB1.out HB2.out) HB3.out) HB4.out)⟩
set_option maxRecDepth 100000 in
set_option maxHeartbeats 4000000 in
theorem part_any (a b : Value) (z y : Int) (w : World) (ha : IsZ w a z) (hb : IsZ w b y) (sz : Lz z 700000) (sy : Lz y 700000) (h0 : y ≠ 0) :
    Calls Tryz.prog 139 #[a, b] w fun e w' => ∃ u, e = .returned u ∧ (IsZ w' u (Int.fdiv z y) ∧ u ≠ .pointer none) ∧ Below w.heap.size w w' := by
  have H_a := Lib.hid ha
  have H_b := Lib.hid hb
  clear ha hb
  have c1 := fun (W : World) (v0 : Value) (v1 : Value) (hh0 : num.IsZ W v0 z) (hh1 : num.IsZ W v1 y)  => num.Div_any v0 v1 z y W hh0 hh1 sz sy h0
  have C1 := Lib.hid c1
  clear c1
  go_enter Tryz.func139, Tryz.ntmps139
  go_wp2_with (first
    | (go_at_call 50; (with_reducible refine (C1.out _ _ _ H_a.out H_b.out).mono ?_); rintro e W1 ⟨q, r, rfl, ⟨h_q, n_q⟩, -, hb⟩
       have H_q := Lib.hid h_q
       have N_q := Lib.hid n_q
       have HB1 := Lib.hid hb
       clear h_q n_q hb C1)
    | (fail "no arm"))
  go_ret
  exact ⟨_, rfl, ⟨H_q.out, N_q.out⟩, HB1.out⟩
set_option maxRecDepth 100000 in
set_option maxHeartbeats 4000000 in
theorem upright_below (a b : Value) (z y : Int) (w : World) (ha : IsZ w a z) (_hna : a ≠ .pointer none) (hb : IsZ w b y) (_hnb : b ≠ .pointer none) (h0 : y < 0) (hc : Nat.gcd z.natAbs y.natAbs = 1) :
    Calls Tryz.prog 168 #[a, b] w fun e w' => ∃ u, e = .returned u ∧ (IsR w' u ((z : Rat) / (y : Rat)) ∧ u ≠ .pointer none) ∧ Below w.heap.size w w' := by
  have H_a := Lib.hid ha
  have H_b := Lib.hid hb
  clear ha hb
  have c1 := fun (W : World) (v0 : Value) (hh0 : num.IsZ W v0 y)  => num.Sign_any v0 y W hh0
  rw [show sg y = -1 by unfold sg cmp3; rw [if_pos h0]] at c1
  have C1 := Lib.hid c1
  clear c1
  have c2 := fun (W : World) (v0 : Value) (hh0 : num.IsZ W v0 z)  => num.Neg_any v0 z W hh0
  have C2 := Lib.hid c2
  clear c2
  have c3 := fun (W : World) (v0 : Value) (hh0 : num.IsZ W v0 y)  => num.Neg_any v0 y W hh0
  have C3 := Lib.hid c3
  clear c3
  have c4 := fun (W : World) (v0 : Value) (v1 : Value) (hh0 : num.IsZ W v0 (-z)) (hh1 : num.IsZ W v1 (-y)) (n0 : v0 ≠ .pointer none) (n1 : v1 ≠ .pointer none) => own_at ((z : Rat) / (y : Rat)) v0 v1 (-z) (-y) W hh0 n0 hh1 n1 (by rw [(up_val (by omega) hc).1]; unfold upN; rw [if_pos h0]) (by rw [(up_val (by omega) hc).2]; omega)
  have C4 := Lib.hid c4
  clear c4
  go_enter Tryz.func168, Tryz.ntmps168
  go_wp2_with (first
    | (go_at_call 67; (with_reducible refine (C1.out _ _ H_b.out).mono ?_); rintro e w9 ⟨rfl, rfl⟩
       clear C1)
    | (go_at_call 65; (with_reducible refine (C2.out _ _ H_a.out).mono ?_); rintro e W1 ⟨c, rfl, ⟨h_c, n_c⟩, hb⟩
       have H_c := Lib.hid h_c
       have N_c := Lib.hid n_c
       have HB1 := Lib.hid hb
       clear h_c n_c hb C2)
    | (go_at_call 65; (with_reducible refine (C3.out _ _ (H_b.out.below HB1.out)).mono ?_); rintro e W2 ⟨d, rfl, ⟨h_d, n_d⟩, hb⟩
       have H_d := Lib.hid h_d
       have N_d := Lib.hid n_d
       have HB2 := Lib.hid hb
       clear h_d n_d hb C3)
    | (go_at_call 128; (with_reducible refine (C4.out _ _ _ (H_c.out.below HB2.out) H_d.out N_c.out N_d.out).mono ?_); rintro e W3 ⟨u, rfl, ⟨h_u, n_u⟩, hb⟩
       have H_u := Lib.hid h_u
       have N_u := Lib.hid n_u
       have HB3 := Lib.hid hb
       clear h_u n_u hb C4)
    | (fail "no arm"))
  go_ret
  exact ⟨_, rfl, ⟨H_u.out, N_u.out⟩, (nat.below_tr (nat.below_tr HB1.out HB2.out) HB3.out)⟩
set_option maxRecDepth 100000 in
set_option maxHeartbeats 4000000 in
theorem upright_above (a b : Value) (z y : Int) (w : World) (ha : IsZ w a z) (hna : a ≠ .pointer none) (hb : IsZ w b y) (hnb : b ≠ .pointer none) (h0 : 0 < y) (hc : Nat.gcd z.natAbs y.natAbs = 1) :
    Calls Tryz.prog 168 #[a, b] w fun e w' => ∃ u, e = .returned u ∧ (IsR w' u ((z : Rat) / (y : Rat)) ∧ u ≠ .pointer none) ∧ Below w.heap.size w w' := by
  have H_a := Lib.hid ha
  have H_b := Lib.hid hb
  clear ha hb
  have N_a := Lib.hid hna
  have N_b := Lib.hid hnb
  clear hna hnb
  have c1 := fun (W : World) (v0 : Value) (hh0 : num.IsZ W v0 y)  => num.Sign_any v0 y W hh0
  rw [show sg y = 1 by unfold sg cmp3; rw [if_neg (by omega), if_pos h0]] at c1
  have C1 := Lib.hid c1
  clear c1
  have c2 := fun (W : World) (v0 : Value) (v1 : Value) (hh0 : num.IsZ W v0 z) (hh1 : num.IsZ W v1 y) (n0 : v0 ≠ .pointer none) (n1 : v1 ≠ .pointer none) => own_at ((z : Rat) / (y : Rat)) v0 v1 z y W hh0 n0 hh1 n1 (by rw [(up_val (by omega) hc).1]; unfold upN; rw [if_neg (by omega)]) (by rw [(up_val (by omega) hc).2]; omega)
  have C2 := Lib.hid c2
  clear c2
  go_enter Tryz.func168, Tryz.ntmps168
  go_wp2_with (first
    | (go_at_call 67; (with_reducible refine (C1.out _ _ H_b.out).mono ?_); rintro e w9 ⟨rfl, rfl⟩
       clear C1)
    | (go_at_call 128; (with_reducible refine (C2.out _ _ _ H_a.out H_b.out N_a.out N_b.out).mono ?_); rintro e W1 ⟨u, rfl, ⟨h_u, n_u⟩, hb⟩
       have H_u := Lib.hid h_u
       have N_u := Lib.hid n_u
       have HB1 := Lib.hid hb
       clear h_u n_u hb C2)
    | (fail "no arm"))
  go_ret
  exact ⟨_, rfl, ⟨H_u.out, N_u.out⟩, HB1.out⟩
theorem upright_any (a b : Value) (z y : Int) (w : World) (ha : IsZ w a z) (hna : a ≠ .pointer none) (hb : IsZ w b y) (hnb : b ≠ .pointer none) (h0 : y ≠ 0) (hc : Nat.gcd z.natAbs y.natAbs = 1) :
    Calls Tryz.prog 168 #[a, b] w fun e w' => ∃ u, e = .returned u ∧ (IsR w' u ((z : Rat) / (y : Rat)) ∧ u ≠ .pointer none) ∧ Below w.heap.size w w' := by
  rcases Int.lt_or_gt_of_ne h0 with h | h
  · exact upright_below a b z y w ha hna hb hnb h hc
  · exact upright_above a b z y w ha hna hb hnb h hc
theorem gcd_parts {z y : Int} (h0 : y ≠ 0) : 0 < Nat.gcd z.natAbs y.natAbs := Nat.gcd_pos_of_pos_right _ (by omega)
theorem parts_cop {z y : Int} (h0 : y ≠ 0) : Nat.gcd (Int.fdiv z ((Nat.gcd z.natAbs y.natAbs : Nat) : Int)).natAbs (Int.fdiv y ((Nat.gcd z.natAbs y.natAbs : Nat) : Int)).natAbs = 1 := by
  have hg := gcd_parts (z := z) h0
  rw [fdiv_abs (by omega) (gcd_divides_l z y), fdiv_abs (by omega) (gcd_divides_r z y), Int.natAbs_natCast]
  exact Nat.coprime_div_gcd_div_gcd hg
theorem parts_ne {z y : Int} (h0 : y ≠ 0) : Int.fdiv y ((Nat.gcd z.natAbs y.natAbs : Nat) : Int) ≠ 0 := by
  have hg := gcd_parts (z := z) h0
  obtain ⟨k, hk⟩ := gcd_divides_r z y
  generalize ((Nat.gcd z.natAbs y.natAbs : Nat) : Int) = g at *
  intro h
  have hg0 : g ≠ 0 := fun e => h0 (by rw [hk, e]; simp)
  rw [hk, Int.mul_fdiv_cancel_left _ hg0] at h
  exact h0 (by rw [hk, h]; simp)
theorem parts_val {z y : Int} (h0 : y ≠ 0) : ((Int.fdiv z ((Nat.gcd z.natAbs y.natAbs : Nat) : Int) : Int) : Rat) / ((Int.fdiv y ((Nat.gcd z.natAbs y.natAbs : Nat) : Int) : Int) : Rat) = (z : Rat) / (y : Rat) := by
  have hg := gcd_parts (z := z) h0
  have hg0 : ((Nat.gcd z.natAbs y.natAbs : Nat) : Int) ≠ 0 := by omega
  rw [fdiv_exact hg0 (gcd_divides_l z y), fdiv_exact hg0 (gcd_divides_r z y)]
  have h1 := cast_nez hg0
  have h2 := cast_nez h0
  generalize (((Nat.gcd z.natAbs y.natAbs : Nat) : Int) : Rat) = g at *
  grind
set_option maxRecDepth 100000 in
set_option maxHeartbeats 4000000 in
theorem New_ok (a b : Value) (z y : Int) (w : World) (ha : IsZ w a z) (hb : IsZ w b y) (sz : Lz z 300000) (sy : Lz y 300000) (h0 : y ≠ 0) :
    Calls Tryz.prog 130 #[a, b] w fun e w' => ∃ u, e = .returned (.tuple #[u, .nilIface]) ∧ (IsR w' u ((z : Rat) / (y : Rat)) ∧ u ≠ .pointer none) ∧ Below w.heap.size w w' := by
  have H_a := Lib.hid ha
  have H_b := Lib.hid hb
  clear ha hb
  have c1 := fun (W : World) (v0 : Value) (hh0 : num.IsZ W v0 y)  => num.Sign_any v0 y W hh0
  have hsg : (sg y == 0) = false := by unfold sg cmp3; simp; (repeat' split) <;> omega
  have C1 := Lib.hid c1
  clear c1
  have c2 := fun (W : World) (v0 : Value) (v1 : Value) (hh0 : num.IsZ W v0 z) (hh1 : num.IsZ W v1 y)  => divisor_any v0 v1 z y W hh0 hh1 (sz.le (by decide)) (sy.le (by decide))
  have C2 := Lib.hid c2
  clear c2
  have c3 := fun (W : World) (v0 : Value) (v1 : Value) (hh0 : num.IsZ W v0 z) (hh1 : num.IsZ W v1 (((Nat.gcd (Int.natAbs z) (Int.natAbs y)) : Nat) : Int))  => part_any v0 v1 z (((Nat.gcd (Int.natAbs z) (Int.natAbs y)) : Nat) : Int) W hh0 hh1 (sz.le (by decide)) ((Lz_nat (Ln_gcd (Ln_abs sz) (Ln_abs sy))).le (by decide)) (by have := gcd_parts (z := z) h0; omega)
  have C3 := Lib.hid c3
  clear c3
  have c4 := fun (W : World) (v0 : Value) (v1 : Value) (hh0 : num.IsZ W v0 y) (hh1 : num.IsZ W v1 (((Nat.gcd (Int.natAbs z) (Int.natAbs y)) : Nat) : Int))  => part_any v0 v1 y (((Nat.gcd (Int.natAbs z) (Int.natAbs y)) : Nat) : Int) W hh0 hh1 (sy.le (by decide)) ((Lz_nat (Ln_gcd (Ln_abs sz) (Ln_abs sy))).le (by decide)) (by have := gcd_parts (z := z) h0; omega)
  have C4 := Lib.hid c4
  clear c4
  have c5 := fun (W : World) (v0 : Value) (v1 : Value) (hh0 : num.IsZ W v0 (Int.fdiv z (((Nat.gcd (Int.natAbs z) (Int.natAbs y)) : Nat) : Int))) (hh1 : num.IsZ W v1 (Int.fdiv y (((Nat.gcd (Int.natAbs z) (Int.natAbs y)) : Nat) : Int))) (n0 : v0 ≠ .pointer none) (n1 : v1 ≠ .pointer none) => upright_any v0 v1 (Int.fdiv z (((Nat.gcd (Int.natAbs z) (Int.natAbs y)) : Nat) : Int)) (Int.fdiv y (((Nat.gcd (Int.natAbs z) (Int.natAbs y)) : Nat) : Int)) W hh0 n0 hh1 n1 (parts_ne h0) (parts_cop h0)
  rw [parts_val h0] at c5
  have C5 := Lib.hid c5
  clear c5
  go_enter Tryz.func130, Tryz.ntmps130
  go_wp2_with (first
    | (go_at_call 67; (with_reducible refine (C1.out _ _ H_b.out).mono ?_); rintro e w9 ⟨rfl, rfl⟩
       clear C1)
    | (go_at_call 129; (with_reducible refine (C2.out _ _ _ H_a.out H_b.out).mono ?_); rintro e W1 ⟨g, rfl, ⟨h_g, n_g⟩, hb⟩
       have H_g := Lib.hid h_g
       have N_g := Lib.hid n_g
       have HB1 := Lib.hid hb
       clear h_g n_g hb C2)
    | (go_at_call 139; (with_reducible refine (C3.out _ _ _ (H_a.out.below HB1.out) H_g.out).mono ?_); rintro e W2 ⟨p, rfl, ⟨h_p, n_p⟩, hb⟩
       have H_p := Lib.hid h_p
       have N_p := Lib.hid n_p
       have HB2 := Lib.hid hb
       clear h_p n_p hb C3)
    | (go_at_call 139; (with_reducible refine (C4.out _ _ _ ((H_b.out.below HB1.out).below HB2.out) (H_g.out.below HB2.out)).mono ?_); rintro e W3 ⟨q, rfl, ⟨h_q, n_q⟩, hb⟩
       have H_q := Lib.hid h_q
       have N_q := Lib.hid n_q
       have HB3 := Lib.hid hb
       clear h_q n_q hb C4)
    | (go_at_call 168; (with_reducible refine (C5.out _ _ _ (H_p.out.below HB3.out) H_q.out N_p.out N_q.out).mono ?_); rintro e W4 ⟨u, rfl, ⟨h_u, n_u⟩, hb⟩
       have H_u := Lib.hid h_u
       have N_u := Lib.hid n_u
       have HB4 := Lib.hid hb
       clear h_u n_u hb C5)
    | (fail "no arm"))
  go_ret2
  exact ⟨_, rfl, ⟨H_u.out, N_u.out⟩, (nat.below_tr (nat.below_tr (nat.below_tr HB1.out HB2.out) HB3.out) HB4.out)⟩
set_option maxRecDepth 100000 in
set_option maxHeartbeats 4000000 in
theorem Of_ok (z y : Int) (w : World) (k1 : -9223372036854775808 ≤ z) (k2 : z < 9223372036854775808) (k3 : -9223372036854775808 ≤ y) (k4 : y < 9223372036854775808) (h0 : y ≠ 0) :
    Calls Tryz.prog 74 #[.int .i64 z, .int .i64 y] w fun e w' => ∃ u, e = .returned (.tuple #[u, .nilIface]) ∧ (IsR w' u ((z : Rat) / (y : Rat)) ∧ u ≠ .pointer none) ∧ Below w.heap.size w w' := by
  have c1 := fun (W : World)    => num.Of_any z W k1 k2
  have C1 := Lib.hid c1
  clear c1
  have c2 := fun (W : World)    => num.Of_any y W k3 k4
  have C2 := Lib.hid c2
  clear c2
  have c3 := fun (W : World) (v0 : Value) (v1 : Value) (hh0 : num.IsZ W v0 z) (hh1 : num.IsZ W v1 y)  => New_ok v0 v1 z y W hh0 hh1 ((Lz_small (by omega)).le (by decide)) ((Lz_small (by omega)).le (by decide)) h0
  have C3 := Lib.hid c3
  clear c3
  go_enter Tryz.func74, Tryz.ntmps74
  go_wp2_with (first
    | (go_at_call 57; (with_reducible refine (C1.out _ ).mono ?_); rintro e W1 ⟨a, rfl, ⟨h_a, n_a⟩, hb⟩
       have H_a := Lib.hid h_a
       have N_a := Lib.hid n_a
       have HB1 := Lib.hid hb
       clear h_a n_a hb C1)
    | (go_at_call 57; (with_reducible refine (C2.out _ ).mono ?_); rintro e W2 ⟨b, rfl, ⟨h_b, n_b⟩, hb⟩
       have H_b := Lib.hid h_b
       have N_b := Lib.hid n_b
       have HB2 := Lib.hid hb
       clear h_b n_b hb C2)
    | (go_at_call 130; (with_reducible refine (C3.out _ _ _ (H_a.out.below HB2.out) H_b.out).mono ?_); rintro e W3 ⟨u, rfl, ⟨h_u, n_u⟩, hb⟩
       have H_u := Lib.hid h_u
       have N_u := Lib.hid n_u
       have HB3 := Lib.hid hb
       clear h_u n_u hb C3)
    | (fail "no arm"))
  go_ret2
  exact ⟨_, rfl, ⟨H_u.out, N_u.out⟩, (nat.below_tr (nat.below_tr HB1.out HB2.out) HB3.out)⟩
end Go.Proofs.YtfpooimjjpamoaaGreatDoor.rat
namespace Go.Proofs.YtfpooimjjpamoaaGreatDoor.rat
open Go.RowKit Go.Proofs.YtfpooimjjpamoaaGreatDoor.nat Go.Proofs.YtfpooimjjpamoaaGreatDoor.num
def Lr (q : Rat) (n : Nat) : Prop := Lz q.num n ∧ Ln q.den n
theorem Lr.le {q : Rat} {n m : Nat} (h : Lr q n) (hm : n ≤ m) : Lr q m := ⟨h.1.le hm, h.2.le hm⟩
end Go.Proofs.YtfpooimjjpamoaaGreatDoor.rat
namespace Go.Proofs.YtfpooimjjpamoaaGreatDoor.ref
open Go.RowKit
def Reads (w : World) (sv : Value) (l : List Nat) : Prop :=
  ∃ ao cap, sv = .slice ao l.length cap ∧ (l.length ≤ cap ∧ (ao = none → cap = 0)) ∧ cap ≤ maxLen ∧ (l = [] ∨ ∃ g, ao = some ⟨g, 0, none⟩ ∧ ∀ k, k < l.length → w.cell? ⟨g, k, none⟩ = some (.int .u64 (dg l k : Nat)))
theorem cell_lt {w : World} {a : Addr} {v : Value} (h : w.cell? a = some v) : a.block < w.heap.size := by
  rcases Nat.lt_or_ge a.block w.heap.size with h' | h'
  · exact h'
  · simp [World.cell?, Array.getElem?_eq_none h'] at h
theorem Reads.below {w w' : World} {sv : Value} {l : List Nat} (h : Reads w sv l) (hb : Below w.heap.size w w') : Reads w' sv l := by
  obtain ⟨ao, cap, rfl, h1, h2, h3⟩ := h
  refine ⟨ao, cap, rfl, h1, h2, h3.imp id fun ⟨g, hg, hc⟩ => ⟨g, hg, fun k hk => (hb.cell (p := ⟨g, k, none⟩) (cell_lt (hc k hk))).trans (hc k hk)⟩⟩
theorem Reads.inj {w : World} {sv : Value} {l l' : List Nat} (h : Reads w sv l) (h' : Reads w sv l') : l = l' := by
  obtain ⟨ao, cap, rfl, _, _, h3⟩ := h
  obtain ⟨ao', cap', he, _, _, h3'⟩ := h'
  simp only [Value.slice.injEq] at he
  obtain ⟨rfl, hl, rfl⟩ := he
  rcases h3 with rfl | ⟨g, rfl, hc⟩
  · exact (List.eq_nil_of_length_eq_zero hl.symm).symm
  · rcases h3' with rfl | ⟨g', hg', hc'⟩
    · exact List.eq_nil_of_length_eq_zero hl
    · simp only [Option.some.injEq, Addr.mk.injEq, and_true] at hg'
      subst hg'
      refine dg_ext hl fun k h1 => ?_
      have := (hc k h1).symm.trans (hc' k (by omega))
      simp only [Option.some.injEq, Value.int.injEq, true_and] at this
      omega
theorem Reads.of_own {w : World} {base : Nat} {sv : Value} {l : List Nat} (h : w.ownsRow base 45 1 sv l.length (l.map fun d => Value.int .u64 (d : Nat))) : Reads w sv l := by
  rcases h.2 with ⟨rfl, hl⟩ | ⟨g, cap, cur, rfl, _, _, hnc, hcm, _, _⟩
  · exact ⟨none, 0, by rw [hl], ⟨by omega, fun _ => rfl⟩, Nat.zero_le _, Or.inl (List.eq_nil_of_length_eq_zero hl)⟩
  · refine ⟨some ⟨g, 0, none⟩, cap, rfl, ⟨hnc, fun h => by cases h⟩, hcm, Or.inr ⟨g, rfl, fun k hk => ?_⟩⟩
    rw [h.cellAt k (by omega)]
    exact dg_map hk _
def lenOf : Value → Nat
  | .slice _ n _ => n
  | _ => 0
set_option maxRecDepth 100000 in
set_option maxHeartbeats 1000000 in
theorem trim_at (ao : Option Addr) (cap : Nat) (l : List Nat) (w : World) (h : Reads w (.slice ao l.length cap) l) (hd : Dig l) :
    Calls Tryz.prog 111 #[.slice ao l.length cap] w fun e w' => ∃ l', e = .returned (.slice ao l'.length cap) ∧ Reads w (.slice ao l'.length cap) l' ∧ Norm l' ∧ val l' = val l ∧ w = w' := by
  have H := Lib.hid h
  have HD := Lib.hid hd
  clear h hd
  go_enter Tryz.func111, Tryz.ntmps111
  go_wp2
  go_loopw [0] (fun n wr => w = wr ∧ ∃ l', n = .slice ao l'.length cap ∧ Reads w n l' ∧ Dig l' ∧ val l' = val l) (fun n _ => lenOf n)
  case atStart => exact ⟨rfl, l, rfl, H.out, HD.out, rfl⟩
  case round =>
    obtain ⟨rfl, l', rfl, hr, hdl, hv⟩ := hrel
    have HR := Lib.hid hr
    obtain ⟨ao', cap', he, ⟨h1, h4⟩, h2, h3⟩ := hr
    simp only [Value.slice.injEq, true_and] at he
    obtain ⟨rfl, rfl⟩ := he
    have HV := Lib.hid hv
    have HDl := Lib.hid hdl
    have H4 := Lib.hid h4
    clear hv hdl H h4
    unfold maxLen at h2
    rcases h3 with rfl | ⟨g, rfl, hc⟩
    · simp only [List.length_nil] at *
      go_wp2
      go_ret
      exact ⟨[], rfl, HR.out, Norm.nil, HV.out, rfl⟩
    · generalize hlen : l'.length = N at *
      by_cases hN : N = 0
      · subst hN
        obtain rfl := List.eq_nil_of_length_eq_zero hlen
        clear hlen
        go_wp2
        go_ret
        exact ⟨[], rfl, HR.out, Norm.nil, HV.out, rfl⟩
      · have hN1 : 1 ≤ N := by omega
        have hc1 := hc (N - 1) (by omega)
        have hd := dg_lt HDl.out (N - 1)
        have HLn := Lib.hid hlen
        have HCs := Lib.hid hc
        generalize hdd : dg l' (N - 1) = d at hc1 hd
        have HDD := Lib.hid hdd
        clear hdd hlen hc
        by_cases h0 : d = 0
        · subst h0
          go_wp2
          go_roundw
          case rel =>
            have hv2 := drop_nought' N HLn.out hN1 HDD.out
            have ht : (l'.take (N - 1)).length = N - 1 := by rw [List.length_take, HLn.out, Nat.min_eq_left (by omega)]
            refine ⟨trivial, l'.take (N - 1), by rw [ht], ⟨some ⟨g, 0, none⟩, cap, by rw [ht], ⟨by rw [ht]; omega, H4.out⟩, by unfold maxLen; omega, Or.inr ⟨g, rfl, fun k hk => ?_⟩⟩, HDl.out.take _, by rw [hv2]; exact HV.out⟩
            rw [ht] at hk
            rw [HCs.out k (by omega), dg_take (by omega)]
          case measure => simp [lenOf]; omega
        · have hb : ((d : Int) == 0) = false := by simp; omega
          go_wp2
          go_ret
          exact ⟨l', by rw [HLn.out]; rfl, by rw [HLn.out]; exact HR.out, norm_of_top HDl.out (fun _ => by rw [HLn.out, HDD.out]; exact h0), HV.out, rfl⟩
theorem trim_any (sv : Value) (l : List Nat) (w : World) (h : Reads w sv l) (hd : Dig l) :
    Calls Tryz.prog 111 #[sv] w fun e w' => ∃ sv' l', e = .returned sv' ∧ Reads w sv' l' ∧ Norm l' ∧ val l' = val l ∧ w = w' := by
  have h' := h
  obtain ⟨ao, cap, rfl, _⟩ := h'
  exact (trim_at ao cap l w h hd).mono fun _ _ ⟨l', he, hr, hn, hv, hw⟩ => ⟨_, l', he, hr, hn, hv, hw⟩
end Go.Proofs.YtfpooimjjpamoaaGreatDoor.ref
