/-
  The steps of the walks, part 16: RatA, RatB, RatC, RatForm, RefGetQ, RatG, RefGetQ2, RatTxt, Law6Cnt, RefNear, RefDec, Bnd, Law2Dg, Law2R, Law2Kit.
-/
import Derived.Lib.Bytealg
import Derived.Laws.Externs
import Derived.Deep.QuietTactic
import Derived.BigQuiet
import Derived.Test.YtlhmfgbaefaneaaGreatDoorB15
import Derived.Test.YtlhmfgbaefaneaaGreatDoorB03
import Derived.Test.YtlhmfgbaefaneaaGreatDoorB06
import Derived.Test.YtlhmfgbaefaneaaGreatDoorB14
import Derived.Test.YtlhmfgbaefaneaaGreatDoorB01
namespace Go.Proofs.YtlhmfgbaefaneaaGreatDoor.rat
open Go.RowKit Go.Proofs.YtlhmfgbaefaneaaGreatDoor.nat Go.Proofs.YtlhmfgbaefaneaaGreatDoor.num
set_option maxRecDepth 100000 in
set_option maxHeartbeats 4000000 in
theorem divisor_any (a b : Value) (z y : Int) (w : World) (ha : IsZ w a z) (hb : IsZ w b y) (sz : Lz z 400000) (sy : Lz y 400000) :
    Calls Tryz.prog 111 #[a, b] w fun e w' => ∃ u, e = .returned u ∧ (IsZ w' u ((Nat.gcd z.natAbs y.natAbs : Nat) : Int) ∧ u ≠ .pointer none) ∧ Below w.heap.size w w' := by
  have H_a := Lib.hid ha
  have H_b := Lib.hid hb
  clear ha hb
  have c1 := fun (W : World) (v0 : Value) (hh0 : num.IsZ W v0 z)  => num.Abs_any v0 z W hh0
  have C1 := Lib.hid c1
  clear c1
  have c2 := fun (W : World) (v0 : Value) (hh0 : num.IsZ W v0 y)  => num.Abs_any v0 y W hh0
  have C2 := Lib.hid c2
  clear c2
  have c3 := fun (W : World) (v0 : Value) (v1 : Value) (hh0 : nat.IsN W v0 (Int.natAbs z)) (hh1 : nat.IsN W v1 (Int.natAbs y))  => nat.Gcd_any v0 v1 (Int.natAbs z) (Int.natAbs y) W hh0 hh1 ((Ln_abs sz).le (by decide)) ((Ln_abs sy).le (by decide))
  have C3 := Lib.hid c3
  clear c3
  have c4 := fun (W : World) (v0 : Value) (hh0 : nat.IsN W v0 (Nat.gcd (Int.natAbs z) (Int.natAbs y)))  => num.New_any false v0 (Nat.gcd (Int.natAbs z) (Int.natAbs y)) W hh0
  have C4 := Lib.hid c4
  clear c4
  go_enter Tryz.func111, Tryz.ntmps111
  go_wp2_with (first
    | (go_at_call 138; (with_reducible refine (C1.out _ _ H_a.out).mono ?_); rintro e W1 ⟨x, rfl, ⟨h_x, n_x⟩, hb⟩
       have H_x := Lib.hid h_x
       have N_x := Lib.hid n_x
       have HB1 := Lib.hid hb
       clear h_x n_x hb C1)
    | (go_at_call 138; (with_reducible refine (C2.out _ _ (H_b.out.below HB1.out)).mono ?_); rintro e W2 ⟨t, rfl, ⟨h_t, n_t⟩, hb⟩
       have H_t := Lib.hid h_t
       have N_t := Lib.hid n_t
       have HB2 := Lib.hid hb
       clear h_t n_t hb C2)
    | (go_at_call 139; (with_reducible refine (C3.out _ _ _ (H_x.out.below HB2.out) H_t.out).mono ?_); rintro e W3 ⟨g, rfl, ⟨h_g, n_g⟩, hb⟩
       have H_g := Lib.hid h_g
       have N_g := Lib.hid n_g
       have HB3 := Lib.hid hb
       clear h_g n_g hb C3)
    | (go_at_call 128; (with_reducible refine (C4.out _ _ H_g.out).mono ?_); rintro e W4 ⟨u, rfl, ⟨h_u, n_u⟩, hb⟩
       have H_u := Lib.hid h_u
       have N_u := Lib.hid n_u
       have HB4 := Lib.hid hb
       clear h_u n_u hb C4)
    | (fail "no arm"))
  go_ret
  exact ⟨_, rfl, ⟨H_u.out, N_u.out⟩, (nat.below_tr (nat.below_tr (nat.below_tr HB1.out HB2.out) HB3.out) HB4.out)⟩
set_option maxRecDepth 100000 in
set_option maxHeartbeats 4000000 in
theorem part_any (a b : Value) (z y : Int) (w : World) (ha : IsZ w a z) (hb : IsZ w b y) (sz : Lz z 700000) (sy : Lz y 700000) (h0 : y ≠ 0) :
    Calls Tryz.prog 112 #[a, b] w fun e w' => ∃ u, e = .returned u ∧ (IsZ w' u (Int.fdiv z y) ∧ u ≠ .pointer none) ∧ Below w.heap.size w w' := by
  have H_a := Lib.hid ha
  have H_b := Lib.hid hb
  clear ha hb
  have c1 := fun (W : World) (v0 : Value) (v1 : Value) (hh0 : num.IsZ W v0 z) (hh1 : num.IsZ W v1 y)  => num.Div_any v0 v1 z y W hh0 hh1 sz sy h0
  have C1 := Lib.hid c1
  clear c1
  go_enter Tryz.func112, Tryz.ntmps112
  go_wp2_with (first
    | (go_at_call 140; (with_reducible refine (C1.out _ _ _ H_a.out H_b.out).mono ?_); rintro e W1 ⟨q, r, rfl, ⟨h_q, n_q⟩, -, hb⟩
       have H_q := Lib.hid h_q
       have N_q := Lib.hid n_q
       have HB1 := Lib.hid hb
       clear h_q n_q hb C1)
    | (fail "no arm"))
  go_ret
  exact ⟨_, rfl, ⟨H_q.out, N_q.out⟩, HB1.out⟩
set_option maxRecDepth 100000 in
set_option maxHeartbeats 4000000 in
theorem upright_below (a b : Value) (z y : Int) (w : World) (ha : IsZ w a z) (_hna : a ≠ .pointer none) (hb : IsZ w b y) (_hnb : b ≠ .pointer none) (h0 : y < 0) (hc : Nat.gcd z.natAbs y.natAbs = 1) :
    Calls Tryz.prog 127 #[a, b] w fun e w' => ∃ u, e = .returned u ∧ (IsR w' u ((z : Rat) / (y : Rat)) ∧ u ≠ .pointer none) ∧ Below w.heap.size w w' := by
  have H_a := Lib.hid ha
  have H_b := Lib.hid hb
  clear ha hb
  have c1 := fun (W : World) (v0 : Value) (hh0 : num.IsZ W v0 y)  => num.Sign_any v0 y W hh0
  rw [show sg y = -1 by unfold sg cmp3; rw [if_pos h0]] at c1
  have C1 := Lib.hid c1
  clear c1
  have c2 := fun (W : World) (v0 : Value) (hh0 : num.IsZ W v0 z)  => num.Neg_any v0 z W hh0
  have C2 := Lib.hid c2
  clear c2
  have c3 := fun (W : World) (v0 : Value) (hh0 : num.IsZ W v0 y)  => num.Neg_any v0 y W hh0
  have C3 := Lib.hid c3
  clear c3
  have c4 := fun (W : World) (v0 : Value) (v1 : Value) (hh0 : num.IsZ W v0 (-z)) (hh1 : num.IsZ W v1 (-y)) (n0 : v0 ≠ .pointer none) (n1 : v1 ≠ .pointer none) => own_at ((z : Rat) / (y : Rat)) v0 v1 (-z) (-y) W hh0 n0 hh1 n1 (by rw [(up_val (by omega) hc).1]; unfold upN; rw [if_pos h0]) (by rw [(up_val (by omega) hc).2]; omega)
  have C4 := Lib.hid c4
  clear c4
  go_enter Tryz.func127, Tryz.ntmps127
  go_wp2_with (first
    | (go_at_call 126; (with_reducible refine (C1.out _ _ H_b.out).mono ?_); rintro e w9 ⟨rfl, rfl⟩
       clear C1)
    | (go_at_call 165; (with_reducible refine (C2.out _ _ H_a.out).mono ?_); rintro e W1 ⟨c, rfl, ⟨h_c, n_c⟩, hb⟩
       have H_c := Lib.hid h_c
       have N_c := Lib.hid n_c
       have HB1 := Lib.hid hb
       clear h_c n_c hb C2)
    | (go_at_call 165; (with_reducible refine (C3.out _ _ (H_b.out.below HB1.out)).mono ?_); rintro e W2 ⟨d, rfl, ⟨h_d, n_d⟩, hb⟩
       have H_d := Lib.hid h_d
       have N_d := Lib.hid n_d
       have HB2 := Lib.hid hb
       clear h_d n_d hb C3)
    | (go_at_call 114; (with_reducible refine (C4.out _ _ _ (H_c.out.below HB2.out) H_d.out N_c.out N_d.out).mono ?_); rintro e W3 ⟨u, rfl, ⟨h_u, n_u⟩, hb⟩
       have H_u := Lib.hid h_u
       have N_u := Lib.hid n_u
       have HB3 := Lib.hid hb
       clear h_u n_u hb C4)
    | (fail "no arm"))
  go_ret
  exact ⟨_, rfl, ⟨H_u.out, N_u.out⟩, (nat.below_tr (nat.below_tr HB1.out HB2.out) HB3.out)⟩
set_option maxRecDepth 100000 in
set_option maxHeartbeats 4000000 in
theorem upright_above (a b : Value) (z y : Int) (w : World) (ha : IsZ w a z) (hna : a ≠ .pointer none) (hb : IsZ w b y) (hnb : b ≠ .pointer none) (h0 : 0 < y) (hc : Nat.gcd z.natAbs y.natAbs = 1) :
    Calls Tryz.prog 127 #[a, b] w fun e w' => ∃ u, e = .returned u ∧ (IsR w' u ((z : Rat) / (y : Rat)) ∧ u ≠ .pointer none) ∧ Below w.heap.size w w' := by
  have H_a := Lib.hid ha
  have H_b := Lib.hid hb
  clear ha hb
  have N_a := Lib.hid hna
  have N_b := Lib.hid hnb
  clear hna hnb
  have c1 := fun (W : World) (v0 : Value) (hh0 : num.IsZ W v0 y)  => num.Sign_any v0 y W hh0
  rw [show sg y = 1 by unfold sg cmp3; rw [if_neg (by omega), if_pos h0]] at c1
  have C1 := Lib.hid c1
  clear c1
  have c2 := fun (W : World) (v0 : Value) (v1 : Value) (hh0 : num.IsZ W v0 z) (hh1 : num.IsZ W v1 y) (n0 : v0 ≠ .pointer none) (n1 : v1 ≠ .pointer none) => own_at ((z : Rat) / (y : Rat)) v0 v1 z y W hh0 n0 hh1 n1 (by rw [(up_val (by omega) hc).1]; unfold upN; rw [if_neg (by omega)]) (by rw [(up_val (by omega) hc).2]; omega)
  have C2 := Lib.hid c2
  clear c2
  go_enter Tryz.func127, Tryz.ntmps127
  go_wp2_with (first
    | (go_at_call 126; (with_reducible refine (C1.out _ _ H_b.out).mono ?_); rintro e w9 ⟨rfl, rfl⟩
       clear C1)
    | (go_at_call 114; (with_reducible refine (C2.out _ _ _ H_a.out H_b.out N_a.out N_b.out).mono ?_); rintro e W1 ⟨u, rfl, ⟨h_u, n_u⟩, hb⟩
       have H_u := Lib.hid h_u
       have N_u := Lib.hid n_u
       have HB1 := Lib.hid hb
       clear h_u n_u hb C2)
    | (fail "no arm"))
  go_ret
  exact ⟨_, rfl, ⟨H_u.out, N_u.out⟩, HB1.out⟩
theorem upright_any (a b : Value) (z y : Int) (w : World) (ha : IsZ w a z) (hna : a ≠ .pointer none) (hb : IsZ w b y) (hnb : b ≠ .pointer none) (h0 : y ≠ 0) (hc : Nat.gcd z.natAbs y.natAbs = 1) :
    Calls Tryz.prog 127 #[a, b] w fun e w' => ∃ u, e = .returned u ∧ (IsR w' u ((z : Rat) / (y : Rat)) ∧ u ≠ .pointer none) ∧ Below w.heap.size w w' := by
  rcases Int.lt_or_gt_of_ne h0 with h | h
  · exact upright_below a b z y w ha hna hb hnb h hc
  · exact upright_above a b z y w ha hna hb hnb h hc
theorem gcd_parts {z y : Int} (h0 : y ≠ 0) : 0 < Nat.gcd z.natAbs y.natAbs := Nat.gcd_pos_of_pos_right _ (by omega)
theorem parts_cop {z y : Int} (h0 : y ≠ 0) : Nat.gcd (Int.fdiv z ((Nat.gcd z.natAbs y.natAbs : Nat) : Int)).natAbs (Int.fdiv y ((Nat.gcd z.natAbs y.natAbs : Nat) : Int)).natAbs = 1 := by
  have hg := gcd_parts (z := z) h0
  rw [fdiv_abs (by omega) (gcd_divides_l z y), fdiv_abs (by omega) (gcd_divides_r z y), Int.natAbs_natCast]
  exact Nat.coprime_div_gcd_div_gcd hg
theorem parts_ne {z y : Int} (h0 : y ≠ 0) : Int.fdiv y ((Nat.gcd z.natAbs y.natAbs : Nat) : Int) ≠ 0 := by
  have hg := gcd_parts (z := z) h0
  obtain ⟨k, hk⟩ := gcd_divides_r z y
  generalize ((Nat.gcd z.natAbs y.natAbs : Nat) : Int) = g at *
  intro h
  have hg0 : g ≠ 0 := fun e => h0 (by rw [hk, e]; simp)
  rw [hk, Int.mul_fdiv_cancel_left _ hg0] at h
  exact h0 (by rw [hk, h]; simp)
theorem parts_val {z y : Int} (h0 : y ≠ 0) : ((Int.fdiv z ((Nat.gcd z.natAbs y.natAbs : Nat) : Int) : Int) : Rat) / ((Int.fdiv y ((Nat.gcd z.natAbs y.natAbs : Nat) : Int) : Int) : Rat) = (z : Rat) / (y : Rat) := by
  have hg := gcd_parts (z := z) h0
  have hg0 : ((Nat.gcd z.natAbs y.natAbs : Nat) : Int) ≠ 0 := by omega
  rw [fdiv_exact hg0 (gcd_divides_l z y), fdiv_exact hg0 (gcd_divides_r z y)]
  have h1 := cast_nez hg0
  have h2 := cast_nez h0
  generalize (((Nat.gcd z.natAbs y.natAbs : Nat) : Int) : Rat) = g at *
  grind
set_option maxRecDepth 100000 in
set_option maxHeartbeats 4000000 in
theorem New_ok (a b : Value) (z y : Int) (w : World) (ha : IsZ w a z) (hb : IsZ w b y) (sz : Lz z 300000) (sy : Lz y 300000) (h0 : y ≠ 0) :
    Calls Tryz.prog 97 #[a, b] w fun e w' => ∃ u, e = .returned (.tuple #[u, .nilIface]) ∧ (IsR w' u ((z : Rat) / (y : Rat)) ∧ u ≠ .pointer none) ∧ Below w.heap.size w w' := by
  have H_a := Lib.hid ha
  have H_b := Lib.hid hb
  clear ha hb
  have c1 := fun (W : World) (v0 : Value) (hh0 : num.IsZ W v0 y)  => num.Sign_any v0 y W hh0
  have hsg : (sg y == 0) = false := by unfold sg cmp3; simp; (repeat' split) <;> omega
  have C1 := Lib.hid c1
  clear c1
  have c2 := fun (W : World) (v0 : Value) (v1 : Value) (hh0 : num.IsZ W v0 z) (hh1 : num.IsZ W v1 y)  => divisor_any v0 v1 z y W hh0 hh1 (sz.le (by decide)) (sy.le (by decide))
  have C2 := Lib.hid c2
  clear c2
  have c3 := fun (W : World) (v0 : Value) (v1 : Value) (hh0 : num.IsZ W v0 z) (hh1 : num.IsZ W v1 (((Nat.gcd (Int.natAbs z) (Int.natAbs y)) : Nat) : Int))  => part_any v0 v1 z (((Nat.gcd (Int.natAbs z) (Int.natAbs y)) : Nat) : Int) W hh0 hh1 (sz.le (by decide)) ((Lz_nat (Ln_gcd (Ln_abs sz) (Ln_abs sy))).le (by decide)) (by have := gcd_parts (z := z) h0; omega)
  have C3 := Lib.hid c3
  clear c3
  have c4 := fun (W : World) (v0 : Value) (v1 : Value) (hh0 : num.IsZ W v0 y) (hh1 : num.IsZ W v1 (((Nat.gcd (Int.natAbs z) (Int.natAbs y)) : Nat) : Int))  => part_any v0 v1 y (((Nat.gcd (Int.natAbs z) (Int.natAbs y)) : Nat) : Int) W hh0 hh1 (sy.le (by decide)) ((Lz_nat (Ln_gcd (Ln_abs sz) (Ln_abs sy))).le (by decide)) (by have := gcd_parts (z := z) h0; omega)
  have C4 := Lib.hid c4
  clear c4
  have c5 := fun (W : World) (v0 : Value) (v1 : Value) (hh0 : num.IsZ W v0 (Int.fdiv z (((Nat.gcd (Int.natAbs z) (Int.natAbs y)) : Nat) : Int))) (hh1 : num.IsZ W v1 (Int.fdiv y (((Nat.gcd (Int.natAbs z) (Int.natAbs y)) : Nat) : Int))) (n0 : v0 ≠ .pointer none) (n1 : v1 ≠ .pointer none) => upright_any v0 v1 (Int.fdiv z (((Nat.gcd (Int.natAbs z) (Int.natAbs y)) : Nat) : Int)) (Int.fdiv y (((Nat.gcd (Int.natAbs z) (Int.natAbs y)) : Nat) : Int)) W hh0 n0 hh1 n1 (parts_ne h0) (parts_cop h0)
  rw [parts_val h0] at c5
  have C5 := Lib.hid c5
  clear c5
  go_enter Tryz.func97, Tryz.ntmps97
  go_wp2_with (first
    | (go_at_call 126; (with_reducible refine (C1.out _ _ H_b.out).mono ?_); rintro e w9 ⟨rfl, rfl⟩
       clear C1)
    | (go_at_call 111; (with_reducible refine (C2.out _ _ _ H_a.out H_b.out).mono ?_); rintro e W1 ⟨g, rfl, ⟨h_g, n_g⟩, hb⟩
       have H_g := Lib.hid h_g
       have N_g := Lib.hid n_g
       have HB1 := Lib.hid hb
       clear h_g n_g hb C2)
    | (go_at_call 112; (with_reducible refine (C3.out _ _ _ (H_a.out.below HB1.out) H_g.out).mono ?_); rintro e W2 ⟨p, rfl, ⟨h_p, n_p⟩, hb⟩
       have H_p := Lib.hid h_p
       have N_p := Lib.hid n_p
       have HB2 := Lib.hid hb
       clear h_p n_p hb C3)
    | (go_at_call 112; (with_reducible refine (C4.out _ _ _ ((H_b.out.below HB1.out).below HB2.out) (H_g.out.below HB2.out)).mono ?_); rintro e W3 ⟨q, rfl, ⟨h_q, n_q⟩, hb⟩
       have H_q := Lib.hid h_q
       have N_q := Lib.hid n_q
       have HB3 := Lib.hid hb
       clear h_q n_q hb C4)
    | (go_at_call 127; (with_reducible refine (C5.out _ _ _ (H_p.out.below HB3.out) H_q.out N_p.out N_q.out).mono ?_); rintro e W4 ⟨u, rfl, ⟨h_u, n_u⟩, hb⟩
       have H_u := Lib.hid h_u
       have N_u := Lib.hid n_u
       have HB4 := Lib.hid hb
       clear h_u n_u hb C5)
    | (fail "no arm"))
  go_ret2
  exact ⟨_, rfl, ⟨H_u.out, N_u.out⟩, (nat.below_tr (nat.below_tr (nat.below_tr HB1.out HB2.out) HB3.out) HB4.out)⟩
set_option maxRecDepth 100000 in
set_option maxHeartbeats 4000000 in
theorem Of_ok (z y : Int) (w : World) (k1 : -9223372036854775808 ≤ z) (k2 : z < 9223372036854775808) (k3 : -9223372036854775808 ≤ y) (k4 : y < 9223372036854775808) (h0 : y ≠ 0) :
    Calls Tryz.prog 145 #[.int .i64 z, .int .i64 y] w fun e w' => ∃ u, e = .returned (.tuple #[u, .nilIface]) ∧ (IsR w' u ((z : Rat) / (y : Rat)) ∧ u ≠ .pointer none) ∧ Below w.heap.size w w' := by
  have c1 := fun (W : World)    => num.Of_any z W k1 k2
  have C1 := Lib.hid c1
  clear c1
  have c2 := fun (W : World)    => num.Of_any y W k3 k4
  have C2 := Lib.hid c2
  clear c2
  have c3 := fun (W : World) (v0 : Value) (v1 : Value) (hh0 : num.IsZ W v0 z) (hh1 : num.IsZ W v1 y)  => New_ok v0 v1 z y W hh0 hh1 ((Lz_small (by omega)).le (by decide)) ((Lz_small (by omega)).le (by decide)) h0
  have C3 := Lib.hid c3
  clear c3
  go_enter Tryz.func145, Tryz.ntmps145
  go_wp2_with (first
    | (go_at_call 103; (with_reducible refine (C1.out _ ).mono ?_); rintro e W1 ⟨a, rfl, ⟨h_a, n_a⟩, hb⟩
       have H_a := Lib.hid h_a
       have N_a := Lib.hid n_a
       have HB1 := Lib.hid hb
       clear h_a n_a hb C1)
    | (go_at_call 103; (with_reducible refine (C2.out _ ).mono ?_); rintro e W2 ⟨b, rfl, ⟨h_b, n_b⟩, hb⟩
       have H_b := Lib.hid h_b
       have N_b := Lib.hid n_b
       have HB2 := Lib.hid hb
       clear h_b n_b hb C2)
    | (go_at_call 97; (with_reducible refine (C3.out _ _ _ (H_a.out.below HB2.out) H_b.out).mono ?_); rintro e W3 ⟨u, rfl, ⟨h_u, n_u⟩, hb⟩
       have H_u := Lib.hid h_u
       have N_u := Lib.hid n_u
       have HB3 := Lib.hid hb
       clear h_u n_u hb C3)
    | (fail "no arm"))
  go_ret2
  exact ⟨_, rfl, ⟨H_u.out, N_u.out⟩, (nat.below_tr (nat.below_tr HB1.out HB2.out) HB3.out)⟩
end Go.Proofs.YtlhmfgbaefaneaaGreatDoor.rat
namespace Go.Proofs.YtlhmfgbaefaneaaGreatDoor.rat
open Go.RowKit Go.Proofs.YtlhmfgbaefaneaaGreatDoor.nat Go.Proofs.YtlhmfgbaefaneaaGreatDoor.num
def Lr (q : Rat) (n : Nat) : Prop := Lz q.num n ∧ Ln q.den n
theorem Lr.le {q : Rat} {n m : Nat} (h : Lr q n) (hm : n ≤ m) : Lr q m := ⟨h.1.le hm, h.2.le hm⟩
end Go.Proofs.YtlhmfgbaefaneaaGreatDoor.rat
namespace Go.Proofs.YtlhmfgbaefaneaaGreatDoor.rat
open Go.RowKit Go.Proofs.YtlhmfgbaefaneaaGreatDoor.nat Go.Proofs.YtlhmfgbaefaneaaGreatDoor.num
open Go.Proofs.YtlhmfgbaefaneaaGreatDoor.ref (str str_size str_append)
def cmpR (p q : Rat) : Int := if p < q then -1 else if q < p then 1 else 0
theorem cmp3_den (p q : Rat) : cmp3 (p.num * (q.den : Int)) (q.num * (p.den : Int)) = cmpR p q := by
  unfold cmp3 cmpR
  simp only [Rat.lt_iff]
def rtxt (q : Rat) : List UInt8 := Lib.itoa q.num ++ (if q.den = 1 then [] else 47 :: Lib.decDigits q.den)
theorem itoa_nat (x : Nat) : Lib.itoa (x : Int) = Lib.decDigits x := by
  unfold Lib.itoa
  rw [if_neg (by omega)]
  simp
set_option maxRecDepth 100000 in
set_option maxHeartbeats 4000000 in
theorem Cmp_any (a b : Value) (p q : Rat) (w : World) (ha : IsR w a p) (hb : IsR w b q) (sp : Lr p 20000) (sq : Lr q 20000) :
    Calls Tryz.prog 65 #[a, b] w fun e w' => e = .returned (.int .i64 (cmpR p q)) ∧ Below w.heap.size w w' := by
  have H_a := Lib.hid ha
  have H_b := Lib.hid hb
  clear ha hb
  have c1 := fun (W : World) (v0 : Value) (hh0 : rat.IsR W v0 p)  => rat.Num_any v0 p W hh0
  have C1 := Lib.hid c1
  clear c1
  have c2 := fun (W : World) (v0 : Value) (hh0 : rat.IsR W v0 q)  => rat.Den_any v0 q W hh0
  have C2 := Lib.hid c2
  clear c2
  have c3 := fun (W : World) (v0 : Value) (v1 : Value) (hh0 : num.IsZ W v0 p.num) (hh1 : num.IsZ W v1 ((q.den : Nat) : Int))  => num.Mul_any v0 v1 p.num ((q.den : Nat) : Int) W hh0 hh1 (sp.1.le (by decide)) ((Lz_nat sq.2).le (by decide))
  have C3 := Lib.hid c3
  clear c3
  have c4 := fun (W : World) (v0 : Value) (hh0 : rat.IsR W v0 q)  => rat.Num_any v0 q W hh0
  have C4 := Lib.hid c4
  clear c4
  have c5 := fun (W : World) (v0 : Value) (hh0 : rat.IsR W v0 p)  => rat.Den_any v0 p W hh0
  have C5 := Lib.hid c5
  clear c5
  have c6 := fun (W : World) (v0 : Value) (v1 : Value) (hh0 : num.IsZ W v0 q.num) (hh1 : num.IsZ W v1 ((p.den : Nat) : Int))  => num.Mul_any v0 v1 q.num ((p.den : Nat) : Int) W hh0 hh1 (sq.1.le (by decide)) ((Lz_nat sp.2).le (by decide))
  have C6 := Lib.hid c6
  clear c6
  have c7 := fun (W : World) (v0 : Value) (v1 : Value) (hh0 : num.IsZ W v0 (p.num * ((q.den : Nat) : Int))) (hh1 : num.IsZ W v1 (q.num * ((p.den : Nat) : Int)))  => num.Cmp_b v0 v1 (p.num * ((q.den : Nat) : Int)) (q.num * ((p.den : Nat) : Int)) W hh0 hh1 ((Lz_mul sp.1 (Lz_nat sq.2)).le (by decide)) ((Lz_mul sq.1 (Lz_nat sp.2)).le (by decide))
  rw [cmp3_den] at c7
  have C7 := Lib.hid c7
  clear c7
  go_enter Tryz.func65, Tryz.ntmps65
  go_wp2_with (first
    | (go_at_call 104; (with_reducible refine (C1.out _ _ H_a.out).mono ?_); rintro e W1 ⟨x1, rfl, ⟨h_x1, n_x1⟩, hb⟩
       have H_x1 := Lib.hid h_x1
       have N_x1 := Lib.hid n_x1
       have HB1 := Lib.hid hb
       clear h_x1 n_x1 hb C1)
    | (go_at_call 101; (with_reducible refine (C2.out _ _ (H_b.out.below HB1.out)).mono ?_); rintro e W2 ⟨x2, rfl, ⟨h_x2, n_x2⟩, hb⟩
       have H_x2 := Lib.hid h_x2
       have N_x2 := Lib.hid n_x2
       have HB2 := Lib.hid hb
       clear h_x2 n_x2 hb C2)
    | (go_at_call 98; (with_reducible refine (C3.out _ _ _ (H_x1.out.below HB2.out) H_x2.out).mono ?_); rintro e W3 ⟨x3, rfl, ⟨h_x3, n_x3⟩, hb⟩
       have H_x3 := Lib.hid h_x3
       have N_x3 := Lib.hid n_x3
       have HB3 := Lib.hid hb
       clear h_x3 n_x3 hb C3)
    | (go_at_call 104; (with_reducible refine (C4.out _ _ (((H_b.out.below HB1.out).below HB2.out).below HB3.out)).mono ?_); rintro e W4 ⟨x4, rfl, ⟨h_x4, n_x4⟩, hb⟩
       have H_x4 := Lib.hid h_x4
       have N_x4 := Lib.hid n_x4
       have HB4 := Lib.hid hb
       clear h_x4 n_x4 hb C4)
    | (go_at_call 101; (with_reducible refine (C5.out _ _ ((((H_a.out.below HB1.out).below HB2.out).below HB3.out).below HB4.out)).mono ?_); rintro e W5 ⟨x5, rfl, ⟨h_x5, n_x5⟩, hb⟩
       have H_x5 := Lib.hid h_x5
       have N_x5 := Lib.hid n_x5
       have HB5 := Lib.hid hb
       clear h_x5 n_x5 hb C5)
    | (go_at_call 98; (with_reducible refine (C6.out _ _ _ (H_x4.out.below HB5.out) H_x5.out).mono ?_); rintro e W6 ⟨x6, rfl, ⟨h_x6, n_x6⟩, hb⟩
       have H_x6 := Lib.hid h_x6
       have N_x6 := Lib.hid n_x6
       have HB6 := Lib.hid hb
       clear h_x6 n_x6 hb C6)
    | (go_at_call 102; (with_reducible refine (C7.out _ _ _ (((H_x3.out.below HB4.out).below HB5.out).below HB6.out) H_x6.out).mono ?_); rintro e W7 ⟨rfl, hb⟩
       have HB7 := Lib.hid hb
       clear hb C7)
    | (fail "no arm"))
  go_ret
  exact ⟨rfl, (nat.below_tr (nat.below_tr (nat.below_tr (nat.below_tr (nat.below_tr (nat.below_tr HB1.out HB2.out) HB3.out) HB4.out) HB5.out) HB6.out) HB7.out)⟩
theorem itoa_size {z : Int} {m : Nat} (h : Lz z m) : (str (Lib.itoa z)).size ≤ 20 * m + 2 := by
  have := dec_size h
  rw [str_size] at this ⊢
  unfold Lib.itoa
  split
  · rw [List.length_cons]; omega
  · have e : z.toNat = z.natAbs := by omega
    rw [e]; omega
set_option maxRecDepth 100000 in
set_option maxHeartbeats 4000000 in
theorem Text_whole (a : Value) (q : Rat) (w : World) (ha : IsR w a q) (sq : Lr q 20000) (h1 : q.den = 1) :
    Calls Tryz.prog 62 #[a] w fun e w' => e = .returned (.string (str (rtxt q))) ∧ Below w.heap.size w w' := by
  have H_a := Lib.hid ha
  clear ha
  have hr : rtxt q = Lib.itoa q.num := by unfold rtxt; rw [if_pos h1, List.append_nil]
  rw [hr]
  have c1 := fun (W : World) (v0 : Value) (hh0 : rat.IsR W v0 q)  => rat.Den_any v0 q W hh0
  have C1 := Lib.hid c1
  clear c1
  have c2 := fun (W : World)    => num.Of_any 1 W (by decide) (by decide)
  have C2 := Lib.hid c2
  clear c2
  have c3 := fun (W : World) (v0 : Value) (v1 : Value) (hh0 : num.IsZ W v0 ((q.den : Nat) : Int)) (hh1 : num.IsZ W v1 (1 : Int))  => num.Cmp_b v0 v1 ((q.den : Nat) : Int) (1 : Int) W hh0 hh1 ((Lz_nat sq.2).le (by decide)) ((Lz_small (by decide)).le (by decide))
  rw [show cmp3 ((q.den : Nat) : Int) (1 : Int) = 0 by have := q.den_pos; unfold cmp3; (repeat' split) <;> omega] at c3
  have C3 := Lib.hid c3
  clear c3
  have c4 := fun (W : World) (v0 : Value) (hh0 : rat.IsR W v0 q)  => rat.Num_any v0 q W hh0
  have C4 := Lib.hid c4
  clear c4
  have c5 := fun (W : World) (v0 : Value) (hh0 : num.IsZ W v0 q.num)  => num.Text_any v0 q.num W hh0 (sq.1.le (by decide))
  have C5 := Lib.hid c5
  clear c5
  go_enter Tryz.func62, Tryz.ntmps62
  go_wp2_with (first
    | (go_at_call 101; (with_reducible refine (C1.out _ _ H_a.out).mono ?_); rintro e W1 ⟨d, rfl, ⟨h_d, n_d⟩, hb⟩
       have H_d := Lib.hid h_d
       have N_d := Lib.hid n_d
       have HB1 := Lib.hid hb
       clear h_d n_d hb C1)
    | (go_at_call 103; (with_reducible refine (C2.out _ ).mono ?_); rintro e W2 ⟨o, rfl, ⟨h_o, n_o⟩, hb⟩
       have H_o := Lib.hid h_o
       have N_o := Lib.hid n_o
       have HB2 := Lib.hid hb
       clear h_o n_o hb C2)
    | (go_at_call 102; (with_reducible refine (C3.out _ _ _ (H_d.out.below HB2.out) H_o.out).mono ?_); rintro e W3 ⟨rfl, hb⟩
       have HB3 := Lib.hid hb
       clear hb C3)
    | (go_at_call 104; (with_reducible refine (C4.out _ _ (((H_a.out.below HB1.out).below HB2.out).below HB3.out)).mono ?_); rintro e W4 ⟨n, rfl, ⟨h_n, n_n⟩, hb⟩
       have H_n := Lib.hid h_n
       have N_n := Lib.hid n_n
       have HB4 := Lib.hid hb
       clear h_n n_n hb C4)
    | (go_at_call 105; (with_reducible refine (C5.out _ _ H_n.out).mono ?_); rintro e W5 ⟨rfl, hb⟩
       have HB5 := Lib.hid hb
       clear hb C5)
    | (fail "no arm"))
  go_ret
  exact ⟨rfl, (nat.below_tr (nat.below_tr (nat.below_tr (nat.below_tr HB1.out HB2.out) HB3.out) HB4.out) HB5.out)⟩
set_option maxRecDepth 100000 in
set_option maxHeartbeats 4000000 in
theorem Text_parts (a : Value) (q : Rat) (w : World) (ha : IsR w a q) (sq : Lr q 20000) (h1 : ¬ q.den = 1) :
    Calls Tryz.prog 62 #[a] w fun e w' => e = .returned (.string (str (rtxt q))) ∧ Below w.heap.size w w' := by
  have H_a := Lib.hid ha
  clear ha
  have hr : str (rtxt q) = str (Lib.itoa q.num) ++ str [47] ++ str (Lib.decDigits q.den) := by unfold rtxt; rw [if_neg h1, str_append, str_append, List.append_assoc]; rfl
  rw [hr]
  have z1 := itoa_size sq.1
  have z2 := itoa_size (Lz_nat sq.2)
  rw [itoa_nat] at z2
  have c1 := fun (W : World) (v0 : Value) (hh0 : rat.IsR W v0 q)  => rat.Den_any v0 q W hh0
  have C1 := Lib.hid c1
  clear c1
  have c2 := fun (W : World)    => num.Of_any 1 W (by decide) (by decide)
  have C2 := Lib.hid c2
  clear c2
  have c3 := fun (W : World) (v0 : Value) (v1 : Value) (hh0 : num.IsZ W v0 ((q.den : Nat) : Int)) (hh1 : num.IsZ W v1 (1 : Int))  => num.Cmp_b v0 v1 ((q.den : Nat) : Int) (1 : Int) W hh0 hh1 ((Lz_nat sq.2).le (by decide)) ((Lz_small (by decide)).le (by decide))
  rw [show cmp3 ((q.den : Nat) : Int) (1 : Int) = 1 by have := q.den_pos; unfold cmp3; (repeat' split) <;> omega] at c3
  have C3 := Lib.hid c3
  clear c3
  have c4 := fun (W : World) (v0 : Value) (hh0 : rat.IsR W v0 q)  => rat.Num_any v0 q W hh0
  have C4 := Lib.hid c4
  clear c4
  have c5 := fun (W : World) (v0 : Value) (hh0 : num.IsZ W v0 q.num)  => num.Text_any v0 q.num W hh0 (sq.1.le (by decide))
  have C5 := Lib.hid c5
  clear c5
  have c6 := fun (W : World) (v0 : Value) (hh0 : rat.IsR W v0 q)  => rat.Den_any v0 q W hh0
  have C6 := Lib.hid c6
  clear c6
  have c7 := fun (W : World) (v0 : Value) (hh0 : num.IsZ W v0 ((q.den : Nat) : Int))  => num.Text_any v0 ((q.den : Nat) : Int) W hh0 ((Lz_nat sq.2).le (by decide))
  rw [itoa_nat] at c7
  have C7 := Lib.hid c7
  clear c7
  generalize str (Lib.itoa q.num) = s1 at *
  generalize str (Lib.decDigits q.den) = s2 at *
  have h47 : ({ data := #[47] } : ByteArray) = str [47] := rfl
  have hk : (str [47]).size = 1 := rfl
  have hs1 : ¬ 9223372036854775807 < s1.size + ({ data := #[47] } : ByteArray).size := by rw [h47]; omega
  have hs2 : ¬ 9223372036854775807 < (s1 ++ ({ data := #[47] } : ByteArray)).size + s2.size := by rw [h47, ByteArray.size_append]; omega
  go_enter Tryz.func62, Tryz.ntmps62
  go_wp2_with (first
    | (go_at_call 101; (with_reducible refine (C1.out _ _ H_a.out).mono ?_); rintro e W1 ⟨d, rfl, ⟨h_d, n_d⟩, hb⟩
       have H_d := Lib.hid h_d
       have N_d := Lib.hid n_d
       have HB1 := Lib.hid hb
       clear h_d n_d hb C1)
    | (go_at_call 103; (with_reducible refine (C2.out _ ).mono ?_); rintro e W2 ⟨o, rfl, ⟨h_o, n_o⟩, hb⟩
       have H_o := Lib.hid h_o
       have N_o := Lib.hid n_o
       have HB2 := Lib.hid hb
       clear h_o n_o hb C2)
    | (go_at_call 102; (with_reducible refine (C3.out _ _ _ (H_d.out.below HB2.out) H_o.out).mono ?_); rintro e W3 ⟨rfl, hb⟩
       have HB3 := Lib.hid hb
       clear hb C3)
    | (go_at_call 104; (with_reducible refine (C4.out _ _ (((H_a.out.below HB1.out).below HB2.out).below HB3.out)).mono ?_); rintro e W4 ⟨n, rfl, ⟨h_n, n_n⟩, hb⟩
       have H_n := Lib.hid h_n
       have N_n := Lib.hid n_n
       have HB4 := Lib.hid hb
       clear h_n n_n hb C4)
    | (go_at_call 105; (with_reducible refine (C5.out _ _ H_n.out).mono ?_); rintro e W5 ⟨rfl, hb⟩
       have HB5 := Lib.hid hb
       clear hb C5)
    | (go_at_call 101; (with_reducible refine (C6.out _ _ (((((H_a.out.below HB1.out).below HB2.out).below HB3.out).below HB4.out).below HB5.out)).mono ?_); rintro e W6 ⟨d2, rfl, ⟨h_d2, n_d2⟩, hb⟩
       have H_d2 := Lib.hid h_d2
       have N_d2 := Lib.hid n_d2
       have HB6 := Lib.hid hb
       clear h_d2 n_d2 hb C6)
    | (go_at_call 105; (with_reducible refine (C7.out _ _ H_d2.out).mono ?_); rintro e W7 ⟨rfl, hb⟩
       have HB7 := Lib.hid hb
       clear hb C7)
    | (fail "no arm"))
  go_ret
  exact ⟨rfl, (nat.below_tr (nat.below_tr (nat.below_tr (nat.below_tr (nat.below_tr (nat.below_tr HB1.out HB2.out) HB3.out) HB4.out) HB5.out) HB6.out) HB7.out)⟩
theorem Text_any (a : Value) (q : Rat) (w : World) (ha : IsR w a q) (sq : Lr q 20000) :
    Calls Tryz.prog 62 #[a] w fun e w' => e = .returned (.string (str (rtxt q))) ∧ Below w.heap.size w w' := by
  by_cases h : q.den = 1
  · exact Text_whole a q w ha sq h
  · exact Text_parts a q w ha sq h
end Go.Proofs.YtlhmfgbaefaneaaGreatDoor.rat
namespace Go.Proofs.YtlhmfgbaefaneaaGreatDoor.ref
def RatForm (l : List UInt8) (z : Int) (d : Nat) : Prop := (IntText l z ∧ d = 1) ∨ ∃ a b, l = a ++ 47 :: b ∧ IntText a z ∧ Numeral b ∧ d = seg b 0 b.length ∧ 0 < d
theorem numeral_mem {l : List UInt8} (h : Numeral l) {c : UInt8} (hc : c ∈ l) : 48 ≤ c.toNat ∧ c.toNat ≤ 57 := by
  obtain ⟨i, hi, rfl⟩ := List.mem_iff_getElem.1 hc
  have := h.2.2.2 i hi
  unfold IsDig ch at this
  rw [List.getD_eq_getElem?_getD, List.getElem?_eq_getElem hi] at this
  exact this
theorem IntText.mem {l : List UInt8} {z : Int} (h : IntText l z) {c : UInt8} (hc : c ∈ l) : c ≠ 47 := by
  rintro rfl
  rcases h with ⟨h, _⟩ | ⟨t, rfl, h, _⟩
  · have := numeral_mem h hc
    simp at this
  · rcases List.mem_cons.1 hc with h1 | h1
    · simp at h1
    · have := numeral_mem h h1
      simp at this
theorem RatForm.whole {l : List UInt8} {z : Int} {d : Nat} (h : RatForm l z d) (hn : ∀ c ∈ l, c ≠ 47) : IntText l z ∧ d = 1 := by
  rcases h with h | ⟨a, b, rfl, _⟩
  · exact h
  · exact absurd rfl (hn 47 (by simp))
theorem RatForm.parts {a b : List UInt8} {z : Int} {d : Nat} (h : RatForm (a ++ 47 :: b) z d) (hn : ∀ c ∈ a, c ≠ 47) : IntText a z ∧ Numeral b ∧ d = seg b 0 b.length ∧ 0 < d := by
  rcases h with ⟨h, -⟩ | ⟨a', b', he, h1, h2, h3, h4⟩
  · exact absurd rfl (h.mem (c := 47) (by simp))
  · have : a = a' ∧ b = b' := by
      clear h2 h3 h4
      have hn' : ∀ c ∈ a', c ≠ 47 := fun c hc => h1.mem hc
      clear h1
      induction a generalizing a' with
      | nil =>
        rcases a' with _ | ⟨c, a'⟩
        · simp at he; exact ⟨rfl, he⟩
        · simp at he
          exact absurd he.1.symm (hn' c (by simp))
      | cons x a ih =>
        rcases a' with _ | ⟨c, a'⟩
        · simp at he
          exact absurd he.1 (hn x (by simp))
        · simp at he
          obtain ⟨rfl, he⟩ := he
          obtain ⟨rfl, rfl⟩ := ih (fun c hc => hn c (by simp [hc])) a' he (fun c hc => hn' c (by simp [hc]))
          exact ⟨rfl, rfl⟩
    obtain ⟨rfl, rfl⟩ := this
    exact ⟨h1, h2, h3, h4⟩
theorem RatForm.inj {l : List UInt8} {z z' : Int} {d d' : Nat} (h : RatForm l z d) (h' : RatForm l z' d') : z = z' ∧ d = d' := by
  rcases h with ⟨h, rfl⟩ | ⟨a, b, rfl, h1, h2, rfl, h4⟩
  · obtain ⟨k, rfl⟩ := h'.whole fun c hc => h.mem hc
    exact ⟨h.inj k, rfl⟩
  · obtain ⟨k1, k2, k3, k4⟩ := h'.parts fun c hc => h1.mem hc
    exact ⟨h1.inj k1, k3.symm⟩
end Go.Proofs.YtlhmfgbaefaneaaGreatDoor.ref
namespace Go.Proofs.YtlhmfgbaefaneaaGreatDoor.ref
open Go.RowKit
def MadeQ (V w3 : World) : Prop := Below (V.alloc (.cells #[Value.bool false, .slice none 0 0, .slice none 0 0] 83)).heap.size (V.alloc (.cells #[Value.bool false, .slice none 0 0, .slice none 0 0] 83)) w3
theorem MadeQ.cells {V w3 : World} (h : MadeQ V w3) : w3.cell? ⟨V.heap.size, 0, none⟩ = some (.bool false) ∧ w3.cell? ⟨V.heap.size, 1, none⟩ = some (.slice none 0 0) ∧ w3.cell? ⟨V.heap.size, 2, none⟩ = some (.slice none 0 0) ∧ w3.frozen? ⟨V.heap.size, 0, none⟩ = false ∧ w3.frozen? ⟨V.heap.size, 1, none⟩ = false ∧ w3.frozen? ⟨V.heap.size, 2, none⟩ = false :=
  row3 ((Below.block h V.heap.size (by simp)).trans (heap_alloc_new V _))
theorem IsQ.of {w : World} {s t : Value} {z : Int} {d : Nat} {p : Bool} (hp : decide (z < 0) = p) (hs : IsN w s z.natAbs) (ht : IsN w t d) : IsQ w (.agg #[.bool p, s, t]) z d := ⟨s, t, by rw [hp], hs, ht⟩
end Go.Proofs.YtlhmfgbaefaneaaGreatDoor.ref
namespace Go.Proofs.YtlhmfgbaefaneaaGreatDoor.rat
open Go.RowKit Go.Proofs.YtlhmfgbaefaneaaGreatDoor.nat Go.Proofs.YtlhmfgbaefaneaaGreatDoor.num
open Go.Proofs.YtlhmfgbaefaneaaGreatDoor.ref (str str_size IntText Numeral seg seg_lt)
theorem Ln_tens {x n m : Nat} (h : x < 10 ^ n) (hn : n ≤ m) : Ln x m :=
  Ln_pow (Nat.lt_of_lt_of_le h (Nat.le_trans (Nat.pow_le_pow_right (by omega) hn) (Nat.pow_le_pow_left (by omega) _)))
def FracText (l : List UInt8) (q : Rat) : Prop := (IntText l q.num ∧ q.den = 1) ∨ ∃ a b, l = a ++ 47 :: b ∧ IntText a q.num ∧ IntText b (q.den : Int) ∧ 1 < q.den
end Go.Proofs.YtlhmfgbaefaneaaGreatDoor.rat
namespace Go.Proofs.YtlhmfgbaefaneaaGreatDoor.ref
open Go.RowKit
theorem MadeQ.row {V w3 : World} (h : MadeQ V w3) : w3.heap[V.heap.size]? = some (.cells #[.bool false, .slice none 0 0, .slice none 0 0] 83 (0, 0)) :=
  (Below.block h V.heap.size (by simp)).trans (heap_alloc_new V _)
end Go.Proofs.YtlhmfgbaefaneaaGreatDoor.ref
namespace Go.Proofs.YtlhmfgbaefaneaaGreatDoor.rat
open Go.Proofs.YtlhmfgbaefaneaaGreatDoor.ref (str IntText Numeral seg seg_lt lowN lowD ratText RatForm signed)
theorem low_ends {z : Int} {d : Nat} (hd : 0 < d) : ((z : Rat) / (d : Rat)).num = lowN z d ∧ ((z : Rat) / (d : Rat)).den = lowD z d := by
  have hg : 0 < Nat.gcd z.natAbs d := Nat.gcd_pos_of_pos_right _ hd
  obtain ⟨D, hD⟩ := Nat.gcd_dvd_right z.natAbs d
  obtain ⟨Z, hZ⟩ : ((Nat.gcd z.natAbs d : Nat) : Int) ∣ z := by rw [← Int.dvd_natAbs, Int.ofNat_dvd]; exact Nat.gcd_dvd_left _ _
  have hc : Nat.gcd (z.natAbs / Nat.gcd z.natAbs d) (d / Nat.gcd z.natAbs d) = 1 := Nat.coprime_div_gcd_div_gcd hg
  have hN : (lowN z d).natAbs = z.natAbs / Nat.gcd z.natAbs d := ref.lowN_abs z d
  have hNZ : lowN z d = Z := by
    have h1 : z.natAbs / Nat.gcd z.natAbs d = Z.natAbs := by
      have : z.natAbs = Nat.gcd z.natAbs d * Z.natAbs := by
        conv => lhs; rw [hZ]
        rw [Int.natAbs_mul, Int.natAbs_natCast]
      rw [Nat.div_eq_of_eq_mul_right hg this]
    unfold lowN
    rw [h1]
    unfold signed
    have hsg : z < 0 ↔ Z < 0 := by
      constructor <;> intro h
      · rcases Int.lt_or_le Z 0 with h2 | h2
        · exact h2
        · have := Int.mul_nonneg (show (0 : Int) ≤ ((Nat.gcd z.natAbs d : Nat) : Int) by omega) h2
          omega
      · have := Int.mul_neg_of_pos_of_neg (show (0 : Int) < ((Nat.gcd z.natAbs d : Nat) : Int) by omega) h
        omega
    by_cases h : z < 0
    · have h2 := hsg.1 h
      simp [h]; omega
    · have h2 : ¬ Z < 0 := fun k => h (hsg.2 k)
      simp [h]; omega
  have hDD : lowD z d = D := by
    unfold lowD
    exact Nat.div_eq_of_eq_mul_right hg hD
  have hD0 : 0 < lowD z d := by
    rw [hDD]
    exact Nat.pos_of_ne_zero fun h => by rw [h] at hD; omega
  refine num_den_of hD0 (by rw [hN]; exact hc) ?_
  rw [hNZ, hDD]
  have e1 : (z : Rat) = ((Nat.gcd z.natAbs d : Nat) : Rat) * (Z : Rat) := by
    conv => lhs; rw [hZ]
    rw [Rat.intCast_mul, Rat.intCast_natCast]
  have e2 : (d : Rat) = ((Nat.gcd z.natAbs d : Nat) : Rat) * (D : Rat) := by
    conv => lhs; rw [hD]
    rw [Rat.natCast_mul]
  have n1 := cast_ne hg
  have n2 : (D : Rat) ≠ 0 := cast_ne (by rw [hDD] at hD0; exact hD0)
  rw [e1, e2]
  generalize ((Nat.gcd z.natAbs d : Nat) : Rat) = g at *
  grind
theorem ratText_rtxt {z : Int} {d : Nat} (hd : 0 < d) : ratText z d = rtxt ((z : Rat) / (d : Rat)) := by
  unfold rtxt ratText
  rw [(low_ends hd).1, (low_ends hd).2]
theorem low_le {z : Int} {d : Nat} (hd : 0 < d) : ((z : Rat) / (d : Rat)).num.natAbs ≤ z.natAbs ∧ ((z : Rat) / (d : Rat)).den ≤ d := by
  rw [(low_ends hd).1, (low_ends hd).2, ref.lowN_abs]
  exact ⟨Nat.div_le_self _ _, Nat.div_le_self _ _⟩
theorem FracText.form {l : List UInt8} {q : Rat} (h : FracText l q) : RatForm l q.num q.den ∧ l = ratText q.num q.den ∧ l = rtxt q := by
  have hr : ratText q.num q.den = rtxt q := by rw [ratText_rtxt q.den_pos, ← self_div]
  rcases h with ⟨h, h1⟩ | ⟨a, b, rfl, h1, h2, h3⟩
  · have e : l = rtxt q := by unfold rtxt; rw [if_pos h1, List.append_nil]; exact h.itoa
    exact ⟨Or.inl ⟨h, h1⟩, by rw [hr]; exact e, e⟩
  · have hb : Numeral b ∧ q.den = seg b 0 b.length := by
      rcases h2 with ⟨h2, h4⟩ | ⟨t, rfl, h2, h4, h5⟩
      · exact ⟨h2, by omega⟩
      · omega
    have e : a ++ 47 :: b = rtxt q := by
      unfold rtxt
      rw [if_neg (by omega), ← h1.itoa]
      congr 2
      rw [hb.2]
      exact hb.1.dec
    exact ⟨Or.inr ⟨a, b, rfl, h1, hb.1, hb.2, q.den_pos⟩, by rw [hr]; exact e, e⟩
end Go.Proofs.YtlhmfgbaefaneaaGreatDoor.rat
namespace Go.Proofs.YtlhmfgbaefaneaaGreatDoor.law6
open Go Go.RowKit Go.Proofs.YtlhmfgbaefaneaaGreatDoor.day Go.Proofs.YtlhmfgbaefaneaaGreatDoor.date
open Go.Proofs.YtlhmfgbaefaneaaGreatDoor.ref6 (thirty)
def cdays (k y m d y' m' d' : Int) : Int := if k = 1 then thirty y m d y' m' d' else dayOf y' m' d' - dayOf y m d
def cpart (k y m d y' m' d' s t f : Int) : Rat := if k = 4 then ((dayOf y' m' d' - dayOf y m d : Int) : Rat) / ((f * (t - s) : Int) : Rat) else (cdays k y m d y' m' d' : Rat) / ((if k = 3 then 365 else 360 : Int) : Rat)
structure CntC : Prop where
  may : ∀ (k : Int) (w : World), Wd w → Calls Tryz.prog 61 #[.int .i64 k] w fun e w' => e = .returned (.bool (decide (1 ≤ k ∧ k ≤ 4))) ∧ Below w.heap.size w w'
  days : ∀ (k y m d y' m' d' : Int), 1 ≤ k → k ≤ 4 → IsCivil y m d → IsCivil y' m' d' → ∀ w, Wd w → Calls Tryz.prog 59 #[.int .i64 k, .int .i64 (dayOf y m d), .int .i64 (dayOf y' m' d')] w fun e w' => e = .returned (.int .i64 (cdays k y m d y' m' d')) ∧ Below w.heap.size w w'
  daysNo : ∀ (k a b : Int), ¬ (1 ≤ k ∧ k ≤ 4 ∧ IsDay a ∧ IsDay b) → ∀ w, Wd w → Calls Tryz.prog 59 #[.int .i64 k, .int .i64 a, .int .i64 b] w fun e w' => e = .returned (.int .i64 0) ∧ Below w.heap.size w w'
  part : ∀ (k y m d y' m' d' s t f : Int), 1 ≤ k → k ≤ 4 → IsCivil y m d → IsCivil y' m' d' → dayOf y m d ≤ dayOf y' m' d' → (k = 4 → IsDay s ∧ IsDay t ∧ s < t ∧ 1 ≤ f ∧ f ≤ 1000) → ∀ w, Wd w →
    Calls Tryz.prog 57 #[.int .i64 k, .int .i64 (dayOf y m d), .int .i64 (dayOf y' m' d'), .int .i64 s, .int .i64 t, .int .i64 f] w fun e w' => ∃ u, e = .returned (.tuple #[u, .nilIface]) ∧ (rat.IsR w' u (cpart k y m d y' m' d' s t f) ∧ u ≠ .pointer none) ∧ Below w.heap.size w w'
  partForm : ∀ (k a b s t f : Int), k < 1 ∨ 4 < k → ∀ w, Wd w → Calls Tryz.prog 57 #[.int .i64 k, .int .i64 a, .int .i64 b, .int .i64 s, .int .i64 t, .int .i64 f] w fun e w' => e = .returned (.tuple #[.pointer none, errOf 1]) ∧ Below w.heap.size w w'
  partDate : ∀ (k a b s t f : Int), 1 ≤ k → k ≤ 4 → ¬ (IsDay a ∧ IsDay b ∧ a ≤ b ∧ (k = 4 → IsDay s ∧ IsDay t)) → ∀ w, Wd w → Calls Tryz.prog 57 #[.int .i64 k, .int .i64 a, .int .i64 b, .int .i64 s, .int .i64 t, .int .i64 f] w fun e w' => e = .returned (.tuple #[.pointer none, errOf 4]) ∧ Below w.heap.size w w'
  partRange : ∀ (a b s t f : Int), IsDay a → IsDay b → a ≤ b → IsDay s → IsDay t → ¬ (s < t ∧ 1 ≤ f) → ∀ w, Wd w → Calls Tryz.prog 57 #[.int .i64 4, .int .i64 a, .int .i64 b, .int .i64 s, .int .i64 t, .int .i64 f] w fun e w' => e = .returned (.tuple #[.pointer none, errOf 2]) ∧ Below w.heap.size w w'
def QAt (w : World) (b : Nat) (v0 v1 v2 : Value) : Prop := w.heap[b]? = some (.cells #[v0, v1, v2] 83 (0, 0))
theorem QAt.new (w : World) (v0 v1 v2 : Value) : QAt (w.alloc (.cells #[v0, v1, v2] 83)) w.heap.size v0 v1 v2 := heap_alloc_new _ _
theorem QAt.below {w w' : World} {b : Nat} {v0 v1 v2 : Value} (h : QAt w b v0 v1 v2) (hb : Below w.heap.size w w') : QAt w' b v0 v1 v2 := (hb.block b (Array.getElem?_eq_some_iff.1 h).1).trans h
theorem QAt.cells {w : World} {b : Nat} {v0 v1 v2 : Value} (h : QAt w b v0 v1 v2) : w.cell? ⟨b, 0, none⟩ = some v0 ∧ w.cell? ⟨b, 1, none⟩ = some v1 ∧ w.cell? ⟨b, 2, none⟩ = some v2 ∧ True := by
  unfold QAt at h
  refine ⟨?_, ?_, ?_, trivial⟩ <;> rw [cell_of_row _ b _ _ _ (0, 0) h] <;> rfl
theorem lr_div {z : Int} {d : Nat} (hd : 0 < d) (hz : z.natAbs < 18446744073709551616) (hd2 : d < 18446744073709551616) : rat.Lr ((z : Rat) / ((d : Nat) : Rat)) 1 := by
  obtain ⟨h1, h2⟩ := rat.low_le (z := z) hd
  exact ⟨num.Ln_small (Nat.lt_of_le_of_lt h1 hz), num.Ln_small (Nat.lt_of_le_of_lt h2 hd2)⟩
theorem lr_int {z d : Int} (hd : 0 < d) (hz : z.natAbs < 18446744073709551616) (hd2 : d < 18446744073709551616) : rat.Lr ((z : Rat) / (d : Rat)) 1 := by
  have h := lr_div (z := z) (d := d.toNat) (by omega) hz (by omega)
  rwa [show ((d.toNat : Nat) : Rat) = (d : Rat) from by rw [← Rat.intCast_natCast, Int.toNat_of_nonneg (by omega)]] at h
end Go.Proofs.YtlhmfgbaefaneaaGreatDoor.law6
namespace Go.Proofs.YtlhmfgbaefaneaaGreatDoor.ref
open Go.RowKit
def nearUp (x d : Nat) (mode : Int) : Bool :=
  (decide (mode = 1) && decide (d ≤ x % d * 2)) || (decide (mode = 2) && (decide (d < x % d * 2) || (decide (d = x % d * 2) && decide (x / d % 2 = 1))))
def nearN (x d : Nat) (mode : Int) : Nat := x / d + (if nearUp x d mode then 1 else 0)
theorem near_up {x d : Nat} {mode C : Int} (hC : C = cmpN (x % d * 2) d) : nearUp x d mode = (((mode == 1) && decide (0 ≤ C)) || ((mode == 2) && (decide (0 < C) || ((C == 0) && decide (x / d % 2 = 1))))) := by
  have h1 : decide (0 ≤ C) = decide (d ≤ x % d * 2) := by
    rw [decide_eq_decide, hC]; unfold cmpN; (repeat' split) <;> omega
  have h2 : decide (0 < C) = decide (d < x % d * 2) := by
    rw [decide_eq_decide, hC]; unfold cmpN; (repeat' split) <;> omega
  have h3 : (C == 0) = decide (d = x % d * 2) := by
    show decide (C = 0) = _
    rw [decide_eq_decide, hC]; unfold cmpN; (repeat' split) <;> omega
  unfold nearUp
  rw [h1, h2, h3]
  rfl
end Go.Proofs.YtlhmfgbaefaneaaGreatDoor.ref
namespace Go.Proofs.YtlhmfgbaefaneaaGreatDoor.ref
open Go.RowKit
def padTo (l : List UInt8) (k : Nat) : List UInt8 := List.replicate (k + 1 - l.length) 48 ++ l
def decBody (x k : Nat) : List UInt8 :=
  if k = 0 then padTo (Lib.decDigits x) 0 else (padTo (Lib.decDigits x) k).take ((padTo (Lib.decDigits x) k).length - k) ++ 46 :: (padTo (Lib.decDigits x) k).drop ((padTo (Lib.decDigits x) k).length - k)
def decText (z : Int) (k : Nat) : List UInt8 := if z < 0 then 45 :: decBody z.natAbs k else decBody z.natAbs k
theorem padTo_length (l : List UInt8) (k : Nat) : (padTo l k).length = max (k + 1) l.length := by
  unfold padTo
  rw [List.length_append, List.length_replicate]
  omega
end Go.Proofs.YtlhmfgbaefaneaaGreatDoor.ref
namespace Go.Proofs.YtlhmfgbaefaneaaGreatDoor.law2
open Go.Proofs.YtlhmfgbaefaneaaGreatDoor.num (Lz Ln)
def Bn (x n : Nat) : Prop := x < 10 ^ n
def Bz (z : Int) (n : Nat) : Prop := z.natAbs < 10 ^ n
def Br (q : Rat) (n : Nat) : Prop := Bz q.num n ∧ Bn q.den n
theorem ten_le {n m : Nat} (h : n ≤ m) : 10 ^ n ≤ 10 ^ m := Nat.pow_le_pow_right (by omega) h
theorem Bn.le {x n m : Nat} (h : Bn x n) (hm : n ≤ m) : Bn x m := Nat.lt_of_lt_of_le h (ten_le hm)
theorem Bz.le {x : Int} {n m : Nat} (h : Bz x n) (hm : n ≤ m) : Bz x m := Nat.lt_of_lt_of_le h (ten_le hm)
theorem Br.le {q : Rat} {n m : Nat} (h : Br q n) (hm : n ≤ m) : Br q m := ⟨h.1.le hm, h.2.le hm⟩
theorem Bn.nat {x n m : Nat} (h : Bn x n) (hm : n ≤ m) : (nat.digs x).length ≤ m :=
  Nat.le_trans (nat.digs_len (n := n) (Nat.lt_of_lt_of_le h (Nat.pow_le_pow_left (by omega) _))) hm
theorem Bz.nat {z : Int} {n m : Nat} (h : Bz z n) (hm : n ≤ m) : (nat.digs z.natAbs).length ≤ m := Bn.nat (x := z.natAbs) h hm
theorem Br.rat {q : Rat} {n m : Nat} (h : Br q n) (hm : n ≤ m) : rat.Lr q m := ⟨h.1.nat hm, h.2.nat hm⟩
theorem Bn_less {x y n : Nat} (hxy : x ≤ y) (h : Bn y n) : Bn x n := Nat.lt_of_le_of_lt hxy h
theorem Bn_mul {x y n m : Nat} (hx : Bn x n) (hy : Bn y m) : Bn (x * y) (n + m) := by
  unfold Bn at *
  rw [Nat.pow_add]
  rcases Nat.eq_zero_or_pos y with h | h
  · subst h; rw [Nat.mul_zero]; exact Nat.mul_pos (Nat.pow_pos (by omega)) (Nat.pow_pos (by omega))
  · exact Nat.lt_of_lt_of_le (Nat.mul_lt_mul_of_pos_right hx h) (Nat.mul_le_mul_left _ (Nat.le_of_lt hy))
theorem Bn_add {x y n m : Nat} (hx : Bn x n) (hy : Bn y m) : Bn (x + y) (n + m + 1) := by
  have h1 := hx.le (m := n + m) (by omega)
  have h2 := hy.le (m := n + m) (by omega)
  unfold Bn at *
  rw [Nat.pow_succ]
  omega
theorem Bn_div {x y n : Nat} (hx : Bn x n) : Bn (x / y) n := Bn_less (Nat.div_le_self _ _) hx
theorem Bn_mod {x y n : Nat} (hx : Bn x n) : Bn (x % y) n := Bn_less (Nat.mod_le _ _) hx
theorem Bn_small {x : Nat} (h2 : x < 18446744073709551616) : Bn x 20 := Nat.lt_of_lt_of_le h2 (by decide)
theorem Bz_small {z : Int} (h1 : -9223372036854775808 ≤ z) (h2 : z < 18446744073709551616) : Bz z 20 := Bn_small (x := z.natAbs) (by omega)
end Go.Proofs.YtlhmfgbaefaneaaGreatDoor.law2
namespace Go.Proofs.YtlhmfgbaefaneaaGreatDoor.law2
open Go.RowKit Go.Proofs.YtlhmfgbaefaneaaGreatDoor.nat
open Go.Proofs.YtlhmfgbaefaneaaGreatDoor.ref (str str_size str_append ch seg IsDig Numeral seg_lt)
def Front (t : List UInt8) (n : Nat) : Prop := t.length ≤ n ∧ (t ≠ [] → ch t 0 ≠ 48) ∧ ∀ i, i < t.length → IsDig t i
theorem Front.next {t : List UInt8} {n : Nat} {c : UInt8} (h : Front t n) (hl : t.length < n) (h1 : 48 ≤ c.toNat) (h2 : c.toNat ≤ 57) (h3 : t ≠ [] ∨ c.toNat ≠ 48) : Front (t ++ [c]) n := by
  refine ⟨by simp; omega, fun _ => ?_, fun i hi => ?_⟩
  · rcases t with _ | ⟨d, t⟩
    · simp [ch]
      rcases h3 with h3 | h3
      · exact absurd rfl h3
      · exact h3
    · exact h.2.1 (by simp)
  · simp at hi
    by_cases hi2 : i < t.length
    · have := h.2.2 i hi2
      unfold IsDig ch at this ⊢
      rw [List.getD_eq_getElem?_getD, List.getElem?_append_left hi2, ← List.getD_eq_getElem?_getD]
      exact this
    · obtain rfl : i = t.length := by omega
      unfold IsDig ch
      simp
      exact ⟨h1, h2⟩
end Go.Proofs.YtlhmfgbaefaneaaGreatDoor.law2
namespace Go.Proofs.YtlhmfgbaefaneaaGreatDoor.law2
open Go.RowKit Go.Proofs.YtlhmfgbaefaneaaGreatDoor.nat
open Go.Proofs.YtlhmfgbaefaneaaGreatDoor.ref (str str_size Numeral seg seg_lt)
theorem Rd_set3 {w : World} {sv u : Value} {l : List Nat} {g k : Nat} {p : Bool} {a a' : Option Addr} {n c n' c' : Nat} {t : TypeId} (h : Rd w sv l) (hg : w.heap[g]? = some (.cells #[.bool p, .slice a n c, .slice a' n' c'] t (0, 0))) : Rd (w.setCell ⟨g, k, none⟩ u) sv l := by
  refine h.kept (grown_set w g k u) ?_
  obtain ⟨ao, cap, rfl, h1, h2, h3⟩ := h
  rintro ad m c' he hm
  simp only [Value.slice.injEq] at he
  obtain ⟨rfl, rfl, rfl⟩ := he
  rcases h3 with rfl | ⟨b, off, hb, hc⟩
  · simp at hm
  · simp only [Option.some.injEq] at hb
    subst hb
    rintro rfl
    have h4 := hc 0 hm
    rw [cell_of_row _ _ _ _ t (0, 0) hg] at h4
    rcases hoff : off + 0 with _ | _ | _ | _
    all_goals
      rw [hoff] at h4
      simp at h4
def QRow (w : World) (g : Nat) : Prop := ∃ p a n c a' n' c', w.heap[g]? = some (.cells #[.bool p, .slice a n c, .slice a' n' c'] 83 (0, 0))
theorem QRow.rd {w : World} {sv u : Value} {l : List Nat} {g k : Nat} (h : Rd w sv l) (hg : QRow w g) : Rd (w.setCell ⟨g, k, none⟩ u) sv l := by
  obtain ⟨p, a, n, c, a', n', c', hg⟩ := hg
  exact Rd_set3 h hg
theorem QRow.at {w : World} {g o : Nat} {p : Bool} (hg : QRow w g) (h : w.cell? ⟨g, o, none⟩ = some (.bool p)) : o = 0 := by
  obtain ⟨p, a, n, c, a', n', c', hg⟩ := hg
  rw [cell_of_row _ _ _ _ _ (0, 0) hg] at h
  rcases o with _ | _ | _ | _
  · rfl
  all_goals simp at h
theorem QRow.set0 {w : World} {g : Nat} {b : Bool} (hg : QRow w g) : QRow (w.setCell ⟨g, 0, none⟩ (.bool b)) g := by
  obtain ⟨p, a, n, c, a', n', c', hg⟩ := hg
  exact ⟨b, a, n, c, a', n', c', by rw [heap_setCell_same w g 0 _ _ _ hg]; rfl⟩
theorem QRow.set1 {w : World} {g n : Nat} {a : Option Addr} {c : Nat} (hg : QRow w g) : QRow (w.setCell ⟨g, 1, none⟩ (.slice a n c)) g := by
  obtain ⟨p, a1, n1, c1, a', n', c', hg⟩ := hg
  exact ⟨p, a, n, c, a', n', c', by rw [heap_setCell_same w g 1 _ _ _ hg]; rfl⟩
end Go.Proofs.YtlhmfgbaefaneaaGreatDoor.law2
namespace Go.Proofs.YtlhmfgbaefaneaaGreatDoor.law2
open Go.RowKit Go.Proofs.YtlhmfgbaefaneaaGreatDoor.nat
def Hd (w : World) : Prop := flt.Handle w
theorem Hd.below {w w' : World} (h : Hd w) (hb : Below w.heap.size w w') : Hd w' := flt.Handle.below h hb (flt.Handle.pos h)
theorem Hd.cell {w : World} (h : Hd w) : flt.Handle w := h
def BegunC : Prop := ∀ w, Hd w → Calls Tryz.prog 117 #[] w fun e w' => e = .returned (.bool true) ∧ Below w.heap.size w w'
theorem cmp3_eqN {x y : Nat} (h : x = y) : cmp3 (x : Int) (y : Int) = 0 := by subst h; unfold cmp3; rw [if_neg (by omega), if_neg (by omega)]
theorem cmpR_eq {p q : Rat} (h : p = q) : rat.cmpR p q = 0 := by subst h; unfold rat.cmpR; rw [if_neg Rat.lt_irrefl, if_neg Rat.lt_irrefl]
theorem NPow_at (a : Value) (X K : Nat) (z : Int) (hz : z = K) (hK : K < 1000000) (w : World) (ha : nat.IsN w a X) (hx : (nat.digs X).length ≤ 900000) (hb : (nat.digs (X ^ K)).length ≤ 900000) :
    Calls Tryz.prog 151 #[a, .int .i64 z] w fun e w' => ∃ v, e = .returned v ∧ (nat.IsN w' v (X ^ K) ∧ v ≠ .pointer none) ∧ Below w.heap.size w w' := by
  subst hz
  have := nat.Pow_any a X K w ha hx (by omega) (by rw [Int.toNat_natCast]; exact hb)
  rwa [Int.toNat_natCast] at this
def Cells2 (w : World) (g : Nat) (v0 v1 : Value) : Prop := w.cell? ⟨g, 0, none⟩ = some v0 ∧ w.cell? ⟨g, 1, none⟩ = some v1
theorem Cells2.below {w w' : World} {g : Nat} {v0 v1 : Value} (h : Cells2 w g v0 v1) (hb : Below w.heap.size w w') : Cells2 w' g v0 v1 :=
  ⟨(hb.cell (p := ⟨g, 0, none⟩) (cell_lt h.1)).trans h.1, (hb.cell (p := ⟨g, 1, none⟩) (cell_lt h.2)).trans h.2⟩
end Go.Proofs.YtlhmfgbaefaneaaGreatDoor.law2
