/-
  DecHalf answers true for every two numbers. Condition: begun answers true.
-/
import Derived.Test.YtfpooimjjpamoaaGreatDoorE23
namespace Go.Proofs.YtfpooimjjpamoaaGreatDoor.law2
open Go.RowKit Go.Proofs.YtfpooimjjpamoaaGreatDoor.nat
open Go.Proofs.YtfpooimjjpamoaaGreatDoor.ref (str signed decText)
theorem ten_rat (K : Nat) : (10 : Rat) ^ K = ((10 ^ K : Nat) : Rat) := by
  induction K with
  | zero => simp
  | succ K ih => rw [Rat.pow_succ, ih, Nat.pow_succ, Rat.natCast_mul]; rfl
theorem half_pow {K : Nat} (h : K ≤ 12) : Br ((10 : Rat) ^ K) 20 := by
  rw [ten_rat]
  refine ⟨?_, ?_⟩
  · show Bz ((10 ^ K : Nat) : Rat).num 20
    rw [Rat.num_natCast]
    exact Bz_nat (Nat.lt_of_le_of_lt (Nat.pow_le_pow_right (by omega) h) (by decide))
  · show Bn ((10 ^ K : Nat) : Rat).den 20
    rw [Rat.den_natCast]
    exact Bn_small (by decide)
theorem half_ne (K : Nat) : (10 : Rat) ^ K ≠ 0 := by
  rw [ten_rat]
  exact rat.cast_ne (Nat.pow_pos (by omega))
theorem half_val {N : Int} {K : Nat} {q : Rat} (hq : q = ((2 * N + 1 : Int) : Rat) / ((2 : Int) : Rat) / (10 : Rat) ^ K) : q = ((2 * N + 1 : Int) : Rat) / ((2 * 10 ^ K : Nat) : Rat) := by
  rw [hq, ten_rat, Rat.natCast_mul, show ((2 : Int) : Rat) = ((2 : Nat) : Rat) from rfl]
  have := rat.cast_ne (show 0 < 10 ^ K from Nat.pow_pos (by omega))
  generalize ((10 ^ K : Nat) : Rat) = P at *
  have : ((2 : Nat) : Rat) ≠ 0 := by decide +kernel
  generalize ((2 : Nat) : Rat) = T at *
  grind
theorem half_bnd {N : Int} {K : Nat} {q : Rat} (hq : q = ((2 * N + 1 : Int) : Rat) / ((2 * 10 ^ K : Nat) : Rat)) (hK : K ≤ 12) (n1 : -1000000 < N) (n2 : N < 1000000) : Br q 40 :=
  Br_low (by have : 0 < 10 ^ K := Nat.pow_pos (by omega); omega) hq ((Bz_small (by omega) (by omega)).le (by decide)) ((Bn_mul (Bn_small (x := 2) (by decide)) (show Bn (10 ^ K) 20 from Nat.lt_of_le_of_lt (Nat.pow_le_pow_right (by omega) hK) (by decide))).le (by decide))
theorem RPow_at (a : Value) (q : Rat) (K : Nat) (w : World) (ha : rat.IsR w a q) (sq : rat.Lr q 20000) (hK : K < 1000000) (sp : rat.Lr (q ^ K) 20000) :
    Calls Tryz.prog 100 #[a, .int .i64 (K : Nat)] w fun e w' => ∃ u, e = .returned (.tuple #[u, .nilIface]) ∧ (rat.IsR w' u (q ^ K) ∧ u ≠ .pointer none) ∧ Below w.heap.size w w' := by
  have := rat.Pow_up a q (K : Int) w ha sq (by omega) (by omega) (by rw [Int.natAbs_natCast]; exact ⟨Nat.le_trans sp.1 (by decide), Nat.le_trans sp.2 (by decide)⟩) (by omega)
  rwa [Int.natAbs_natCast] at this
set_option maxRecDepth 100000 in
set_option maxHeartbeats 4000000 in
theorem LwDecHalf (HBg : BegunC) (n : Int) (_n1 : -9223372036854775808 ≤ n) (_n2 : n < 9223372036854775808) (places : Int) (_places1 : -9223372036854775808 ≤ places) (_places2 : places < 9223372036854775808) (w : World) (hd : Hd w) :
    Calls Tryz.prog 22 #[.int .i64 n, .int .i64 places] w fun e w' => e = .returned (.bool true) ∧ Below w.heap.size w w' := by
  unfold BegunC at HBg
  have HBG := Lib.hid HBg
  have HG := Lib.hid hd
  clear HBg hd
  have t1 : -1000000 < n.tmod 1000000 := Int.lt_tmod_of_pos n (by decide)
  have t2 : n.tmod 1000000 < 1000000 := Int.tmod_lt_of_pos n (by decide)
  have t3 : -12 < places.tmod 12 := Int.lt_tmod_of_pos places (by decide)
  have t4 : places.tmod 12 < 12 := Int.tmod_lt_of_pos places (by decide)
  obtain ⟨N, hN⟩ : ∃ N : Int, n.tmod 1000000 = N := ⟨_, rfl⟩
  obtain ⟨K, hK⟩ : ∃ K : Nat, (places.tmod 12 + 12) % 12 = (K : Int) := ⟨((places.tmod 12 + 12) % 12).toNat, by omega⟩
  have n1 : -1000000 < N := by omega
  have n2 : N < 1000000 := by omega
  have k2 : K < 12 := by omega
  have L_p := Lib.hid (show Br ((10 : Rat) ^ K) 20 from half_pow (by omega))
  have L_h := Lib.hid (show Br (((2 * N + 1 : Int) : Rat) / ((2 : Int) : Rat)) 20 from Br_lowz (by decide) rfl (Bz_small (by omega) (by omega)) (Bz_small (by decide) (by decide)))
  obtain ⟨q, hq⟩ : ∃ q : Rat, q = ((2 * N + 1 : Int) : Rat) / ((2 : Int) : Rat) / (10 : Rat) ^ K := ⟨_, rfl⟩
  have hq2 := half_val hq
  have L_q := Lib.hid (show Br q 40 from half_bnd hq2 (by omega) n1 n2)
  obtain ⟨r1, r2, r3⟩ := dec.half_put hq2
  have P1 := fun W v (h : rat.IsR W v q) => dec.Round_ok v q K 1 W h (L_q.out.rat (by decide)) (by omega) (Or.inl rfl)
  have P2 := fun W v (h : rat.IsR W v q) => dec.Round_ok v q K 2 W h (L_q.out.rat (by decide)) (by omega) (Or.inr (Or.inl rfl))
  have P3 := fun W v (h : rat.IsR W v q) => dec.Round_ok v q K 3 W h (L_q.out.rat (by decide)) (by omega) (Or.inr (Or.inr rfl))
  rw [r1] at P1
  rw [r2] at P2
  rw [r3] at P3
  have OF := Lib.hid (fun W => rat.Of_ok (2 * N + 1) 2 W (by omega) (by omega) (by decide) (by decide) (by decide))
  have DV := fun W u v (hu : rat.IsR W u (((2 * N + 1 : Int) : Rat) / ((2 : Int) : Rat))) (hv : rat.IsR W v ((10 : Rat) ^ K)) => rat.Div_ok u v _ _ W hu hv (L_h.out.rat (by decide)) (L_p.out.rat (by decide)) (half_ne K)
  rw [← hq] at DV
  have DV := Lib.hid DV
  have IO := Lib.hid (fun z (z1 : -9223372036854775808 ≤ z) (z2 : z < 9223372036854775808) W => ref.Of_any z z1 (by omega) W)
  have DC := Lib.hid (fun z (hz : -10000000 < z) (hz2 : z < 10000000) W v (h : ref.IsI W v z) => ref.Dec_any v z K W h ((Bz_small (z := z) (by omega) (by omega)).ref (by decide)) (by omega))
  clear r1 r2 r3 hq2 hq
  rcases (show N < 0 ∨ 0 ≤ N by omega) with hn | hn
  · rcases (show N % 2 = 0 ∨ N % 2 = 1 by omega) with he | he
    · have P1 := P1
      rw [if_pos hn] at P1
      have P2 := P2
      rw [if_pos he] at P2
      have P3 := P3
      rw [if_pos hn] at P3
      have hev : (N.tmod 2 == 0) = true := by have : N.tmod 2 = 0 := Int.tmod_eq_zero_of_dvd (Int.dvd_of_emod_eq_zero he); rw [this]; rfl
      have hev2 : (N % 2 == 0) = true := by simp; omega
      have P1 := Lib.hid P1
      have P2 := Lib.hid P2
      have P3 := Lib.hid P3
      clear he
      have IO0 := IO
      have DC0 := DC
      have IO1 := IO
      have DC1 := DC
      have IO2 := IO
      have DC2 := DC
      have c1 := fun (W : World)    => rat.Of_ok 10 1 W (by decide) (by decide) (by decide) (by decide) (by decide)
      rw [show (((10 : Int) : Rat) / ((1 : Int) : Rat)) = (10 : Rat) from by decide +kernel] at c1
      have C1 := Lib.hid c1
      clear c1
      have c2 := fun (W : World) (v0 : Value) (hh0 : rat.IsR W v0 ((10 : Rat)))  => RPow_at v0 (10 : Rat) K W hh0 ((show Br (10 : Rat) 20 from Br_lowz (z := 10) (y := 1) (by decide) (by decide +kernel) (Bz_small (by decide) (by decide)) (Bz_small (by decide) (by decide))).rat (by decide)) (by omega) (L_p.out.rat (by decide))
      have C2 := Lib.hid c2
      clear c2
      go_enter Tryz.func22, Tryz.ntmps22
      go_wp2_with (first
        | (go_at_call 25; (with_reducible refine (HBG.out _ HG.out).mono ?_); rintro e W1 ⟨rfl, hb⟩
           have HB1 := Lib.hid hb
           clear hb)
        | (go_at_call 74; (with_reducible refine (C1.out _ ).mono ?_); rintro e W2 ⟨ten, rfl, ⟨h_ten, n_ten⟩, hb⟩
           have H_ten := Lib.hid h_ten
           have N_ten := Lib.hid n_ten
           have HB2 := Lib.hid hb
           clear h_ten n_ten hb C1)
        | (go_at_call 100; (with_reducible refine (C2.out _ _ H_ten.out).mono ?_); rintro e W3 ⟨p, rfl, ⟨h_p, n_p⟩, hb⟩
           have H_p := Lib.hid h_p
           have N_p := Lib.hid n_p
           have HB3 := Lib.hid hb
           clear h_p n_p hb C2)
        | (go_at_call 74; (with_reducible refine (OF.out _).mono ?_); rintro e W4 ⟨h, rfl, ⟨h_h, n_h⟩, hb⟩
           have H_h := Lib.hid h_h
           have N_h := Lib.hid n_h
           have HB4 := Lib.hid hb
           clear h_h n_h hb)
        | (go_at_call 88; (with_reducible refine (DV.out _ _ _ H_h.out (H_p.out.below HB4.out)).mono ?_); rintro e W5 ⟨a, rfl, ⟨h_a, n_a⟩, hb⟩
           have H_a := Lib.hid h_a
           have N_a := Lib.hid n_a
           have HB5 := Lib.hid hb
           clear h_a n_a hb)
        | (go_at_call 82; (with_reducible refine (P1.out _ _ H_a.out).mono ?_); rintro e W6 ⟨rfl, hb⟩
           have HB6 := Lib.hid hb
           clear hb)
        | (go_at_call 82; (with_reducible refine (P2.out _ _ (H_a.out.below HB6.out)).mono ?_); rintro e W7 ⟨rfl, hb⟩
           have HB7 := Lib.hid hb
           clear hb)
        | (go_at_call 82; (with_reducible refine (P3.out _ _ ((H_a.out.below HB6.out).below HB7.out)).mono ?_); rintro e W8 ⟨rfl, hb⟩
           have HB8 := Lib.hid hb
           clear hb)
        | (go_at_call 68; (with_reducible refine (IO0.out (N) (by omega) (by omega) _).mono ?_); rintro e W9 ⟨i0, rfl, h_i0, hb⟩
           have H_i0 := Lib.hid h_i0
           have HB9 := Lib.hid hb
           clear h_i0 hb IO0)
        | (go_at_call 93; (with_reducible refine (DC0.out (N) (by omega) (by omega) _ _ H_i0.out).mono ?_); rintro e W10 ⟨rfl, hb⟩
           have HB10 := Lib.hid hb
           clear hb DC0)
        | (go_at_call 68; (with_reducible refine (IO1.out (N) (by omega) (by omega) _).mono ?_); rintro e W11 ⟨i1, rfl, h_i1, hb⟩
           have H_i1 := Lib.hid h_i1
           have HB11 := Lib.hid hb
           clear h_i1 hb IO1)
        | (go_at_call 93; (with_reducible refine (DC1.out (N) (by omega) (by omega) _ _ H_i1.out).mono ?_); rintro e W12 ⟨rfl, hb⟩
           have HB12 := Lib.hid hb
           clear hb DC1)
        | (go_at_call 68; (with_reducible refine (IO2.out (N + 1) (by omega) (by omega) _).mono ?_); rintro e W13 ⟨i2, rfl, h_i2, hb⟩
           have H_i2 := Lib.hid h_i2
           have HB13 := Lib.hid hb
           clear h_i2 hb IO2)
        | (go_at_call 93; (with_reducible refine (DC2.out (N + 1) (by omega) (by omega) _ _ H_i2.out).mono ?_); rintro e W14 ⟨rfl, hb⟩
           have HB14 := Lib.hid hb
           clear hb DC2)
        | (fail "no arm"))
      skip
      all_goals (go_ret; exact ⟨rfl, (nat.below_tr (nat.below_tr (nat.below_tr (nat.below_tr (nat.below_tr (nat.below_tr (nat.below_tr (nat.below_tr (nat.below_tr (nat.below_tr (nat.below_tr (nat.below_tr (nat.below_tr HB1.out HB2.out) HB3.out) HB4.out) HB5.out) HB6.out) HB7.out) HB8.out) HB9.out) HB10.out) HB11.out) HB12.out) HB13.out) HB14.out)⟩)
    · have P1 := P1
      rw [if_pos hn] at P1
      have P2 := P2
      rw [if_neg (by omega)] at P2
      have P3 := P3
      rw [if_pos hn] at P3
      have hev : (N.tmod 2 == 0) = false := by
        have : ¬ N.tmod 2 = 0 := fun e => by have := Int.dvd_of_tmod_eq_zero e; omega
        simpa using this
      have hev2 : (N % 2 == 0) = false := by simp; omega
      have P1 := Lib.hid P1
      have P2 := Lib.hid P2
      have P3 := Lib.hid P3
      clear he
      have IO0 := IO
      have DC0 := DC
      have IO1 := IO
      have DC1 := DC
      have IO2 := IO
      have DC2 := DC
      have c1 := fun (W : World)    => rat.Of_ok 10 1 W (by decide) (by decide) (by decide) (by decide) (by decide)
      rw [show (((10 : Int) : Rat) / ((1 : Int) : Rat)) = (10 : Rat) from by decide +kernel] at c1
      have C1 := Lib.hid c1
      clear c1
      have c2 := fun (W : World) (v0 : Value) (hh0 : rat.IsR W v0 ((10 : Rat)))  => RPow_at v0 (10 : Rat) K W hh0 ((show Br (10 : Rat) 20 from Br_lowz (z := 10) (y := 1) (by decide) (by decide +kernel) (Bz_small (by decide) (by decide)) (Bz_small (by decide) (by decide))).rat (by decide)) (by omega) (L_p.out.rat (by decide))
      have C2 := Lib.hid c2
      clear c2
      go_enter Tryz.func22, Tryz.ntmps22
      go_wp2_with (first
        | (go_at_call 25; (with_reducible refine (HBG.out _ HG.out).mono ?_); rintro e W1 ⟨rfl, hb⟩
           have HB1 := Lib.hid hb
           clear hb)
        | (go_at_call 74; (with_reducible refine (C1.out _ ).mono ?_); rintro e W2 ⟨ten, rfl, ⟨h_ten, n_ten⟩, hb⟩
           have H_ten := Lib.hid h_ten
           have N_ten := Lib.hid n_ten
           have HB2 := Lib.hid hb
           clear h_ten n_ten hb C1)
        | (go_at_call 100; (with_reducible refine (C2.out _ _ H_ten.out).mono ?_); rintro e W3 ⟨p, rfl, ⟨h_p, n_p⟩, hb⟩
           have H_p := Lib.hid h_p
           have N_p := Lib.hid n_p
           have HB3 := Lib.hid hb
           clear h_p n_p hb C2)
        | (go_at_call 74; (with_reducible refine (OF.out _).mono ?_); rintro e W4 ⟨h, rfl, ⟨h_h, n_h⟩, hb⟩
           have H_h := Lib.hid h_h
           have N_h := Lib.hid n_h
           have HB4 := Lib.hid hb
           clear h_h n_h hb)
        | (go_at_call 88; (with_reducible refine (DV.out _ _ _ H_h.out (H_p.out.below HB4.out)).mono ?_); rintro e W5 ⟨a, rfl, ⟨h_a, n_a⟩, hb⟩
           have H_a := Lib.hid h_a
           have N_a := Lib.hid n_a
           have HB5 := Lib.hid hb
           clear h_a n_a hb)
        | (go_at_call 82; (with_reducible refine (P1.out _ _ H_a.out).mono ?_); rintro e W6 ⟨rfl, hb⟩
           have HB6 := Lib.hid hb
           clear hb)
        | (go_at_call 82; (with_reducible refine (P2.out _ _ (H_a.out.below HB6.out)).mono ?_); rintro e W7 ⟨rfl, hb⟩
           have HB7 := Lib.hid hb
           clear hb)
        | (go_at_call 82; (with_reducible refine (P3.out _ _ ((H_a.out.below HB6.out).below HB7.out)).mono ?_); rintro e W8 ⟨rfl, hb⟩
           have HB8 := Lib.hid hb
           clear hb)
        | (go_at_call 68; (with_reducible refine (IO0.out (N) (by omega) (by omega) _).mono ?_); rintro e W9 ⟨i0, rfl, h_i0, hb⟩
           have H_i0 := Lib.hid h_i0
           have HB9 := Lib.hid hb
           clear h_i0 hb IO0)
        | (go_at_call 93; (with_reducible refine (DC0.out (N) (by omega) (by omega) _ _ H_i0.out).mono ?_); rintro e W10 ⟨rfl, hb⟩
           have HB10 := Lib.hid hb
           clear hb DC0)
        | (go_at_call 68; (with_reducible refine (IO1.out (N + 1) (by omega) (by omega) _).mono ?_); rintro e W11 ⟨i1, rfl, h_i1, hb⟩
           have H_i1 := Lib.hid h_i1
           have HB11 := Lib.hid hb
           clear h_i1 hb IO1)
        | (go_at_call 93; (with_reducible refine (DC1.out (N + 1) (by omega) (by omega) _ _ H_i1.out).mono ?_); rintro e W12 ⟨rfl, hb⟩
           have HB12 := Lib.hid hb
           clear hb DC1)
        | (go_at_call 68; (with_reducible refine (IO2.out (N + 1) (by omega) (by omega) _).mono ?_); rintro e W13 ⟨i2, rfl, h_i2, hb⟩
           have H_i2 := Lib.hid h_i2
           have HB13 := Lib.hid hb
           clear h_i2 hb IO2)
        | (go_at_call 93; (with_reducible refine (DC2.out (N + 1) (by omega) (by omega) _ _ H_i2.out).mono ?_); rintro e W14 ⟨rfl, hb⟩
           have HB14 := Lib.hid hb
           clear hb DC2)
        | (fail "no arm"))
      skip
      all_goals (go_ret; exact ⟨rfl, (nat.below_tr (nat.below_tr (nat.below_tr (nat.below_tr (nat.below_tr (nat.below_tr (nat.below_tr (nat.below_tr (nat.below_tr (nat.below_tr (nat.below_tr (nat.below_tr (nat.below_tr HB1.out HB2.out) HB3.out) HB4.out) HB5.out) HB6.out) HB7.out) HB8.out) HB9.out) HB10.out) HB11.out) HB12.out) HB13.out) HB14.out)⟩)
  · rcases (show N % 2 = 0 ∨ N % 2 = 1 by omega) with he | he
    · have P1 := P1
      rw [if_neg (by omega)] at P1
      have P2 := P2
      rw [if_pos he] at P2
      have P3 := P3
      rw [if_neg (by omega)] at P3
      have hev : (N.tmod 2 == 0) = true := by have : N.tmod 2 = 0 := Int.tmod_eq_zero_of_dvd (Int.dvd_of_emod_eq_zero he); rw [this]; rfl
      have hev2 : (N % 2 == 0) = true := by simp; omega
      have P1 := Lib.hid P1
      have P2 := Lib.hid P2
      have P3 := Lib.hid P3
      clear he
      have IO0 := IO
      have DC0 := DC
      have IO1 := IO
      have DC1 := DC
      have IO2 := IO
      have DC2 := DC
      have c1 := fun (W : World)    => rat.Of_ok 10 1 W (by decide) (by decide) (by decide) (by decide) (by decide)
      rw [show (((10 : Int) : Rat) / ((1 : Int) : Rat)) = (10 : Rat) from by decide +kernel] at c1
      have C1 := Lib.hid c1
      clear c1
      have c2 := fun (W : World) (v0 : Value) (hh0 : rat.IsR W v0 ((10 : Rat)))  => RPow_at v0 (10 : Rat) K W hh0 ((show Br (10 : Rat) 20 from Br_lowz (z := 10) (y := 1) (by decide) (by decide +kernel) (Bz_small (by decide) (by decide)) (Bz_small (by decide) (by decide))).rat (by decide)) (by omega) (L_p.out.rat (by decide))
      have C2 := Lib.hid c2
      clear c2
      go_enter Tryz.func22, Tryz.ntmps22
      go_wp2_with (first
        | (go_at_call 25; (with_reducible refine (HBG.out _ HG.out).mono ?_); rintro e W1 ⟨rfl, hb⟩
           have HB1 := Lib.hid hb
           clear hb)
        | (go_at_call 74; (with_reducible refine (C1.out _ ).mono ?_); rintro e W2 ⟨ten, rfl, ⟨h_ten, n_ten⟩, hb⟩
           have H_ten := Lib.hid h_ten
           have N_ten := Lib.hid n_ten
           have HB2 := Lib.hid hb
           clear h_ten n_ten hb C1)
        | (go_at_call 100; (with_reducible refine (C2.out _ _ H_ten.out).mono ?_); rintro e W3 ⟨p, rfl, ⟨h_p, n_p⟩, hb⟩
           have H_p := Lib.hid h_p
           have N_p := Lib.hid n_p
           have HB3 := Lib.hid hb
           clear h_p n_p hb C2)
        | (go_at_call 74; (with_reducible refine (OF.out _).mono ?_); rintro e W4 ⟨h, rfl, ⟨h_h, n_h⟩, hb⟩
           have H_h := Lib.hid h_h
           have N_h := Lib.hid n_h
           have HB4 := Lib.hid hb
           clear h_h n_h hb)
        | (go_at_call 88; (with_reducible refine (DV.out _ _ _ H_h.out (H_p.out.below HB4.out)).mono ?_); rintro e W5 ⟨a, rfl, ⟨h_a, n_a⟩, hb⟩
           have H_a := Lib.hid h_a
           have N_a := Lib.hid n_a
           have HB5 := Lib.hid hb
           clear h_a n_a hb)
        | (go_at_call 82; (with_reducible refine (P1.out _ _ H_a.out).mono ?_); rintro e W6 ⟨rfl, hb⟩
           have HB6 := Lib.hid hb
           clear hb)
        | (go_at_call 82; (with_reducible refine (P2.out _ _ (H_a.out.below HB6.out)).mono ?_); rintro e W7 ⟨rfl, hb⟩
           have HB7 := Lib.hid hb
           clear hb)
        | (go_at_call 82; (with_reducible refine (P3.out _ _ ((H_a.out.below HB6.out).below HB7.out)).mono ?_); rintro e W8 ⟨rfl, hb⟩
           have HB8 := Lib.hid hb
           clear hb)
        | (go_at_call 68; (with_reducible refine (IO0.out (N + 1) (by omega) (by omega) _).mono ?_); rintro e W9 ⟨i0, rfl, h_i0, hb⟩
           have H_i0 := Lib.hid h_i0
           have HB9 := Lib.hid hb
           clear h_i0 hb IO0)
        | (go_at_call 93; (with_reducible refine (DC0.out (N + 1) (by omega) (by omega) _ _ H_i0.out).mono ?_); rintro e W10 ⟨rfl, hb⟩
           have HB10 := Lib.hid hb
           clear hb DC0)
        | (go_at_call 68; (with_reducible refine (IO1.out (N) (by omega) (by omega) _).mono ?_); rintro e W11 ⟨i1, rfl, h_i1, hb⟩
           have H_i1 := Lib.hid h_i1
           have HB11 := Lib.hid hb
           clear h_i1 hb IO1)
        | (go_at_call 93; (with_reducible refine (DC1.out (N) (by omega) (by omega) _ _ H_i1.out).mono ?_); rintro e W12 ⟨rfl, hb⟩
           have HB12 := Lib.hid hb
           clear hb DC1)
        | (go_at_call 68; (with_reducible refine (IO2.out (N) (by omega) (by omega) _).mono ?_); rintro e W13 ⟨i2, rfl, h_i2, hb⟩
           have H_i2 := Lib.hid h_i2
           have HB13 := Lib.hid hb
           clear h_i2 hb IO2)
        | (go_at_call 93; (with_reducible refine (DC2.out (N) (by omega) (by omega) _ _ H_i2.out).mono ?_); rintro e W14 ⟨rfl, hb⟩
           have HB14 := Lib.hid hb
           clear hb DC2)
        | (fail "no arm"))
      skip
      all_goals (go_ret; exact ⟨rfl, (nat.below_tr (nat.below_tr (nat.below_tr (nat.below_tr (nat.below_tr (nat.below_tr (nat.below_tr (nat.below_tr (nat.below_tr (nat.below_tr (nat.below_tr (nat.below_tr (nat.below_tr HB1.out HB2.out) HB3.out) HB4.out) HB5.out) HB6.out) HB7.out) HB8.out) HB9.out) HB10.out) HB11.out) HB12.out) HB13.out) HB14.out)⟩)
    · have P1 := P1
      rw [if_neg (by omega)] at P1
      have P2 := P2
      rw [if_neg (by omega)] at P2
      have P3 := P3
      rw [if_neg (by omega)] at P3
      have hev : (N.tmod 2 == 0) = false := by
        have : ¬ N.tmod 2 = 0 := fun e => by have := Int.dvd_of_tmod_eq_zero e; omega
        simpa using this
      have hev2 : (N % 2 == 0) = false := by simp; omega
      have P1 := Lib.hid P1
      have P2 := Lib.hid P2
      have P3 := Lib.hid P3
      clear he
      have IO0 := IO
      have DC0 := DC
      have IO1 := IO
      have DC1 := DC
      have IO2 := IO
      have DC2 := DC
      have c1 := fun (W : World)    => rat.Of_ok 10 1 W (by decide) (by decide) (by decide) (by decide) (by decide)
      rw [show (((10 : Int) : Rat) / ((1 : Int) : Rat)) = (10 : Rat) from by decide +kernel] at c1
      have C1 := Lib.hid c1
      clear c1
      have c2 := fun (W : World) (v0 : Value) (hh0 : rat.IsR W v0 ((10 : Rat)))  => RPow_at v0 (10 : Rat) K W hh0 ((show Br (10 : Rat) 20 from Br_lowz (z := 10) (y := 1) (by decide) (by decide +kernel) (Bz_small (by decide) (by decide)) (Bz_small (by decide) (by decide))).rat (by decide)) (by omega) (L_p.out.rat (by decide))
      have C2 := Lib.hid c2
      clear c2
      go_enter Tryz.func22, Tryz.ntmps22
      go_wp2_with (first
        | (go_at_call 25; (with_reducible refine (HBG.out _ HG.out).mono ?_); rintro e W1 ⟨rfl, hb⟩
           have HB1 := Lib.hid hb
           clear hb)
        | (go_at_call 74; (with_reducible refine (C1.out _ ).mono ?_); rintro e W2 ⟨ten, rfl, ⟨h_ten, n_ten⟩, hb⟩
           have H_ten := Lib.hid h_ten
           have N_ten := Lib.hid n_ten
           have HB2 := Lib.hid hb
           clear h_ten n_ten hb C1)
        | (go_at_call 100; (with_reducible refine (C2.out _ _ H_ten.out).mono ?_); rintro e W3 ⟨p, rfl, ⟨h_p, n_p⟩, hb⟩
           have H_p := Lib.hid h_p
           have N_p := Lib.hid n_p
           have HB3 := Lib.hid hb
           clear h_p n_p hb C2)
        | (go_at_call 74; (with_reducible refine (OF.out _).mono ?_); rintro e W4 ⟨h, rfl, ⟨h_h, n_h⟩, hb⟩
           have H_h := Lib.hid h_h
           have N_h := Lib.hid n_h
           have HB4 := Lib.hid hb
           clear h_h n_h hb)
        | (go_at_call 88; (with_reducible refine (DV.out _ _ _ H_h.out (H_p.out.below HB4.out)).mono ?_); rintro e W5 ⟨a, rfl, ⟨h_a, n_a⟩, hb⟩
           have H_a := Lib.hid h_a
           have N_a := Lib.hid n_a
           have HB5 := Lib.hid hb
           clear h_a n_a hb)
        | (go_at_call 82; (with_reducible refine (P1.out _ _ H_a.out).mono ?_); rintro e W6 ⟨rfl, hb⟩
           have HB6 := Lib.hid hb
           clear hb)
        | (go_at_call 82; (with_reducible refine (P2.out _ _ (H_a.out.below HB6.out)).mono ?_); rintro e W7 ⟨rfl, hb⟩
           have HB7 := Lib.hid hb
           clear hb)
        | (go_at_call 82; (with_reducible refine (P3.out _ _ ((H_a.out.below HB6.out).below HB7.out)).mono ?_); rintro e W8 ⟨rfl, hb⟩
           have HB8 := Lib.hid hb
           clear hb)
        | (go_at_call 68; (with_reducible refine (IO0.out (N + 1) (by omega) (by omega) _).mono ?_); rintro e W9 ⟨i0, rfl, h_i0, hb⟩
           have H_i0 := Lib.hid h_i0
           have HB9 := Lib.hid hb
           clear h_i0 hb IO0)
        | (go_at_call 93; (with_reducible refine (DC0.out (N + 1) (by omega) (by omega) _ _ H_i0.out).mono ?_); rintro e W10 ⟨rfl, hb⟩
           have HB10 := Lib.hid hb
           clear hb DC0)
        | (go_at_call 68; (with_reducible refine (IO1.out (N + 1) (by omega) (by omega) _).mono ?_); rintro e W11 ⟨i1, rfl, h_i1, hb⟩
           have H_i1 := Lib.hid h_i1
           have HB11 := Lib.hid hb
           clear h_i1 hb IO1)
        | (go_at_call 93; (with_reducible refine (DC1.out (N + 1) (by omega) (by omega) _ _ H_i1.out).mono ?_); rintro e W12 ⟨rfl, hb⟩
           have HB12 := Lib.hid hb
           clear hb DC1)
        | (go_at_call 68; (with_reducible refine (IO2.out (N) (by omega) (by omega) _).mono ?_); rintro e W13 ⟨i2, rfl, h_i2, hb⟩
           have H_i2 := Lib.hid h_i2
           have HB13 := Lib.hid hb
           clear h_i2 hb IO2)
        | (go_at_call 93; (with_reducible refine (DC2.out (N) (by omega) (by omega) _ _ H_i2.out).mono ?_); rintro e W14 ⟨rfl, hb⟩
           have HB14 := Lib.hid hb
           clear hb DC2)
        | (fail "no arm"))
      skip
      all_goals (go_ret; exact ⟨rfl, (nat.below_tr (nat.below_tr (nat.below_tr (nat.below_tr (nat.below_tr (nat.below_tr (nat.below_tr (nat.below_tr (nat.below_tr (nat.below_tr (nat.below_tr (nat.below_tr (nat.below_tr HB1.out HB2.out) HB3.out) HB4.out) HB5.out) HB6.out) HB7.out) HB8.out) HB9.out) HB10.out) HB11.out) HB12.out) HB13.out) HB14.out)⟩)
end Go.Proofs.YtfpooimjjpamoaaGreatDoor.law2
