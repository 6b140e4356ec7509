/-
  The steps of the walks, part 21: RatB.
-/
import Derived.Test.YtfpooimjjpamoaaGreatDoorS20
namespace Go.Proofs.YtfpooimjjpamoaaGreatDoor.rat
open Go.RowKit Go.Proofs.YtfpooimjjpamoaaGreatDoor.nat Go.Proofs.YtfpooimjjpamoaaGreatDoor.num
def Lr (q : Rat) (n : Nat) : Prop := Lz q.num n ∧ Ln q.den n
theorem Lr.le {q : Rat} {n m : Nat} (h : Lr q n) (hm : n ≤ m) : Lr q m := ⟨h.1.le hm, h.2.le hm⟩
def sumG (p q : Rat) : Nat := Nat.gcd p.den q.den
def sumT (p q : Rat) : Int := p.num * ((q.den / sumG p q : Nat) : Int) + q.num * ((p.den / sumG p q : Nat) : Int)
def sumL (p q : Rat) : Nat := Nat.gcd (sumT p q).natAbs (sumG p q)
theorem sumG_pos (p q : Rat) : 0 < sumG p q := Nat.gcd_pos_of_pos_left _ p.den_pos
theorem sumL_pos (p q : Rat) : 0 < sumL p q := Nat.gcd_pos_of_pos_right _ (sumG_pos p q)
theorem sumL_eq (p q : Rat) : sumL p q = Nat.gcd (sumT p q).natAbs (p.den / sumG p q * q.den) := Rat.add.aux p q rfl rfl rfl
theorem sumL_den (p q : Rat) : sumL p q ∣ q.den := Nat.dvd_trans (Nat.gcd_dvd_right _ _) (Nat.gcd_dvd_right _ _)
theorem sum_ends (p q : Rat) : (p + q).num = sumT p q / (sumL p q : Int) ∧ (p + q).den = p.den / sumG p q * (q.den / sumL p q) := by
  have hg := sumG_pos p q
  have hl := sumL_pos p q
  have hp := p.den_pos
  have hq := q.den_pos
  obtain ⟨A, hA⟩ : sumG p q ∣ p.den := Nat.gcd_dvd_left _ _
  obtain ⟨B, hB⟩ : sumG p q ∣ q.den := Nat.gcd_dvd_right _ _
  obtain ⟨L, hL⟩ := sumL_den p q
  have eA : p.den / sumG p q = A := by rw [hA, Nat.mul_div_cancel_left _ hg]
  have eB : q.den / sumG p q = B := by rw [hB, Nat.mul_div_cancel_left _ hg]
  have eL : q.den / sumL p q = L := by rw [hL, Nat.mul_div_cancel_left _ hl]
  obtain ⟨T, hT⟩ : (sumL p q : Int) ∣ sumT p q := by rw [← Int.dvd_natAbs, Int.ofNat_dvd]; exact Nat.gcd_dvd_left _ _
  have eT : sumT p q / (sumL p q : Int) = T := by rw [hT, Int.mul_ediv_cancel_left _ (by omega)]
  rw [eA, eL, eT]
  have hA0 : 0 < A := Nat.pos_of_ne_zero fun h => by rw [h] at hA; omega
  have hL0 : 0 < L := Nat.pos_of_ne_zero fun h => by rw [h] at hL; omega
  refine num_den_of (Nat.mul_pos hA0 hL0) ?_ ?_
  · have h := sumL_eq p q
    have hd : p.den / sumG p q * q.den = sumL p q * (A * L) := by rw [eA, hL]; ac_rfl
    rw [hd, hT, Int.natAbs_mul, Int.natAbs_natCast, Nat.gcd_mul_left] at h
    have : sumL p q * Nat.gcd T.natAbs (A * L) = sumL p q * 1 := by omega
    exact Nat.eq_of_mul_eq_mul_left hl this
  · have hs : sumT p q = p.num * (B : Int) + q.num * (A : Int) := by unfold sumT; rw [eA, eB]
    rw [hs] at hT
    have e1 : ((p.num * (B : Int) + q.num * (A : Int) : Int) : Rat) = ((sumL p q : Int) : Rat) * (T : Rat) := by rw [hT, Rat.intCast_mul]
    rw [Rat.intCast_add, Rat.intCast_mul, Rat.intCast_mul, Rat.intCast_natCast, Rat.intCast_natCast, Rat.intCast_natCast] at e1
    have e2 : (p.den : Rat) = (sumG p q : Rat) * (A : Rat) := by rw [← Rat.natCast_mul, ← hA]
    have e3 : (q.den : Rat) = (sumG p q : Rat) * (B : Rat) := by rw [← Rat.natCast_mul, ← hB]
    have e4 : (q.den : Rat) = (sumL p q : Rat) * (L : Rat) := by rw [← Rat.natCast_mul, ← hL]
    have n1 := cast_ne hg
    have n2 := cast_ne hl
    have n3 := cast_ne hA0
    have n4 := cast_ne hL0
    have n5 := den_ne q
    have n6 := den_ne p
    rw [Rat.natCast_mul]
    have hself : p + q = (p.num : Rat) / (p.den : Rat) + (q.num : Rat) / (q.den : Rat) := by rw [← self_div, ← self_div]
    rw [hself]
    generalize (p.num : Rat) = pn at *
    generalize (q.num : Rat) = qn at *
    generalize (p.den : Rat) = pd at *
    generalize (q.den : Rat) = qd at *
    generalize (sumG p q : Rat) = g at *
    generalize (sumL p q : Rat) = l at *
    generalize (A : Rat) = A' at *
    generalize (B : Rat) = B' at *
    generalize (L : Rat) = L' at *
    generalize (T : Rat) = T' at *
    subst e2
    have n7 : B' ≠ 0 := by intro h; subst h; rw [Rat.mul_zero] at e3; exact n5 e3
    have e5 : pn / (g * A') + qn / qd = (pn * B' + qn * A') / (g * A' * B') := by rw [e3]; grind
    rw [e5, e1]
    have e6 : g * A' * B' = l * L' * A' := by rw [← e4, e3]; grind
    rw [e6]
    grind
theorem mul_ends (p q : Rat) : (p * q).num = p.num / (Nat.gcd p.num.natAbs q.den : Int) * (q.num / (Nat.gcd q.num.natAbs p.den : Int)) ∧ (p * q).den = p.den / Nat.gcd q.num.natAbs p.den * (q.den / Nat.gcd p.num.natAbs q.den) := by
  have h1 : 0 < Nat.gcd p.num.natAbs q.den := Nat.gcd_pos_of_pos_right _ q.den_pos
  have h2 : 0 < Nat.gcd q.num.natAbs p.den := Nat.gcd_pos_of_pos_right _ p.den_pos
  have d1 : ((Nat.gcd p.num.natAbs q.den : Nat) : Int) ∣ p.num := by rw [← Int.dvd_natAbs, Int.ofNat_dvd]; exact Nat.gcd_dvd_left _ _
  have d2 : ((Nat.gcd q.num.natAbs p.den : Nat) : Int) ∣ q.num := by rw [← Int.dvd_natAbs, Int.ofNat_dvd]; exact Nat.gcd_dvd_left _ _
  have d3 : Nat.gcd p.num.natAbs q.den ∣ q.den := Nat.gcd_dvd_right _ _
  have d4 : Nat.gcd q.num.natAbs p.den ∣ p.den := Nat.gcd_dvd_right _ _
  have a1 : (p.num / (Nat.gcd p.num.natAbs q.den : Int)).natAbs = p.num.natAbs / Nat.gcd p.num.natAbs q.den := by rw [Int.natAbs_ediv_of_dvd d1, Int.natAbs_natCast]
  have a2 : (q.num / (Nat.gcd q.num.natAbs p.den : Int)).natAbs = q.num.natAbs / Nat.gcd q.num.natAbs p.den := by rw [Int.natAbs_ediv_of_dvd d2, Int.natAbs_natCast]
  have c1 : Nat.gcd (p.num.natAbs / Nat.gcd p.num.natAbs q.den) (q.den / Nat.gcd p.num.natAbs q.den) = 1 := Nat.coprime_div_gcd_div_gcd h1
  have c2 : Nat.gcd (q.num.natAbs / Nat.gcd q.num.natAbs p.den) (p.den / Nat.gcd q.num.natAbs p.den) = 1 := Nat.coprime_div_gcd_div_gcd h2
  have c3 : Nat.Coprime (p.num.natAbs / Nat.gcd p.num.natAbs q.den) (p.den / Nat.gcd q.num.natAbs p.den) := (p.reduced.coprime_div_left (Nat.gcd_dvd_left ..)).coprime_div_right (Nat.gcd_dvd_right ..)
  have c4 : Nat.Coprime (q.num.natAbs / Nat.gcd q.num.natAbs p.den) (q.den / Nat.gcd p.num.natAbs q.den) := (q.reduced.coprime_div_left (Nat.gcd_dvd_left ..)).coprime_div_right (Nat.gcd_dvd_right ..)
  refine num_den_of (Nat.mul_pos (Nat.div_pos (Nat.le_of_dvd p.den_pos d4) h2) (Nat.div_pos (Nat.le_of_dvd q.den_pos d3) h1)) ?_ ?_
  · rw [Int.natAbs_mul, a1, a2]
    exact Nat.coprime_mul_iff_left.2 ⟨Nat.coprime_mul_iff_right.2 ⟨c3, c1⟩, Nat.coprime_mul_iff_right.2 ⟨c2, c4⟩⟩
  · generalize Nat.gcd p.num.natAbs q.den = g1 at *
    generalize Nat.gcd q.num.natAbs p.den = g2 at *
    clear a1 a2 c1 c2 c3 c4
    obtain ⟨x, hx⟩ := d1
    obtain ⟨y, hy⟩ := d2
    obtain ⟨u, hu⟩ := d3
    obtain ⟨v, hv⟩ := d4
    have n5 := den_ne q
    have n6 := den_ne p
    have n1 := cast_ne h1
    have n2 := cast_ne h2
    have hself : p * q = (p.num : Rat) / (p.den : Rat) * ((q.num : Rat) / (q.den : Rat)) := by rw [← self_div, ← self_div]
    have ex : p.num / (g1 : Int) = x := by rw [hx, Int.mul_ediv_cancel_left _ (by omega)]
    have ey : q.num / (g2 : Int) = y := by rw [hy, Int.mul_ediv_cancel_left _ (by omega)]
    have eu : q.den / g1 = u := by rw [hu, Nat.mul_div_cancel_left _ h1]
    have ev : p.den / g2 = v := by rw [hv, Nat.mul_div_cancel_left _ h2]
    rw [ex, ey, eu, ev, hself, Rat.natCast_mul, Rat.intCast_mul]
    have f1 : (p.num : Rat) = (g1 : Rat) * (x : Rat) := by rw [hx, Rat.intCast_mul, Rat.intCast_natCast]
    have f2 : (q.num : Rat) = (g2 : Rat) * (y : Rat) := by rw [hy, Rat.intCast_mul, Rat.intCast_natCast]
    have f3 : (q.den : Rat) = (g1 : Rat) * (u : Rat) := by rw [hu, Rat.natCast_mul]
    have f4 : (p.den : Rat) = (g2 : Rat) * (v : Rat) := by rw [hv, Rat.natCast_mul]
    rw [f3] at n5
    rw [f4] at n6
    rw [f1, f2, f3, f4]
    grind
set_option maxRecDepth 100000 in
set_option maxHeartbeats 4000000 in
theorem Add_any (a b : Value) (p q : Rat) (w : World) (ha : IsR w a p) (hb : IsR w b q) (sp : Lr p 20000) (sq : Lr q 20000) :
    Calls Tryz.prog 98 #[a, b] w fun e w' => ∃ u, e = .returned u ∧ (IsR w' u (p + q) ∧ u ≠ .pointer none) ∧ Below w.heap.size w w' := by
  have H_a := Lib.hid ha
  have H_b := Lib.hid hb
  clear ha hb
  have c1 := fun (W : World) (v0 : Value) (hh0 : rat.IsR W v0 p)  => rat.Den_any v0 p W hh0
  have C1 := Lib.hid c1
  clear c1
  have c2 := fun (W : World) (v0 : Value) (hh0 : rat.IsR W v0 q)  => rat.Den_any v0 q W hh0
  have C2 := Lib.hid c2
  clear c2
  have c3 := fun (W : World) (v0 : Value) (v1 : Value) (hh0 : num.IsZ W v0 ((p.den : Nat) : Int)) (hh1 : num.IsZ W v1 ((q.den : Nat) : Int))  => divisor_any v0 v1 ((p.den : Nat) : Int) ((q.den : Nat) : Int) W hh0 hh1 ((Lz_nat sp.2).le (by decide)) ((Lz_nat sq.2).le (by decide))
  rw [show (((Nat.gcd (Int.natAbs ((p.den : Nat) : Int)) (Int.natAbs ((q.den : Nat) : Int))) : Nat) : Int) = ((sumG p q : Nat) : Int) by rw [Int.natAbs_natCast, Int.natAbs_natCast]; rfl] at c3
  have C3 := Lib.hid c3
  clear c3
  have c4 := fun (W : World) (v0 : Value) (hh0 : rat.IsR W v0 p)  => rat.Den_any v0 p W hh0
  have C4 := Lib.hid c4
  clear c4
  have c5 := fun (W : World) (v0 : Value) (v1 : Value) (hh0 : num.IsZ W v0 ((p.den : Nat) : Int)) (hh1 : num.IsZ W v1 (((sumG p q) : Nat) : Int))  => part_any v0 v1 ((p.den : Nat) : Int) (((sumG p q) : Nat) : Int) W hh0 hh1 ((Lz_nat sp.2).le (by decide)) ((Lz_nat (Ln_gcd sp.2 sq.2)).le (by decide)) (by have := sumG_pos p q; omega)
  rw [fdiv_nat (sumG_pos p q) (Nat.gcd_dvd_left _ _)] at c5
  have C5 := Lib.hid c5
  clear c5
  have c6 := fun (W : World) (v0 : Value) (hh0 : rat.IsR W v0 q)  => rat.Den_any v0 q W hh0
  have C6 := Lib.hid c6
  clear c6
  have c7 := fun (W : World) (v0 : Value) (v1 : Value) (hh0 : num.IsZ W v0 ((q.den : Nat) : Int)) (hh1 : num.IsZ W v1 (((sumG p q) : Nat) : Int))  => part_any v0 v1 ((q.den : Nat) : Int) (((sumG p q) : Nat) : Int) W hh0 hh1 ((Lz_nat sq.2).le (by decide)) ((Lz_nat (Ln_gcd sp.2 sq.2)).le (by decide)) (by have := sumG_pos p q; omega)
  rw [fdiv_nat (sumG_pos p q) (Nat.gcd_dvd_right _ _)] at c7
  have C7 := Lib.hid c7
  clear c7
  have c8 := fun (W : World) (v0 : Value) (hh0 : rat.IsR W v0 p)  => rat.Num_any v0 p W hh0
  have C8 := Lib.hid c8
  clear c8
  have c9 := fun (W : World) (v0 : Value) (v1 : Value) (hh0 : num.IsZ W v0 p.num) (hh1 : num.IsZ W v1 (((q.den / sumG p q) : Nat) : Int))  => num.Mul_any v0 v1 p.num (((q.den / sumG p q) : Nat) : Int) W hh0 hh1 (sp.1.le (by decide)) ((Lz_nat (Ln_less (Nat.div_le_self _ _) sq.2)).le (by decide))
  have C9 := Lib.hid c9
  clear c9
  have c10 := fun (W : World) (v0 : Value) (hh0 : rat.IsR W v0 q)  => rat.Num_any v0 q W hh0
  have C10 := Lib.hid c10
  clear c10
  have c11 := fun (W : World) (v0 : Value) (v1 : Value) (hh0 : num.IsZ W v0 q.num) (hh1 : num.IsZ W v1 (((p.den / sumG p q) : Nat) : Int))  => num.Mul_any v0 v1 q.num (((p.den / sumG p q) : Nat) : Int) W hh0 hh1 (sq.1.le (by decide)) ((Lz_nat (Ln_less (Nat.div_le_self _ _) sp.2)).le (by decide))
  have C11 := Lib.hid c11
  clear c11
  have c12 := fun (W : World) (v0 : Value) (v1 : Value) (hh0 : num.IsZ W v0 (p.num * (((q.den / sumG p q) : Nat) : Int))) (hh1 : num.IsZ W v1 (q.num * (((p.den / sumG p q) : Nat) : Int)))  => num.Add_any v0 v1 (p.num * (((q.den / sumG p q) : Nat) : Int)) (q.num * (((p.den / sumG p q) : Nat) : Int)) W hh0 hh1 ((Lz_mul sp.1 (Lz_nat (Ln_less (Nat.div_le_self _ _) sq.2))).le (by decide)) ((Lz_mul sq.1 (Lz_nat (Ln_less (Nat.div_le_self _ _) sp.2))).le (by decide))
  rw [show ((p.num * (((q.den / sumG p q) : Nat) : Int)) + (q.num * (((p.den / sumG p q) : Nat) : Int))) = sumT p q from rfl] at c12
  have C12 := Lib.hid c12
  clear c12
  have c13 := fun (W : World) (v0 : Value) (v1 : Value) (hh0 : num.IsZ W v0 (sumT p q)) (hh1 : num.IsZ W v1 (((sumG p q) : Nat) : Int))  => divisor_any v0 v1 (sumT p q) (((sumG p q) : Nat) : Int) W hh0 hh1 ((show Lz (sumT p q) 80001 from Lz_add (Lz_mul sp.1 (Lz_nat (Ln_less (Nat.div_le_self _ _) sq.2))) (Lz_mul sq.1 (Lz_nat (Ln_less (Nat.div_le_self _ _) sp.2)))).le (by decide)) ((Lz_nat (Ln_gcd sp.2 sq.2)).le (by decide))
  rw [show (((Nat.gcd (Int.natAbs (sumT p q)) (Int.natAbs ((sumG p q : Nat) : Int))) : Nat) : Int) = ((sumL p q : Nat) : Int) by rw [Int.natAbs_natCast]; rfl] at c13
  have C13 := Lib.hid c13
  clear c13
  have c14 := fun (W : World) (v0 : Value) (v1 : Value) (hh0 : num.IsZ W v0 (sumT p q)) (hh1 : num.IsZ W v1 (((sumL p q) : Nat) : Int))  => part_any v0 v1 (sumT p q) (((sumL p q) : Nat) : Int) W hh0 hh1 ((show Lz (sumT p q) 80001 from Lz_add (Lz_mul sp.1 (Lz_nat (Ln_less (Nat.div_le_self _ _) sq.2))) (Lz_mul sq.1 (Lz_nat (Ln_less (Nat.div_le_self _ _) sp.2)))).le (by decide)) ((Lz_nat (show Ln (sumL p q) 120001 from Ln_gcd (Ln_abs (show Lz (sumT p q) 80001 from Lz_add (Lz_mul sp.1 (Lz_nat (Ln_less (Nat.div_le_self _ _) sq.2))) (Lz_mul sq.1 (Lz_nat (Ln_less (Nat.div_le_self _ _) sp.2))))) (Ln_gcd sp.2 sq.2))).le (by decide)) (by have := sumL_pos p q; omega)
  have hdv : ((sumL p q : Nat) : Int) ∣ sumT p q := by rw [← Int.dvd_natAbs, Int.ofNat_dvd]; exact Nat.gcd_dvd_left _ _
  rw [show Int.fdiv (sumT p q) ((sumL p q : Nat) : Int) = (p + q).num by rw [(sum_ends p q).1, Int.fdiv_eq_ediv_of_nonneg _ (by omega)]] at c14
  clear hdv
  have C14 := Lib.hid c14
  clear c14
  have c15 := fun (W : World) (v0 : Value) (hh0 : rat.IsR W v0 q)  => rat.Den_any v0 q W hh0
  have C15 := Lib.hid c15
  clear c15
  have c16 := fun (W : World) (v0 : Value) (v1 : Value) (hh0 : num.IsZ W v0 ((q.den : Nat) : Int)) (hh1 : num.IsZ W v1 (((sumL p q) : Nat) : Int))  => part_any v0 v1 ((q.den : Nat) : Int) (((sumL p q) : Nat) : Int) W hh0 hh1 ((Lz_nat sq.2).le (by decide)) ((Lz_nat (show Ln (sumL p q) 120001 from Ln_gcd (Ln_abs (show Lz (sumT p q) 80001 from Lz_add (Lz_mul sp.1 (Lz_nat (Ln_less (Nat.div_le_self _ _) sq.2))) (Lz_mul sq.1 (Lz_nat (Ln_less (Nat.div_le_self _ _) sp.2))))) (Ln_gcd sp.2 sq.2))).le (by decide)) (by have := sumL_pos p q; omega)
  rw [fdiv_nat (sumL_pos p q) (sumL_den p q)] at c16
  have C16 := Lib.hid c16
  clear c16
  have c17 := fun (W : World) (v0 : Value) (v1 : Value) (hh0 : num.IsZ W v0 (((p.den / sumG p q) : Nat) : Int)) (hh1 : num.IsZ W v1 (((q.den / sumL p q) : Nat) : Int))  => num.Mul_any v0 v1 (((p.den / sumG p q) : Nat) : Int) (((q.den / sumL p q) : Nat) : Int) W hh0 hh1 ((Lz_nat (Ln_less (Nat.div_le_self _ _) sp.2)).le (by decide)) ((Lz_nat (Ln_less (Nat.div_le_self _ _) sq.2)).le (by decide))
  rw [show ((((p.den / sumG p q) : Nat) : Int) * (((q.den / sumL p q) : Nat) : Int)) = (((p + q).den : Nat) : Int) by rw [(sum_ends p q).2, Int.natCast_mul]] at c17
  have C17 := Lib.hid c17
  clear c17
  have c18 := fun (W : World) (v0 : Value) (v1 : Value) (hh0 : num.IsZ W v0 (p + q).num) (hh1 : num.IsZ W v1 (((p + q).den : Nat) : Int)) (n0 : v0 ≠ .pointer none) (n1 : v1 ≠ .pointer none) => own_at (p + q) v0 v1 _ _ W hh0 n0 hh1 n1 rfl rfl
  have C18 := Lib.hid c18
  clear c18
  go_enter Tryz.func98, Tryz.ntmps98
  go_wp2_with (first
    | (go_at_call 95; (with_reducible refine (C1.out _ _ H_a.out).mono ?_); rintro e W1 ⟨d1, rfl, ⟨h_d1, n_d1⟩, hb⟩
       have H_d1 := Lib.hid h_d1
       have N_d1 := Lib.hid n_d1
       have HB1 := Lib.hid hb
       clear h_d1 n_d1 hb C1)
    | (go_at_call 95; (with_reducible refine (C2.out _ _ (H_b.out.below HB1.out)).mono ?_); rintro e W2 ⟨d2, rfl, ⟨h_d2, n_d2⟩, hb⟩
       have H_d2 := Lib.hid h_d2
       have N_d2 := Lib.hid n_d2
       have HB2 := Lib.hid hb
       clear h_d2 n_d2 hb C2)
    | (go_at_call 129; (with_reducible refine (C3.out _ _ _ (H_d1.out.below HB2.out) H_d2.out).mono ?_); rintro e W3 ⟨g, rfl, ⟨h_g, n_g⟩, hb⟩
       have H_g := Lib.hid h_g
       have N_g := Lib.hid n_g
       have HB3 := Lib.hid hb
       clear h_g n_g hb C3)
    | (go_at_call 95; (with_reducible refine (C4.out _ _ (((H_a.out.below HB1.out).below HB2.out).below HB3.out)).mono ?_); rintro e W4 ⟨d3, rfl, ⟨h_d3, n_d3⟩, hb⟩
       have H_d3 := Lib.hid h_d3
       have N_d3 := Lib.hid n_d3
       have HB4 := Lib.hid hb
       clear h_d3 n_d3 hb C4)
    | (go_at_call 139; (with_reducible refine (C5.out _ _ _ H_d3.out (H_g.out.below HB4.out)).mono ?_); rintro e W5 ⟨mine, rfl, ⟨h_mine, n_mine⟩, hb⟩
       have H_mine := Lib.hid h_mine
       have N_mine := Lib.hid n_mine
       have HB5 := Lib.hid hb
       clear h_mine n_mine hb C5)
    | (go_at_call 95; (with_reducible refine (C6.out _ _ (((((H_b.out.below HB1.out).below HB2.out).below HB3.out).below HB4.out).below HB5.out)).mono ?_); rintro e W6 ⟨d4, rfl, ⟨h_d4, n_d4⟩, hb⟩
       have H_d4 := Lib.hid h_d4
       have N_d4 := Lib.hid n_d4
       have HB6 := Lib.hid hb
       clear h_d4 n_d4 hb C6)
    | (go_at_call 139; (with_reducible refine (C7.out _ _ _ H_d4.out (((H_g.out.below HB4.out).below HB5.out).below HB6.out)).mono ?_); rintro e W7 ⟨other, rfl, ⟨h_other, n_other⟩, hb⟩
       have H_other := Lib.hid h_other
       have N_other := Lib.hid n_other
       have HB7 := Lib.hid hb
       clear h_other n_other hb C7)
    | (go_at_call 99; (with_reducible refine (C8.out _ _ (((((((H_a.out.below HB1.out).below HB2.out).below HB3.out).below HB4.out).below HB5.out).below HB6.out).below HB7.out)).mono ?_); rintro e W8 ⟨n1, rfl, ⟨h_n1, n_n1⟩, hb⟩
       have H_n1 := Lib.hid h_n1
       have N_n1 := Lib.hid n_n1
       have HB8 := Lib.hid hb
       clear h_n1 n_n1 hb C8)
    | (go_at_call 54; (with_reducible refine (C9.out _ _ _ H_n1.out (H_other.out.below HB8.out)).mono ?_); rintro e W9 ⟨m1, rfl, ⟨h_m1, n_m1⟩, hb⟩
       have H_m1 := Lib.hid h_m1
       have N_m1 := Lib.hid n_m1
       have HB9 := Lib.hid hb
       clear h_m1 n_m1 hb C9)
    | (go_at_call 99; (with_reducible refine (C10.out _ _ (((((((((H_b.out.below HB1.out).below HB2.out).below HB3.out).below HB4.out).below HB5.out).below HB6.out).below HB7.out).below HB8.out).below HB9.out)).mono ?_); rintro e W10 ⟨n2, rfl, ⟨h_n2, n_n2⟩, hb⟩
       have H_n2 := Lib.hid h_n2
       have N_n2 := Lib.hid n_n2
       have HB10 := Lib.hid hb
       clear h_n2 n_n2 hb C10)
    | (go_at_call 54; (with_reducible refine (C11.out _ _ _ H_n2.out (((((H_mine.out.below HB6.out).below HB7.out).below HB8.out).below HB9.out).below HB10.out)).mono ?_); rintro e W11 ⟨m2, rfl, ⟨h_m2, n_m2⟩, hb⟩
       have H_m2 := Lib.hid h_m2
       have N_m2 := Lib.hid n_m2
       have HB11 := Lib.hid hb
       clear h_m2 n_m2 hb C11)
    | (go_at_call 55; (with_reducible refine (C12.out _ _ _ ((H_m1.out.below HB10.out).below HB11.out) H_m2.out).mono ?_); rintro e W12 ⟨top, rfl, ⟨h_top, n_top⟩, hb⟩
       have H_top := Lib.hid h_top
       have N_top := Lib.hid n_top
       have HB12 := Lib.hid hb
       clear h_top n_top hb C12)
    | (go_at_call 129; (with_reducible refine (C13.out _ _ _ H_top.out (((((((((H_g.out.below HB4.out).below HB5.out).below HB6.out).below HB7.out).below HB8.out).below HB9.out).below HB10.out).below HB11.out).below HB12.out)).mono ?_); rintro e W13 ⟨left, rfl, ⟨h_left, n_left⟩, hb⟩
       have H_left := Lib.hid h_left
       have N_left := Lib.hid n_left
       have HB13 := Lib.hid hb
       clear h_left n_left hb C13)
    | (go_at_call 139; (with_reducible refine (C14.out _ _ _ (H_top.out.below HB13.out) H_left.out).mono ?_); rintro e W14 ⟨t, rfl, ⟨h_t, n_t⟩, hb⟩
       have H_t := Lib.hid h_t
       have N_t := Lib.hid n_t
       have HB14 := Lib.hid hb
       clear h_t n_t hb C14)
    | (go_at_call 95; (with_reducible refine (C15.out _ _ ((((((((((((((H_b.out.below HB1.out).below HB2.out).below HB3.out).below HB4.out).below HB5.out).below HB6.out).below HB7.out).below HB8.out).below HB9.out).below HB10.out).below HB11.out).below HB12.out).below HB13.out).below HB14.out)).mono ?_); rintro e W15 ⟨d5, rfl, ⟨h_d5, n_d5⟩, hb⟩
       have H_d5 := Lib.hid h_d5
       have N_d5 := Lib.hid n_d5
       have HB15 := Lib.hid hb
       clear h_d5 n_d5 hb C15)
    | (go_at_call 139; (with_reducible refine (C16.out _ _ _ H_d5.out ((H_left.out.below HB14.out).below HB15.out)).mono ?_); rintro e W16 ⟨under, rfl, ⟨h_under, n_under⟩, hb⟩
       have H_under := Lib.hid h_under
       have N_under := Lib.hid n_under
       have HB16 := Lib.hid hb
       clear h_under n_under hb C16)
    | (go_at_call 54; (with_reducible refine (C17.out _ _ _ (((((((((((H_mine.out.below HB6.out).below HB7.out).below HB8.out).below HB9.out).below HB10.out).below HB11.out).below HB12.out).below HB13.out).below HB14.out).below HB15.out).below HB16.out) H_under.out).mono ?_); rintro e W17 ⟨m3, rfl, ⟨h_m3, n_m3⟩, hb⟩
       have H_m3 := Lib.hid h_m3
       have N_m3 := Lib.hid n_m3
       have HB17 := Lib.hid hb
       clear h_m3 n_m3 hb C17)
    | (go_at_call 128; (with_reducible refine (C18.out _ _ _ (((H_t.out.below HB15.out).below HB16.out).below HB17.out) H_m3.out N_t.out N_m3.out).mono ?_); rintro e W18 ⟨u, rfl, ⟨h_u, n_u⟩, hb⟩
       have H_u := Lib.hid h_u
       have N_u := Lib.hid n_u
       have HB18 := Lib.hid hb
       clear h_u n_u hb C18)
    | (fail "no arm"))
  go_ret
  exact ⟨_, rfl, ⟨H_u.out, N_u.out⟩, (nat.below_tr (nat.below_tr (nat.below_tr (nat.below_tr (nat.below_tr (nat.below_tr (nat.below_tr (nat.below_tr (nat.below_tr (nat.below_tr (nat.below_tr (nat.below_tr (nat.below_tr (nat.below_tr (nat.below_tr (nat.below_tr (nat.below_tr HB1.out HB2.out) HB3.out) HB4.out) HB5.out) HB6.out) HB7.out) HB8.out) HB9.out) HB10.out) HB11.out) HB12.out) HB13.out) HB14.out) HB15.out) HB16.out) HB17.out) HB18.out)⟩
set_option maxRecDepth 100000 in
set_option maxHeartbeats 4000000 in
theorem Sub_any (a b : Value) (p q : Rat) (w : World) (ha : IsR w a p) (hb : IsR w b q) (sp : Lr p 20000) (sq : Lr q 20000) :
    Calls Tryz.prog 89 #[a, b] w fun e w' => ∃ u, e = .returned u ∧ (IsR w' u (p - q) ∧ u ≠ .pointer none) ∧ Below w.heap.size w w' := by
  have H_a := Lib.hid ha
  have H_b := Lib.hid hb
  clear ha hb
  have c1 := fun (W : World) (v0 : Value) (hh0 : rat.IsR W v0 q)  => rat.Num_any v0 q W hh0
  have C1 := Lib.hid c1
  clear c1
  have c2 := fun (W : World) (v0 : Value) (hh0 : num.IsZ W v0 q.num)  => num.Neg_any v0 q.num W hh0
  have C2 := Lib.hid c2
  clear c2
  have c3 := fun (W : World) (v0 : Value) (hh0 : rat.IsR W v0 q)  => rat.Den_any v0 q W hh0
  have C3 := Lib.hid c3
  clear c3
  have c4 := fun (W : World) (v0 : Value) (v1 : Value) (hh0 : num.IsZ W v0 (-q.num)) (hh1 : num.IsZ W v1 ((q.den : Nat) : Int)) (n0 : v0 ≠ .pointer none) (n1 : v1 ≠ .pointer none) => own_at (-q) v0 v1 _ _ W hh0 n0 hh1 n1 rfl rfl
  have C4 := Lib.hid c4
  clear c4
  have c5 := fun (W : World) (v0 : Value) (v1 : Value) (hh0 : rat.IsR W v0 p) (hh1 : rat.IsR W v1 (-q))  => Add_any v0 v1 p (-q) W hh0 hh1 sp ⟨Lz_neg sq.1, sq.2⟩
  rw [← Rat.sub_eq_add_neg] at c5
  have C5 := Lib.hid c5
  clear c5
  go_enter Tryz.func89, Tryz.ntmps89
  go_wp2_with (first
    | (go_at_call 99; (with_reducible refine (C1.out _ _ H_b.out).mono ?_); rintro e W1 ⟨n, rfl, ⟨h_n, n_n⟩, hb⟩
       have H_n := Lib.hid h_n
       have N_n := Lib.hid n_n
       have HB1 := Lib.hid hb
       clear h_n n_n hb C1)
    | (go_at_call 65; (with_reducible refine (C2.out _ _ H_n.out).mono ?_); rintro e W2 ⟨m, rfl, ⟨h_m, n_m⟩, hb⟩
       have H_m := Lib.hid h_m
       have N_m := Lib.hid n_m
       have HB2 := Lib.hid hb
       clear h_m n_m hb C2)
    | (go_at_call 95; (with_reducible refine (C3.out _ _ ((H_b.out.below HB1.out).below HB2.out)).mono ?_); rintro e W3 ⟨d, rfl, ⟨h_d, n_d⟩, hb⟩
       have H_d := Lib.hid h_d
       have N_d := Lib.hid n_d
       have HB3 := Lib.hid hb
       clear h_d n_d hb C3)
    | (go_at_call 128; (with_reducible refine (C4.out _ _ _ (H_m.out.below HB3.out) H_d.out N_m.out N_d.out).mono ?_); rintro e W4 ⟨c, rfl, ⟨h_c, n_c⟩, hb⟩
       have H_c := Lib.hid h_c
       have N_c := Lib.hid n_c
       have HB4 := Lib.hid hb
       clear h_c n_c hb C4)
    | (go_at_call 98; (with_reducible refine (C5.out _ _ _ ((((H_a.out.below HB1.out).below HB2.out).below HB3.out).below HB4.out) H_c.out).mono ?_); rintro e W5 ⟨u, rfl, ⟨h_u, n_u⟩, hb⟩
       have H_u := Lib.hid h_u
       have N_u := Lib.hid n_u
       have HB5 := Lib.hid hb
       clear h_u n_u hb C5)
    | (fail "no arm"))
  go_ret
  exact ⟨_, rfl, ⟨H_u.out, N_u.out⟩, (nat.below_tr (nat.below_tr (nat.below_tr (nat.below_tr HB1.out HB2.out) HB3.out) HB4.out) HB5.out)⟩
set_option maxRecDepth 100000 in
set_option maxHeartbeats 4000000 in
theorem Mul_any (a b : Value) (p q : Rat) (w : World) (ha : IsR w a p) (hb : IsR w b q) (sp : Lr p 20000) (sq : Lr q 20000) :
    Calls Tryz.prog 91 #[a, b] w fun e w' => ∃ u, e = .returned u ∧ (IsR w' u (p * q) ∧ u ≠ .pointer none) ∧ Below w.heap.size w w' := by
  have H_a := Lib.hid ha
  have H_b := Lib.hid hb
  clear ha hb
  have g1 : 0 < Nat.gcd p.num.natAbs q.den := Nat.gcd_pos_of_pos_right _ q.den_pos
  have g2 : 0 < Nat.gcd q.num.natAbs p.den := Nat.gcd_pos_of_pos_right _ p.den_pos
  have c1 := fun (W : World) (v0 : Value) (hh0 : rat.IsR W v0 p)  => rat.Num_any v0 p W hh0
  have C1 := Lib.hid c1
  clear c1
  have c2 := fun (W : World) (v0 : Value) (hh0 : rat.IsR W v0 q)  => rat.Den_any v0 q W hh0
  have C2 := Lib.hid c2
  clear c2
  have c3 := fun (W : World) (v0 : Value) (v1 : Value) (hh0 : num.IsZ W v0 p.num) (hh1 : num.IsZ W v1 ((q.den : Nat) : Int))  => divisor_any v0 v1 p.num ((q.den : Nat) : Int) W hh0 hh1 (sp.1.le (by decide)) ((Lz_nat sq.2).le (by decide))
  rw [Int.natAbs_natCast] at c3
  have C3 := Lib.hid c3
  clear c3
  have c4 := fun (W : World) (v0 : Value) (hh0 : rat.IsR W v0 q)  => rat.Num_any v0 q W hh0
  have C4 := Lib.hid c4
  clear c4
  have c5 := fun (W : World) (v0 : Value) (hh0 : rat.IsR W v0 p)  => rat.Den_any v0 p W hh0
  have C5 := Lib.hid c5
  clear c5
  have c6 := fun (W : World) (v0 : Value) (v1 : Value) (hh0 : num.IsZ W v0 q.num) (hh1 : num.IsZ W v1 ((p.den : Nat) : Int))  => divisor_any v0 v1 q.num ((p.den : Nat) : Int) W hh0 hh1 (sq.1.le (by decide)) ((Lz_nat sp.2).le (by decide))
  rw [Int.natAbs_natCast] at c6
  have C6 := Lib.hid c6
  clear c6
  have c7 := fun (W : World) (v0 : Value) (hh0 : rat.IsR W v0 p)  => rat.Num_any v0 p W hh0
  have C7 := Lib.hid c7
  clear c7
  have c8 := fun (W : World) (v0 : Value) (v1 : Value) (hh0 : num.IsZ W v0 p.num) (hh1 : num.IsZ W v1 (((Nat.gcd p.num.natAbs q.den) : Nat) : Int))  => part_any v0 v1 p.num (((Nat.gcd p.num.natAbs q.den) : Nat) : Int) W hh0 hh1 (sp.1.le (by decide)) ((Lz_nat (Ln_gcd (Ln_abs sp.1) sq.2)).le (by decide)) (by omega)
  rw [Int.fdiv_eq_ediv_of_nonneg _ (by omega)] at c8
  have C8 := Lib.hid c8
  clear c8
  have c9 := fun (W : World) (v0 : Value) (hh0 : rat.IsR W v0 q)  => rat.Num_any v0 q W hh0
  have C9 := Lib.hid c9
  clear c9
  have c10 := fun (W : World) (v0 : Value) (v1 : Value) (hh0 : num.IsZ W v0 q.num) (hh1 : num.IsZ W v1 (((Nat.gcd q.num.natAbs p.den) : Nat) : Int))  => part_any v0 v1 q.num (((Nat.gcd q.num.natAbs p.den) : Nat) : Int) W hh0 hh1 (sq.1.le (by decide)) ((Lz_nat (Ln_gcd (Ln_abs sq.1) sp.2)).le (by decide)) (by omega)
  rw [Int.fdiv_eq_ediv_of_nonneg _ (by omega)] at c10
  have C10 := Lib.hid c10
  clear c10
  have c11 := fun (W : World) (v0 : Value) (v1 : Value) (hh0 : num.IsZ W v0 (p.num / ((Nat.gcd p.num.natAbs q.den : Nat) : Int))) (hh1 : num.IsZ W v1 (q.num / ((Nat.gcd q.num.natAbs p.den : Nat) : Int)))  => num.Mul_any v0 v1 (p.num / ((Nat.gcd p.num.natAbs q.den : Nat) : Int)) (q.num / ((Nat.gcd q.num.natAbs p.den : Nat) : Int)) W hh0 hh1 ((show Lz (p.num / ((Nat.gcd p.num.natAbs q.den : Nat) : Int)) 20000 from by rw [← Int.fdiv_eq_ediv_of_nonneg _ (by omega)]; exact Lz_fdiv sp.1).le (by decide)) ((show Lz (q.num / ((Nat.gcd q.num.natAbs p.den : Nat) : Int)) 20000 from by rw [← Int.fdiv_eq_ediv_of_nonneg _ (by omega)]; exact Lz_fdiv sq.1).le (by decide))
  rw [show ((p.num / ((Nat.gcd p.num.natAbs q.den : Nat) : Int)) * (q.num / ((Nat.gcd q.num.natAbs p.den : Nat) : Int))) = (p * q).num from (mul_ends p q).1.symm] at c11
  have C11 := Lib.hid c11
  clear c11
  have c12 := fun (W : World) (v0 : Value) (hh0 : rat.IsR W v0 p)  => rat.Den_any v0 p W hh0
  have C12 := Lib.hid c12
  clear c12
  have c13 := fun (W : World) (v0 : Value) (v1 : Value) (hh0 : num.IsZ W v0 ((p.den : Nat) : Int)) (hh1 : num.IsZ W v1 (((Nat.gcd q.num.natAbs p.den) : Nat) : Int))  => part_any v0 v1 ((p.den : Nat) : Int) (((Nat.gcd q.num.natAbs p.den) : Nat) : Int) W hh0 hh1 ((Lz_nat sp.2).le (by decide)) ((Lz_nat (Ln_gcd (Ln_abs sq.1) sp.2)).le (by decide)) (by omega)
  rw [fdiv_nat g2 (Nat.gcd_dvd_right _ _)] at c13
  have C13 := Lib.hid c13
  clear c13
  have c14 := fun (W : World) (v0 : Value) (hh0 : rat.IsR W v0 q)  => rat.Den_any v0 q W hh0
  have C14 := Lib.hid c14
  clear c14
  have c15 := fun (W : World) (v0 : Value) (v1 : Value) (hh0 : num.IsZ W v0 ((q.den : Nat) : Int)) (hh1 : num.IsZ W v1 (((Nat.gcd p.num.natAbs q.den) : Nat) : Int))  => part_any v0 v1 ((q.den : Nat) : Int) (((Nat.gcd p.num.natAbs q.den) : Nat) : Int) W hh0 hh1 ((Lz_nat sq.2).le (by decide)) ((Lz_nat (Ln_gcd (Ln_abs sp.1) sq.2)).le (by decide)) (by omega)
  rw [fdiv_nat g1 (Nat.gcd_dvd_right _ _)] at c15
  have C15 := Lib.hid c15
  clear c15
  have c16 := fun (W : World) (v0 : Value) (v1 : Value) (hh0 : num.IsZ W v0 (((p.den / Nat.gcd q.num.natAbs p.den) : Nat) : Int)) (hh1 : num.IsZ W v1 (((q.den / Nat.gcd p.num.natAbs q.den) : Nat) : Int))  => num.Mul_any v0 v1 (((p.den / Nat.gcd q.num.natAbs p.den) : Nat) : Int) (((q.den / Nat.gcd p.num.natAbs q.den) : Nat) : Int) W hh0 hh1 ((Lz_nat (Ln_less (Nat.div_le_self _ _) sp.2)).le (by decide)) ((Lz_nat (Ln_less (Nat.div_le_self _ _) sq.2)).le (by decide))
  rw [show ((((p.den / Nat.gcd q.num.natAbs p.den) : Nat) : Int) * (((q.den / Nat.gcd p.num.natAbs q.den) : Nat) : Int)) = (((p * q).den : Nat) : Int) by rw [(mul_ends p q).2, Int.natCast_mul]] at c16
  have C16 := Lib.hid c16
  clear c16
  have c17 := fun (W : World) (v0 : Value) (v1 : Value) (hh0 : num.IsZ W v0 (p * q).num) (hh1 : num.IsZ W v1 (((p * q).den : Nat) : Int)) (n0 : v0 ≠ .pointer none) (n1 : v1 ≠ .pointer none) => own_at (p * q) v0 v1 _ _ W hh0 n0 hh1 n1 rfl rfl
  have C17 := Lib.hid c17
  clear c17
  go_enter Tryz.func91, Tryz.ntmps91
  go_wp2_with (first
    | (go_at_call 99; (with_reducible refine (C1.out _ _ H_a.out).mono ?_); rintro e W1 ⟨x1, rfl, ⟨h_x1, n_x1⟩, hb⟩
       have H_x1 := Lib.hid h_x1
       have N_x1 := Lib.hid n_x1
       have HB1 := Lib.hid hb
       clear h_x1 n_x1 hb C1)
    | (go_at_call 95; (with_reducible refine (C2.out _ _ (H_b.out.below HB1.out)).mono ?_); rintro e W2 ⟨x2, rfl, ⟨h_x2, n_x2⟩, hb⟩
       have H_x2 := Lib.hid h_x2
       have N_x2 := Lib.hid n_x2
       have HB2 := Lib.hid hb
       clear h_x2 n_x2 hb C2)
    | (go_at_call 129; (with_reducible refine (C3.out _ _ _ (H_x1.out.below HB2.out) H_x2.out).mono ?_); rintro e W3 ⟨down, rfl, ⟨h_down, n_down⟩, hb⟩
       have H_down := Lib.hid h_down
       have N_down := Lib.hid n_down
       have HB3 := Lib.hid hb
       clear h_down n_down hb C3)
    | (go_at_call 99; (with_reducible refine (C4.out _ _ (((H_b.out.below HB1.out).below HB2.out).below HB3.out)).mono ?_); rintro e W4 ⟨x3, rfl, ⟨h_x3, n_x3⟩, hb⟩
       have H_x3 := Lib.hid h_x3
       have N_x3 := Lib.hid n_x3
       have HB4 := Lib.hid hb
       clear h_x3 n_x3 hb C4)
    | (go_at_call 95; (with_reducible refine (C5.out _ _ ((((H_a.out.below HB1.out).below HB2.out).below HB3.out).below HB4.out)).mono ?_); rintro e W5 ⟨x4, rfl, ⟨h_x4, n_x4⟩, hb⟩
       have H_x4 := Lib.hid h_x4
       have N_x4 := Lib.hid n_x4
       have HB5 := Lib.hid hb
       clear h_x4 n_x4 hb C5)
    | (go_at_call 129; (with_reducible refine (C6.out _ _ _ (H_x3.out.below HB5.out) H_x4.out).mono ?_); rintro e W6 ⟨up, rfl, ⟨h_up, n_up⟩, hb⟩
       have H_up := Lib.hid h_up
       have N_up := Lib.hid n_up
       have HB6 := Lib.hid hb
       clear h_up n_up hb C6)
    | (go_at_call 99; (with_reducible refine (C7.out _ _ ((((((H_a.out.below HB1.out).below HB2.out).below HB3.out).below HB4.out).below HB5.out).below HB6.out)).mono ?_); rintro e W7 ⟨y1, rfl, ⟨h_y1, n_y1⟩, hb⟩
       have H_y1 := Lib.hid h_y1
       have N_y1 := Lib.hid n_y1
       have HB7 := Lib.hid hb
       clear h_y1 n_y1 hb C7)
    | (go_at_call 139; (with_reducible refine (C8.out _ _ _ H_y1.out ((((H_down.out.below HB4.out).below HB5.out).below HB6.out).below HB7.out)).mono ?_); rintro e W8 ⟨y2, rfl, ⟨h_y2, n_y2⟩, hb⟩
       have H_y2 := Lib.hid h_y2
       have N_y2 := Lib.hid n_y2
       have HB8 := Lib.hid hb
       clear h_y2 n_y2 hb C8)
    | (go_at_call 99; (with_reducible refine (C9.out _ _ ((((((((H_b.out.below HB1.out).below HB2.out).below HB3.out).below HB4.out).below HB5.out).below HB6.out).below HB7.out).below HB8.out)).mono ?_); rintro e W9 ⟨y3, rfl, ⟨h_y3, n_y3⟩, hb⟩
       have H_y3 := Lib.hid h_y3
       have N_y3 := Lib.hid n_y3
       have HB9 := Lib.hid hb
       clear h_y3 n_y3 hb C9)
    | (go_at_call 139; (with_reducible refine (C10.out _ _ _ H_y3.out (((H_up.out.below HB7.out).below HB8.out).below HB9.out)).mono ?_); rintro e W10 ⟨y4, rfl, ⟨h_y4, n_y4⟩, hb⟩
       have H_y4 := Lib.hid h_y4
       have N_y4 := Lib.hid n_y4
       have HB10 := Lib.hid hb
       clear h_y4 n_y4 hb C10)
    | (go_at_call 54; (with_reducible refine (C11.out _ _ _ ((H_y2.out.below HB9.out).below HB10.out) H_y4.out).mono ?_); rintro e W11 ⟨top, rfl, ⟨h_top, n_top⟩, hb⟩
       have H_top := Lib.hid h_top
       have N_top := Lib.hid n_top
       have HB11 := Lib.hid hb
       clear h_top n_top hb C11)
    | (go_at_call 95; (with_reducible refine (C12.out _ _ (((((((((((H_a.out.below HB1.out).below HB2.out).below HB3.out).below HB4.out).below HB5.out).below HB6.out).below HB7.out).below HB8.out).below HB9.out).below HB10.out).below HB11.out)).mono ?_); rintro e W12 ⟨z1, rfl, ⟨h_z1, n_z1⟩, hb⟩
       have H_z1 := Lib.hid h_z1
       have N_z1 := Lib.hid n_z1
       have HB12 := Lib.hid hb
       clear h_z1 n_z1 hb C12)
    | (go_at_call 139; (with_reducible refine (C13.out _ _ _ H_z1.out ((((((H_up.out.below HB7.out).below HB8.out).below HB9.out).below HB10.out).below HB11.out).below HB12.out)).mono ?_); rintro e W13 ⟨z2, rfl, ⟨h_z2, n_z2⟩, hb⟩
       have H_z2 := Lib.hid h_z2
       have N_z2 := Lib.hid n_z2
       have HB13 := Lib.hid hb
       clear h_z2 n_z2 hb C13)
    | (go_at_call 95; (with_reducible refine (C14.out _ _ (((((((((((((H_b.out.below HB1.out).below HB2.out).below HB3.out).below HB4.out).below HB5.out).below HB6.out).below HB7.out).below HB8.out).below HB9.out).below HB10.out).below HB11.out).below HB12.out).below HB13.out)).mono ?_); rintro e W14 ⟨z3, rfl, ⟨h_z3, n_z3⟩, hb⟩
       have H_z3 := Lib.hid h_z3
       have N_z3 := Lib.hid n_z3
       have HB14 := Lib.hid hb
       clear h_z3 n_z3 hb C14)
    | (go_at_call 139; (with_reducible refine (C15.out _ _ _ H_z3.out (((((((((((H_down.out.below HB4.out).below HB5.out).below HB6.out).below HB7.out).below HB8.out).below HB9.out).below HB10.out).below HB11.out).below HB12.out).below HB13.out).below HB14.out)).mono ?_); rintro e W15 ⟨z4, rfl, ⟨h_z4, n_z4⟩, hb⟩
       have H_z4 := Lib.hid h_z4
       have N_z4 := Lib.hid n_z4
       have HB15 := Lib.hid hb
       clear h_z4 n_z4 hb C15)
    | (go_at_call 54; (with_reducible refine (C16.out _ _ _ ((H_z2.out.below HB14.out).below HB15.out) H_z4.out).mono ?_); rintro e W16 ⟨under, rfl, ⟨h_under, n_under⟩, hb⟩
       have H_under := Lib.hid h_under
       have N_under := Lib.hid n_under
       have HB16 := Lib.hid hb
       clear h_under n_under hb C16)
    | (go_at_call 128; (with_reducible refine (C17.out _ _ _ (((((H_top.out.below HB12.out).below HB13.out).below HB14.out).below HB15.out).below HB16.out) H_under.out N_top.out N_under.out).mono ?_); rintro e W17 ⟨u, rfl, ⟨h_u, n_u⟩, hb⟩
       have H_u := Lib.hid h_u
       have N_u := Lib.hid n_u
       have HB17 := Lib.hid hb
       clear h_u n_u hb C17)
    | (fail "no arm"))
  go_ret
  exact ⟨_, rfl, ⟨H_u.out, N_u.out⟩, (nat.below_tr (nat.below_tr (nat.below_tr (nat.below_tr (nat.below_tr (nat.below_tr (nat.below_tr (nat.below_tr (nat.below_tr (nat.below_tr (nat.below_tr (nat.below_tr (nat.below_tr (nat.below_tr (nat.below_tr (nat.below_tr HB1.out HB2.out) HB3.out) HB4.out) HB5.out) HB6.out) HB7.out) HB8.out) HB9.out) HB10.out) HB11.out) HB12.out) HB13.out) HB14.out) HB15.out) HB16.out) HB17.out)⟩
end Go.Proofs.YtfpooimjjpamoaaGreatDoor.rat
