/-
  The steps of the walks, part 9: RefFrac, RefNear, RefDec, Bnd.
-/
import Derived.Deep.QuietTactic
import Derived.BigQuiet
import Derived.Test.YtfpooimjjpamoaaGreatDoorB08
import Derived.Test.YtfpooimjjpamoaaGreatDoorB07
import Derived.Test.YtfpooimjjpamoaaGreatDoorS19
import Derived.Test.YtfpooimjjpamoaaGreatDoorS21
namespace Go.Proofs.YtfpooimjjpamoaaGreatDoor.ref
open Go.RowKit
theorem Of_ex (z : Int) (h1 : -9223372036854775808 ≤ z) (h2 : z ≤ 9223372036854775807) (w : World) :
    Calls Tryz.prog 68 #[.int .i64 z] w fun e w' => ∃ s, e = .returned (.agg #[.bool (decide (z < 0)), s]) ∧ IsN w' s z.natAbs ∧ Below w.heap.size w w' := by
  refine (Of_any z h1 h2 w).mono ?_
  rintro e w' ⟨v, rfl, ⟨s, rfl, hs⟩, hb⟩
  exact ⟨s, rfl, hs, hb⟩
theorem Int_ex (b : Bool) (a : Value) (x : Nat) (w : World) (ha : IsN w a x) :
    Calls Tryz.prog 121 #[.bool b, a] w fun e w' => ∃ s, e = .returned (.agg #[.bool (decide (signed b x < 0)), s]) ∧ IsN w' s (signed b x).natAbs ∧ Below w.heap.size w w' := by
  refine (Int_any b a x w ha).mono ?_
  rintro e w' ⟨v, rfl, ⟨s, rfl, hs⟩, hb⟩
  exact ⟨s, rfl, hs, hb⟩
set_option maxRecDepth 100000 in
set_option maxHeartbeats 4000000 in
theorem Frac_any (n d : Int) (h1 : -9223372036854775808 ≤ n) (h2 : n ≤ 9223372036854775807) (k1 : -9223372036854775808 ≤ d) (k2 : d ≤ 9223372036854775807) (w : World) :
    Calls Tryz.prog 75 #[.int .i64 n, .int .i64 d] w fun e w' => ∃ v', e = .returned v' ∧ IsQ w' v' (signed (decide (n < 0) != decide (d < 0)) n.natAbs) d.natAbs ∧ Below w.heap.size w w' := by
  have H1 := Lib.hid (fun w' => Of_ex n h1 h2 w')
  have H2 := Lib.hid (fun w' => Of_ex d k1 k2 w')
  have HI := Lib.hid (fun W a h => Int_ex (decide (n < 0) != decide (d < 0)) a n.natAbs W h)
  clear h1 h2 k1 k2
  generalize decide (n < 0) = p at *
  generalize decide (d < 0) = q at *
  generalize n.natAbs = x at *
  generalize d.natAbs = y at *
  have hpq : (!(p == q)) = (p != q) := rfl
  generalize (p != q) = pq at *
  generalize signed pq x = Z at *
  have HDZ := Lib.hid (show ∃ dz, dz = decide (Z < 0) from ⟨_, rfl⟩)
  obtain ⟨dz, hdz⟩ := HDZ.out
  rw [← hdz] at HI
  have HDz := Lib.hid hdz
  clear hdz HDZ
  generalize hxn : (digs x).length = xn at *
  generalize hyn : (digs y).length = yn at *
  have HXN := Lib.hid hxn
  have HYN := Lib.hid hyn
  clear hxn hyn
  have HB := Lib.hid ((Below.refl w.heap.size w).alloc (Nat.le_refl _) blankQ)
  have HBL := Lib.hid (heap_alloc_new w blankQ)
  unfold blankQ at HB HBL
  go_enter Tryz.func75, Tryz.ntmps75
  go_wp2_with (first
    | (go_at_call 68; (with_reducible refine (H1.out _).mono ?_); rintro e' w2 ⟨s, rfl, hs, hb⟩
       obtain ⟨ao, ac, rfl, -⟩ := id hs
       rw [HXN.out] at hs ⊢
       have HS := Lib.hid hs
       have HB2 := Lib.hid hb
       clear hs hb)
    | (go_at_call 68; (with_reducible refine (H2.out _).mono ?_); rintro e' w3 ⟨t, rfl, ht, hb⟩
       obtain ⟨co, cc, rfl, -⟩ := id ht
       rw [HYN.out] at ht ⊢
       have HT := Lib.hid ht
       have HS3 := Lib.hid (HS.out.below hb)
       have HB3 := Lib.hid (HB2.out.trans (hb.mono HB2.out.size))
       clear ht hb HS HB2))
  have hlt : w.heap.size < w3.heap.size := Nat.lt_of_lt_of_le (by simp) HB3.out.size
  obtain ⟨w4, hw4⟩ : ∃ w4 : World, w4 = ((w3.alloc (.cells #[.bool p, .slice ao xn ac] 57)).alloc (.cells #[.bool q, .slice co yn cc] 57)) := ⟨_, rfl⟩
  have hb4 : Below w3.heap.size w3 w4 := by rw [hw4]; exact ((Below.refl _ _).alloc (Nat.le_refl _) _).alloc (by simp) _
  have k0 : w4.cell? ⟨w3.heap.size, 0, none⟩ = some (.bool p) := by rw [hw4]; go_simp
  have k1 : w4.cell? ⟨w3.heap.size, 1, none⟩ = some (.slice ao xn ac) := by rw [hw4]; go_simp
  have k2 : w4.cell? ⟨w3.heap.size + 1, 0, none⟩ = some (.bool q) := by rw [hw4]; go_simp
  have k3 : w4.cell? ⟨w3.heap.size + 1, 1, none⟩ = some (.slice co yn cc) := by rw [hw4]; go_simp
  rw [← hw4]
  have HI4 := Lib.hid (HI.out _ _ (HS3.out.below hb4.drew))
  have HT4 := Lib.hid (HT.out.below hb4)
  have HB4 := Lib.hid (HB3.out.trans (hb4.mono HB3.out.size))
  have HBw := Lib.hid (HB.out.trans (HB4.out.mono HB.out.size))
  have HOLD := Lib.hid (fun W (hW : Below w4.heap.size w4 W) => (show Below w.heap.size w W ∧ W.cell? ⟨w3.heap.size, 0, none⟩ = some (.bool p) ∧ W.cell? ⟨w3.heap.size, 1, none⟩ = some (.slice ao xn ac) ∧ W.cell? ⟨w3.heap.size + 1, 0, none⟩ = some (.bool q) ∧ W.cell? ⟨w3.heap.size + 1, 1, none⟩ = some (.slice co yn cc) from
    ⟨HBw.out.trans (hW.mono HBw.out.size), (hW.cell (cell_lt k0)).trans k0, (hW.cell (cell_lt k1)).trans k1, (hW.cell (cell_lt k2)).trans k2, (hW.cell (cell_lt k3)).trans k3⟩))
  have HFar := Lib.hid (fun (W : World) v0 v1 v2 (a : Addr) (ha : a.block ≠ w.heap.size) => (show (((W.setCell ⟨w.heap.size, 0, none⟩ v0).setCell ⟨w.heap.size, 1, none⟩ v1).setCell ⟨w.heap.size, 2, none⟩ v2).cell? a = W.cell? a from by
    rw [World.cell?_setCell_other _ _ _ _ (fun e => ha (by rw [← e])), World.cell?_setCell_other _ _ _ _ (fun e => ha (by rw [← e])), World.cell?_setCell_other _ _ _ _ (fun e => ha (by rw [← e]))]))
  have HOLDX := Lib.hid (fun W v0 v1 v2 (hW : Below w4.heap.size w4 W) => (show Below w.heap.size w (((W.setCell ⟨w.heap.size, 0, none⟩ v0).setCell ⟨w.heap.size, 1, none⟩ v1).setCell ⟨w.heap.size, 2, none⟩ v2) ∧ _ ∧ _ ∧ _ ∧ _ from
    ⟨result_below (HOLD.out W hW).1 (Nat.le_refl _) v0 v1 v2, (HFar.out W v0 v1 v2 ⟨w3.heap.size, 0, none⟩ (by simp only; omega)).trans (HOLD.out W hW).2.1, (HFar.out W v0 v1 v2 ⟨w3.heap.size, 1, none⟩ (by simp only; omega)).trans (HOLD.out W hW).2.2.1, (HFar.out W v0 v1 v2 ⟨w3.heap.size + 1, 0, none⟩ (by simp only; omega)).trans (HOLD.out W hW).2.2.2.1, (HFar.out W v0 v1 v2 ⟨w3.heap.size + 1, 1, none⟩ (by simp only; omega)).trans (HOLD.out W hW).2.2.2.2⟩))
  have HBL4 := Lib.hid (show w4.heap[w.heap.size]? = some blankQ from (HB4.out.block w.heap.size (by simp)).trans HBL.out)
  clear hw4 hb4 k0 k1 k2 k3 HB3 HS3 HT HBL
  go_region_held3 (fun w' => Below w.heap.size w w' ∧ w'.cell? ⟨w3.heap.size, 0, none⟩ = some (.bool p) ∧ w'.cell? ⟨w3.heap.size, 1, none⟩ = some (.slice ao xn ac) ∧ w'.cell? ⟨w3.heap.size + 1, 0, none⟩ = some (.bool q) ∧ w'.cell? ⟨w3.heap.size + 1, 1, none⟩ = some (.slice co yn cc))
    (first
      | exact HOLD.out _ (Below.refl _ _).drew
      | exact HOLDX.out _ _ _ _ HB5.out
      | exact HOLD.out _ HB5.out)
    (first
      | (go_at_call 121; (with_reducible refine (HI4.out).mono ?_); rintro e' w5 ⟨s5, rfl, hs5, hb⟩
         obtain ⟨zo, zc, rfl, -⟩ := id hs5
         have HB5 := Lib.hid ((Below.refl w4.heap.size w4).drew.trans hb)
         have HS5 := Lib.hid hs5
         have HT5 := Lib.hid (HT4.out.below HB5.out)
         obtain ⟨c0, c1, c2, f0, f1, f2⟩ := result_cells3 HBL4.out HB5.out
         clear hs5 hb)
      | (fail "no arm"))
  obtain ⟨hq, hbf⟩ := Q_end HS5.out HT5.out HBL4.out HB5.out HBw.out (Nat.le_refl _)
  rw [← HDz.out] at hq hbf
  generalize (digs Z.natAbs).length = zn at *
  obtain ⟨-, -, -, q3, q4, q5⟩ := three_cells (.bool dz) (.slice zo zn zc) (.slice co yn cc) c0 c1 c2
  have HQ := Lib.hid hq
  have HBf := Lib.hid hbf
  clear hq hbf
  go_wp2
  refine bodyPost_ret (v := .agg #[.bool dz, .slice zo zn zc, .slice co yn cc]) ?_ rfl ?_
  · simp [results, Tryz.results75, go_sem, q3, q4, q5]
  · exact ⟨_, rfl, HQ.out, HBf.out⟩
end Go.Proofs.YtfpooimjjpamoaaGreatDoor.ref
namespace Go.Proofs.YtfpooimjjpamoaaGreatDoor.ref
open Go.RowKit
def nearUp (x d : Nat) (mode : Int) : Bool :=
  (decide (mode = 1) && decide (d ≤ x % d * 2)) || (decide (mode = 2) && (decide (d < x % d * 2) || (decide (d = x % d * 2) && decide (x / d % 2 = 1))))
def nearN (x d : Nat) (mode : Int) : Nat := x / d + (if nearUp x d mode then 1 else 0)
theorem near_up {x d : Nat} {mode C : Int} (hC : C = cmpN (x % d * 2) d) : nearUp x d mode = (((mode == 1) && decide (0 ≤ C)) || ((mode == 2) && (decide (0 < C) || ((C == 0) && decide (x / d % 2 = 1))))) := by
  have h1 : decide (0 ≤ C) = decide (d ≤ x % d * 2) := by
    rw [decide_eq_decide, hC]; unfold cmpN; (repeat' split) <;> omega
  have h2 : decide (0 < C) = decide (d < x % d * 2) := by
    rw [decide_eq_decide, hC]; unfold cmpN; (repeat' split) <;> omega
  have h3 : (C == 0) = decide (d = x % d * 2) := by
    show decide (C = 0) = _
    rw [decide_eq_decide, hC]; unfold cmpN; (repeat' split) <;> omega
  unfold nearUp
  rw [h1, h2, h3]
  rfl
end Go.Proofs.YtfpooimjjpamoaaGreatDoor.ref
namespace Go.Proofs.YtfpooimjjpamoaaGreatDoor.ref
open Go.RowKit
def padTo (l : List UInt8) (k : Nat) : List UInt8 := List.replicate (k + 1 - l.length) 48 ++ l
def decBody (x k : Nat) : List UInt8 :=
  if k = 0 then padTo (Lib.decDigits x) 0 else (padTo (Lib.decDigits x) k).take ((padTo (Lib.decDigits x) k).length - k) ++ 46 :: (padTo (Lib.decDigits x) k).drop ((padTo (Lib.decDigits x) k).length - k)
def decText (z : Int) (k : Nat) : List UInt8 := if z < 0 then 45 :: decBody z.natAbs k else decBody z.natAbs k
theorem padTo_length (l : List UInt8) (k : Nat) : (padTo l k).length = max (k + 1) l.length := by
  unfold padTo
  rw [List.length_append, List.length_replicate]
  omega
end Go.Proofs.YtfpooimjjpamoaaGreatDoor.ref
namespace Go.Proofs.YtfpooimjjpamoaaGreatDoor.law2
open Go.Proofs.YtfpooimjjpamoaaGreatDoor.num (Lz Ln Lz_fdiv)
def Bn (x n : Nat) : Prop := x < 10 ^ n
def Bz (z : Int) (n : Nat) : Prop := z.natAbs < 10 ^ n
def Br (q : Rat) (n : Nat) : Prop := Bz q.num n ∧ Bn q.den n
theorem ten_le {n m : Nat} (h : n ≤ m) : 10 ^ n ≤ 10 ^ m := Nat.pow_le_pow_right (by omega) h
theorem Bn.le {x n m : Nat} (h : Bn x n) (hm : n ≤ m) : Bn x m := Nat.lt_of_lt_of_le h (ten_le hm)
theorem Bz.le {x : Int} {n m : Nat} (h : Bz x n) (hm : n ≤ m) : Bz x m := Nat.lt_of_lt_of_le h (ten_le hm)
theorem Br.le {q : Rat} {n m : Nat} (h : Br q n) (hm : n ≤ m) : Br q m := ⟨h.1.le hm, h.2.le hm⟩
theorem Bn.nat {x n m : Nat} (h : Bn x n) (hm : n ≤ m) : (nat.digs x).length ≤ m :=
  Nat.le_trans (nat.digs_len (n := n) (Nat.lt_of_lt_of_le h (Nat.pow_le_pow_left (by omega) _))) hm
theorem Bn.ref {x n m : Nat} (h : Bn x n) (hm : n ≤ m) : (ref.digs x).length ≤ m :=
  Nat.le_trans (ref.digs_len_of_lt (n := n) (Nat.lt_of_lt_of_le h (Nat.pow_le_pow_left (by omega) _))) hm
theorem Bz.nat {z : Int} {n m : Nat} (h : Bz z n) (hm : n ≤ m) : (nat.digs z.natAbs).length ≤ m := Bn.nat (x := z.natAbs) h hm
theorem Bz.ref {z : Int} {n m : Nat} (h : Bz z n) (hm : n ≤ m) : (ref.digs z.natAbs).length ≤ m := Bn.ref (x := z.natAbs) h hm
theorem Br.rat {q : Rat} {n m : Nat} (h : Br q n) (hm : n ≤ m) : rat.Lr q m := ⟨h.1.nat hm, h.2.nat hm⟩
theorem Bn_less {x y n : Nat} (hxy : x ≤ y) (h : Bn y n) : Bn x n := Nat.lt_of_le_of_lt hxy h
theorem Bz_neg {z : Int} {n : Nat} (h : Bz z n) : Bz (-z) n := by unfold Bz; rw [Int.natAbs_neg]; exact h
theorem Bz_nat {x n : Nat} (h : Bn x n) : Bz (x : Int) n := by unfold Bz; rw [Int.natAbs_natCast]; exact h
theorem Bn_abs {z : Int} {n : Nat} (h : Bz z n) : Bn z.natAbs n := h
theorem Bn_mul {x y n m : Nat} (hx : Bn x n) (hy : Bn y m) : Bn (x * y) (n + m) := by
  unfold Bn at *
  rw [Nat.pow_add]
  rcases Nat.eq_zero_or_pos y with h | h
  · subst h; rw [Nat.mul_zero]; exact Nat.mul_pos (Nat.pow_pos (by omega)) (Nat.pow_pos (by omega))
  · exact Nat.lt_of_lt_of_le (Nat.mul_lt_mul_of_pos_right hx h) (Nat.mul_le_mul_left _ (Nat.le_of_lt hy))
theorem Bz_mul {x y : Int} {n m : Nat} (hx : Bz x n) (hy : Bz y m) : Bz (x * y) (n + m) := by unfold Bz; rw [Int.natAbs_mul]; exact Bn_mul hx hy
theorem Bn_add {x y n m : Nat} (hx : Bn x n) (hy : Bn y m) : Bn (x + y) (n + m + 1) := by
  have h1 := hx.le (m := n + m) (by omega)
  have h2 := hy.le (m := n + m) (by omega)
  unfold Bn at *
  rw [Nat.pow_succ]
  omega
theorem Bz_add {x y : Int} {n m : Nat} (hx : Bz x n) (hy : Bz y m) : Bz (x + y) (n + m + 1) := Bn_less (Int.natAbs_add_le x y) (Bn_add hx hy)
theorem Bz_sub {x y : Int} {n m : Nat} (hx : Bz x n) (hy : Bz y m) : Bz (x - y) (n + m + 1) := by rw [Int.sub_eq_add_neg]; exact Bz_add hx (Bz_neg hy)
theorem Bn_div {x y n : Nat} (hx : Bn x n) : Bn (x / y) n := Bn_less (Nat.div_le_self _ _) hx
theorem Bn_mod {x y n : Nat} (hx : Bn x n) : Bn (x % y) n := Bn_less (Nat.mod_le _ _) hx
theorem Bn_gcd {x y n m : Nat} (hx : Bn x n) (hy : Bn y m) : Bn (Nat.gcd x y) (n + m) := by
  rcases Nat.eq_zero_or_pos x with h | h
  · subst h; rw [Nat.gcd_zero_left]; exact hy.le (by omega)
  · exact Bn_less (Nat.le_of_dvd h (Nat.gcd_dvd_left _ _)) (hx.le (by omega))
theorem Bn_small {x : Nat} (h2 : x < 18446744073709551616) : Bn x 20 := Nat.lt_of_lt_of_le h2 (by decide)
theorem Bz_small {z : Int} (h1 : -9223372036854775808 ≤ z) (h2 : z < 18446744073709551616) : Bz z 20 := Bn_small (x := z.natAbs) (by omega)
theorem Br_low {q : Rat} {z : Int} {d n : Nat} (hd : 0 < d) (hq : q = (z : Rat) / (d : Rat)) (hz : Bz z n) (hdn : Bn d n) : Br q n := by
  have h : mkRat z d = Rat.normalize z d (by omega) := (Rat.normalize_eq_mkRat _).symm
  rw [← Rat.mkRat_eq_div] at hq
  rw [hq, h]
  have hg : 0 < Nat.gcd z.natAbs d := Nat.gcd_pos_of_pos_right _ hd
  refine ⟨?_, ?_⟩
  · rw [Rat.num_normalize]
    refine Bn_less ?_ hz
    rw [Int.natAbs_ediv_of_dvd (by rw [← Int.dvd_natAbs, Int.ofNat_dvd]; exact Nat.gcd_dvd_left _ _), Int.natAbs_natCast]
    exact Nat.div_le_self _ _
  · rw [Rat.den_normalize]
    exact Bn_div hdn
theorem Br_lowz {q : Rat} {z y : Int} {n : Nat} (hd : y ≠ 0) (hq : q = (z : Rat) / (y : Rat)) (hz : Bz z n) (hdn : Bz y n) : Br q n := by
  rcases Int.lt_or_gt_of_ne hd with h | h
  · refine Br_low (z := -z) (d := y.natAbs) (by omega) ?_ (Bz_neg hz) hdn
    have e : (y.natAbs : Int) = -y := by omega
    have e2 : ((y.natAbs : Nat) : Rat) = -(y : Rat) := by rw [← Rat.intCast_natCast, e, Rat.intCast_neg]
    have := rat.cast_nez hd
    rw [hq, e2, Rat.intCast_neg]
    grind
  · refine Br_low (z := z) (d := y.natAbs) (by omega) ?_ hz hdn
    have e : (y.natAbs : Int) = y := by omega
    have e2 : ((y.natAbs : Nat) : Rat) = (y : Rat) := by rw [← Rat.intCast_natCast, e]
    rw [hq, e2]
theorem Br_add {p q : Rat} {n m : Nat} (hp : Br p n) (hq : Br q m) : Br (p + q) (n + m + n + m + 1) := by
  refine Br_low (z := p.num * (q.den : Int) + q.num * (p.den : Int)) (d := p.den * q.den) (Nat.mul_pos p.den_pos q.den_pos) ?_ ?_ ?_
  · rw [← Rat.mkRat_eq_div]; exact Rat.add_def' p q
  · exact (Bz_add (Bz_mul hp.1 (Bz_nat hq.2)) (Bz_mul hq.1 (Bz_nat hp.2))).le (by omega)
  · exact (Bn_mul hp.2 hq.2).le (by omega)
theorem Br_mul {p q : Rat} {n m : Nat} (hp : Br p n) (hq : Br q m) : Br (p * q) (n + m) := by
  refine Br_low (z := p.num * q.num) (d := p.den * q.den) (Nat.mul_pos p.den_pos q.den_pos) ?_ (Bz_mul hp.1 hq.1) (Bn_mul hp.2 hq.2)
  rw [← Rat.mkRat_eq_div]; exact Rat.mul_def' p q
theorem Br_inv {q : Rat} {n : Nat} (h : Br q n) : Br (q⁻¹) n := by
  refine ⟨?_, ?_⟩
  · rw [Rat.num_inv]
    unfold Bz
    rw [Int.natAbs_mul, Int.natAbs_natCast]
    refine Bn_less ?_ h.2
    have : (q.num.sign).natAbs ≤ 1 := by
      rcases Int.lt_trichotomy q.num 0 with h | h | h
      · rw [Int.sign_eq_neg_one_of_neg h]; decide
      · rw [h]; decide
      · rw [Int.sign_eq_one_of_pos h]; decide
    exact Nat.le_trans (Nat.mul_le_mul_right _ this) (by omega)
  · rw [Rat.den_inv]
    split
    · exact Bn_less q.den_pos h.2
    · exact h.1
theorem Br_div {p q : Rat} {n m : Nat} (hp : Br p n) (hq : Br q m) : Br (p / q) (n + m) := by rw [Rat.div_def]; exact Br_mul hp (Br_inv hq)
end Go.Proofs.YtfpooimjjpamoaaGreatDoor.law2
