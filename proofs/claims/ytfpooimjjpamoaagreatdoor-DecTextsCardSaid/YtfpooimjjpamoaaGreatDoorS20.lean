/-
  The steps of the walks, part 20: Size, RatM, Rat, RatA.
-/
import Derived.BigRegion
import Derived.Test.YtfpooimjjpamoaaGreatDoorS19
namespace Go.Proofs.YtfpooimjjpamoaaGreatDoor.nat
open Go.RowKit
theorem Cmp_b (a b : Value) (X Y : Nat) (w : World) (ha : IsN w a X) (hb : IsN w b Y) (hx : (digs X).length ≤ 1000000) (hy : (digs Y).length ≤ 1000000) :
    Calls Tryz.prog 39 #[a, b] w fun e w' => e = .returned (.int .i64 (cmp3 (X : Int) (Y : Int))) ∧ Below w.heap.size w w' :=
  (Cmp_any a b X Y w ha hb hx hy).mono fun e w' h => by
    obtain ⟨rfl, m, rfl⟩ := h
    exact ⟨rfl, drew_below _ _⟩
theorem Div_none_b (a b : Value) (w : World) (hb : IsN w b 0) :
    Calls Tryz.prog 33 #[a, b] w fun e w' => e = .returned (.tuple #[.pointer none, .pointer none, .iface 171 (.int .i64 3)]) ∧ Below w.heap.size w w' :=
  (Div_none a b w hb).mono fun e w' h => by
    obtain ⟨rfl, rfl⟩ := h
    exact ⟨rfl, Below.refl _ _⟩
theorem below_tr {w w1 w2 : World} (h : Below w.heap.size w w1) (k : Below w1.heap.size w1 w2) : Below w.heap.size w w2 := h.trans (k.mono h.size)
theorem Of_int (z : Int) (d : Nat) (hz : z = d) (h : d < 18446744073709551616) (w : World) :
    Calls Tryz.prog 46 #[.int .u64 z] w fun e w' => ∃ v, e = .returned v ∧ (IsN w' v d ∧ v ≠ .pointer none) ∧ Below w.heap.size w w' := by
  subst hz
  exact Of_any d w h
theorem IsN.some {w : World} {v : Value} {X : Nat} (h : IsN w v X) (hn : v ≠ .pointer none) : ∃ p, v = .pointer (some p) := by
  rcases h with ⟨h, -⟩ | ⟨b, o, sv, h, -⟩
  · exact absurd h hn
  · exact ⟨_, h⟩
end Go.Proofs.YtfpooimjjpamoaaGreatDoor.nat
namespace Go.Proofs.YtfpooimjjpamoaaGreatDoor.num
open Go.RowKit Go.Proofs.YtfpooimjjpamoaaGreatDoor.nat
theorem Cmp_b (a b : Value) (z y : Int) (w : World) (ha : IsZ w a z) (hb : IsZ w b y) (hx : (digs z.natAbs).length ≤ 800000) (hy : (digs y.natAbs).length ≤ 800000) :
    Calls Tryz.prog 56 #[a, b] w fun e w' => e = .returned (.int .i64 (cmp3 z y)) ∧ Below w.heap.size w w' :=
  (Cmp_any a b z y w ha hb hx hy).mono fun e w' h => by
    obtain ⟨rfl, m, rfl⟩ := h
    exact ⟨rfl, drew_below _ _⟩
theorem IsZ.some {w : World} {v : Value} {z : Int} (h : IsZ w v z) (hn : v ≠ .pointer none) : ∃ p, v = .pointer (some p) := by
  rcases h with ⟨h, -⟩ | ⟨b, o, neg, sv, X, h, -⟩
  · exact absurd h hn
  · exact ⟨_, h⟩
theorem sg_zero {z : Int} (h : z = 0) : sg z = 0 := by subst h; decide
theorem sg_neg {z : Int} (h : z < 0) : sg z = -1 := by unfold sg cmp3; rw [if_pos h]
theorem sg_pos {z : Int} (h : 0 < z) : sg z = 1 := by unfold sg cmp3; rw [if_neg (by omega), if_pos h]
theorem sg_nonneg {z : Int} (h : ¬ z < 0) : 0 ≤ sg z := by
  rcases (show z = 0 ∨ 0 < z by omega) with h | h
  · rw [sg_zero h]; decide
  · rw [sg_pos h]; decide
def Ln (x n : Nat) : Prop := (digs x).length ≤ n
def Lz (z : Int) (n : Nat) : Prop := (digs z.natAbs).length ≤ n
theorem Ln.le {x n m : Nat} (h : Ln x n) (hm : n ≤ m) : Ln x m := Nat.le_trans h hm
theorem Lz.le {x : Int} {n m : Nat} (h : Lz x n) (hm : n ≤ m) : Lz x m := Nat.le_trans h hm
theorem Ln_less {x y n : Nat} (hxy : x ≤ y) (h : Ln y n) : Ln x n := digs_le_len hxy h
theorem Ln_pow {x n : Nat} (h : x < 18446744073709551616 ^ n) : Ln x n := digs_len h
theorem Ln_small {x : Nat} (h : x < 18446744073709551616) : Ln x 1 := digs_len (by rwa [Nat.pow_one])
theorem Lz_small {z : Int} (h : z.natAbs < 18446744073709551616) : Lz z 1 := Ln_small h
theorem Lz_neg {z : Int} {n : Nat} (h : Lz z n) : Lz (-z) n := by unfold Lz; rw [Int.natAbs_neg]; exact h
theorem Lz_nat {x n : Nat} (h : Ln x n) : Lz (x : Int) n := by unfold Lz; rw [Int.natAbs_natCast]; exact h
theorem Ln_abs {z : Int} {n : Nat} (h : Lz z n) : Ln z.natAbs n := h
theorem Ln_mul {x y n m : Nat} (hx : Ln x n) (hy : Ln y m) : Ln (x * y) (n + m) := digs_mul_len hx hy
theorem Lz_mul {x y : Int} {n m : Nat} (hx : Lz x n) (hy : Lz y m) : Lz (x * y) (n + m) := by unfold Lz; rw [Int.natAbs_mul]; exact digs_mul_len hx hy
theorem Ln_add {x y n m : Nat} (hx : Ln x n) (hy : Ln y m) : Ln (x + y) (n + m + 1) := digs_add_len (Nat.le_trans hx (by omega)) (Nat.le_trans hy (by omega))
theorem Lz_add {x y : Int} {n m : Nat} (hx : Lz x n) (hy : Lz y m) : Lz (x + y) (n + m + 1) := Ln_less (Int.natAbs_add_le x y) (Ln_add hx hy)
theorem Ln_gcd {x y n m : Nat} (hx : Ln x n) (hy : Ln y m) : Ln (Nat.gcd x y) (n + m) := digs_gcd_len (Nat.le_trans hx (by omega)) (Nat.le_trans hy (by omega))
theorem sgn_natAbs (b : Bool) (X : Nat) : (sgn b X).natAbs = X := by
  unfold sgn
  split
  · rw [Int.natAbs_neg, Int.natAbs_natCast]
  · rw [Int.natAbs_natCast]
theorem fdiv_le (z y : Int) : (Int.fdiv z y).natAbs ≤ z.natAbs := by
  by_cases hy : y = 0
  · subst hy; simp
  by_cases hc : decide (z < 0) = decide (y < 0) ∨ z.natAbs % y.natAbs = 0
  · rw [(floor_near hy hc).1]
    rw [sgn_natAbs]
    exact Nat.div_le_self _ _
  · rw [not_or] at hc
    rw [(floor_past hy hc.1 hc.2).1]
    rw [sgn_natAbs]
    have h2 : 2 ≤ y.natAbs := by
      rcases Nat.lt_or_ge y.natAbs 2 with h | h
      · exfalso
        have h1 : y.natAbs = 1 := by omega
        rw [h1] at hc
        omega
      · exact h
    have h1 : 0 < z.natAbs := by
      rcases Nat.eq_zero_or_pos z.natAbs with h | h
      · rw [h] at hc; simp at hc
      · exact h
    have h3 : z.natAbs / y.natAbs ≤ z.natAbs / 2 := Nat.div_le_div_left h2 (by omega)
    omega
theorem Lz_fdiv {z y : Int} {n : Nat} (h : Lz z n) : Lz (Int.fdiv z y) n := Ln_less (fdiv_le z y) h
end Go.Proofs.YtfpooimjjpamoaaGreatDoor.num
namespace Go.Proofs.YtfpooimjjpamoaaGreatDoor.rat
theorem num_den_of {q : Rat} {z : Int} {e : Nat} (he : 0 < e) (hc : Nat.gcd z.natAbs e = 1) (h : q = (z : Rat) / (e : Rat)) : q.num = z ∧ q.den = e := by
  rw [h, ← Rat.mkRat_eq_div, ← Rat.mk_eq_mkRat z e (by omega) hc]
  exact ⟨rfl, rfl⟩
theorem self_div (q : Rat) : q = (q.num : Rat) / (q.den : Rat) := by rw [← Rat.mkRat_eq_div, Rat.mkRat_self]
theorem cast_ne {e : Nat} (h : 0 < e) : (e : Rat) ≠ 0 := by
  intro h0
  have := Rat.natCast_pos.2 h
  rw [h0] at this
  exact Rat.lt_irrefl this
theorem cast_nez {e : Int} (h : e ≠ 0) : (e : Rat) ≠ 0 := fun h0 => h (Rat.intCast_inj.1 h0)
theorem den_ne (q : Rat) : (q.den : Rat) ≠ 0 := cast_ne q.den_pos
theorem cop (q : Rat) : Nat.gcd q.num.natAbs q.den = 1 := q.reduced
theorem fdiv_exact {z g : Int} (hg : g ≠ 0) (h : g ∣ z) : ((Int.fdiv z g : Int) : Rat) = (z : Rat) / (g : Rat) := by
  obtain ⟨k, rfl⟩ := h
  rw [Int.mul_fdiv_cancel_left _ hg, Rat.intCast_mul, Rat.mul_comm, Rat.mul_div_cancel (cast_nez hg)]
theorem fdiv_abs {z g : Int} (hg : g ≠ 0) (h : g ∣ z) : (Int.fdiv z g).natAbs = z.natAbs / g.natAbs := by
  obtain ⟨k, rfl⟩ := h
  rw [Int.mul_fdiv_cancel_left _ hg, Int.natAbs_mul, Nat.mul_div_cancel_left _ (by omega)]
theorem fdiv_nat {x g : Nat} (hg : 0 < g) (h : g ∣ x) : Int.fdiv (x : Int) (g : Int) = ((x / g : Nat) : Int) := by
  obtain ⟨k, rfl⟩ := h
  rw [Int.natCast_mul, Int.mul_fdiv_cancel_left _ (by omega), Nat.mul_div_cancel_left _ hg]
theorem gcd_divides_l (z y : Int) : ((Nat.gcd z.natAbs y.natAbs : Nat) : Int) ∣ z := by rw [← Int.dvd_natAbs, Int.ofNat_dvd]; exact Nat.gcd_dvd_left _ _
theorem gcd_divides_r (z y : Int) : ((Nat.gcd z.natAbs y.natAbs : Nat) : Int) ∣ y := by rw [← Int.dvd_natAbs, Int.ofNat_dvd]; exact Nat.gcd_dvd_right _ _
def upN (z y : Int) : Int := if y < 0 then -z else z
theorem up_val {z y : Int} (hy : y ≠ 0) (hc : Nat.gcd z.natAbs y.natAbs = 1) : ((z : Rat) / (y : Rat)).num = upN z y ∧ ((z : Rat) / (y : Rat)).den = y.natAbs := by
  refine num_den_of (by omega) ?_ ?_
  · unfold upN
    split
    · rw [Int.natAbs_neg]; exact hc
    · exact hc
  · have h0 := cast_nez hy
    unfold upN
    split
    · rename_i h
      have e : (y.natAbs : Int) = -y := by omega
      have e2 : ((y.natAbs : Nat) : Rat) = -(y : Rat) := by
        rw [← Rat.intCast_natCast, e, Rat.intCast_neg]
      rw [e2, Rat.intCast_neg]
      grind
    · have e : (y.natAbs : Int) = y := by omega
      have e2 : ((y.natAbs : Nat) : Rat) = (y : Rat) := by
        rw [← Rat.intCast_natCast, e]
      rw [e2]
end Go.Proofs.YtfpooimjjpamoaaGreatDoor.rat
namespace Go.Proofs.YtfpooimjjpamoaaGreatDoor.rat
open Go.RowKit Go.Proofs.YtfpooimjjpamoaaGreatDoor.nat Go.Proofs.YtfpooimjjpamoaaGreatDoor.num
def IsR (w : World) (v : Value) (q : Rat) : Prop :=
  (v = .pointer none ∧ q = 0) ∨ ∃ b o y, v = .pointer (some ⟨b, o, none⟩) ∧ IsZ w (.pointer (some ⟨b, o, none⟩)) q.num ∧ IsZ w (.pointer (some ⟨b, o + 2, none⟩)) y ∧ (y = q.den ∨ (y = 0 ∧ q = 0))
theorem IsR.below {w w' : World} {v : Value} {q : Rat} (h : IsR w v q) (hb : Below w.heap.size w w') : IsR w' v q := by
  rcases h with h | ⟨b, o, y, h1, h2, h3, h4⟩
  · exact Or.inl h
  · exact Or.inr ⟨b, o, y, h1, h2.below hb, h3.below hb, h4⟩
theorem IsR.some {w : World} {v : Value} {q : Rat} (h : IsR w v q) (hn : v ≠ .pointer none) : ∃ p, v = .pointer (some p) := by
  rcases h with ⟨h, -⟩ | ⟨b, o, y, h, -⟩
  · exact absurd h hn
  · exact ⟨_, h⟩
theorem IsZ.cells {w : World} {v : Value} {z : Int} (h : IsZ w v z) (hn : v ≠ .pointer none) : ∃ b o neg ao n cap X, v = .pointer (some ⟨b, o, none⟩) ∧ w.cell? ⟨b, o, none⟩ = some (.bool neg) ∧ w.cell? ⟨b, o + 1, none⟩ = some (.slice ao n cap) ∧ Rd w (.slice ao n cap) (digs X) ∧ z = sgn neg X ∧ (neg = true → 0 < X) := by
  rcases h with ⟨h, -⟩ | ⟨b, o, neg, sv, X, h1, h2, h3, h4, h5⟩
  · exact absurd h hn
  · obtain ⟨ao, cap, rfl, -⟩ := id h4
    exact ⟨b, o, neg, ao, _, cap, X, h1, h2, h3, h4, h5⟩
theorem IsZ.of_cells {w : World} {b o : Nat} {neg : Bool} {sv : Value} {X : Nat} {z : Int} (h1 : w.cell? ⟨b, o, none⟩ = some (.bool neg)) (h2 : w.cell? ⟨b, o + 1, none⟩ = some sv) (h3 : Rd w sv (digs X)) (h4 : z = sgn neg X) (h5 : neg = true → 0 < X) : IsZ w (.pointer (some ⟨b, o, none⟩)) z :=
  Or.inr ⟨b, o, neg, sv, X, rfl, h1, h2, h3, h4, h5⟩
theorem row4 {w : World} {g : Nat} {v0 v1 v2 v3 : Value} {t : TypeId} (h : w.heap[g]? = some (.cells #[v0, v1, v2, v3] t (0, 0))) :
    w.cell? ⟨g, 0, none⟩ = some v0 ∧ w.cell? ⟨g, 1, none⟩ = some v1 ∧ w.cell? ⟨g, 2, none⟩ = some v2 ∧ w.cell? ⟨g, 3, none⟩ = some v3 :=
  ⟨by rw [cell_of_row _ _ 0 _ t (0, 0) h]; rfl, by rw [cell_of_row _ _ 1 _ t (0, 0) h]; rfl, by rw [cell_of_row _ _ 2 _ t (0, 0) h]; rfl, by rw [cell_of_row _ _ 3 _ t (0, 0) h]; rfl⟩
set_option maxRecDepth 100000 in
theorem own_at (q : Rat) (a b : Value) (z y : Int) (w : World) (ha : IsZ w a z) (hna : a ≠ .pointer none) (hb : IsZ w b y) (hnb : b ≠ .pointer none) (h1 : q.num = z) (h2 : y = q.den) :
    Calls Tryz.prog 128 #[a, b] w fun e w' => ∃ u, e = .returned u ∧ (IsR w' u q ∧ u ≠ .pointer none) ∧ Below w.heap.size w w' := by
  obtain ⟨ab, ao, an, aq, al, ac, AX, rfl, a1, a2, a3, a4, a5⟩ := IsZ.cells ha hna
  obtain ⟨bb, bo, bn, bq, bl, bc, BX, rfl, b1, b2, b3, b4, b5⟩ := IsZ.cells hb hnb
  have hbl : Below w.heap.size w (w.alloc (.cells #[.bool an, .slice aq al ac, .bool bn, .slice bq bl bc] 135)) := (Below.refl _ _).alloc (Nat.le_refl _) _
  obtain ⟨c0, c1, c2, c3⟩ := row4 (heap_alloc_new w (.cells #[.bool an, .slice aq al ac, .bool bn, .slice bq bl bc] 135))
  have HU := Lib.hid (show IsR (w.alloc (.cells #[.bool an, .slice aq al ac, .bool bn, .slice bq bl bc] 135)) (.pointer (some ⟨w.heap.size, 0, none⟩)) q from
    Or.inr ⟨_, 0, y, rfl, IsZ.of_cells c0 c1 (a3.below hbl) (h1.trans a4) a5, IsZ.of_cells c2 c3 (b3.below hbl) b4 b5, Or.inl h2⟩)
  have HB := Lib.hid hbl
  clear c0 c1 c2 c3 hbl ha hb a3 a4 a5 b3 b4 b5 h1 h2 hna hnb
  go_enter Tryz.func128, Tryz.ntmps128
  go_wp2
  go_region
  go_wp2
  go_ret
  exact ⟨_, rfl, ⟨HU.out.below (Below.refl _ _).drew, by simp⟩, HB.out.drew⟩
set_option maxRecDepth 100000 in
theorem Num_any (v : Value) (q : Rat) (w : World) (h : IsR w v q) :
    Calls Tryz.prog 99 #[v] w fun e w' => ∃ u, e = .returned u ∧ (IsZ w' u q.num ∧ u ≠ .pointer none) ∧ Below w.heap.size w w' := by
  rcases h with ⟨rfl, rfl⟩ | ⟨b, o, y, rfl, hz, hy, hd⟩
  · have O := Lib.hid (num.Of_any 0 w (by decide) (by decide))
    go_enter Tryz.func99, Tryz.ntmps99
    go_wp2_with (go_at_call 57; (with_reducible refine (O.out).mono ?_); rintro e w2 ⟨u, rfl, hu, hb⟩; have HU := Lib.hid hu; have HB := Lib.hid hb; clear O hu hb)
    go_ret
    exact ⟨_, rfl, HU.out, HB.out⟩
  · obtain ⟨ab, ao, an, aq, al, ac, AX, he, a1, a2, a3, a4, a5⟩ := IsZ.cells hz (by simp)
    simp only [Value.pointer.injEq, Option.some.injEq, Addr.mk.injEq, and_true] at he
    obtain ⟨rfl, rfl⟩ := he
    have hbl : Below w.heap.size w (w.alloc (.cells #[.bool an, .slice aq al ac] 133)) := (Below.refl _ _).alloc (Nat.le_refl _) _
    have HU := Lib.hid (show IsZ (w.alloc (.cells #[.bool an, .slice aq al ac] 133)) (.pointer (some ⟨w.heap.size, 0, none⟩)) q.num from
      IsZ.of_cells (cell_of_row _ w.heap.size 0 #[.bool an, .slice aq al ac] _ (0, 0) (heap_alloc_new w _)) (cell_of_row _ w.heap.size 1 #[.bool an, .slice aq al ac] _ (0, 0) (heap_alloc_new w _)) (a3.below hbl) a4 a5)
    have HB := Lib.hid hbl
    clear hbl hz hy hd a3 a4 a5
    go_enter Tryz.func99, Tryz.ntmps99
    go_wp2
    go_ret
    exact ⟨_, rfl, ⟨HU.out, by simp⟩, HB.out⟩
set_option maxRecDepth 100000 in
theorem Den_any (v : Value) (q : Rat) (w : World) (h : IsR w v q) :
    Calls Tryz.prog 95 #[v] w fun e w' => ∃ u, e = .returned u ∧ (IsZ w' u (q.den : Int) ∧ u ≠ .pointer none) ∧ Below w.heap.size w w' := by
  rcases h with ⟨rfl, rfl⟩ | ⟨b, o, y, rfl, hz, hy, hd⟩
  · have O := Lib.hid (num.Of_any 1 w (by decide) (by decide))
    go_enter Tryz.func95, Tryz.ntmps95
    go_wp2_with (go_at_call 57; (with_reducible refine (O.out).mono ?_); rintro e w2 ⟨u, rfl, hu, hb⟩; have HU := Lib.hid hu; have HB := Lib.hid hb; clear O hu hb)
    go_ret
    exact ⟨_, rfl, HU.out, HB.out⟩
  · have S := num.Sign_any _ y w hy
    obtain ⟨ab, ao, an, aq, al, ac, AX, he, a1, a2, a3, a4, a5⟩ := IsZ.cells hy (by simp)
    simp only [Value.pointer.injEq, Option.some.injEq, Addr.mk.injEq, and_true] at he
    obtain ⟨rfl, rfl⟩ := he
    by_cases h0 : y = 0
    · have hq : q = 0 := by
        rcases hd with hd | hd
        · have := q.den_pos; omega
        · exact hd.2
      subst hq
      rw [h0, show sg 0 = 0 by decide] at S
      have S := Lib.hid S
      have O := Lib.hid (num.Of_any 1 w (by decide) (by decide))
      clear hz hy hd a1 a2 a3 a4 a5 h0
      go_enter Tryz.func95, Tryz.ntmps95
      go_wp2_with (first
        | (go_at_call 67; (with_reducible refine (S.out).mono ?_); rintro e w1 ⟨rfl, rfl⟩; clear S)
        | (go_at_call 57; (with_reducible refine (O.out).mono ?_); rintro e w2 ⟨u, rfl, hu, hb⟩; have HU := Lib.hid hu; have HB := Lib.hid hb; clear O hu hb)
        | (fail "no arm"))
      go_ret
      exact ⟨_, rfl, HU.out, HB.out⟩
    · have hq : y = q.den := by
        rcases hd with hd | hd
        · exact hd
        · exact absurd hd.1 h0
      have hsg : (sg y == 0) = false := by unfold sg cmp3; simp; (repeat' split) <;> omega
      have S := Lib.hid S
      have hbl : Below w.heap.size w (w.alloc (.cells #[.bool an, .slice aq al ac] 133)) := (Below.refl _ _).alloc (Nat.le_refl _) _
      have HU := Lib.hid (show IsZ (w.alloc (.cells #[.bool an, .slice aq al ac] 133)) (.pointer (some ⟨w.heap.size, 0, none⟩)) (q.den : Int) from
        IsZ.of_cells (cell_of_row _ w.heap.size 0 #[.bool an, .slice aq al ac] _ (0, 0) (heap_alloc_new w _)) (cell_of_row _ w.heap.size 1 #[.bool an, .slice aq al ac] _ (0, 0) (heap_alloc_new w _)) (a3.below hbl) (hq ▸ a4) a5)
      have HB := Lib.hid hbl
      clear hbl hz hy hd a3 a4 a5 h0 hq
      generalize sg y = s at *
      go_enter Tryz.func95, Tryz.ntmps95
      go_wp2_with (first
        | (go_at_call 67; (with_reducible refine (S.out).mono ?_); rintro e w1 ⟨rfl, rfl⟩; clear S)
        | (fail "no arm"))
      go_ret
      exact ⟨_, rfl, ⟨HU.out, by simp⟩, HB.out⟩
set_option maxRecDepth 100000 in
theorem Sign_any (v : Value) (q : Rat) (w : World) (h : IsR w v q) :
    Calls Tryz.prog 90 #[v] w fun e w' => e = .returned (.int .i64 (sg q.num)) ∧ Below w.heap.size w w' := by
  have N := Lib.hid (Num_any v q w h)
  clear h
  go_enter Tryz.func90, Tryz.ntmps90
  go_wp2_with (first
    | (go_at_call 99; (with_reducible refine (N.out).mono ?_); rintro e w2 ⟨u, rfl, ⟨hu, -⟩, hb⟩; have HU := Lib.hid hu; have HB := Lib.hid hb; clear N hu hb)
    | (go_at_call 67; (with_reducible refine (num.Sign_any _ _ _ HU.out).mono ?_); rintro e w1 ⟨rfl, rfl⟩)
    | (fail "no arm"))
  go_ret
  exact ⟨rfl, HB.out⟩
end Go.Proofs.YtfpooimjjpamoaaGreatDoor.rat
namespace Go.Proofs.YtfpooimjjpamoaaGreatDoor.rat
open Go.RowKit Go.Proofs.YtfpooimjjpamoaaGreatDoor.nat Go.Proofs.YtfpooimjjpamoaaGreatDoor.num
set_option maxRecDepth 100000 in
set_option maxHeartbeats 4000000 in
theorem divisor_any (a b : Value) (z y : Int) (w : World) (ha : IsZ w a z) (hb : IsZ w b y) (sz : Lz z 400000) (sy : Lz y 400000) :
    Calls Tryz.prog 129 #[a, b] w fun e w' => ∃ u, e = .returned u ∧ (IsZ w' u ((Nat.gcd z.natAbs y.natAbs : Nat) : Int) ∧ u ≠ .pointer none) ∧ Below w.heap.size w w' := by
  have H_a := Lib.hid ha
  have H_b := Lib.hid hb
  clear ha hb
  have c1 := fun (W : World) (v0 : Value) (hh0 : num.IsZ W v0 z)  => num.Abs_any v0 z W hh0
  have C1 := Lib.hid c1
  clear c1
  have c2 := fun (W : World) (v0 : Value) (hh0 : num.IsZ W v0 y)  => num.Abs_any v0 y W hh0
  have C2 := Lib.hid c2
  clear c2
  have c3 := fun (W : World) (v0 : Value) (v1 : Value) (hh0 : nat.IsN W v0 (Int.natAbs z)) (hh1 : nat.IsN W v1 (Int.natAbs y))  => nat.Gcd_any v0 v1 (Int.natAbs z) (Int.natAbs y) W hh0 hh1 ((Ln_abs sz).le (by decide)) ((Ln_abs sy).le (by decide))
  have C3 := Lib.hid c3
  clear c3
  have c4 := fun (W : World) (v0 : Value) (hh0 : nat.IsN W v0 (Nat.gcd (Int.natAbs z) (Int.natAbs y)))  => num.New_any false v0 (Nat.gcd (Int.natAbs z) (Int.natAbs y)) W hh0
  have C4 := Lib.hid c4
  clear c4
  go_enter Tryz.func129, Tryz.ntmps129
  go_wp2_with (first
    | (go_at_call 66; (with_reducible refine (C1.out _ _ H_a.out).mono ?_); rintro e W1 ⟨x, rfl, ⟨h_x, n_x⟩, hb⟩
       have H_x := Lib.hid h_x
       have N_x := Lib.hid n_x
       have HB1 := Lib.hid hb
       clear h_x n_x hb C1)
    | (go_at_call 66; (with_reducible refine (C2.out _ _ (H_b.out.below HB1.out)).mono ?_); rintro e W2 ⟨t, rfl, ⟨h_t, n_t⟩, hb⟩
       have H_t := Lib.hid h_t
       have N_t := Lib.hid n_t
       have HB2 := Lib.hid hb
       clear h_t n_t hb C2)
    | (go_at_call 40; (with_reducible refine (C3.out _ _ _ (H_x.out.below HB2.out) H_t.out).mono ?_); rintro e W3 ⟨g, rfl, ⟨h_g, n_g⟩, hb⟩
       have H_g := Lib.hid h_g
       have N_g := Lib.hid n_g
       have HB3 := Lib.hid hb
       clear h_g n_g hb C3)
    | (go_at_call 97; (with_reducible refine (C4.out _ _ H_g.out).mono ?_); rintro e W4 ⟨u, rfl, ⟨h_u, n_u⟩, hb⟩
       have H_u := Lib.hid h_u
       have N_u := Lib.hid n_u
       have HB4 := Lib.hid hb
       clear h_u n_u hb C4)
    | (fail "no arm"))
  go_ret
  exact ⟨_, rfl, ⟨H_u.out, N_u.out⟩, (nat.below_tr (nat.below_tr (nat.below_tr HB1.out HB2.out) HB3.out) HB4.out)⟩
set_option maxRecDepth 100000 in
set_option maxHeartbeats 4000000 in
theorem part_any (a b : Value) (z y : Int) (w : World) (ha : IsZ w a z) (hb : IsZ w b y) (sz : Lz z 700000) (sy : Lz y 700000) (h0 : y ≠ 0) :
    Calls Tryz.prog 139 #[a, b] w fun e w' => ∃ u, e = .returned u ∧ (IsZ w' u (Int.fdiv z y) ∧ u ≠ .pointer none) ∧ Below w.heap.size w w' := by
  have H_a := Lib.hid ha
  have H_b := Lib.hid hb
  clear ha hb
  have c1 := fun (W : World) (v0 : Value) (v1 : Value) (hh0 : num.IsZ W v0 z) (hh1 : num.IsZ W v1 y)  => num.Div_any v0 v1 z y W hh0 hh1 sz sy h0
  have C1 := Lib.hid c1
  clear c1
  go_enter Tryz.func139, Tryz.ntmps139
  go_wp2_with (first
    | (go_at_call 50; (with_reducible refine (C1.out _ _ _ H_a.out H_b.out).mono ?_); rintro e W1 ⟨q, r, rfl, ⟨h_q, n_q⟩, -, hb⟩
       have H_q := Lib.hid h_q
       have N_q := Lib.hid n_q
       have HB1 := Lib.hid hb
       clear h_q n_q hb C1)
    | (fail "no arm"))
  go_ret
  exact ⟨_, rfl, ⟨H_q.out, N_q.out⟩, HB1.out⟩
set_option maxRecDepth 100000 in
set_option maxHeartbeats 4000000 in
theorem upright_below (a b : Value) (z y : Int) (w : World) (ha : IsZ w a z) (_hna : a ≠ .pointer none) (hb : IsZ w b y) (_hnb : b ≠ .pointer none) (h0 : y < 0) (hc : Nat.gcd z.natAbs y.natAbs = 1) :
    Calls Tryz.prog 168 #[a, b] w fun e w' => ∃ u, e = .returned u ∧ (IsR w' u ((z : Rat) / (y : Rat)) ∧ u ≠ .pointer none) ∧ Below w.heap.size w w' := by
  have H_a := Lib.hid ha
  have H_b := Lib.hid hb
  clear ha hb
  have c1 := fun (W : World) (v0 : Value) (hh0 : num.IsZ W v0 y)  => num.Sign_any v0 y W hh0
  rw [show sg y = -1 by unfold sg cmp3; rw [if_pos h0]] at c1
  have C1 := Lib.hid c1
  clear c1
  have c2 := fun (W : World) (v0 : Value) (hh0 : num.IsZ W v0 z)  => num.Neg_any v0 z W hh0
  have C2 := Lib.hid c2
  clear c2
  have c3 := fun (W : World) (v0 : Value) (hh0 : num.IsZ W v0 y)  => num.Neg_any v0 y W hh0
  have C3 := Lib.hid c3
  clear c3
  have c4 := fun (W : World) (v0 : Value) (v1 : Value) (hh0 : num.IsZ W v0 (-z)) (hh1 : num.IsZ W v1 (-y)) (n0 : v0 ≠ .pointer none) (n1 : v1 ≠ .pointer none) => own_at ((z : Rat) / (y : Rat)) v0 v1 (-z) (-y) W hh0 n0 hh1 n1 (by rw [(up_val (by omega) hc).1]; unfold upN; rw [if_pos h0]) (by rw [(up_val (by omega) hc).2]; omega)
  have C4 := Lib.hid c4
  clear c4
  go_enter Tryz.func168, Tryz.ntmps168
  go_wp2_with (first
    | (go_at_call 67; (with_reducible refine (C1.out _ _ H_b.out).mono ?_); rintro e w9 ⟨rfl, rfl⟩
       clear C1)
    | (go_at_call 65; (with_reducible refine (C2.out _ _ H_a.out).mono ?_); rintro e W1 ⟨c, rfl, ⟨h_c, n_c⟩, hb⟩
       have H_c := Lib.hid h_c
       have N_c := Lib.hid n_c
       have HB1 := Lib.hid hb
       clear h_c n_c hb C2)
    | (go_at_call 65; (with_reducible refine (C3.out _ _ (H_b.out.below HB1.out)).mono ?_); rintro e W2 ⟨d, rfl, ⟨h_d, n_d⟩, hb⟩
       have H_d := Lib.hid h_d
       have N_d := Lib.hid n_d
       have HB2 := Lib.hid hb
       clear h_d n_d hb C3)
    | (go_at_call 128; (with_reducible refine (C4.out _ _ _ (H_c.out.below HB2.out) H_d.out N_c.out N_d.out).mono ?_); rintro e W3 ⟨u, rfl, ⟨h_u, n_u⟩, hb⟩
       have H_u := Lib.hid h_u
       have N_u := Lib.hid n_u
       have HB3 := Lib.hid hb
       clear h_u n_u hb C4)
    | (fail "no arm"))
  go_ret
  exact ⟨_, rfl, ⟨H_u.out, N_u.out⟩, (nat.below_tr (nat.below_tr HB1.out HB2.out) HB3.out)⟩
set_option maxRecDepth 100000 in
set_option maxHeartbeats 4000000 in
theorem upright_above (a b : Value) (z y : Int) (w : World) (ha : IsZ w a z) (hna : a ≠ .pointer none) (hb : IsZ w b y) (hnb : b ≠ .pointer none) (h0 : 0 < y) (hc : Nat.gcd z.natAbs y.natAbs = 1) :
    Calls Tryz.prog 168 #[a, b] w fun e w' => ∃ u, e = .returned u ∧ (IsR w' u ((z : Rat) / (y : Rat)) ∧ u ≠ .pointer none) ∧ Below w.heap.size w w' := by
  have H_a := Lib.hid ha
  have H_b := Lib.hid hb
  clear ha hb
  have N_a := Lib.hid hna
  have N_b := Lib.hid hnb
  clear hna hnb
  have c1 := fun (W : World) (v0 : Value) (hh0 : num.IsZ W v0 y)  => num.Sign_any v0 y W hh0
  rw [show sg y = 1 by unfold sg cmp3; rw [if_neg (by omega), if_pos h0]] at c1
  have C1 := Lib.hid c1
  clear c1
  have c2 := fun (W : World) (v0 : Value) (v1 : Value) (hh0 : num.IsZ W v0 z) (hh1 : num.IsZ W v1 y) (n0 : v0 ≠ .pointer none) (n1 : v1 ≠ .pointer none) => own_at ((z : Rat) / (y : Rat)) v0 v1 z y W hh0 n0 hh1 n1 (by rw [(up_val (by omega) hc).1]; unfold upN; rw [if_neg (by omega)]) (by rw [(up_val (by omega) hc).2]; omega)
  have C2 := Lib.hid c2
  clear c2
  go_enter Tryz.func168, Tryz.ntmps168
  go_wp2_with (first
    | (go_at_call 67; (with_reducible refine (C1.out _ _ H_b.out).mono ?_); rintro e w9 ⟨rfl, rfl⟩
       clear C1)
    | (go_at_call 128; (with_reducible refine (C2.out _ _ _ H_a.out H_b.out N_a.out N_b.out).mono ?_); rintro e W1 ⟨u, rfl, ⟨h_u, n_u⟩, hb⟩
       have H_u := Lib.hid h_u
       have N_u := Lib.hid n_u
       have HB1 := Lib.hid hb
       clear h_u n_u hb C2)
    | (fail "no arm"))
  go_ret
  exact ⟨_, rfl, ⟨H_u.out, N_u.out⟩, HB1.out⟩
theorem upright_any (a b : Value) (z y : Int) (w : World) (ha : IsZ w a z) (hna : a ≠ .pointer none) (hb : IsZ w b y) (hnb : b ≠ .pointer none) (h0 : y ≠ 0) (hc : Nat.gcd z.natAbs y.natAbs = 1) :
    Calls Tryz.prog 168 #[a, b] w fun e w' => ∃ u, e = .returned u ∧ (IsR w' u ((z : Rat) / (y : Rat)) ∧ u ≠ .pointer none) ∧ Below w.heap.size w w' := by
  rcases Int.lt_or_gt_of_ne h0 with h | h
  · exact upright_below a b z y w ha hna hb hnb h hc
  · exact upright_above a b z y w ha hna hb hnb h hc
theorem gcd_parts {z y : Int} (h0 : y ≠ 0) : 0 < Nat.gcd z.natAbs y.natAbs := Nat.gcd_pos_of_pos_right _ (by omega)
theorem parts_cop {z y : Int} (h0 : y ≠ 0) : Nat.gcd (Int.fdiv z ((Nat.gcd z.natAbs y.natAbs : Nat) : Int)).natAbs (Int.fdiv y ((Nat.gcd z.natAbs y.natAbs : Nat) : Int)).natAbs = 1 := by
  have hg := gcd_parts (z := z) h0
  rw [fdiv_abs (by omega) (gcd_divides_l z y), fdiv_abs (by omega) (gcd_divides_r z y), Int.natAbs_natCast]
  exact Nat.coprime_div_gcd_div_gcd hg
theorem parts_ne {z y : Int} (h0 : y ≠ 0) : Int.fdiv y ((Nat.gcd z.natAbs y.natAbs : Nat) : Int) ≠ 0 := by
  have hg := gcd_parts (z := z) h0
  obtain ⟨k, hk⟩ := gcd_divides_r z y
  generalize ((Nat.gcd z.natAbs y.natAbs : Nat) : Int) = g at *
  intro h
  have hg0 : g ≠ 0 := fun e => h0 (by rw [hk, e]; simp)
  rw [hk, Int.mul_fdiv_cancel_left _ hg0] at h
  exact h0 (by rw [hk, h]; simp)
theorem parts_val {z y : Int} (h0 : y ≠ 0) : ((Int.fdiv z ((Nat.gcd z.natAbs y.natAbs : Nat) : Int) : Int) : Rat) / ((Int.fdiv y ((Nat.gcd z.natAbs y.natAbs : Nat) : Int) : Int) : Rat) = (z : Rat) / (y : Rat) := by
  have hg := gcd_parts (z := z) h0
  have hg0 : ((Nat.gcd z.natAbs y.natAbs : Nat) : Int) ≠ 0 := by omega
  rw [fdiv_exact hg0 (gcd_divides_l z y), fdiv_exact hg0 (gcd_divides_r z y)]
  have h1 := cast_nez hg0
  have h2 := cast_nez h0
  generalize (((Nat.gcd z.natAbs y.natAbs : Nat) : Int) : Rat) = g at *
  grind
set_option maxRecDepth 100000 in
set_option maxHeartbeats 4000000 in
theorem New_ok (a b : Value) (z y : Int) (w : World) (ha : IsZ w a z) (hb : IsZ w b y) (sz : Lz z 300000) (sy : Lz y 300000) (h0 : y ≠ 0) :
    Calls Tryz.prog 130 #[a, b] w fun e w' => ∃ u, e = .returned (.tuple #[u, .nilIface]) ∧ (IsR w' u ((z : Rat) / (y : Rat)) ∧ u ≠ .pointer none) ∧ Below w.heap.size w w' := by
  have H_a := Lib.hid ha
  have H_b := Lib.hid hb
  clear ha hb
  have c1 := fun (W : World) (v0 : Value) (hh0 : num.IsZ W v0 y)  => num.Sign_any v0 y W hh0
  have hsg : (sg y == 0) = false := by unfold sg cmp3; simp; (repeat' split) <;> omega
  have C1 := Lib.hid c1
  clear c1
  have c2 := fun (W : World) (v0 : Value) (v1 : Value) (hh0 : num.IsZ W v0 z) (hh1 : num.IsZ W v1 y)  => divisor_any v0 v1 z y W hh0 hh1 (sz.le (by decide)) (sy.le (by decide))
  have C2 := Lib.hid c2
  clear c2
  have c3 := fun (W : World) (v0 : Value) (v1 : Value) (hh0 : num.IsZ W v0 z) (hh1 : num.IsZ W v1 (((Nat.gcd (Int.natAbs z) (Int.natAbs y)) : Nat) : Int))  => part_any v0 v1 z (((Nat.gcd (Int.natAbs z) (Int.natAbs y)) : Nat) : Int) W hh0 hh1 (sz.le (by decide)) ((Lz_nat (Ln_gcd (Ln_abs sz) (Ln_abs sy))).le (by decide)) (by have := gcd_parts (z := z) h0; omega)
  have C3 := Lib.hid c3
  clear c3
  have c4 := fun (W : World) (v0 : Value) (v1 : Value) (hh0 : num.IsZ W v0 y) (hh1 : num.IsZ W v1 (((Nat.gcd (Int.natAbs z) (Int.natAbs y)) : Nat) : Int))  => part_any v0 v1 y (((Nat.gcd (Int.natAbs z) (Int.natAbs y)) : Nat) : Int) W hh0 hh1 (sy.le (by decide)) ((Lz_nat (Ln_gcd (Ln_abs sz) (Ln_abs sy))).le (by decide)) (by have := gcd_parts (z := z) h0; omega)
  have C4 := Lib.hid c4
  clear c4
  have c5 := fun (W : World) (v0 : Value) (v1 : Value) (hh0 : num.IsZ W v0 (Int.fdiv z (((Nat.gcd (Int.natAbs z) (Int.natAbs y)) : Nat) : Int))) (hh1 : num.IsZ W v1 (Int.fdiv y (((Nat.gcd (Int.natAbs z) (Int.natAbs y)) : Nat) : Int))) (n0 : v0 ≠ .pointer none) (n1 : v1 ≠ .pointer none) => upright_any v0 v1 (Int.fdiv z (((Nat.gcd (Int.natAbs z) (Int.natAbs y)) : Nat) : Int)) (Int.fdiv y (((Nat.gcd (Int.natAbs z) (Int.natAbs y)) : Nat) : Int)) W hh0 n0 hh1 n1 (parts_ne h0) (parts_cop h0)
  rw [parts_val h0] at c5
  have C5 := Lib.hid c5
  clear c5
  go_enter Tryz.func130, Tryz.ntmps130
  go_wp2_with (first
    | (go_at_call 67; (with_reducible refine (C1.out _ _ H_b.out).mono ?_); rintro e w9 ⟨rfl, rfl⟩
       clear C1)
    | (go_at_call 129; (with_reducible refine (C2.out _ _ _ H_a.out H_b.out).mono ?_); rintro e W1 ⟨g, rfl, ⟨h_g, n_g⟩, hb⟩
       have H_g := Lib.hid h_g
       have N_g := Lib.hid n_g
       have HB1 := Lib.hid hb
       clear h_g n_g hb C2)
    | (go_at_call 139; (with_reducible refine (C3.out _ _ _ (H_a.out.below HB1.out) H_g.out).mono ?_); rintro e W2 ⟨p, rfl, ⟨h_p, n_p⟩, hb⟩
       have H_p := Lib.hid h_p
       have N_p := Lib.hid n_p
       have HB2 := Lib.hid hb
       clear h_p n_p hb C3)
    | (go_at_call 139; (with_reducible refine (C4.out _ _ _ ((H_b.out.below HB1.out).below HB2.out) (H_g.out.below HB2.out)).mono ?_); rintro e W3 ⟨q, rfl, ⟨h_q, n_q⟩, hb⟩
       have H_q := Lib.hid h_q
       have N_q := Lib.hid n_q
       have HB3 := Lib.hid hb
       clear h_q n_q hb C4)
    | (go_at_call 168; (with_reducible refine (C5.out _ _ _ (H_p.out.below HB3.out) H_q.out N_p.out N_q.out).mono ?_); rintro e W4 ⟨u, rfl, ⟨h_u, n_u⟩, hb⟩
       have H_u := Lib.hid h_u
       have N_u := Lib.hid n_u
       have HB4 := Lib.hid hb
       clear h_u n_u hb C5)
    | (fail "no arm"))
  go_ret2
  exact ⟨_, rfl, ⟨H_u.out, N_u.out⟩, (nat.below_tr (nat.below_tr (nat.below_tr HB1.out HB2.out) HB3.out) HB4.out)⟩
set_option maxRecDepth 100000 in
set_option maxHeartbeats 4000000 in
theorem New_zero (a b : Value) (w : World) (hb : IsZ w b 0) :
    Calls Tryz.prog 130 #[a, b] w fun e w' => e = .returned (.tuple #[.pointer none, errOf 3]) ∧ w = w' := by
  unfold errOf
  have H_b := Lib.hid hb
  clear hb
  have c1 := fun (W : World) (v0 : Value) (hh0 : num.IsZ W v0 (0 : Int))  => num.Sign_any v0 0 W hh0
  rw [show sg 0 = 0 by decide] at c1
  have C1 := Lib.hid c1
  clear c1
  have c2 := fun (W : World)    => flt.Of_some 3 W rfl
  have C2 := Lib.hid c2
  clear c2
  go_enter Tryz.func130, Tryz.ntmps130
  go_wp2_with (first
    | (go_at_call 67; (with_reducible refine (C1.out _ _ H_b.out).mono ?_); rintro e w9 ⟨rfl, rfl⟩
       clear C1)
    | (go_at_call 103; (with_reducible refine (C2.out _ ).mono ?_); rintro e w9 ⟨rfl, rfl⟩
       clear C2)
    | (fail "no arm"))
  go_ret2
  exact ⟨rfl, rfl⟩
set_option maxRecDepth 100000 in
set_option maxHeartbeats 4000000 in
theorem Of_zero (z : Int) (w : World) (k1 : -9223372036854775808 ≤ z) (k2 : z < 9223372036854775808) :
    Calls Tryz.prog 74 #[.int .i64 z, .int .i64 0] w fun e w' => e = .returned (.tuple #[.pointer none, errOf 3]) ∧ Below w.heap.size w w' := by
  unfold errOf
  have c1 := fun (W : World)    => num.Of_any z W k1 k2
  have C1 := Lib.hid c1
  clear c1
  have c2 := fun (W : World)    => num.Of_any 0 W (by decide) (by decide)
  have C2 := Lib.hid c2
  clear c2
  have c3 := fun (W : World) (v0 v1 : Value) (hh0 : num.IsZ W v0 (0 : Int))  => New_zero v1 v0 W hh0
  unfold errOf at c3
  have C3 := Lib.hid c3
  clear c3
  go_enter Tryz.func74, Tryz.ntmps74
  go_wp2_with (first
    | (go_at_call 57; (with_reducible refine (C1.out _ ).mono ?_); rintro e W1 ⟨a, rfl, ⟨h_a, n_a⟩, hb⟩
       have H_a := Lib.hid h_a
       have N_a := Lib.hid n_a
       have HB1 := Lib.hid hb
       clear h_a n_a hb C1)
    | (go_at_call 57; (with_reducible refine (C2.out _ ).mono ?_); rintro e W2 ⟨b, rfl, ⟨h_b, n_b⟩, hb⟩
       have H_b := Lib.hid h_b
       have N_b := Lib.hid n_b
       have HB2 := Lib.hid hb
       clear h_b n_b hb C2)
    | (go_at_call 130; (with_reducible refine (C3.out _ _ _ H_b.out).mono ?_); rintro e w9 ⟨rfl, rfl⟩
       clear C3)
    | (fail "no arm"))
  go_ret2
  exact ⟨rfl, (nat.below_tr HB1.out HB2.out)⟩
set_option maxRecDepth 100000 in
set_option maxHeartbeats 4000000 in
theorem Of_ok (z y : Int) (w : World) (k1 : -9223372036854775808 ≤ z) (k2 : z < 9223372036854775808) (k3 : -9223372036854775808 ≤ y) (k4 : y < 9223372036854775808) (h0 : y ≠ 0) :
    Calls Tryz.prog 74 #[.int .i64 z, .int .i64 y] w fun e w' => ∃ u, e = .returned (.tuple #[u, .nilIface]) ∧ (IsR w' u ((z : Rat) / (y : Rat)) ∧ u ≠ .pointer none) ∧ Below w.heap.size w w' := by
  have c1 := fun (W : World)    => num.Of_any z W k1 k2
  have C1 := Lib.hid c1
  clear c1
  have c2 := fun (W : World)    => num.Of_any y W k3 k4
  have C2 := Lib.hid c2
  clear c2
  have c3 := fun (W : World) (v0 : Value) (v1 : Value) (hh0 : num.IsZ W v0 z) (hh1 : num.IsZ W v1 y)  => New_ok v0 v1 z y W hh0 hh1 ((Lz_small (by omega)).le (by decide)) ((Lz_small (by omega)).le (by decide)) h0
  have C3 := Lib.hid c3
  clear c3
  go_enter Tryz.func74, Tryz.ntmps74
  go_wp2_with (first
    | (go_at_call 57; (with_reducible refine (C1.out _ ).mono ?_); rintro e W1 ⟨a, rfl, ⟨h_a, n_a⟩, hb⟩
       have H_a := Lib.hid h_a
       have N_a := Lib.hid n_a
       have HB1 := Lib.hid hb
       clear h_a n_a hb C1)
    | (go_at_call 57; (with_reducible refine (C2.out _ ).mono ?_); rintro e W2 ⟨b, rfl, ⟨h_b, n_b⟩, hb⟩
       have H_b := Lib.hid h_b
       have N_b := Lib.hid n_b
       have HB2 := Lib.hid hb
       clear h_b n_b hb C2)
    | (go_at_call 130; (with_reducible refine (C3.out _ _ _ (H_a.out.below HB2.out) H_b.out).mono ?_); rintro e W3 ⟨u, rfl, ⟨h_u, n_u⟩, hb⟩
       have H_u := Lib.hid h_u
       have N_u := Lib.hid n_u
       have HB3 := Lib.hid hb
       clear h_u n_u hb C3)
    | (fail "no arm"))
  go_ret2
  exact ⟨_, rfl, ⟨H_u.out, N_u.out⟩, (nat.below_tr (nat.below_tr HB1.out HB2.out) HB3.out)⟩
end Go.Proofs.YtfpooimjjpamoaaGreatDoor.rat
