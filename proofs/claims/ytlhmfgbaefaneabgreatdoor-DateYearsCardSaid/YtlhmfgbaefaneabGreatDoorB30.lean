/-
  The steps of the walks, part 30: Rat, RatA, RatB, RatC.
-/
import Derived.BigRegion
import Derived.Test.YtlhmfgbaefaneabGreatDoorB29
namespace Go.Proofs.YtlhmfgbaefaneabGreatDoor.rat
open Go.RowKit Go.Proofs.YtlhmfgbaefaneabGreatDoor.nat Go.Proofs.YtlhmfgbaefaneabGreatDoor.num
def IsR (w : World) (v : Value) (q : Rat) : Prop :=
  (v = .pointer none ∧ q = 0) ∨ ∃ b o y, v = .pointer (some ⟨b, o, none⟩) ∧ IsZ w (.pointer (some ⟨b, o, none⟩)) q.num ∧ IsZ w (.pointer (some ⟨b, o + 2, none⟩)) y ∧ (y = q.den ∨ (y = 0 ∧ q = 0))
theorem IsR.below {w w' : World} {v : Value} {q : Rat} (h : IsR w v q) (hb : Below w.heap.size w w') : IsR w' v q := by
  rcases h with h | ⟨b, o, y, h1, h2, h3, h4⟩
  · exact Or.inl h
  · exact Or.inr ⟨b, o, y, h1, h2.below hb, h3.below hb, h4⟩
theorem IsR.some {w : World} {v : Value} {q : Rat} (h : IsR w v q) (hn : v ≠ .pointer none) : ∃ p, v = .pointer (some p) := by
  rcases h with ⟨h, -⟩ | ⟨b, o, y, h, -⟩
  · exact absurd h hn
  · exact ⟨_, h⟩
theorem IsZ.cells {w : World} {v : Value} {z : Int} (h : IsZ w v z) (hn : v ≠ .pointer none) : ∃ b o neg ao n cap X, v = .pointer (some ⟨b, o, none⟩) ∧ w.cell? ⟨b, o, none⟩ = some (.bool neg) ∧ w.cell? ⟨b, o + 1, none⟩ = some (.slice ao n cap) ∧ Rd w (.slice ao n cap) (digs X) ∧ z = sgn neg X ∧ (neg = true → 0 < X) := by
  rcases h with ⟨h, -⟩ | ⟨b, o, neg, sv, X, h1, h2, h3, h4, h5⟩
  · exact absurd h hn
  · obtain ⟨ao, cap, rfl, -⟩ := id h4
    exact ⟨b, o, neg, ao, _, cap, X, h1, h2, h3, h4, h5⟩
theorem IsZ.of_cells {w : World} {b o : Nat} {neg : Bool} {sv : Value} {X : Nat} {z : Int} (h1 : w.cell? ⟨b, o, none⟩ = some (.bool neg)) (h2 : w.cell? ⟨b, o + 1, none⟩ = some sv) (h3 : Rd w sv (digs X)) (h4 : z = sgn neg X) (h5 : neg = true → 0 < X) : IsZ w (.pointer (some ⟨b, o, none⟩)) z :=
  Or.inr ⟨b, o, neg, sv, X, rfl, h1, h2, h3, h4, h5⟩
theorem row4 {w : World} {g : Nat} {v0 v1 v2 v3 : Value} {t : TypeId} (h : w.heap[g]? = some (.cells #[v0, v1, v2, v3] t (0, 0))) :
    w.cell? ⟨g, 0, none⟩ = some v0 ∧ w.cell? ⟨g, 1, none⟩ = some v1 ∧ w.cell? ⟨g, 2, none⟩ = some v2 ∧ w.cell? ⟨g, 3, none⟩ = some v3 :=
  ⟨by rw [cell_of_row _ _ 0 _ t (0, 0) h]; rfl, by rw [cell_of_row _ _ 1 _ t (0, 0) h]; rfl, by rw [cell_of_row _ _ 2 _ t (0, 0) h]; rfl, by rw [cell_of_row _ _ 3 _ t (0, 0) h]; rfl⟩
set_option maxRecDepth 100000 in
theorem own_at (q : Rat) (a b : Value) (z y : Int) (w : World) (ha : IsZ w a z) (hna : a ≠ .pointer none) (hb : IsZ w b y) (hnb : b ≠ .pointer none) (h1 : q.num = z) (h2 : y = q.den) :
    Calls Tryz.prog 113 #[a, b] w fun e w' => ∃ u, e = .returned u ∧ (IsR w' u q ∧ u ≠ .pointer none) ∧ Below w.heap.size w w' := by
  obtain ⟨ab, ao, an, aq, al, ac, AX, rfl, a1, a2, a3, a4, a5⟩ := IsZ.cells ha hna
  obtain ⟨bb, bo, bn, bq, bl, bc, BX, rfl, b1, b2, b3, b4, b5⟩ := IsZ.cells hb hnb
  have hbl : Below w.heap.size w (w.alloc (.cells #[.bool an, .slice aq al ac, .bool bn, .slice bq bl bc] 120)) := (Below.refl _ _).alloc (Nat.le_refl _) _
  obtain ⟨c0, c1, c2, c3⟩ := row4 (heap_alloc_new w (.cells #[.bool an, .slice aq al ac, .bool bn, .slice bq bl bc] 120))
  have HU := Lib.hid (show IsR (w.alloc (.cells #[.bool an, .slice aq al ac, .bool bn, .slice bq bl bc] 120)) (.pointer (some ⟨w.heap.size, 0, none⟩)) q from
    Or.inr ⟨_, 0, y, rfl, IsZ.of_cells c0 c1 (a3.below hbl) (h1.trans a4) a5, IsZ.of_cells c2 c3 (b3.below hbl) b4 b5, Or.inl h2⟩)
  have HB := Lib.hid hbl
  clear c0 c1 c2 c3 hbl ha hb a3 a4 a5 b3 b4 b5 h1 h2 hna hnb
  go_enter Tryz.func113, Tryz.ntmps113
  go_wp2
  go_region
  go_wp2
  go_ret
  exact ⟨_, rfl, ⟨HU.out.below (Below.refl _ _).drew, by simp⟩, HB.out.drew⟩
set_option maxRecDepth 100000 in
theorem Num_any (v : Value) (q : Rat) (w : World) (h : IsR w v q) :
    Calls Tryz.prog 84 #[v] w fun e w' => ∃ u, e = .returned u ∧ (IsZ w' u q.num ∧ u ≠ .pointer none) ∧ Below w.heap.size w w' := by
  rcases h with ⟨rfl, rfl⟩ | ⟨b, o, y, rfl, hz, hy, hd⟩
  · have O := Lib.hid (num.Of_any 0 w (by decide) (by decide))
    go_enter Tryz.func84, Tryz.ntmps84
    go_wp2_with (go_at_call 89; (with_reducible refine (O.out).mono ?_); rintro e w2 ⟨u, rfl, hu, hb⟩; have HU := Lib.hid hu; have HB := Lib.hid hb; clear O hu hb)
    go_ret
    exact ⟨_, rfl, HU.out, HB.out⟩
  · obtain ⟨ab, ao, an, aq, al, ac, AX, he, a1, a2, a3, a4, a5⟩ := IsZ.cells hz (by simp)
    simp only [Value.pointer.injEq, Option.some.injEq, Addr.mk.injEq, and_true] at he
    obtain ⟨rfl, rfl⟩ := he
    have hbl : Below w.heap.size w (w.alloc (.cells #[.bool an, .slice aq al ac] 118)) := (Below.refl _ _).alloc (Nat.le_refl _) _
    have HU := Lib.hid (show IsZ (w.alloc (.cells #[.bool an, .slice aq al ac] 118)) (.pointer (some ⟨w.heap.size, 0, none⟩)) q.num from
      IsZ.of_cells (cell_of_row _ w.heap.size 0 #[.bool an, .slice aq al ac] _ (0, 0) (heap_alloc_new w _)) (cell_of_row _ w.heap.size 1 #[.bool an, .slice aq al ac] _ (0, 0) (heap_alloc_new w _)) (a3.below hbl) a4 a5)
    have HB := Lib.hid hbl
    clear hbl hz hy hd a3 a4 a5
    go_enter Tryz.func84, Tryz.ntmps84
    go_wp2
    go_ret
    exact ⟨_, rfl, ⟨HU.out, by simp⟩, HB.out⟩
set_option maxRecDepth 100000 in
theorem Den_any (v : Value) (q : Rat) (w : World) (h : IsR w v q) :
    Calls Tryz.prog 85 #[v] w fun e w' => ∃ u, e = .returned u ∧ (IsZ w' u (q.den : Int) ∧ u ≠ .pointer none) ∧ Below w.heap.size w w' := by
  rcases h with ⟨rfl, rfl⟩ | ⟨b, o, y, rfl, hz, hy, hd⟩
  · have O := Lib.hid (num.Of_any 1 w (by decide) (by decide))
    go_enter Tryz.func85, Tryz.ntmps85
    go_wp2_with (go_at_call 89; (with_reducible refine (O.out).mono ?_); rintro e w2 ⟨u, rfl, hu, hb⟩; have HU := Lib.hid hu; have HB := Lib.hid hb; clear O hu hb)
    go_ret
    exact ⟨_, rfl, HU.out, HB.out⟩
  · have S := num.Sign_any _ y w hy
    obtain ⟨ab, ao, an, aq, al, ac, AX, he, a1, a2, a3, a4, a5⟩ := IsZ.cells hy (by simp)
    simp only [Value.pointer.injEq, Option.some.injEq, Addr.mk.injEq, and_true] at he
    obtain ⟨rfl, rfl⟩ := he
    by_cases h0 : y = 0
    · have hq : q = 0 := by
        rcases hd with hd | hd
        · have := q.den_pos; omega
        · exact hd.2
      subst hq
      rw [h0, show sg 0 = 0 by decide] at S
      have S := Lib.hid S
      have O := Lib.hid (num.Of_any 1 w (by decide) (by decide))
      clear hz hy hd a1 a2 a3 a4 a5 h0
      go_enter Tryz.func85, Tryz.ntmps85
      go_wp2_with (first
        | (go_at_call 88; (with_reducible refine (S.out).mono ?_); rintro e w1 ⟨rfl, rfl⟩; clear S)
        | (go_at_call 89; (with_reducible refine (O.out).mono ?_); rintro e w2 ⟨u, rfl, hu, hb⟩; have HU := Lib.hid hu; have HB := Lib.hid hb; clear O hu hb)
        | (fail "no arm"))
      go_ret
      exact ⟨_, rfl, HU.out, HB.out⟩
    · have hq : y = q.den := by
        rcases hd with hd | hd
        · exact hd
        · exact absurd hd.1 h0
      have hsg : (sg y == 0) = false := by unfold sg cmp3; simp; (repeat' split) <;> omega
      have S := Lib.hid S
      have hbl : Below w.heap.size w (w.alloc (.cells #[.bool an, .slice aq al ac] 118)) := (Below.refl _ _).alloc (Nat.le_refl _) _
      have HU := Lib.hid (show IsZ (w.alloc (.cells #[.bool an, .slice aq al ac] 118)) (.pointer (some ⟨w.heap.size, 0, none⟩)) (q.den : Int) from
        IsZ.of_cells (cell_of_row _ w.heap.size 0 #[.bool an, .slice aq al ac] _ (0, 0) (heap_alloc_new w _)) (cell_of_row _ w.heap.size 1 #[.bool an, .slice aq al ac] _ (0, 0) (heap_alloc_new w _)) (a3.below hbl) (hq ▸ a4) a5)
      have HB := Lib.hid hbl
      clear hbl hz hy hd a3 a4 a5 h0 hq
      generalize sg y = s at *
      go_enter Tryz.func85, Tryz.ntmps85
      go_wp2_with (first
        | (go_at_call 88; (with_reducible refine (S.out).mono ?_); rintro e w1 ⟨rfl, rfl⟩; clear S)
        | (fail "no arm"))
      go_ret
      exact ⟨_, rfl, ⟨HU.out, by simp⟩, HB.out⟩
set_option maxRecDepth 100000 in
theorem Sign_any (v : Value) (q : Rat) (w : World) (h : IsR w v q) :
    Calls Tryz.prog 48 #[v] w fun e w' => e = .returned (.int .i64 (sg q.num)) ∧ Below w.heap.size w w' := by
  have N := Lib.hid (Num_any v q w h)
  clear h
  go_enter Tryz.func48, Tryz.ntmps48
  go_wp2_with (first
    | (go_at_call 84; (with_reducible refine (N.out).mono ?_); rintro e w2 ⟨u, rfl, ⟨hu, -⟩, hb⟩; have HU := Lib.hid hu; have HB := Lib.hid hb; clear N hu hb)
    | (go_at_call 88; (with_reducible refine (num.Sign_any _ _ _ HU.out).mono ?_); rintro e w1 ⟨rfl, rfl⟩)
    | (fail "no arm"))
  go_ret
  exact ⟨rfl, HB.out⟩
end Go.Proofs.YtlhmfgbaefaneabGreatDoor.rat
namespace Go.Proofs.YtlhmfgbaefaneabGreatDoor.rat
open Go.RowKit Go.Proofs.YtlhmfgbaefaneabGreatDoor.nat Go.Proofs.YtlhmfgbaefaneabGreatDoor.num
set_option maxRecDepth 100000 in
set_option maxHeartbeats 4000000 in
theorem divisor_any (a b : Value) (z y : Int) (w : World) (ha : IsZ w a z) (hb : IsZ w b y) (sz : Lz z 400000) (sy : Lz y 400000) :
    Calls Tryz.prog 90 #[a, b] w fun e w' => ∃ u, e = .returned u ∧ (IsZ w' u ((Nat.gcd z.natAbs y.natAbs : Nat) : Int) ∧ u ≠ .pointer none) ∧ Below w.heap.size w w' := by
  have H_a := Lib.hid ha
  have H_b := Lib.hid hb
  clear ha hb
  have c1 := fun (W : World) (v0 : Value) (hh0 : num.IsZ W v0 z)  => num.Abs_any v0 z W hh0
  have C1 := Lib.hid c1
  clear c1
  have c2 := fun (W : World) (v0 : Value) (hh0 : num.IsZ W v0 y)  => num.Abs_any v0 y W hh0
  have C2 := Lib.hid c2
  clear c2
  have c3 := fun (W : World) (v0 : Value) (v1 : Value) (hh0 : nat.IsN W v0 (Int.natAbs z)) (hh1 : nat.IsN W v1 (Int.natAbs y))  => nat.Gcd_any v0 v1 (Int.natAbs z) (Int.natAbs y) W hh0 hh1 ((Ln_abs sz).le (by decide)) ((Ln_abs sy).le (by decide))
  have C3 := Lib.hid c3
  clear c3
  have c4 := fun (W : World) (v0 : Value) (hh0 : nat.IsN W v0 (Nat.gcd (Int.natAbs z) (Int.natAbs y)))  => num.New_any false v0 (Nat.gcd (Int.natAbs z) (Int.natAbs y)) W hh0
  have C4 := Lib.hid c4
  clear c4
  go_enter Tryz.func90, Tryz.ntmps90
  go_wp2_with (first
    | (go_at_call 111; (with_reducible refine (C1.out _ _ H_a.out).mono ?_); rintro e W1 ⟨x, rfl, ⟨h_x, n_x⟩, hb⟩
       have H_x := Lib.hid h_x
       have N_x := Lib.hid n_x
       have HB1 := Lib.hid hb
       clear h_x n_x hb C1)
    | (go_at_call 111; (with_reducible refine (C2.out _ _ (H_b.out.below HB1.out)).mono ?_); rintro e W2 ⟨t, rfl, ⟨h_t, n_t⟩, hb⟩
       have H_t := Lib.hid h_t
       have N_t := Lib.hid n_t
       have HB2 := Lib.hid hb
       clear h_t n_t hb C2)
    | (go_at_call 112; (with_reducible refine (C3.out _ _ _ (H_x.out.below HB2.out) H_t.out).mono ?_); rintro e W3 ⟨g, rfl, ⟨h_g, n_g⟩, hb⟩
       have H_g := Lib.hid h_g
       have N_g := Lib.hid n_g
       have HB3 := Lib.hid hb
       clear h_g n_g hb C3)
    | (go_at_call 93; (with_reducible refine (C4.out _ _ H_g.out).mono ?_); rintro e W4 ⟨u, rfl, ⟨h_u, n_u⟩, hb⟩
       have H_u := Lib.hid h_u
       have N_u := Lib.hid n_u
       have HB4 := Lib.hid hb
       clear h_u n_u hb C4)
    | (fail "no arm"))
  go_ret
  exact ⟨_, rfl, ⟨H_u.out, N_u.out⟩, (nat.below_tr (nat.below_tr (nat.below_tr HB1.out HB2.out) HB3.out) HB4.out)⟩
set_option maxRecDepth 100000 in
set_option maxHeartbeats 4000000 in
theorem part_any (a b : Value) (z y : Int) (w : World) (ha : IsZ w a z) (hb : IsZ w b y) (sz : Lz z 700000) (sy : Lz y 700000) (h0 : y ≠ 0) :
    Calls Tryz.prog 92 #[a, b] w fun e w' => ∃ u, e = .returned u ∧ (IsZ w' u (Int.fdiv z y) ∧ u ≠ .pointer none) ∧ Below w.heap.size w w' := by
  have H_a := Lib.hid ha
  have H_b := Lib.hid hb
  clear ha hb
  have c1 := fun (W : World) (v0 : Value) (v1 : Value) (hh0 : num.IsZ W v0 z) (hh1 : num.IsZ W v1 y)  => num.Div_any v0 v1 z y W hh0 hh1 sz sy h0
  have C1 := Lib.hid c1
  clear c1
  go_enter Tryz.func92, Tryz.ntmps92
  go_wp2_with (first
    | (go_at_call 115; (with_reducible refine (C1.out _ _ _ H_a.out H_b.out).mono ?_); rintro e W1 ⟨q, r, rfl, ⟨h_q, n_q⟩, -, hb⟩
       have H_q := Lib.hid h_q
       have N_q := Lib.hid n_q
       have HB1 := Lib.hid hb
       clear h_q n_q hb C1)
    | (fail "no arm"))
  go_ret
  exact ⟨_, rfl, ⟨H_q.out, N_q.out⟩, HB1.out⟩
set_option maxRecDepth 100000 in
set_option maxHeartbeats 4000000 in
theorem upright_below (a b : Value) (z y : Int) (w : World) (ha : IsZ w a z) (_hna : a ≠ .pointer none) (hb : IsZ w b y) (_hnb : b ≠ .pointer none) (h0 : y < 0) (hc : Nat.gcd z.natAbs y.natAbs = 1) :
    Calls Tryz.prog 91 #[a, b] w fun e w' => ∃ u, e = .returned u ∧ (IsR w' u ((z : Rat) / (y : Rat)) ∧ u ≠ .pointer none) ∧ Below w.heap.size w w' := by
  have H_a := Lib.hid ha
  have H_b := Lib.hid hb
  clear ha hb
  have c1 := fun (W : World) (v0 : Value) (hh0 : num.IsZ W v0 y)  => num.Sign_any v0 y W hh0
  rw [show sg y = -1 by unfold sg cmp3; rw [if_pos h0]] at c1
  have C1 := Lib.hid c1
  clear c1
  have c2 := fun (W : World) (v0 : Value) (hh0 : num.IsZ W v0 z)  => num.Neg_any v0 z W hh0
  have C2 := Lib.hid c2
  clear c2
  have c3 := fun (W : World) (v0 : Value) (hh0 : num.IsZ W v0 y)  => num.Neg_any v0 y W hh0
  have C3 := Lib.hid c3
  clear c3
  have c4 := fun (W : World) (v0 : Value) (v1 : Value) (hh0 : num.IsZ W v0 (-z)) (hh1 : num.IsZ W v1 (-y)) (n0 : v0 ≠ .pointer none) (n1 : v1 ≠ .pointer none) => own_at ((z : Rat) / (y : Rat)) v0 v1 (-z) (-y) W hh0 n0 hh1 n1 (by rw [(up_val (by omega) hc).1]; unfold upN; rw [if_pos h0]) (by rw [(up_val (by omega) hc).2]; omega)
  have C4 := Lib.hid c4
  clear c4
  go_enter Tryz.func91, Tryz.ntmps91
  go_wp2_with (first
    | (go_at_call 88; (with_reducible refine (C1.out _ _ H_b.out).mono ?_); rintro e w9 ⟨rfl, rfl⟩
       clear C1)
    | (go_at_call 114; (with_reducible refine (C2.out _ _ H_a.out).mono ?_); rintro e W1 ⟨c, rfl, ⟨h_c, n_c⟩, hb⟩
       have H_c := Lib.hid h_c
       have N_c := Lib.hid n_c
       have HB1 := Lib.hid hb
       clear h_c n_c hb C2)
    | (go_at_call 114; (with_reducible refine (C3.out _ _ (H_b.out.below HB1.out)).mono ?_); rintro e W2 ⟨d, rfl, ⟨h_d, n_d⟩, hb⟩
       have H_d := Lib.hid h_d
       have N_d := Lib.hid n_d
       have HB2 := Lib.hid hb
       clear h_d n_d hb C3)
    | (go_at_call 113; (with_reducible refine (C4.out _ _ _ (H_c.out.below HB2.out) H_d.out N_c.out N_d.out).mono ?_); rintro e W3 ⟨u, rfl, ⟨h_u, n_u⟩, hb⟩
       have H_u := Lib.hid h_u
       have N_u := Lib.hid n_u
       have HB3 := Lib.hid hb
       clear h_u n_u hb C4)
    | (fail "no arm"))
  go_ret
  exact ⟨_, rfl, ⟨H_u.out, N_u.out⟩, (nat.below_tr (nat.below_tr HB1.out HB2.out) HB3.out)⟩
set_option maxRecDepth 100000 in
set_option maxHeartbeats 4000000 in
theorem upright_above (a b : Value) (z y : Int) (w : World) (ha : IsZ w a z) (hna : a ≠ .pointer none) (hb : IsZ w b y) (hnb : b ≠ .pointer none) (h0 : 0 < y) (hc : Nat.gcd z.natAbs y.natAbs = 1) :
    Calls Tryz.prog 91 #[a, b] w fun e w' => ∃ u, e = .returned u ∧ (IsR w' u ((z : Rat) / (y : Rat)) ∧ u ≠ .pointer none) ∧ Below w.heap.size w w' := by
  have H_a := Lib.hid ha
  have H_b := Lib.hid hb
  clear ha hb
  have N_a := Lib.hid hna
  have N_b := Lib.hid hnb
  clear hna hnb
  have c1 := fun (W : World) (v0 : Value) (hh0 : num.IsZ W v0 y)  => num.Sign_any v0 y W hh0
  rw [show sg y = 1 by unfold sg cmp3; rw [if_neg (by omega), if_pos h0]] at c1
  have C1 := Lib.hid c1
  clear c1
  have c2 := fun (W : World) (v0 : Value) (v1 : Value) (hh0 : num.IsZ W v0 z) (hh1 : num.IsZ W v1 y) (n0 : v0 ≠ .pointer none) (n1 : v1 ≠ .pointer none) => own_at ((z : Rat) / (y : Rat)) v0 v1 z y W hh0 n0 hh1 n1 (by rw [(up_val (by omega) hc).1]; unfold upN; rw [if_neg (by omega)]) (by rw [(up_val (by omega) hc).2]; omega)
  have C2 := Lib.hid c2
  clear c2
  go_enter Tryz.func91, Tryz.ntmps91
  go_wp2_with (first
    | (go_at_call 88; (with_reducible refine (C1.out _ _ H_b.out).mono ?_); rintro e w9 ⟨rfl, rfl⟩
       clear C1)
    | (go_at_call 113; (with_reducible refine (C2.out _ _ _ H_a.out H_b.out N_a.out N_b.out).mono ?_); rintro e W1 ⟨u, rfl, ⟨h_u, n_u⟩, hb⟩
       have H_u := Lib.hid h_u
       have N_u := Lib.hid n_u
       have HB1 := Lib.hid hb
       clear h_u n_u hb C2)
    | (fail "no arm"))
  go_ret
  exact ⟨_, rfl, ⟨H_u.out, N_u.out⟩, HB1.out⟩
theorem upright_any (a b : Value) (z y : Int) (w : World) (ha : IsZ w a z) (hna : a ≠ .pointer none) (hb : IsZ w b y) (hnb : b ≠ .pointer none) (h0 : y ≠ 0) (hc : Nat.gcd z.natAbs y.natAbs = 1) :
    Calls Tryz.prog 91 #[a, b] w fun e w' => ∃ u, e = .returned u ∧ (IsR w' u ((z : Rat) / (y : Rat)) ∧ u ≠ .pointer none) ∧ Below w.heap.size w w' := by
  rcases Int.lt_or_gt_of_ne h0 with h | h
  · exact upright_below a b z y w ha hna hb hnb h hc
  · exact upright_above a b z y w ha hna hb hnb h hc
theorem gcd_parts {z y : Int} (h0 : y ≠ 0) : 0 < Nat.gcd z.natAbs y.natAbs := Nat.gcd_pos_of_pos_right _ (by omega)
theorem parts_cop {z y : Int} (h0 : y ≠ 0) : Nat.gcd (Int.fdiv z ((Nat.gcd z.natAbs y.natAbs : Nat) : Int)).natAbs (Int.fdiv y ((Nat.gcd z.natAbs y.natAbs : Nat) : Int)).natAbs = 1 := by
  have hg := gcd_parts (z := z) h0
  rw [fdiv_abs (by omega) (gcd_divides_l z y), fdiv_abs (by omega) (gcd_divides_r z y), Int.natAbs_natCast]
  exact Nat.coprime_div_gcd_div_gcd hg
theorem parts_ne {z y : Int} (h0 : y ≠ 0) : Int.fdiv y ((Nat.gcd z.natAbs y.natAbs : Nat) : Int) ≠ 0 := by
  have hg := gcd_parts (z := z) h0
  obtain ⟨k, hk⟩ := gcd_divides_r z y
  generalize ((Nat.gcd z.natAbs y.natAbs : Nat) : Int) = g at *
  intro h
  have hg0 : g ≠ 0 := fun e => h0 (by rw [hk, e]; simp)
  rw [hk, Int.mul_fdiv_cancel_left _ hg0] at h
  exact h0 (by rw [hk, h]; simp)
theorem parts_val {z y : Int} (h0 : y ≠ 0) : ((Int.fdiv z ((Nat.gcd z.natAbs y.natAbs : Nat) : Int) : Int) : Rat) / ((Int.fdiv y ((Nat.gcd z.natAbs y.natAbs : Nat) : Int) : Int) : Rat) = (z : Rat) / (y : Rat) := by
  have hg := gcd_parts (z := z) h0
  have hg0 : ((Nat.gcd z.natAbs y.natAbs : Nat) : Int) ≠ 0 := by omega
  rw [fdiv_exact hg0 (gcd_divides_l z y), fdiv_exact hg0 (gcd_divides_r z y)]
  have h1 := cast_nez hg0
  have h2 := cast_nez h0
  generalize (((Nat.gcd z.natAbs y.natAbs : Nat) : Int) : Rat) = g at *
  grind
set_option maxRecDepth 100000 in
set_option maxHeartbeats 4000000 in
theorem New_ok (a b : Value) (z y : Int) (w : World) (ha : IsZ w a z) (hb : IsZ w b y) (sz : Lz z 300000) (sy : Lz y 300000) (h0 : y ≠ 0) :
    Calls Tryz.prog 56 #[a, b] w fun e w' => ∃ u, e = .returned (.tuple #[u, .nilIface]) ∧ (IsR w' u ((z : Rat) / (y : Rat)) ∧ u ≠ .pointer none) ∧ Below w.heap.size w w' := by
  have H_a := Lib.hid ha
  have H_b := Lib.hid hb
  clear ha hb
  have c1 := fun (W : World) (v0 : Value) (hh0 : num.IsZ W v0 y)  => num.Sign_any v0 y W hh0
  have hsg : (sg y == 0) = false := by unfold sg cmp3; simp; (repeat' split) <;> omega
  have C1 := Lib.hid c1
  clear c1
  have c2 := fun (W : World) (v0 : Value) (v1 : Value) (hh0 : num.IsZ W v0 z) (hh1 : num.IsZ W v1 y)  => divisor_any v0 v1 z y W hh0 hh1 (sz.le (by decide)) (sy.le (by decide))
  have C2 := Lib.hid c2
  clear c2
  have c3 := fun (W : World) (v0 : Value) (v1 : Value) (hh0 : num.IsZ W v0 z) (hh1 : num.IsZ W v1 (((Nat.gcd (Int.natAbs z) (Int.natAbs y)) : Nat) : Int))  => part_any v0 v1 z (((Nat.gcd (Int.natAbs z) (Int.natAbs y)) : Nat) : Int) W hh0 hh1 (sz.le (by decide)) ((Lz_nat (Ln_gcd (Ln_abs sz) (Ln_abs sy))).le (by decide)) (by have := gcd_parts (z := z) h0; omega)
  have C3 := Lib.hid c3
  clear c3
  have c4 := fun (W : World) (v0 : Value) (v1 : Value) (hh0 : num.IsZ W v0 y) (hh1 : num.IsZ W v1 (((Nat.gcd (Int.natAbs z) (Int.natAbs y)) : Nat) : Int))  => part_any v0 v1 y (((Nat.gcd (Int.natAbs z) (Int.natAbs y)) : Nat) : Int) W hh0 hh1 (sy.le (by decide)) ((Lz_nat (Ln_gcd (Ln_abs sz) (Ln_abs sy))).le (by decide)) (by have := gcd_parts (z := z) h0; omega)
  have C4 := Lib.hid c4
  clear c4
  have c5 := fun (W : World) (v0 : Value) (v1 : Value) (hh0 : num.IsZ W v0 (Int.fdiv z (((Nat.gcd (Int.natAbs z) (Int.natAbs y)) : Nat) : Int))) (hh1 : num.IsZ W v1 (Int.fdiv y (((Nat.gcd (Int.natAbs z) (Int.natAbs y)) : Nat) : Int))) (n0 : v0 ≠ .pointer none) (n1 : v1 ≠ .pointer none) => upright_any v0 v1 (Int.fdiv z (((Nat.gcd (Int.natAbs z) (Int.natAbs y)) : Nat) : Int)) (Int.fdiv y (((Nat.gcd (Int.natAbs z) (Int.natAbs y)) : Nat) : Int)) W hh0 n0 hh1 n1 (parts_ne h0) (parts_cop h0)
  rw [parts_val h0] at c5
  have C5 := Lib.hid c5
  clear c5
  go_enter Tryz.func56, Tryz.ntmps56
  go_wp2_with (first
    | (go_at_call 88; (with_reducible refine (C1.out _ _ H_b.out).mono ?_); rintro e w9 ⟨rfl, rfl⟩
       clear C1)
    | (go_at_call 90; (with_reducible refine (C2.out _ _ _ H_a.out H_b.out).mono ?_); rintro e W1 ⟨g, rfl, ⟨h_g, n_g⟩, hb⟩
       have H_g := Lib.hid h_g
       have N_g := Lib.hid n_g
       have HB1 := Lib.hid hb
       clear h_g n_g hb C2)
    | (go_at_call 92; (with_reducible refine (C3.out _ _ _ (H_a.out.below HB1.out) H_g.out).mono ?_); rintro e W2 ⟨p, rfl, ⟨h_p, n_p⟩, hb⟩
       have H_p := Lib.hid h_p
       have N_p := Lib.hid n_p
       have HB2 := Lib.hid hb
       clear h_p n_p hb C3)
    | (go_at_call 92; (with_reducible refine (C4.out _ _ _ ((H_b.out.below HB1.out).below HB2.out) (H_g.out.below HB2.out)).mono ?_); rintro e W3 ⟨q, rfl, ⟨h_q, n_q⟩, hb⟩
       have H_q := Lib.hid h_q
       have N_q := Lib.hid n_q
       have HB3 := Lib.hid hb
       clear h_q n_q hb C4)
    | (go_at_call 91; (with_reducible refine (C5.out _ _ _ (H_p.out.below HB3.out) H_q.out N_p.out N_q.out).mono ?_); rintro e W4 ⟨u, rfl, ⟨h_u, n_u⟩, hb⟩
       have H_u := Lib.hid h_u
       have N_u := Lib.hid n_u
       have HB4 := Lib.hid hb
       clear h_u n_u hb C5)
    | (fail "no arm"))
  go_ret2
  exact ⟨_, rfl, ⟨H_u.out, N_u.out⟩, (nat.below_tr (nat.below_tr (nat.below_tr HB1.out HB2.out) HB3.out) HB4.out)⟩
set_option maxRecDepth 100000 in
set_option maxHeartbeats 4000000 in
theorem Of_ok (z y : Int) (w : World) (k1 : -9223372036854775808 ≤ z) (k2 : z < 9223372036854775808) (k3 : -9223372036854775808 ≤ y) (k4 : y < 9223372036854775808) (h0 : y ≠ 0) :
    Calls Tryz.prog 121 #[.int .i64 z, .int .i64 y] w fun e w' => ∃ u, e = .returned (.tuple #[u, .nilIface]) ∧ (IsR w' u ((z : Rat) / (y : Rat)) ∧ u ≠ .pointer none) ∧ Below w.heap.size w w' := by
  have c1 := fun (W : World)    => num.Of_any z W k1 k2
  have C1 := Lib.hid c1
  clear c1
  have c2 := fun (W : World)    => num.Of_any y W k3 k4
  have C2 := Lib.hid c2
  clear c2
  have c3 := fun (W : World) (v0 : Value) (v1 : Value) (hh0 : num.IsZ W v0 z) (hh1 : num.IsZ W v1 y)  => New_ok v0 v1 z y W hh0 hh1 ((Lz_small (by omega)).le (by decide)) ((Lz_small (by omega)).le (by decide)) h0
  have C3 := Lib.hid c3
  clear c3
  go_enter Tryz.func121, Tryz.ntmps121
  go_wp2_with (first
    | (go_at_call 89; (with_reducible refine (C1.out _ ).mono ?_); rintro e W1 ⟨a, rfl, ⟨h_a, n_a⟩, hb⟩
       have H_a := Lib.hid h_a
       have N_a := Lib.hid n_a
       have HB1 := Lib.hid hb
       clear h_a n_a hb C1)
    | (go_at_call 89; (with_reducible refine (C2.out _ ).mono ?_); rintro e W2 ⟨b, rfl, ⟨h_b, n_b⟩, hb⟩
       have H_b := Lib.hid h_b
       have N_b := Lib.hid n_b
       have HB2 := Lib.hid hb
       clear h_b n_b hb C2)
    | (go_at_call 56; (with_reducible refine (C3.out _ _ _ (H_a.out.below HB2.out) H_b.out).mono ?_); rintro e W3 ⟨u, rfl, ⟨h_u, n_u⟩, hb⟩
       have H_u := Lib.hid h_u
       have N_u := Lib.hid n_u
       have HB3 := Lib.hid hb
       clear h_u n_u hb C3)
    | (fail "no arm"))
  go_ret2
  exact ⟨_, rfl, ⟨H_u.out, N_u.out⟩, (nat.below_tr (nat.below_tr HB1.out HB2.out) HB3.out)⟩
end Go.Proofs.YtlhmfgbaefaneabGreatDoor.rat
namespace Go.Proofs.YtlhmfgbaefaneabGreatDoor.rat
open Go.RowKit Go.Proofs.YtlhmfgbaefaneabGreatDoor.nat Go.Proofs.YtlhmfgbaefaneabGreatDoor.num
def Lr (q : Rat) (n : Nat) : Prop := Lz q.num n ∧ Ln q.den n
theorem Lr.le {q : Rat} {n m : Nat} (h : Lr q n) (hm : n ≤ m) : Lr q m := ⟨h.1.le hm, h.2.le hm⟩
end Go.Proofs.YtlhmfgbaefaneabGreatDoor.rat
namespace Go.Proofs.YtlhmfgbaefaneabGreatDoor.rat
open Go.RowKit Go.Proofs.YtlhmfgbaefaneabGreatDoor.nat Go.Proofs.YtlhmfgbaefaneabGreatDoor.num
open Go.Proofs.YtlhmfgbaefaneabGreatDoor.ref (str str_size str_append)
def cmpR (p q : Rat) : Int := if p < q then -1 else if q < p then 1 else 0
theorem cmp3_den (p q : Rat) : cmp3 (p.num * (q.den : Int)) (q.num * (p.den : Int)) = cmpR p q := by
  unfold cmp3 cmpR
  simp only [Rat.lt_iff]
def rtxt (q : Rat) : List UInt8 := Lib.itoa q.num ++ (if q.den = 1 then [] else 47 :: Lib.decDigits q.den)
theorem itoa_nat (x : Nat) : Lib.itoa (x : Int) = Lib.decDigits x := by
  unfold Lib.itoa
  rw [if_neg (by omega)]
  simp
set_option maxRecDepth 100000 in
set_option maxHeartbeats 4000000 in
theorem Cmp_any (a b : Value) (p q : Rat) (w : World) (ha : IsR w a p) (hb : IsR w b q) (sp : Lr p 20000) (sq : Lr q 20000) :
    Calls Tryz.prog 46 #[a, b] w fun e w' => e = .returned (.int .i64 (cmpR p q)) ∧ Below w.heap.size w w' := by
  have H_a := Lib.hid ha
  have H_b := Lib.hid hb
  clear ha hb
  have c1 := fun (W : World) (v0 : Value) (hh0 : rat.IsR W v0 p)  => rat.Num_any v0 p W hh0
  have C1 := Lib.hid c1
  clear c1
  have c2 := fun (W : World) (v0 : Value) (hh0 : rat.IsR W v0 q)  => rat.Den_any v0 q W hh0
  have C2 := Lib.hid c2
  clear c2
  have c3 := fun (W : World) (v0 : Value) (v1 : Value) (hh0 : num.IsZ W v0 p.num) (hh1 : num.IsZ W v1 ((q.den : Nat) : Int))  => num.Mul_any v0 v1 p.num ((q.den : Nat) : Int) W hh0 hh1 (sp.1.le (by decide)) ((Lz_nat sq.2).le (by decide))
  have C3 := Lib.hid c3
  clear c3
  have c4 := fun (W : World) (v0 : Value) (hh0 : rat.IsR W v0 q)  => rat.Num_any v0 q W hh0
  have C4 := Lib.hid c4
  clear c4
  have c5 := fun (W : World) (v0 : Value) (hh0 : rat.IsR W v0 p)  => rat.Den_any v0 p W hh0
  have C5 := Lib.hid c5
  clear c5
  have c6 := fun (W : World) (v0 : Value) (v1 : Value) (hh0 : num.IsZ W v0 q.num) (hh1 : num.IsZ W v1 ((p.den : Nat) : Int))  => num.Mul_any v0 v1 q.num ((p.den : Nat) : Int) W hh0 hh1 (sq.1.le (by decide)) ((Lz_nat sp.2).le (by decide))
  have C6 := Lib.hid c6
  clear c6
  have c7 := fun (W : World) (v0 : Value) (v1 : Value) (hh0 : num.IsZ W v0 (p.num * ((q.den : Nat) : Int))) (hh1 : num.IsZ W v1 (q.num * ((p.den : Nat) : Int)))  => num.Cmp_b v0 v1 (p.num * ((q.den : Nat) : Int)) (q.num * ((p.den : Nat) : Int)) W hh0 hh1 ((Lz_mul sp.1 (Lz_nat sq.2)).le (by decide)) ((Lz_mul sq.1 (Lz_nat sp.2)).le (by decide))
  rw [cmp3_den] at c7
  have C7 := Lib.hid c7
  clear c7
  go_enter Tryz.func46, Tryz.ntmps46
  go_wp2_with (first
    | (go_at_call 84; (with_reducible refine (C1.out _ _ H_a.out).mono ?_); rintro e W1 ⟨x1, rfl, ⟨h_x1, n_x1⟩, hb⟩
       have H_x1 := Lib.hid h_x1
       have N_x1 := Lib.hid n_x1
       have HB1 := Lib.hid hb
       clear h_x1 n_x1 hb C1)
    | (go_at_call 85; (with_reducible refine (C2.out _ _ (H_b.out.below HB1.out)).mono ?_); rintro e W2 ⟨x2, rfl, ⟨h_x2, n_x2⟩, hb⟩
       have H_x2 := Lib.hid h_x2
       have N_x2 := Lib.hid n_x2
       have HB2 := Lib.hid hb
       clear h_x2 n_x2 hb C2)
    | (go_at_call 57; (with_reducible refine (C3.out _ _ _ (H_x1.out.below HB2.out) H_x2.out).mono ?_); rintro e W3 ⟨x3, rfl, ⟨h_x3, n_x3⟩, hb⟩
       have H_x3 := Lib.hid h_x3
       have N_x3 := Lib.hid n_x3
       have HB3 := Lib.hid hb
       clear h_x3 n_x3 hb C3)
    | (go_at_call 84; (with_reducible refine (C4.out _ _ (((H_b.out.below HB1.out).below HB2.out).below HB3.out)).mono ?_); rintro e W4 ⟨x4, rfl, ⟨h_x4, n_x4⟩, hb⟩
       have H_x4 := Lib.hid h_x4
       have N_x4 := Lib.hid n_x4
       have HB4 := Lib.hid hb
       clear h_x4 n_x4 hb C4)
    | (go_at_call 85; (with_reducible refine (C5.out _ _ ((((H_a.out.below HB1.out).below HB2.out).below HB3.out).below HB4.out)).mono ?_); rintro e W5 ⟨x5, rfl, ⟨h_x5, n_x5⟩, hb⟩
       have H_x5 := Lib.hid h_x5
       have N_x5 := Lib.hid n_x5
       have HB5 := Lib.hid hb
       clear h_x5 n_x5 hb C5)
    | (go_at_call 57; (with_reducible refine (C6.out _ _ _ (H_x4.out.below HB5.out) H_x5.out).mono ?_); rintro e W6 ⟨x6, rfl, ⟨h_x6, n_x6⟩, hb⟩
       have H_x6 := Lib.hid h_x6
       have N_x6 := Lib.hid n_x6
       have HB6 := Lib.hid hb
       clear h_x6 n_x6 hb C6)
    | (go_at_call 86; (with_reducible refine (C7.out _ _ _ (((H_x3.out.below HB4.out).below HB5.out).below HB6.out) H_x6.out).mono ?_); rintro e W7 ⟨rfl, hb⟩
       have HB7 := Lib.hid hb
       clear hb C7)
    | (fail "no arm"))
  go_ret
  exact ⟨rfl, (nat.below_tr (nat.below_tr (nat.below_tr (nat.below_tr (nat.below_tr (nat.below_tr HB1.out HB2.out) HB3.out) HB4.out) HB5.out) HB6.out) HB7.out)⟩
theorem itoa_size {z : Int} {m : Nat} (h : Lz z m) : (str (Lib.itoa z)).size ≤ 20 * m + 2 := by
  have := dec_size h
  rw [str_size] at this ⊢
  unfold Lib.itoa
  split
  · rw [List.length_cons]; omega
  · have e : z.toNat = z.natAbs := by omega
    rw [e]; omega
set_option maxRecDepth 100000 in
set_option maxHeartbeats 4000000 in
theorem Text_whole (a : Value) (q : Rat) (w : World) (ha : IsR w a q) (sq : Lr q 20000) (h1 : q.den = 1) :
    Calls Tryz.prog 61 #[a] w fun e w' => e = .returned (.string (str (rtxt q))) ∧ Below w.heap.size w w' := by
  have H_a := Lib.hid ha
  clear ha
  have hr : rtxt q = Lib.itoa q.num := by unfold rtxt; rw [if_pos h1, List.append_nil]
  rw [hr]
  have c1 := fun (W : World) (v0 : Value) (hh0 : rat.IsR W v0 q)  => rat.Den_any v0 q W hh0
  have C1 := Lib.hid c1
  clear c1
  have c2 := fun (W : World)    => num.Of_any 1 W (by decide) (by decide)
  have C2 := Lib.hid c2
  clear c2
  have c3 := fun (W : World) (v0 : Value) (v1 : Value) (hh0 : num.IsZ W v0 ((q.den : Nat) : Int)) (hh1 : num.IsZ W v1 (1 : Int))  => num.Cmp_b v0 v1 ((q.den : Nat) : Int) (1 : Int) W hh0 hh1 ((Lz_nat sq.2).le (by decide)) ((Lz_small (by decide)).le (by decide))
  rw [show cmp3 ((q.den : Nat) : Int) (1 : Int) = 0 by have := q.den_pos; unfold cmp3; (repeat' split) <;> omega] at c3
  have C3 := Lib.hid c3
  clear c3
  have c4 := fun (W : World) (v0 : Value) (hh0 : rat.IsR W v0 q)  => rat.Num_any v0 q W hh0
  have C4 := Lib.hid c4
  clear c4
  have c5 := fun (W : World) (v0 : Value) (hh0 : num.IsZ W v0 q.num)  => num.Text_any v0 q.num W hh0 (sq.1.le (by decide))
  have C5 := Lib.hid c5
  clear c5
  go_enter Tryz.func61, Tryz.ntmps61
  go_wp2_with (first
    | (go_at_call 85; (with_reducible refine (C1.out _ _ H_a.out).mono ?_); rintro e W1 ⟨d, rfl, ⟨h_d, n_d⟩, hb⟩
       have H_d := Lib.hid h_d
       have N_d := Lib.hid n_d
       have HB1 := Lib.hid hb
       clear h_d n_d hb C1)
    | (go_at_call 89; (with_reducible refine (C2.out _ ).mono ?_); rintro e W2 ⟨o, rfl, ⟨h_o, n_o⟩, hb⟩
       have H_o := Lib.hid h_o
       have N_o := Lib.hid n_o
       have HB2 := Lib.hid hb
       clear h_o n_o hb C2)
    | (go_at_call 86; (with_reducible refine (C3.out _ _ _ (H_d.out.below HB2.out) H_o.out).mono ?_); rintro e W3 ⟨rfl, hb⟩
       have HB3 := Lib.hid hb
       clear hb C3)
    | (go_at_call 84; (with_reducible refine (C4.out _ _ (((H_a.out.below HB1.out).below HB2.out).below HB3.out)).mono ?_); rintro e W4 ⟨n, rfl, ⟨h_n, n_n⟩, hb⟩
       have H_n := Lib.hid h_n
       have N_n := Lib.hid n_n
       have HB4 := Lib.hid hb
       clear h_n n_n hb C4)
    | (go_at_call 98; (with_reducible refine (C5.out _ _ H_n.out).mono ?_); rintro e W5 ⟨rfl, hb⟩
       have HB5 := Lib.hid hb
       clear hb C5)
    | (fail "no arm"))
  go_ret
  exact ⟨rfl, (nat.below_tr (nat.below_tr (nat.below_tr (nat.below_tr HB1.out HB2.out) HB3.out) HB4.out) HB5.out)⟩
set_option maxRecDepth 100000 in
set_option maxHeartbeats 4000000 in
theorem Text_parts (a : Value) (q : Rat) (w : World) (ha : IsR w a q) (sq : Lr q 20000) (h1 : ¬ q.den = 1) :
    Calls Tryz.prog 61 #[a] w fun e w' => e = .returned (.string (str (rtxt q))) ∧ Below w.heap.size w w' := by
  have H_a := Lib.hid ha
  clear ha
  have hr : str (rtxt q) = str (Lib.itoa q.num) ++ str [47] ++ str (Lib.decDigits q.den) := by unfold rtxt; rw [if_neg h1, str_append, str_append, List.append_assoc]; rfl
  rw [hr]
  have z1 := itoa_size sq.1
  have z2 := itoa_size (Lz_nat sq.2)
  rw [itoa_nat] at z2
  have c1 := fun (W : World) (v0 : Value) (hh0 : rat.IsR W v0 q)  => rat.Den_any v0 q W hh0
  have C1 := Lib.hid c1
  clear c1
  have c2 := fun (W : World)    => num.Of_any 1 W (by decide) (by decide)
  have C2 := Lib.hid c2
  clear c2
  have c3 := fun (W : World) (v0 : Value) (v1 : Value) (hh0 : num.IsZ W v0 ((q.den : Nat) : Int)) (hh1 : num.IsZ W v1 (1 : Int))  => num.Cmp_b v0 v1 ((q.den : Nat) : Int) (1 : Int) W hh0 hh1 ((Lz_nat sq.2).le (by decide)) ((Lz_small (by decide)).le (by decide))
  rw [show cmp3 ((q.den : Nat) : Int) (1 : Int) = 1 by have := q.den_pos; unfold cmp3; (repeat' split) <;> omega] at c3
  have C3 := Lib.hid c3
  clear c3
  have c4 := fun (W : World) (v0 : Value) (hh0 : rat.IsR W v0 q)  => rat.Num_any v0 q W hh0
  have C4 := Lib.hid c4
  clear c4
  have c5 := fun (W : World) (v0 : Value) (hh0 : num.IsZ W v0 q.num)  => num.Text_any v0 q.num W hh0 (sq.1.le (by decide))
  have C5 := Lib.hid c5
  clear c5
  have c6 := fun (W : World) (v0 : Value) (hh0 : rat.IsR W v0 q)  => rat.Den_any v0 q W hh0
  have C6 := Lib.hid c6
  clear c6
  have c7 := fun (W : World) (v0 : Value) (hh0 : num.IsZ W v0 ((q.den : Nat) : Int))  => num.Text_any v0 ((q.den : Nat) : Int) W hh0 ((Lz_nat sq.2).le (by decide))
  rw [itoa_nat] at c7
  have C7 := Lib.hid c7
  clear c7
  generalize str (Lib.itoa q.num) = s1 at *
  generalize str (Lib.decDigits q.den) = s2 at *
  have h47 : ({ data := #[47] } : ByteArray) = str [47] := rfl
  have hk : (str [47]).size = 1 := rfl
  have hs1 : ¬ 9223372036854775807 < s1.size + ({ data := #[47] } : ByteArray).size := by rw [h47]; omega
  have hs2 : ¬ 9223372036854775807 < (s1 ++ ({ data := #[47] } : ByteArray)).size + s2.size := by rw [h47, ByteArray.size_append]; omega
  go_enter Tryz.func61, Tryz.ntmps61
  go_wp2_with (first
    | (go_at_call 85; (with_reducible refine (C1.out _ _ H_a.out).mono ?_); rintro e W1 ⟨d, rfl, ⟨h_d, n_d⟩, hb⟩
       have H_d := Lib.hid h_d
       have N_d := Lib.hid n_d
       have HB1 := Lib.hid hb
       clear h_d n_d hb C1)
    | (go_at_call 89; (with_reducible refine (C2.out _ ).mono ?_); rintro e W2 ⟨o, rfl, ⟨h_o, n_o⟩, hb⟩
       have H_o := Lib.hid h_o
       have N_o := Lib.hid n_o
       have HB2 := Lib.hid hb
       clear h_o n_o hb C2)
    | (go_at_call 86; (with_reducible refine (C3.out _ _ _ (H_d.out.below HB2.out) H_o.out).mono ?_); rintro e W3 ⟨rfl, hb⟩
       have HB3 := Lib.hid hb
       clear hb C3)
    | (go_at_call 84; (with_reducible refine (C4.out _ _ (((H_a.out.below HB1.out).below HB2.out).below HB3.out)).mono ?_); rintro e W4 ⟨n, rfl, ⟨h_n, n_n⟩, hb⟩
       have H_n := Lib.hid h_n
       have N_n := Lib.hid n_n
       have HB4 := Lib.hid hb
       clear h_n n_n hb C4)
    | (go_at_call 98; (with_reducible refine (C5.out _ _ H_n.out).mono ?_); rintro e W5 ⟨rfl, hb⟩
       have HB5 := Lib.hid hb
       clear hb C5)
    | (go_at_call 85; (with_reducible refine (C6.out _ _ (((((H_a.out.below HB1.out).below HB2.out).below HB3.out).below HB4.out).below HB5.out)).mono ?_); rintro e W6 ⟨d2, rfl, ⟨h_d2, n_d2⟩, hb⟩
       have H_d2 := Lib.hid h_d2
       have N_d2 := Lib.hid n_d2
       have HB6 := Lib.hid hb
       clear h_d2 n_d2 hb C6)
    | (go_at_call 98; (with_reducible refine (C7.out _ _ H_d2.out).mono ?_); rintro e W7 ⟨rfl, hb⟩
       have HB7 := Lib.hid hb
       clear hb C7)
    | (fail "no arm"))
  go_ret
  exact ⟨rfl, (nat.below_tr (nat.below_tr (nat.below_tr (nat.below_tr (nat.below_tr (nat.below_tr HB1.out HB2.out) HB3.out) HB4.out) HB5.out) HB6.out) HB7.out)⟩
theorem Text_any (a : Value) (q : Rat) (w : World) (ha : IsR w a q) (sq : Lr q 20000) :
    Calls Tryz.prog 61 #[a] w fun e w' => e = .returned (.string (str (rtxt q))) ∧ Below w.heap.size w w' := by
  by_cases h : q.den = 1
  · exact Text_whole a q w ha sq h
  · exact Text_parts a q w ha sq h
end Go.Proofs.YtlhmfgbaefaneabGreatDoor.rat
