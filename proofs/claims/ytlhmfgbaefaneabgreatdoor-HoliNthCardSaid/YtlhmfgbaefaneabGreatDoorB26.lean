/-
  The steps of the walks, part 26: Meth2, Int, IntA, Digits, Scale.
-/
import Derived.Test.YtlhmfgbaefaneabGreatDoorB25
import Derived.Test.YtlhmfgbaefaneabGreatDoorB15
import Derived.Test.YtlhmfgbaefaneabGreatDoorB04
namespace Go.Proofs.YtlhmfgbaefaneabGreatDoor.nat
open Go.RowKit
theorem digs_gcd_len {X Y n : Nat} (hx : (digs X).length ≤ n) (hy : (digs Y).length ≤ n) : (digs (Nat.gcd X Y)).length ≤ n := by
  rcases Nat.eq_zero_or_pos X with rfl | h
  · rw [Nat.gcd_zero_left]; exact hy
  · exact digs_le_len (Nat.le_of_dvd h (Nat.gcd_dvd_left _ _)) hx
set_option maxRecDepth 100000 in
theorem Len_zero (w : World) : Calls Tryz.prog 204 #[.int .u64 0] w fun e w' => e = .returned (.int .i64 0) ∧ w = w' := by
  go_enter Tryz.func204, Tryz.ntmps204
  go_wp2_with (go_at_call 233; refine (Len64_any 0 _ (by omega) (by omega)).mono ?_; rintro e w' ⟨rfl, rfl⟩)
  go_ret
  exact ⟨rfl, rfl⟩
set_option maxRecDepth 100000 in
set_option maxHeartbeats 1000000 in
theorem power_neg (sx : Value) (k : Int) (w : World) (hk : k ≤ 0) (hx : ∃ ao n cap, sx = .slice ao n cap) :
    Calls Tryz.prog 165 #[sx, .int .i64 k] w fun e w' => ∃ sv, e = .returned sv ∧ Own w' w.heap.size sv (digs 1) ∧ Below w.heap.size w w' := by
  obtain ⟨ao, n, cap, rfl⟩ := hx
  have hmax : max k 0 = 0 := by omega
  have HO1 := Lib.hid (show Own (w.alloc (.cells #[Value.int .u64 1] 80)) w.heap.size (.slice (some ⟨w.heap.size, 0, none⟩) 1 1) (digs 1) from by
    have := word_own (w := w) (d := 1) (B := w.heap.size) (Nat.le_refl _)
    have e : digs 1 = [1] := by rw [digs_pos (by omega), show 1 % 18446744073709551616 = 1 by omega, show 1 / 18446744073709551616 = 0 by omega, digs_zero]
    rw [e]
    exact this)
  have HB1 := Lib.hid ((Below.refl w.heap.size w).alloc (Nat.le_refl _) (.cells #[Value.int .u64 1] 80))
  go_enter Tryz.func165, Tryz.ntmps165
  go_wp2_with (go_at_call 204; refine (Len_zero _).mono ?_; rintro e w1 ⟨rfl, rfl⟩)
  go_loopw [5, 6] (fun zv pv wr => pv = .int .i64 (-1) ∧ zv = .slice (some ⟨w.heap.size, 0, none⟩) 1 1 ∧ w.alloc (.cells #[Value.int .u64 1] 80) = wr) (fun _ _ _ => 0)
  case atStart => exact ⟨rfl, rfl, rfl⟩
  case round =>
    obtain ⟨rfl, rfl, rfl⟩ := hrel
    go_wp2
    go_ret
    exact ⟨_, rfl, HO1.out, HB1.out⟩
theorem root_len {X k r n : Nat} (h : RootIs X k r) (hx : (digs X).length ≤ n) (hk : 1 ≤ k) : (digs r).length ≤ n := by
  rcases Nat.eq_zero_or_pos r with rfl | h0
  · rw [digs_zero]; simp
  · refine digs_le_len (Nat.le_trans ?_ h.1) hx
    have := Nat.pow_le_pow_right h0 hk
    rwa [Nat.pow_one] at this
theorem power_int (sx : Value) (x : List Nat) (k : Int) (w : World) (hx : Rd w sx x) (hnx : Norm x) (hs : x.length ≤ 900000) (hk : k < 9223372036854775808) (hb : (digs (val x ^ k.toNat)).length ≤ 900000) :
    Calls Tryz.prog 165 #[sx, .int .i64 k] w fun e w' => ∃ sv, e = .returned sv ∧ Own w' w.heap.size sv (digs (val x ^ k.toNat)) ∧ Below w.heap.size w w' := by
  rcases Int.le_total k 0 with h | h
  · rw [show k.toNat = 0 by omega, Nat.pow_zero]
    obtain ⟨ao, cap, rfl, -⟩ := hx
    exact power_neg _ k w h ⟨_, _, _, rfl⟩
  · obtain ⟨K, rfl⟩ := Int.eq_ofNat_of_zero_le h
    rw [Int.toNat_natCast] at hb ⊢
    exact power_pos sx x K w hx hnx hs (by omega) hb
set_option maxRecDepth 100000 in
theorem Gcd_any (a b : Value) (X Y : Nat) (w : World) (ha : IsN w a X) (hb : IsN w b Y) (hx : (digs X).length ≤ 900000) (hy : (digs Y).length ≤ 900000) :
    Calls Tryz.prog 112 #[a, b] w fun e w' => ∃ v, e = .returned v ∧ (IsN w' v (Nat.gcd X Y) ∧ v ≠ .pointer none) ∧ Below w.heap.size w w' := by
  have L1 := Lib.hid (list_any a X w ha)
  have L2 := Lib.hid (list_any b Y w hb)
  clear ha hb
  go_enter Tryz.func112, Tryz.ntmps112
  go_wp2_with (first
    | (go_at_call 118; refine (L1.out).mono ?_; rintro e w1 ⟨sa, rfl, ha, rfl⟩; have HA := Lib.hid ha; clear L1 ha)
    | (go_at_call 118; refine (L2.out).mono ?_; rintro e w1 ⟨sb, rfl, hb, rfl⟩
       have C := Lib.hid (divisor_any sa sb _ _ w HA.out hb (norm_digs X) (norm_digs Y) (by omega) (by omega))
       rw [val_digs, val_digs] at C
       clear L2 hb)
    | (go_at_call 142; refine (C.out).mono ?_; rintro e w2 ⟨sv, rfl, ho, hb2⟩
       have O := Lib.hid (own_any sv _ w2 ho.rd (norm_digs _).1 (by have := digs_gcd_len hx hy; omega))
       rw [val_digs] at O
       have HB2 := Lib.hid hb2
       clear C ho hb2)
    | (go_at_call 116; refine (O.out).mono ?_; rintro e w3 ⟨v, rfl, hi, hb3⟩; have HI := Lib.hid hi; have HB3 := Lib.hid (HB2.out.trans (hb3.mono HB2.out.size)); clear O hi hb3))
  go_ret
  exact ⟨v, rfl, HI.out, HB3.out⟩
set_option maxRecDepth 100000 in
theorem Pow_any (a : Value) (X : Nat) (k : Int) (w : World) (ha : IsN w a X) (hx : (digs X).length ≤ 900000) (hk : k < 9223372036854775808) (hb : (digs (X ^ k.toNat)).length ≤ 900000) :
    Calls Tryz.prog 128 #[a, .int .i64 k] w fun e w' => ∃ v, e = .returned v ∧ (IsN w' v (X ^ k.toNat) ∧ v ≠ .pointer none) ∧ Below w.heap.size w w' := by
  have L1 := Lib.hid (list_any a X w ha)
  clear ha
  go_enter Tryz.func128, Tryz.ntmps128
  go_wp2_with (first
    | (go_at_call 118; refine (L1.out).mono ?_; rintro e w1 ⟨sa, rfl, ha, rfl⟩
       have C := Lib.hid (power_int sa (digs X) k w ha (norm_digs X) hx hk (by rw [val_digs]; exact hb))
       clear L1 ha)
    | (go_at_call 165; refine (C.out).mono ?_; rintro e w2 ⟨sv, rfl, ho, hb2⟩
       have O := Lib.hid (own_any sv _ w2 ho.rd (norm_digs _).1 (by rw [val_digs]; omega))
       rw [val_digs, val_digs] at O
       have HB2 := Lib.hid hb2
       clear C ho hb2)
    | (go_at_call 116; refine (O.out).mono ?_; rintro e w3 ⟨v, rfl, hi, hb3⟩; have HI := Lib.hid hi; have HB3 := Lib.hid (HB2.out.trans (hb3.mono HB2.out.size)); clear O hi hb3))
  go_ret
  exact ⟨v, rfl, HI.out, HB3.out⟩
set_option maxRecDepth 100000 in
theorem Root_high (a : Value) (X : Nat) (k : Int) (w : World) (ha : IsN w a X) (hx : (digs X).length ≤ 100000) (hk : 2 ≤ k) (hkb : k < 9223372036854775808) :
    Calls Tryz.prog 129 #[a, .int .i64 k] w fun e w' => ∃ v, e = .returned v ∧ (∃ r, RootIs X k.toNat r ∧ IsN w' v r ∧ v ≠ .pointer none) ∧ Below w.heap.size w w' := by
  have L1 := Lib.hid (list_any a X w ha)
  clear ha
  obtain ⟨K, rfl⟩ := Int.eq_ofNat_of_zero_le (show 0 ≤ k by omega)
  have hk1 : ¬ (K : Int) ≤ 1 := by omega
  go_enter Tryz.func129, Tryz.ntmps129
  go_wp2_with (first
    | (go_at_call 118; refine (L1.out).mono ?_; rintro e w1 ⟨sa, rfl, ha, rfl⟩
       have C := Lib.hid (root_any X sa (digs X) K w (val_digs X) ha (norm_digs X) hx (by omega) (by omega))
       clear L1 ha)
    | (go_at_call 167; refine (C.out).mono ?_; rintro e w2 ⟨sv, r, rfl, ⟨hr, ho⟩, hb2⟩
       have HR := Lib.hid hr
       clear hr
       have O := Lib.hid (own_any sv _ w2 ho.rd (norm_digs _).1 (by have := root_len HR.out hx (by omega); omega))
       rw [val_digs] at O
       have HB2 := Lib.hid hb2
       clear C ho hb2)
    | (go_at_call 116; refine (O.out).mono ?_; rintro e w3 ⟨v, rfl, hi, hb3⟩; have HI := Lib.hid hi; have HB3 := Lib.hid (HB2.out.trans (hb3.mono HB2.out.size)); clear O hi hb3))
  go_ret
  exact ⟨v, rfl, ⟨r, by rw [Int.toNat_natCast]; exact HR.out, HI.out.1, HI.out.2⟩, HB3.out⟩
set_option maxRecDepth 100000 in
theorem Small_any (a : Value) (X : Nat) (w : World) (ha : IsN w a X) :
    Calls Tryz.prog 194 #[a] w fun e w' => e = .returned (.tuple #[.int .u64 ((if X < 18446744073709551616 then X else 0 : Nat) : Int), .bool (decide (X < 18446744073709551616))]) ∧ w = w' := by
  have L1 := Lib.hid (list_any a X w ha)
  clear ha
  rcases (show (digs X).length = 0 ∨ (digs X).length = 1 ∨ 2 ≤ (digs X).length by omega) with h | h | h
  · have hX : X = 0 := by rw [← val_digs X, List.eq_nil_of_length_eq_zero h]; rfl
    subst hX
    have HH := Lib.hid h
    clear h
    go_enter Tryz.func194, Tryz.ntmps194
    go_wp2_with (go_at_call 118; refine (L1.out).mono ?_; rintro e w1 ⟨sa, rfl, ha, rfl⟩; obtain ⟨ao, cap, rfl, -⟩ := id ha; rw [HH.out]; clear L1 ha)
    go_ret2
    exact ⟨by simp, rfl⟩
  · obtain ⟨d1, d2, d3⟩ := digs_one h
    have HH := Lib.hid h
    have H1 := Lib.hid d1
    have hif : (if X < 18446744073709551616 then X else 0) = X := if_pos d2
    rw [hif, decide_eq_true d2]
    clear h d1 hif
    go_enter Tryz.func194, Tryz.ntmps194
    go_wp2_with (go_at_call 118; refine (L1.out).mono ?_; rintro e w1 ⟨sa, rfl, ha, rfl⟩
                 rw [H1.out] at ha
                 obtain ⟨ao, cap, rfl, -⟩ := id ha
                 obtain ⟨g, off, rfl, -⟩ := lenpos ha (by simp)
                 have c0 := ha.cellAt 0 (by simp)
                 simp only [Nat.add_zero, dg, List.getD_cons_zero] at c0
                 simp only [List.length_cons, List.length_nil, Nat.zero_add]
                 clear L1 ha)
    go_ret2
    exact ⟨rfl, rfl⟩
  · have hX : ¬ X < 18446744073709551616 := by
      intro hlt
      have := digs_small hlt
      omega
    rw [if_neg hX, decide_eq_false hX]
    have h0 : (((digs X).length : Int) == 0) = false := by simp only [beq_eq_false_iff_ne, ne_eq]; omega
    have h1 : (((digs X).length : Int) == 1) = false := by simp only [beq_eq_false_iff_ne, ne_eq]; omega
    obtain ⟨n, hn⟩ : ∃ n, n = (digs X).length := ⟨_, rfl⟩
    rw [← hn] at h0 h1
    have HN := Lib.hid hn
    clear h hX hn
    go_enter Tryz.func194, Tryz.ntmps194
    go_wp2_with (go_at_call 118; refine (L1.out).mono ?_; rintro e w1 ⟨sa, rfl, ha, rfl⟩; obtain ⟨ao, cap, rfl, -⟩ := id ha; rw [← HN.out]; clear L1 ha)
    go_ret2
    exact ⟨rfl, rfl⟩
set_option maxRecDepth 100000 in
theorem Sub_ok (a b : Value) (X Y : Nat) (w : World) (ha : IsN w a X) (hb : IsN w b Y) (hle : Y ≤ X) (hx : (digs X).length ≤ 900000) :
    Calls Tryz.prog 143 #[a, b] w fun e w' => ∃ v, e = .returned (.tuple #[v, .nilIface]) ∧ (IsN w' v (X - Y) ∧ v ≠ .pointer none) ∧ Below w.heap.size w w' := by
  have hy : (digs Y).length ≤ 900000 := digs_le_len hle hx
  have CM := Lib.hid (Cmp_any a b X Y w ha hb (by omega) (by omega))
  obtain ⟨c, hc⟩ : ∃ c, c = cmp3 (X : Nat) (Y : Nat) := ⟨_, rfl⟩
  have hc0 : ¬ c < 0 := by
    rw [hc]
    unfold cmp3
    rw [if_neg (by omega)]
    split <;> omega
  rw [← hc] at CM
  have L1 := Lib.hid (fun m => list_any a X (w.drewN m) (ha.below (drew_below w m)))
  have L2 := Lib.hid (fun m => list_any b Y (w.drewN m) (hb.below (drew_below w m)))
  clear ha hb hc
  go_enter Tryz.func143, Tryz.ntmps143
  go_wp2_with (first
    | (go_at_call 108; refine (CM.out).mono ?_; rintro e w1 ⟨rfl, m, rfl⟩; clear CM)
    | (go_at_call 118; refine (L1.out _).mono ?_; rintro e w1 ⟨sa, rfl, ha, rfl⟩; have HA := Lib.hid ha; clear L1 ha)
    | (go_at_call 118; refine (L2.out _).mono ?_; rintro e w1 ⟨sb, rfl, hb, rfl⟩
       have C := Lib.hid (difference_any sa sb _ _ _ HA.out hb (norm_digs X).1 (norm_digs Y) (by rw [val_digs, val_digs]; exact hle) (by omega))
       rw [val_digs, val_digs] at C
       clear L2 hb)
    | (go_at_call 183; refine (C.out).mono ?_; rintro e w2 ⟨sv, rfl, ho, hb2⟩
       have O := Lib.hid (own_any sv _ w2 ho.rd (norm_digs _).1 (by have := digs_le_len (Nat.sub_le X Y) hx; omega))
       rw [val_digs] at O
       have HB2 := Lib.hid ((drew_below w m).trans hb2)
       clear C ho hb2)
    | (go_at_call 116; refine (O.out).mono ?_; rintro e w3 ⟨v, rfl, hi, hb3⟩; have HI := Lib.hid hi; have HB3 := Lib.hid (HB2.out.trans (hb3.mono HB2.out.size)); clear O hi hb3))
  go_ret2
  exact ⟨_, rfl, HI.out, HB3.out⟩
end Go.Proofs.YtlhmfgbaefaneabGreatDoor.nat
namespace Go.Proofs.YtlhmfgbaefaneabGreatDoor.num
open Go.RowKit Go.Proofs.YtlhmfgbaefaneabGreatDoor.nat
def sgn (neg : Bool) (X : Nat) : Int := if neg then -(X : Int) else X
theorem sgn_neg (z : Int) : sgn (!decide (z < 0)) z.natAbs = -z := by
  unfold sgn
  split <;> simp_all <;> omega
def IsZ (w : World) (v : Value) (z : Int) : Prop :=
  (v = .pointer none ∧ z = 0) ∨ ∃ b o neg sv X, v = .pointer (some ⟨b, o, none⟩) ∧ w.cell? ⟨b, o, none⟩ = some (.bool neg) ∧ w.cell? ⟨b, o + 1, none⟩ = some sv ∧ Rd w sv (digs X) ∧ z = sgn neg X ∧ (neg = true → 0 < X)
theorem IsZ.below {w w' : World} {v : Value} {z : Int} (h : IsZ w v z) (hb : Below w.heap.size w w') : IsZ w' v z := by
  rcases h with h | ⟨b, o, neg, sv, X, h1, h2, h3, h4, h5⟩
  · exact Or.inl h
  · exact Or.inr ⟨b, o, neg, sv, X, h1, (hb.cell (p := ⟨b, o, none⟩) (cell_lt h2)).trans h2, (hb.cell (p := ⟨b, o + 1, none⟩) (cell_lt h3)).trans h3, h4.below hb, h5⟩
theorem IsZ.inj {w : World} {v : Value} {z y : Int} (h : IsZ w v z) (h' : IsZ w v y) : z = y := by
  rcases h with ⟨rfl, rfl⟩ | ⟨b, o, neg, sv, X, rfl, h2, h3, h4, rfl, -⟩
  · rcases h' with ⟨_, rfl⟩ | ⟨b', o', neg', sv', X', he, _⟩
    · rfl
    · simp at he
  · rcases h' with ⟨he, _⟩ | ⟨b', o', neg', sv', X', he, k2, k3, k4, rfl, -⟩
    · simp at he
    · simp only [Value.pointer.injEq, Option.some.injEq, Addr.mk.injEq, and_true] at he
      obtain ⟨rfl, rfl⟩ := he
      rw [h2] at k2
      rw [h3] at k3
      simp only [Option.some.injEq, Value.bool.injEq] at k2 k3
      subst k2 k3
      rw [← val_digs X, ← val_digs X', h4.inj k4]
set_option maxRecDepth 100000 in
theorem isBelow_any (v : Value) (z : Int) (w : World) (h : IsZ w v z) :
    Calls Tryz.prog 94 #[v] w fun e w' => e = .returned (.bool (decide (z < 0))) ∧ w = w' := by
  rcases h with ⟨rfl, rfl⟩ | ⟨b, o, neg, sv, X, rfl, h2, h3, h4, h5, h6⟩
  · go_enter Tryz.func94, Tryz.ntmps94
    go_wp2
    go_ret
    exact ⟨rfl, rfl⟩
  · have hd : decide (z < 0) = neg := by
      subst h5
      unfold sgn
      cases neg
      · simp
      · have := h6 rfl
        simp
        omega
    rw [hd]
    clear h3 h4 h5 h6 hd
    go_enter Tryz.func94, Tryz.ntmps94
    go_wp2
    go_ret
    exact ⟨rfl, rfl⟩
set_option maxRecDepth 100000 in
theorem amount_any (v : Value) (z : Int) (w : World) (h : IsZ w v z) :
    Calls Tryz.prog 95 #[v] w fun e w' => ∃ v', e = .returned v' ∧ IsN w v' z.natAbs ∧ w = w' := by
  rcases h with ⟨rfl, rfl⟩ | ⟨b, o, neg, sv, X, rfl, h2, h3, h4, h5, h6⟩
  · go_enter Tryz.func95, Tryz.ntmps95
    go_wp2
    go_ret
    exact ⟨_, rfl, Or.inl ⟨rfl, rfl⟩, rfl⟩
  · have hN := Lib.hid (show IsN w (.pointer (some ⟨b, o + 1, none⟩)) z.natAbs from by
      have : z.natAbs = X := by subst h5; unfold sgn; split <;> omega
      rw [this]
      exact Or.inr ⟨b, o + 1, sv, rfl, h3, h4⟩)
    clear h3 h4 h5 h6
    go_enter Tryz.func95, Tryz.ntmps95
    go_wp2
    go_ret
    exact ⟨_, rfl, hN.out, rfl⟩
set_option maxRecDepth 100000 in
theorem New_at (neg : Bool) (nv : Value) (X : Nat) (w : World) (h : IsN w nv X) :
    Calls Tryz.prog 93 #[.bool neg, nv] w fun e w' => e = .returned (.pointer (some ⟨w.heap.size, 0, none⟩)) ∧ IsZ w' (.pointer (some ⟨w.heap.size, 0, none⟩)) (sgn neg X) ∧ Below w.heap.size w w' := by
  have Z := Lib.hid (Zero_any nv X w h)
  by_cases h0 : X = 0
  · subst h0
    rw [decide_eq_true rfl] at Z
    have hs : sgn neg 0 = 0 := by unfold sgn; split <;> rfl
    rw [hs]
    have hb : Below w.heap.size w (w.alloc (.cells #[.bool false, .slice none 0 0] 118)) := (Below.refl _ _).alloc (Nat.le_refl _) _
    have hz := Lib.hid (show IsZ (w.alloc (.cells #[.bool false, .slice none 0 0] 118)) (.pointer (some ⟨w.heap.size, 0, none⟩)) 0 from Or.inr ⟨_, 0, false, .slice none 0 0, 0, rfl, cell_of_row _ w.heap.size 0 #[.bool false, .slice none 0 0] _ (0, 0) (heap_alloc_new w _), cell_of_row _ w.heap.size 1 #[.bool false, .slice none 0 0] _ (0, 0) (heap_alloc_new w _), by rw [digs_zero]; exact Rd.nil _, rfl, fun h => by cases h⟩)
    have HB := Lib.hid hb
    clear h hb
    go_enter Tryz.func93, Tryz.ntmps93
    go_wp2_with (go_at_call 109; refine (Z.out).mono ?_; rintro e w1 ⟨rfl, rfl⟩; clear Z)
    go_ret
    exact ⟨rfl, hz.out, HB.out⟩
  · rw [decide_eq_false h0] at Z
    rcases h with ⟨rfl, rfl⟩ | ⟨b, o, sv, rfl, h2, h3⟩
    · exact absurd rfl h0
    · have hb : Below w.heap.size w (w.alloc (.cells #[.bool neg, sv] 118)) := (Below.refl _ _).alloc (Nat.le_refl _) _
      have hz := Lib.hid (show IsZ (w.alloc (.cells #[.bool neg, sv] 118)) (.pointer (some ⟨w.heap.size, 0, none⟩)) (sgn neg X) from Or.inr ⟨_, 0, neg, sv, X, rfl, cell_of_row _ w.heap.size 0 #[.bool neg, sv] _ (0, 0) (heap_alloc_new w _), cell_of_row _ w.heap.size 1 #[.bool neg, sv] _ (0, 0) (heap_alloc_new w _), h3.below hb, rfl, fun _ => by omega⟩)
      have HB := Lib.hid hb
      obtain ⟨ao, cap, rfl, -⟩ := id h3
      clear h3 hb
      go_enter Tryz.func93, Tryz.ntmps93
      go_wp2_with (go_at_call 109; refine (Z.out).mono ?_; rintro e w1 ⟨rfl, rfl⟩; clear Z)
      go_ret
      exact ⟨rfl, hz.out, HB.out⟩
theorem New_any (neg : Bool) (nv : Value) (X : Nat) (w : World) (h : IsN w nv X) :
    Calls Tryz.prog 93 #[.bool neg, nv] w fun e w' => ∃ v, e = .returned v ∧ (IsZ w' v (sgn neg X) ∧ v ≠ .pointer none) ∧ Below w.heap.size w w' := by
  refine (New_at neg nv X w h).mono ?_
  rintro e w' ⟨rfl, hz, hb⟩
  exact ⟨_, rfl, ⟨hz, by simp⟩, hb⟩
end Go.Proofs.YtlhmfgbaefaneabGreatDoor.num
namespace Go.Proofs.YtlhmfgbaefaneabGreatDoor.num
open Go.RowKit Go.Proofs.YtlhmfgbaefaneabGreatDoor.nat
set_option maxRecDepth 100000 in
theorem Neg_any (v : Value) (z : Int) (w : World) (h : IsZ w v z) :
    Calls Tryz.prog 114 #[v] w fun e w' => ∃ u, e = .returned u ∧ (IsZ w' u (-z) ∧ u ≠ .pointer none) ∧ Below w.heap.size w w' := by
  have B := Lib.hid (isBelow_any v z w h)
  have A := Lib.hid (amount_any v z w h)
  have N := Lib.hid (fun nv hn => New_any (!decide (z < 0)) nv z.natAbs w hn)
  rw [sgn_neg] at N
  clear h
  generalize decide (z < 0) = b at *
  go_enter Tryz.func114, Tryz.ntmps114
  go_wp2_with (first
    | (go_at_call 94; with_reducible refine (B.out).mono ?_; rintro e w1 ⟨rfl, rfl⟩; clear B)
    | (go_at_call 95; with_reducible refine (A.out).mono ?_; rintro e w1 ⟨nv, rfl, hn, rfl⟩; have HN := Lib.hid hn; clear A hn)
    | (go_at_call 93; refine (N.out _ HN.out).mono ?_; rintro e w2 ⟨u, rfl, hu, hb⟩; have HU := Lib.hid hu; have HB := Lib.hid hb; clear N hu hb))
  go_ret
  exact ⟨_, rfl, HU.out, HB.out⟩
def sg (z : Int) : Int := cmp3 z 0
set_option maxRecDepth 100000 in
theorem Sign_any (v : Value) (z : Int) (w : World) (h : IsZ w v z) :
    Calls Tryz.prog 88 #[v] w fun e w' => e = .returned (.int .i64 (sg z)) ∧ w = w' := by
  have B := isBelow_any v z w h
  have A := Lib.hid (amount_any v z w h)
  have N := fun nv hn => Zero_any nv z.natAbs w hn
  clear h
  unfold sg cmp3
  rcases (show z < 0 ∨ z = 0 ∨ 0 < z by omega) with h | h | h
  · rw [if_pos h]
    rw [decide_eq_true h] at B
    clear A N
    have B := Lib.hid B
    go_enter Tryz.func88, Tryz.ntmps88
    go_wp2_with (go_at_call 94; with_reducible refine (B.out).mono ?_; rintro e w1 ⟨rfl, rfl⟩; clear B)
    go_ret
    exact ⟨rfl, rfl⟩
  · rw [if_neg (by omega), if_neg (by omega)]
    rw [decide_eq_false (by omega)] at B
    rw [decide_eq_true (by omega : z.natAbs = 0)] at N
    have B := Lib.hid B
    have N := Lib.hid N
    go_enter Tryz.func88, Tryz.ntmps88
    go_wp2_with (first
      | (go_at_call 94; with_reducible refine (B.out).mono ?_; rintro e w1 ⟨rfl, rfl⟩; clear B)
      | (go_at_call 95; with_reducible refine (A.out).mono ?_; rintro e w1 ⟨nv, rfl, hn, rfl⟩; have HN := Lib.hid hn; clear A hn)
      | (go_at_call 109; with_reducible refine (N.out _ HN.out).mono ?_; rintro e w1 ⟨rfl, rfl⟩; clear N))
    go_ret
    exact ⟨rfl, rfl⟩
  · rw [if_neg (by omega), if_pos h]
    rw [decide_eq_false (by omega)] at B
    rw [decide_eq_false (by omega : ¬ z.natAbs = 0)] at N
    have B := Lib.hid B
    have N := Lib.hid N
    go_enter Tryz.func88, Tryz.ntmps88
    go_wp2_with (first
      | (go_at_call 94; with_reducible refine (B.out).mono ?_; rintro e w1 ⟨rfl, rfl⟩; clear B)
      | (go_at_call 95; with_reducible refine (A.out).mono ?_; rintro e w1 ⟨nv, rfl, hn, rfl⟩; have HN := Lib.hid hn; clear A hn)
      | (go_at_call 109; with_reducible refine (N.out _ HN.out).mono ?_; rintro e w1 ⟨rfl, rfl⟩; clear N))
    go_ret
    exact ⟨rfl, rfl⟩
set_option maxRecDepth 100000 in
theorem Abs_any (v : Value) (z : Int) (w : World) (h : IsZ w v z) :
    Calls Tryz.prog 111 #[v] w fun e w' => ∃ u, e = .returned u ∧ (IsN w' u z.natAbs ∧ u ≠ .pointer none) ∧ Below w.heap.size w w' := by
  rcases h with ⟨rfl, rfl⟩ | ⟨b, o, neg, sv, X, rfl, h2, h3, h4, h5, h6⟩
  · have O := Lib.hid (Of_any 0 w (by omega))
    go_enter Tryz.func111, Tryz.ntmps111
    go_wp2_with (go_at_call 110; refine (O.out).mono ?_; rintro e w2 ⟨u, rfl, hu, hb⟩; have HU := Lib.hid hu; have HB := Lib.hid hb; clear O hu hb)
    go_ret
    exact ⟨_, rfl, HU.out, HB.out⟩
  · have hz : z.natAbs = X := by subst h5; unfold sgn; split <;> omega
    rw [hz]
    have hb : Below w.heap.size w (w.alloc (.cells #[sv] 116)) := (Below.refl _ _).alloc (Nat.le_refl _) _
    have HZ := Lib.hid (show IsN (w.alloc (.cells #[sv] 116)) (.pointer (some ⟨w.heap.size, 0, none⟩)) X from Or.inr ⟨_, 0, sv, rfl, cell_of_row _ w.heap.size 0 #[sv] _ (0, 0) (heap_alloc_new w _), h4.below hb⟩)
    have HB := Lib.hid hb
    obtain ⟨ao, cap, rfl, -⟩ := id h4
    clear h4 h5 h6 hz hb
    go_enter Tryz.func111, Tryz.ntmps111
    go_wp2
    go_ret
    exact ⟨_, rfl, ⟨HZ.out, by simp⟩, HB.out⟩
theorem sgn_mul (z y : Int) : sgn (decide (z < 0) != decide (y < 0)) (z.natAbs * y.natAbs) = z * y := by
  unfold sgn
  rw [Int.natCast_mul]
  rcases Int.lt_or_le z 0 with h | h <;> rcases Int.lt_or_le y 0 with k | k
  · rw [decide_eq_true h, decide_eq_true k, Int.ofNat_natAbs_of_nonpos (by omega), Int.ofNat_natAbs_of_nonpos (by omega)]
    simp [Int.neg_mul_neg]
  · rw [decide_eq_true h, decide_eq_false (by omega), Int.ofNat_natAbs_of_nonpos (by omega), Int.natAbs_of_nonneg (by omega)]
    simp [Int.neg_mul]
  · rw [decide_eq_false (by omega), decide_eq_true k, Int.natAbs_of_nonneg (by omega), Int.ofNat_natAbs_of_nonpos (by omega)]
    simp [Int.mul_neg]
  · rw [decide_eq_false (by omega), decide_eq_false (by omega), Int.natAbs_of_nonneg (by omega), Int.natAbs_of_nonneg (by omega)]
    simp
set_option maxRecDepth 100000 in
theorem Mul_any (a b : Value) (z y : Int) (w : World) (ha : IsZ w a z) (hb : IsZ w b y) (hx : (digs z.natAbs).length ≤ 900000) (hy : (digs y.natAbs).length ≤ 900000) :
    Calls Tryz.prog 57 #[a, b] w fun e w' => ∃ u, e = .returned u ∧ (IsZ w' u (z * y) ∧ u ≠ .pointer none) ∧ Below w.heap.size w w' := by
  have B1 := Lib.hid (isBelow_any a z w ha)
  have B2 := Lib.hid (isBelow_any b y w hb)
  have A1 := Lib.hid (amount_any a z w ha)
  have A2 := Lib.hid (amount_any b y w hb)
  have M := Lib.hid (fun na nb h1 h2 => nat.Mul_any na nb z.natAbs y.natAbs w h1 h2 (by omega) (by omega))
  have N := Lib.hid (fun (w' : World) nv hn => New_any (decide (z < 0) != decide (y < 0)) nv (z.natAbs * y.natAbs) w' hn)
  rw [sgn_mul] at N
  clear ha hb
  generalize decide (z < 0) = b1 at *
  generalize decide (y < 0) = b2 at *
  have hbn : (!(b1 == b2)) = (b1 != b2) := rfl
  go_enter Tryz.func57, Tryz.ntmps57
  go_wp2_with (first
    | (go_at_call 94; with_reducible refine (B1.out).mono ?_; rintro e w1 ⟨rfl, rfl⟩; clear B1)
    | (go_at_call 94; with_reducible refine (B2.out).mono ?_; rintro e w1 ⟨rfl, rfl⟩; clear B2)
    | (go_at_call 95; with_reducible refine (A1.out).mono ?_; rintro e w1 ⟨na, rfl, hn, rfl⟩; have HN1 := Lib.hid hn; clear A1 hn)
    | (go_at_call 95; with_reducible refine (A2.out).mono ?_; rintro e w1 ⟨nb, rfl, hn, rfl⟩; have HN2 := Lib.hid hn; clear A2 hn)
    | (go_at_call 96; with_reducible refine (M.out _ _ HN1.out HN2.out).mono ?_; rintro e w2 ⟨m, rfl, ⟨hm, -⟩, hb2⟩; have HM := Lib.hid hm; have HB2 := Lib.hid hb2; clear M hm hb2)
    | (go_at_call 93; refine (N.out _ _ HM.out).mono ?_; rintro e w3 ⟨u, rfl, hu, hb⟩; have HU := Lib.hid hu; have HB := Lib.hid (HB2.out.trans (hb.mono HB2.out.size)); clear N hu hb))
  go_ret
  exact ⟨_, rfl, HU.out, HB.out⟩
end Go.Proofs.YtlhmfgbaefaneabGreatDoor.num
namespace Go.Proofs.YtlhmfgbaefaneabGreatDoor.nat
open Go.RowKit
open Go.Proofs.YtlhmfgbaefaneabGreatDoor.ref (str str_size ch seg IsDig Numeral seg_lt)
theorem ch_get {l : List UInt8} {i : Nat} (h : i < (str l).size) : ((str l)[i]'h).toNat = ch l i := by
  have h2 : i < l.length := h
  simp [ch, h2, str]
  rfl
set_option maxRecDepth 100000 in
set_option maxHeartbeats 1000000 in
theorem value_any (l : List UInt8) (w : World) (hl : l.length ≤ 19) (hd : ∀ i, i < l.length → IsDig l i) :
    Calls Tryz.prog 150 #[.string (str l)] w fun e w' => e = .returned (.int .u64 (seg l 0 l.length : Nat)) ∧ w = w' := by
  have hz : (str l).size = l.length := str_size l
  have HG := Lib.hid (fun i (h : i < (str l).size) => ch_get (l := l) h)
  have HD := Lib.hid hd
  generalize str l = s at *
  generalize hn : l.length = n at *
  have HN := Lib.hid hn
  clear hn hd
  go_enter Tryz.func150, Tryz.ntmps150
  go_wp2
  go_loopw [3, 7] (fun nv iv wr => w = wr ∧ ∃ i : Nat, i ≤ n ∧ iv = .int .i64 i ∧ nv = .int .u64 (seg l 0 i : Nat)) (fun _ iv _ => n - (intOf iv).toNat)
  case atStart => exact ⟨rfl, 0, Nat.zero_le _, rfl, rfl⟩
  case round =>
    obtain ⟨rfl, i, hi, rfl, rfl⟩ := hrel
    by_cases hlt : i < n
    · have hv := seg_lt (l := l) (st := 0) (m := i) fun j _ hj => HD.out j (by omega)
      have hp : 10 ^ i ≤ 10 ^ 18 := Nat.pow_le_pow_right (by omega) (by omega)
      have hdi := HD.out i hlt
      unfold IsDig at hdi
      have hgk : ∀ h : i < s.size, (s[i]'h).toNat = ch l i := fun h => HG.out _ h
      have HS := Lib.hid (show seg l 0 (i + 1) = seg l 0 i * 10 + (ch l i - 48) by rw [seg, Nat.zero_add])
      have hv8 : (seg l 0 i : Int) < 1000000000000000000 := by omega
      generalize seg l 0 i = v at *
      generalize ch l i = c at *
      clear hv hp
      obtain ⟨hc1, hc2⟩ := hdi
      go_wp2
      refine ⟨?_, ?_⟩
      · refine ⟨trivial, i + 1, by omega, by go_num, ?_⟩
        rw [HS.out]
        go_num
      · simp [intOf]; omega
    · obtain rfl : i = n := by omega
      go_wp2
      go_ret
      exact ⟨rfl, rfl⟩
set_option maxRecDepth 100000 in
set_option maxHeartbeats 2000000 in
open Classical in
theorem isNumber_any (l : List UInt8) (w : World) (hl : l.length ≤ 4611686018427387904) :
    Calls Tryz.prog 148 #[.string (str l)] w fun e w' => e = .returned (.bool (decide (Numeral l))) ∧ w = w' := by
  have hz : (str l).size = l.length := str_size l
  have HG := Lib.hid (fun i (h : i < (str l).size) => ch_get (l := l) h)
  have HNo := Lib.hid (fun h : ¬ Numeral l => (decide_eq_false h : decide (Numeral l) = false))
  have HYes := Lib.hid (fun h : Numeral l => (decide_eq_true h : decide (Numeral l) = true))
  have HNum := Lib.hid (show Numeral l ↔ 1 ≤ l.length ∧ l.length ≤ 4000 ∧ (1 < l.length → ch l 0 ≠ 48) ∧ ∀ i, i < l.length → IsDig l i from Iff.rfl)
  generalize str l = s at *
  generalize decide (Numeral l) = b at *
  generalize hn : l.length = n at *
  clear hn
  by_cases h0 : n = 0
  · have hb := HNo.out fun h => by have := (HNum.out.1 h).1; omega
    subst hb
    go_enter Tryz.func148, Tryz.ntmps148
    go_wp2
    go_ret
    exact ⟨rfl, rfl⟩
  · by_cases h4 : 4000 < n
    · have hb := HNo.out fun h => by have := (HNum.out.1 h).2.1; omega
      subst hb
      go_enter Tryz.func148, Tryz.ntmps148
      go_wp2
      go_ret
      exact ⟨rfl, rfl⟩
    · have hc0 : ∀ h : 0 < s.size, (s[0]'h).toNat = ch l 0 := fun h => HG.out 0 h
      by_cases h48 : ch l 0 = 48 ∧ 1 < n
      · obtain ⟨h48, h1⟩ := h48
        have hb := HNo.out fun h => (HNum.out.1 h).2.2.1 h1 h48
        subst hb
        rw [h48] at hc0
        clear h48
        go_enter Tryz.func148, Tryz.ntmps148
        go_wp2
        go_ret
        exact ⟨rfl, rfl⟩
      · have HH := Lib.hid (show 1 < n → ch l 0 ≠ 48 from fun h1 h2 => h48 ⟨h2, h1⟩)
        have hcase : (ch l 0 = 48 ∧ n = 1) ∨ ch l 0 ≠ 48 := by omega
        generalize ch l 0 = c0 at *
        clear h48
        rcases hcase with ⟨rfl, hn1⟩ | h48
        case' neg.inr =>
          have hb1 : ¬ (c0 : Int) = 48 := by omega
          have hnb : ((n : Int) == 0) = false := by simp; omega
        all_goals
          go_enter Tryz.func148, Tryz.ntmps148
          go_wp2
          go_loopw [24] (fun iv wr => w = wr ∧ ∃ i : Nat, i ≤ n ∧ iv = .int .i64 i ∧ ∀ j, j < i → IsDig l j) (fun iv _ => n - (intOf iv).toNat)
          case atStart => exact ⟨rfl, 0, Nat.zero_le _, rfl, fun j hj => by omega⟩
          case round =>
            obtain ⟨rfl, i, hi, rfl, hdg⟩ := hrel
            have HDg := Lib.hid hdg
            clear hdg
            by_cases hlt : i < n
            · have hgk : ∀ h : i < s.size, (s[i]'h).toNat = ch l i := fun h => HG.out _ h
              have HB := Lib.hid (show b = true → IsDig l i from fun hb => by
                by_cases hN : Numeral l
                · exact (HNum.out.1 hN).2.2.2 i hlt
                · rw [HNo.out hN] at hb; cases hb)
              have HC := Lib.hid (show IsDig l i ↔ 48 ≤ ch l i ∧ ch l i ≤ 57 from Iff.rfl)
              generalize ch l i = c at *
              by_cases hc1 : c < 48
              · have hb : b = false := by
                  cases b with
                  | false => rfl
                  | true => have := HC.out.1 (HB.out rfl); omega
                subst hb
                go_wp2
                go_ret
                exact ⟨rfl, rfl⟩
              · by_cases hc2 : 57 < c
                · have hb : b = false := by
                    cases b with
                    | false => rfl
                    | true => have := HC.out.1 (HB.out rfl); omega
                  subst hb
                  go_wp2
                  go_ret
                  exact ⟨rfl, rfl⟩
                · go_wp2
                  refine ⟨⟨trivial, i + 1, by omega, by go_num, fun j hj => ?_⟩, ?_⟩
                  · by_cases h3 : j < i
                    · exact HDg.out j h3
                    · obtain rfl : j = i := by omega
                      exact HC.out.2 ⟨by omega, by omega⟩
                  · simp [intOf]; omega
            · obtain rfl : i = n := by omega
              have hb := HYes.out (HNum.out.2 ⟨by omega, by omega, HH.out, HDg.out⟩)
              subst hb
              go_wp2
              go_ret
              exact ⟨rfl, rfl⟩
end Go.Proofs.YtlhmfgbaefaneabGreatDoor.nat
namespace Go.Proofs.YtlhmfgbaefaneabGreatDoor.nat
open Go.RowKit
theorem sca_ex (d y a : Nat) (hd : d < 18446744073709551616) (hy : y + 1 < 18446744073709551616) (ha : a < 18446744073709551616) : ∃ h l s k : Nat,
    (∀ w, Calls Tryz.prog 174 #[.int .u64 (d : Int), .int .u64 ((y : Int) + 1)] w fun e w' => e = .returned (.tuple #[.int .u64 (h : Int), .int .u64 (l : Int)]) ∧ w' = w) ∧
    (∀ w, (callFunc 185 #[.int .u64 (l : Int), .int .u64 (a : Int), .int .u64 0]).run Tryz.prog w = .ok (.value (.tuple #[.int .u64 (s : Int), .int .u64 (k : Int)])) w) ∧
    s < 18446744073709551616 ∧ h + k < 18446744073709551616 ∧ s + 18446744073709551616 * (h + k) = d + d * y + a := by
  obtain ⟨h, l, b1, b2, e1, r1⟩ := mul64_ex d (y + 1) hd hy
  obtain ⟨s, k, b3, b4, e2, r2⟩ := add64_ex l a 0 b2 ha (by omega)
  have hp : d * (y + 1) ≤ 18446744073709551615 * 18446744073709551615 := Nat.mul_le_mul (by omega) (by omega)
  rw [Nat.mul_add, Nat.mul_one] at e1 hp
  exact ⟨h, l, s, k, r1, r2, b3, by omega, by omega⟩
def RowT (w : World) (g : Nat) (L : List Nat) (R : List Value) : Prop := w.heap[g]? = some (.cells ((L.map fun d => Value.int .u64 (d : Nat)) ++ R).toArray 80 (0, 0))
theorem RowT.row {w : World} {g : Nat} {L : List Nat} {R : List Value} (h : RowT w g L R) : Row w g L := ⟨R, h⟩
theorem RowT.set {w : World} {g : Nat} {L : List Nat} {R : List Value} (h : RowT w g L R) (k : Nat) (hk : k < L.length) (d : Nat) : RowT (w.setCell ⟨g, k, none⟩ (.int .u64 (d : Nat))) g (L.set k d) R := by
  unfold RowT at h ⊢
  rw [heap_setCell_same w g k _ _ _ h]
  congr 2
  rw [List.setIfInBounds_toArray, List.set_append_left _ _ (by simpa using hk), List.map_set]
def CRel (w : World) (g y more : Nat) (R : List Value) (Z : List Nat) (i a : Nat) (wr : World) : Prop :=
  ∃ Z', Z'.length = Z.length ∧ Dig Z' ∧ a < 18446744073709551616 ∧ RowT wr g Z' R ∧ w.grownBy wr (some g) ∧ val Z' + 18446744073709551616 ^ i * a = val Z + more + val (Z.take i) * y ∧ ∀ j, i ≤ j → dg Z' j = dg Z j
theorem CRel.next {w wr : World} {g y more : Nat} {R : List Value} {Z Z' : List Nat} {i a s k : Nat} (h0 : Z'.length = Z.length) (h1 : Dig Z') (h3 : RowT wr g Z' R) (h4 : w.grownBy wr (some g)) (h5 : val Z' + 18446744073709551616 ^ i * a = val Z + more + val (Z.take i) * y) (h6 : ∀ j, i ≤ j → dg Z' j = dg Z j)
    (hi : i < Z.length) (hs : s < 18446744073709551616) (hk : k < 18446744073709551616) (he : s + 18446744073709551616 * k = dg Z' i + dg Z' i * y + a) : CRel w g y more R Z (i + 1) k (wr.setCell ⟨g, i, none⟩ (.int .u64 (s : Nat))) :=
  ⟨Z'.set i s, by simpa using h0, h1.set hs, hk, h3.set _ (by omega) _, grown_trans h4 (grown_set _ _ _ _), by
    have e : dg Z' i = dg Z i := h6 i (Nat.le_refl _)
    rw [add_one (by omega) he h5, val_take_succ, Nat.add_mul, Nat.mul_assoc, e]; omega, fun j hj => by rw [dg_set_other (by omega)]; exact h6 j (by omega)⟩
set_option maxRecDepth 100000 in
set_option maxHeartbeats 1000000 in
theorem scale_own {B : Nat} (sv : Value) (z : List Nat) (y more : Nat) (w : World) (hO : w.ownsRow B 80 1 sv z.length (z.map fun d => Value.int .u64 (d : Nat))) (hdz : Dig z) (hy : y + 1 < 18446744073709551616) (hm : more < 18446744073709551616) (hn : z.length ≤ 4000000) :
    Calls Tryz.prog 149 #[sv, .int .u64 ((y : Int) + 1), .int .u64 (more : Nat)] w fun e w' => ∃ (z' : List Nat) (a : Nat), e = .returned (.int .u64 (a : Nat)) ∧ (z'.length = z.length ∧ Dig z' ∧ val z' + 18446744073709551616 ^ z.length * a = val z * (y + 1) + more ∧ a < 18446744073709551616 ∧ w'.ownsRow B 80 1 sv z'.length (z'.map fun d => Value.int .u64 (d : Nat))) ∧ w.grownBy w' sv.ownBlock := by
  have HO := Lib.hid hO
  rcases hO.2 with ⟨rfl, h0⟩ | ⟨g, cap, cur, rfl, hB, hh, hnc, hcm, hsz, htk⟩
  · obtain rfl := List.eq_nil_of_length_eq_zero h0
    clear hO hn h0
    go_enter Tryz.func149, Tryz.ntmps149
    go_wp2
    go_loopw [2, 14] (fun rv iv wr => iv = .int .i64 0 ∧ rv = .int .u64 (more : Nat) ∧ w = wr) (fun _ _ _ => 0)
    case atStart => exact ⟨rfl, rfl, rfl⟩
    case round =>
      obtain ⟨rfl, rfl, rfl⟩ := hrel
      go_wp2
      go_ret
      exact ⟨[], more, rfl, ⟨rfl, Dig.nil, by simp [val], hm, HO.out⟩, grown_refl _ _⟩
  · obtain ⟨n, hnl⟩ : ∃ n, z.length = n := ⟨_, rfl⟩
    have HN := Lib.hid hnl
    have hrow : RowT w g z (cur.toList.drop (z.length * 1)) := by
      unfold RowT
      rw [← htk, List.take_append_drop, Array.toArray_toList]
      exact hh
    have HR := Lib.hid (show n + (cur.toList.drop (z.length * 1)).length = cap by simp; omega)
    generalize cur.toList.drop (z.length * 1) = R at hrow HR
    have HS := Lib.hid (show CRel w g y more R z 0 more w from ⟨z, rfl, hdz, hm, hrow, grown_refl _ _, by simp [val], fun _ _ => rfl⟩)
    have hgl := hrow.row.lt
    unfold maxLen at hcm
    rw [hnl] at hnc hn ⊢
    clear hO hdz hrow hnl hh hsz htk cur
    go_enter Tryz.func149, Tryz.ntmps149
    go_wp2
    go_loopw [2, 14] (fun rv iv wr => ∃ i a : Nat, iv = .int .i64 i ∧ rv = .int .u64 a ∧ i ≤ n ∧ CRel w g y more R z i a wr) (fun _ iv _ => n - (intOf iv).toNat)
    case atStart => exact ⟨0, more, rfl, rfl, Nat.zero_le _, HS.out⟩
    case round =>
      obtain ⟨i, a, rfl, rfl, hi, hrel⟩ := hrel
      obtain ⟨Z', hl, hd, ha, hrow, hgr, hv, hup⟩ := hrel
      by_cases hlt : i < n
      · have c1 := hrow.row.cell i (by rw [hl, HN.out]; omega)
        have f1 := hrow.row.free i
        obtain ⟨h, l, s, k, r1, r2, hs, hk, he⟩ := sca_ex (dg Z' i) y a (dg_lt hd i) hy ha
        have HNX := Lib.hid (CRel.next hl hd hrow hgr hv hup (by rw [HN.out]; exact hlt) hs hk he)
        have R1 := Lib.hid r1
        generalize dg Z' i = d at c1 R1
        clear he hrow hgr hv hl hd HS r1 hup HO
        go_wp2_with (go_at_call 174; refine (R1.out _).mono ?_; rintro e w' ⟨rfl, rfl⟩)
        go_roundw
        case rel => exact ⟨i + 1, h + k, by go_num, by go_num, by omega, HNX.out⟩
        case measure => simp [intOf]; omega
      · obtain rfl : i = n := by omega
        have HV := Lib.hid hv
        clear hv HS hup
        go_wp2
        go_ret
        refine ⟨Z', a, rfl, ⟨by rw [hl, HN.out], hd, ?_, ha, ?_⟩, hgr⟩
        · have := HV.out
          rw [List.take_of_length_le (by rw [HN.out]; omega)] at this
          rw [this, Nat.mul_add]
          omega
        · have e : Z'.length = i := by rw [hl, HN.out]
          refine ⟨by simp, Or.inr ⟨g, cap, _, by rw [e], hB, hrow, by omega, by unfold maxLen; omega, ?_, ?_⟩⟩
          · have := HR.out
            simp
            omega
          · rw [Nat.mul_one]
            simp
end Go.Proofs.YtlhmfgbaefaneabGreatDoor.nat
