/-
  The steps of the walks, part 18: Int, IntA, Nums.
-/
import Derived.Test.YtfpooimjjpamoaaGreatDoorM17
namespace Go.Proofs.YtfpooimjjpamoaaGreatDoor.num
open Go.RowKit Go.Proofs.YtfpooimjjpamoaaGreatDoor.nat
def sgn (neg : Bool) (X : Nat) : Int := if neg then -(X : Int) else X
theorem sgn_neg (z : Int) : sgn (!decide (z < 0)) z.natAbs = -z := by
  unfold sgn
  split <;> simp_all <;> omega
def IsZ (w : World) (v : Value) (z : Int) : Prop :=
  (v = .pointer none ∧ z = 0) ∨ ∃ b o neg sv X, v = .pointer (some ⟨b, o, none⟩) ∧ w.cell? ⟨b, o, none⟩ = some (.bool neg) ∧ w.cell? ⟨b, o + 1, none⟩ = some sv ∧ Rd w sv (digs X) ∧ z = sgn neg X ∧ (neg = true → 0 < X)
theorem IsZ.below {w w' : World} {v : Value} {z : Int} (h : IsZ w v z) (hb : Below w.heap.size w w') : IsZ w' v z := by
  rcases h with h | ⟨b, o, neg, sv, X, h1, h2, h3, h4, h5⟩
  · exact Or.inl h
  · exact Or.inr ⟨b, o, neg, sv, X, h1, (hb.cell (p := ⟨b, o, none⟩) (cell_lt h2)).trans h2, (hb.cell (p := ⟨b, o + 1, none⟩) (cell_lt h3)).trans h3, h4.below hb, h5⟩
theorem IsZ.inj {w : World} {v : Value} {z y : Int} (h : IsZ w v z) (h' : IsZ w v y) : z = y := by
  rcases h with ⟨rfl, rfl⟩ | ⟨b, o, neg, sv, X, rfl, h2, h3, h4, rfl, -⟩
  · rcases h' with ⟨_, rfl⟩ | ⟨b', o', neg', sv', X', he, _⟩
    · rfl
    · simp at he
  · rcases h' with ⟨he, _⟩ | ⟨b', o', neg', sv', X', he, k2, k3, k4, rfl, -⟩
    · simp at he
    · simp only [Value.pointer.injEq, Option.some.injEq, Addr.mk.injEq, and_true] at he
      obtain ⟨rfl, rfl⟩ := he
      rw [h2] at k2
      rw [h3] at k3
      simp only [Option.some.injEq, Value.bool.injEq] at k2 k3
      subst k2 k3
      rw [← val_digs X, ← val_digs X', h4.inj k4]
set_option maxRecDepth 100000 in
theorem isBelow_any (v : Value) (z : Int) (w : World) (h : IsZ w v z) :
    Calls Tryz.prog 123 #[v] w fun e w' => e = .returned (.bool (decide (z < 0))) ∧ w = w' := by
  rcases h with ⟨rfl, rfl⟩ | ⟨b, o, neg, sv, X, rfl, h2, h3, h4, h5, h6⟩
  · go_enter Tryz.func123, Tryz.ntmps123
    go_wp2
    go_ret
    exact ⟨rfl, rfl⟩
  · have hd : decide (z < 0) = neg := by
      subst h5
      unfold sgn
      cases neg
      · simp
      · have := h6 rfl
        simp
        omega
    rw [hd]
    clear h3 h4 h5 h6 hd
    go_enter Tryz.func123, Tryz.ntmps123
    go_wp2
    go_ret
    exact ⟨rfl, rfl⟩
set_option maxRecDepth 100000 in
theorem amount_any (v : Value) (z : Int) (w : World) (h : IsZ w v z) :
    Calls Tryz.prog 122 #[v] w fun e w' => ∃ v', e = .returned v' ∧ IsN w v' z.natAbs ∧ w = w' := by
  rcases h with ⟨rfl, rfl⟩ | ⟨b, o, neg, sv, X, rfl, h2, h3, h4, h5, h6⟩
  · go_enter Tryz.func122, Tryz.ntmps122
    go_wp2
    go_ret
    exact ⟨_, rfl, Or.inl ⟨rfl, rfl⟩, rfl⟩
  · have hN := Lib.hid (show IsN w (.pointer (some ⟨b, o + 1, none⟩)) z.natAbs from by
      have : z.natAbs = X := by subst h5; unfold sgn; split <;> omega
      rw [this]
      exact Or.inr ⟨b, o + 1, sv, rfl, h3, h4⟩)
    clear h3 h4 h5 h6
    go_enter Tryz.func122, Tryz.ntmps122
    go_wp2
    go_ret
    exact ⟨_, rfl, hN.out, rfl⟩
set_option maxRecDepth 100000 in
theorem New_at (neg : Bool) (nv : Value) (X : Nat) (w : World) (h : IsN w nv X) :
    Calls Tryz.prog 97 #[.bool neg, nv] w fun e w' => e = .returned (.pointer (some ⟨w.heap.size, 0, none⟩)) ∧ IsZ w' (.pointer (some ⟨w.heap.size, 0, none⟩)) (sgn neg X) ∧ Below w.heap.size w w' := by
  have Z := Lib.hid (Zero_any nv X w h)
  by_cases h0 : X = 0
  · subst h0
    rw [decide_eq_true rfl] at Z
    have hs : sgn neg 0 = 0 := by unfold sgn; split <;> rfl
    rw [hs]
    have hb : Below w.heap.size w (w.alloc (.cells #[.bool false, .slice none 0 0] 133)) := (Below.refl _ _).alloc (Nat.le_refl _) _
    have hz := Lib.hid (show IsZ (w.alloc (.cells #[.bool false, .slice none 0 0] 133)) (.pointer (some ⟨w.heap.size, 0, none⟩)) 0 from Or.inr ⟨_, 0, false, .slice none 0 0, 0, rfl, cell_of_row _ w.heap.size 0 #[.bool false, .slice none 0 0] _ (0, 0) (heap_alloc_new w _), cell_of_row _ w.heap.size 1 #[.bool false, .slice none 0 0] _ (0, 0) (heap_alloc_new w _), by rw [digs_zero]; exact Rd.nil _, rfl, fun h => by cases h⟩)
    have HB := Lib.hid hb
    clear h hb
    go_enter Tryz.func97, Tryz.ntmps97
    go_wp2_with (go_at_call 42; refine (Z.out).mono ?_; rintro e w1 ⟨rfl, rfl⟩; clear Z)
    go_ret
    exact ⟨rfl, hz.out, HB.out⟩
  · rw [decide_eq_false h0] at Z
    rcases h with ⟨rfl, rfl⟩ | ⟨b, o, sv, rfl, h2, h3⟩
    · exact absurd rfl h0
    · have hb : Below w.heap.size w (w.alloc (.cells #[.bool neg, sv] 133)) := (Below.refl _ _).alloc (Nat.le_refl _) _
      have hz := Lib.hid (show IsZ (w.alloc (.cells #[.bool neg, sv] 133)) (.pointer (some ⟨w.heap.size, 0, none⟩)) (sgn neg X) from Or.inr ⟨_, 0, neg, sv, X, rfl, cell_of_row _ w.heap.size 0 #[.bool neg, sv] _ (0, 0) (heap_alloc_new w _), cell_of_row _ w.heap.size 1 #[.bool neg, sv] _ (0, 0) (heap_alloc_new w _), h3.below hb, rfl, fun _ => by omega⟩)
      have HB := Lib.hid hb
      obtain ⟨ao, cap, rfl, -⟩ := id h3
      clear h3 hb
      go_enter Tryz.func97, Tryz.ntmps97
      go_wp2_with (go_at_call 42; refine (Z.out).mono ?_; rintro e w1 ⟨rfl, rfl⟩; clear Z)
      go_ret
      exact ⟨rfl, hz.out, HB.out⟩
theorem New_any (neg : Bool) (nv : Value) (X : Nat) (w : World) (h : IsN w nv X) :
    Calls Tryz.prog 97 #[.bool neg, nv] w fun e w' => ∃ v, e = .returned v ∧ (IsZ w' v (sgn neg X) ∧ v ≠ .pointer none) ∧ Below w.heap.size w w' := by
  refine (New_at neg nv X w h).mono ?_
  rintro e w' ⟨rfl, hz, hb⟩
  exact ⟨_, rfl, ⟨hz, by simp⟩, hb⟩
end Go.Proofs.YtfpooimjjpamoaaGreatDoor.num
namespace Go.Proofs.YtfpooimjjpamoaaGreatDoor.num
open Go.RowKit Go.Proofs.YtfpooimjjpamoaaGreatDoor.nat
set_option maxRecDepth 100000 in
theorem Neg_any (v : Value) (z : Int) (w : World) (h : IsZ w v z) :
    Calls Tryz.prog 65 #[v] w fun e w' => ∃ u, e = .returned u ∧ (IsZ w' u (-z) ∧ u ≠ .pointer none) ∧ Below w.heap.size w w' := by
  have B := Lib.hid (isBelow_any v z w h)
  have A := Lib.hid (amount_any v z w h)
  have N := Lib.hid (fun nv hn => New_any (!decide (z < 0)) nv z.natAbs w hn)
  rw [sgn_neg] at N
  clear h
  generalize decide (z < 0) = b at *
  go_enter Tryz.func65, Tryz.ntmps65
  go_wp2_with (first
    | (go_at_call 123; with_reducible refine (B.out).mono ?_; rintro e w1 ⟨rfl, rfl⟩; clear B)
    | (go_at_call 122; with_reducible refine (A.out).mono ?_; rintro e w1 ⟨nv, rfl, hn, rfl⟩; have HN := Lib.hid hn; clear A hn)
    | (go_at_call 97; refine (N.out _ HN.out).mono ?_; rintro e w2 ⟨u, rfl, hu, hb⟩; have HU := Lib.hid hu; have HB := Lib.hid hb; clear N hu hb))
  go_ret
  exact ⟨_, rfl, HU.out, HB.out⟩
def sg (z : Int) : Int := cmp3 z 0
set_option maxRecDepth 100000 in
theorem Sign_any (v : Value) (z : Int) (w : World) (h : IsZ w v z) :
    Calls Tryz.prog 67 #[v] w fun e w' => e = .returned (.int .i64 (sg z)) ∧ w = w' := by
  have B := isBelow_any v z w h
  have A := Lib.hid (amount_any v z w h)
  have N := fun nv hn => Zero_any nv z.natAbs w hn
  clear h
  unfold sg cmp3
  rcases (show z < 0 ∨ z = 0 ∨ 0 < z by omega) with h | h | h
  · rw [if_pos h]
    rw [decide_eq_true h] at B
    clear A N
    have B := Lib.hid B
    go_enter Tryz.func67, Tryz.ntmps67
    go_wp2_with (go_at_call 123; with_reducible refine (B.out).mono ?_; rintro e w1 ⟨rfl, rfl⟩; clear B)
    go_ret
    exact ⟨rfl, rfl⟩
  · rw [if_neg (by omega), if_neg (by omega)]
    rw [decide_eq_false (by omega)] at B
    rw [decide_eq_true (by omega : z.natAbs = 0)] at N
    have B := Lib.hid B
    have N := Lib.hid N
    go_enter Tryz.func67, Tryz.ntmps67
    go_wp2_with (first
      | (go_at_call 123; with_reducible refine (B.out).mono ?_; rintro e w1 ⟨rfl, rfl⟩; clear B)
      | (go_at_call 122; with_reducible refine (A.out).mono ?_; rintro e w1 ⟨nv, rfl, hn, rfl⟩; have HN := Lib.hid hn; clear A hn)
      | (go_at_call 42; with_reducible refine (N.out _ HN.out).mono ?_; rintro e w1 ⟨rfl, rfl⟩; clear N))
    go_ret
    exact ⟨rfl, rfl⟩
  · rw [if_neg (by omega), if_pos h]
    rw [decide_eq_false (by omega)] at B
    rw [decide_eq_false (by omega : ¬ z.natAbs = 0)] at N
    have B := Lib.hid B
    have N := Lib.hid N
    go_enter Tryz.func67, Tryz.ntmps67
    go_wp2_with (first
      | (go_at_call 123; with_reducible refine (B.out).mono ?_; rintro e w1 ⟨rfl, rfl⟩; clear B)
      | (go_at_call 122; with_reducible refine (A.out).mono ?_; rintro e w1 ⟨nv, rfl, hn, rfl⟩; have HN := Lib.hid hn; clear A hn)
      | (go_at_call 42; with_reducible refine (N.out _ HN.out).mono ?_; rintro e w1 ⟨rfl, rfl⟩; clear N))
    go_ret
    exact ⟨rfl, rfl⟩
set_option maxRecDepth 100000 in
theorem Abs_any (v : Value) (z : Int) (w : World) (h : IsZ w v z) :
    Calls Tryz.prog 66 #[v] w fun e w' => ∃ u, e = .returned u ∧ (IsN w' u z.natAbs ∧ u ≠ .pointer none) ∧ Below w.heap.size w w' := by
  rcases h with ⟨rfl, rfl⟩ | ⟨b, o, neg, sv, X, rfl, h2, h3, h4, h5, h6⟩
  · have O := Lib.hid (Of_any 0 w (by omega))
    go_enter Tryz.func66, Tryz.ntmps66
    go_wp2_with (go_at_call 46; refine (O.out).mono ?_; rintro e w2 ⟨u, rfl, hu, hb⟩; have HU := Lib.hid hu; have HB := Lib.hid hb; clear O hu hb)
    go_ret
    exact ⟨_, rfl, HU.out, HB.out⟩
  · have hz : z.natAbs = X := by subst h5; unfold sgn; split <;> omega
    rw [hz]
    have hb : Below w.heap.size w (w.alloc (.cells #[sv] 131)) := (Below.refl _ _).alloc (Nat.le_refl _) _
    have HZ := Lib.hid (show IsN (w.alloc (.cells #[sv] 131)) (.pointer (some ⟨w.heap.size, 0, none⟩)) X from Or.inr ⟨_, 0, sv, rfl, cell_of_row _ w.heap.size 0 #[sv] _ (0, 0) (heap_alloc_new w _), h4.below hb⟩)
    have HB := Lib.hid hb
    obtain ⟨ao, cap, rfl, -⟩ := id h4
    clear h4 h5 h6 hz hb
    go_enter Tryz.func66, Tryz.ntmps66
    go_wp2
    go_ret
    exact ⟨_, rfl, ⟨HZ.out, by simp⟩, HB.out⟩
theorem sgn_mul (z y : Int) : sgn (decide (z < 0) != decide (y < 0)) (z.natAbs * y.natAbs) = z * y := by
  unfold sgn
  rw [Int.natCast_mul]
  rcases Int.lt_or_le z 0 with h | h <;> rcases Int.lt_or_le y 0 with k | k
  · rw [decide_eq_true h, decide_eq_true k, Int.ofNat_natAbs_of_nonpos (by omega), Int.ofNat_natAbs_of_nonpos (by omega)]
    simp [Int.neg_mul_neg]
  · rw [decide_eq_true h, decide_eq_false (by omega), Int.ofNat_natAbs_of_nonpos (by omega), Int.natAbs_of_nonneg (by omega)]
    simp [Int.neg_mul]
  · rw [decide_eq_false (by omega), decide_eq_true k, Int.natAbs_of_nonneg (by omega), Int.ofNat_natAbs_of_nonpos (by omega)]
    simp [Int.mul_neg]
  · rw [decide_eq_false (by omega), decide_eq_false (by omega), Int.natAbs_of_nonneg (by omega), Int.natAbs_of_nonneg (by omega)]
    simp
set_option maxRecDepth 100000 in
theorem Mul_any (a b : Value) (z y : Int) (w : World) (ha : IsZ w a z) (hb : IsZ w b y) (hx : (digs z.natAbs).length ≤ 900000) (hy : (digs y.natAbs).length ≤ 900000) :
    Calls Tryz.prog 54 #[a, b] w fun e w' => ∃ u, e = .returned u ∧ (IsZ w' u (z * y) ∧ u ≠ .pointer none) ∧ Below w.heap.size w w' := by
  have B1 := Lib.hid (isBelow_any a z w ha)
  have B2 := Lib.hid (isBelow_any b y w hb)
  have A1 := Lib.hid (amount_any a z w ha)
  have A2 := Lib.hid (amount_any b y w hb)
  have M := Lib.hid (fun na nb h1 h2 => nat.Mul_any na nb z.natAbs y.natAbs w h1 h2 (by omega) (by omega))
  have N := Lib.hid (fun (w' : World) nv hn => New_any (decide (z < 0) != decide (y < 0)) nv (z.natAbs * y.natAbs) w' hn)
  rw [sgn_mul] at N
  clear ha hb
  generalize decide (z < 0) = b1 at *
  generalize decide (y < 0) = b2 at *
  have hbn : (!(b1 == b2)) = (b1 != b2) := rfl
  go_enter Tryz.func54, Tryz.ntmps54
  go_wp2_with (first
    | (go_at_call 123; with_reducible refine (B1.out).mono ?_; rintro e w1 ⟨rfl, rfl⟩; clear B1)
    | (go_at_call 123; with_reducible refine (B2.out).mono ?_; rintro e w1 ⟨rfl, rfl⟩; clear B2)
    | (go_at_call 122; with_reducible refine (A1.out).mono ?_; rintro e w1 ⟨na, rfl, hn, rfl⟩; have HN1 := Lib.hid hn; clear A1 hn)
    | (go_at_call 122; with_reducible refine (A2.out).mono ?_; rintro e w1 ⟨nb, rfl, hn, rfl⟩; have HN2 := Lib.hid hn; clear A2 hn)
    | (go_at_call 37; with_reducible refine (M.out _ _ HN1.out HN2.out).mono ?_; rintro e w2 ⟨m, rfl, ⟨hm, -⟩, hb2⟩; have HM := Lib.hid hm; have HB2 := Lib.hid hb2; clear M hm hb2)
    | (go_at_call 97; refine (N.out _ _ HM.out).mono ?_; rintro e w3 ⟨u, rfl, hu, hb⟩; have HU := Lib.hid hu; have HB := Lib.hid (HB2.out.trans (hb.mono HB2.out.size)); clear N hu hb))
  go_ret
  exact ⟨_, rfl, HU.out, HB.out⟩
end Go.Proofs.YtfpooimjjpamoaaGreatDoor.num
namespace Go.Proofs.YtfpooimjjpamoaaGreatDoor.ref
def val : List Nat → Nat
  | [] => 0
  | d :: r => d + 1000000000 * val r
def Dig (l : List Nat) : Prop := ∀ d ∈ l, d < 1000000000
def Norm (l : List Nat) : Prop := Dig l ∧ l.getLast? ≠ some 0
theorem Dig.nil : Dig [] := fun _ h => by cases h
theorem Dig.cons {d : Nat} {l : List Nat} (h : d < 1000000000) (hl : Dig l) : Dig (d :: l) := fun x hx => by
  rcases List.mem_cons.1 hx with rfl | hx
  · exact h
  · exact hl x hx
theorem Dig.tail {d : Nat} {l : List Nat} (h : Dig (d :: l)) : Dig l := fun x hx => h x (List.mem_cons_of_mem _ hx)
theorem Dig.head {d : Nat} {l : List Nat} (h : Dig (d :: l)) : d < 1000000000 := h d (List.mem_cons_self)
theorem Dig.append {a b : List Nat} (ha : Dig a) (hb : Dig b) : Dig (a ++ b) := fun x hx => by
  rcases List.mem_append.1 hx with h | h
  · exact ha x h
  · exact hb x h
theorem Dig.take {l : List Nat} (h : Dig l) (k : Nat) : Dig (l.take k) := fun x hx => h x (List.mem_of_mem_take hx)
theorem Dig.drop {l : List Nat} (h : Dig l) (k : Nat) : Dig (l.drop k) := fun x hx => h x (List.mem_of_mem_drop hx)
theorem Dig.get {l : List Nat} (h : Dig l) (k : Nat) (hk : k < l.length) : l[k] < 1000000000 := h _ (List.getElem_mem hk)
theorem val_append (a b : List Nat) : val (a ++ b) = val a + 1000000000 ^ a.length * val b := by
  induction a with
  | nil => simp [val]
  | cons d a ih =>
    simp only [List.cons_append, val, List.length_cons, ih, Nat.pow_succ]
    rw [Nat.mul_add, Nat.mul_comm (1000000000 ^ a.length) 1000000000, Nat.mul_assoc, Nat.add_assoc]
theorem val_lt {l : List Nat} (h : Dig l) : val l < 1000000000 ^ l.length := by
  induction l with
  | nil => simp [val]
  | cons d l ih =>
    have h1 := ih h.tail
    have h2 := h.head
    simp only [val, List.length_cons, Nat.pow_succ]
    omega
theorem val_at (l : List Nat) (k : Nat) (hk : k < l.length) : val l = val (l.take k) + 1000000000 ^ k * (l[k] + 1000000000 * val (l.drop (k + 1))) := by
  have h : l = l.take k ++ (l[k] :: l.drop (k + 1)) := by
    rw [← List.drop_eq_getElem_cons hk, List.take_append_drop]
  have h2 := val_append (l.take k) (l[k] :: l.drop (k + 1))
  rw [← h, List.length_take, Nat.min_eq_left (by omega)] at h2
  exact h2
theorem val_snoc (l : List Nat) (d : Nat) : val (l ++ [d]) = val l + 1000000000 ^ l.length * d := by
  rw [val_append]
  simp [val]
theorem Norm.nil : Norm [] := ⟨Dig.nil, by simp⟩
theorem norm_snoc {l : List Nat} {d : Nat} (h : Dig l) (hd : d < 1000000000) (h0 : d ≠ 0) : Norm (l ++ [d]) :=
  ⟨h.append (Dig.cons hd Dig.nil), by simp [h0]⟩
theorem pow_pos (k : Nat) : 0 < 1000000000 ^ k := Nat.pow_pos (by omega)
theorem Norm.low {l : List Nat} (h : Norm l) (hne : l ≠ []) : 1000000000 ^ (l.length - 1) ≤ val l := by
  obtain ⟨a, d, rfl⟩ : ∃ a d, l = a ++ [d] := ⟨l.dropLast, l.getLast hne, (List.dropLast_concat_getLast hne).symm⟩
  have h0 : d ≠ 0 := fun e => h.2 (by simp [e])
  rw [val_snoc]
  simp only [List.length_append, List.length_cons, List.length_nil, Nat.add_sub_cancel]
  have := Nat.le_mul_of_pos_right (1000000000 ^ a.length) (Nat.pos_of_ne_zero h0)
  omega
theorem Norm.zero {l : List Nat} (h : Norm l) : val l = 0 ↔ l = [] := by
  constructor
  · intro h0
    by_cases hne : l = []
    · exact hne
    · have := h.low hne
      have := pow_pos (l.length - 1)
      omega
  · rintro rfl
    rfl
theorem Norm.short {a b : List Nat} (ha : Norm a) (hb : Norm b) (h : a.length < b.length) : val a < val b := by
  have h1 := val_lt ha.1
  have hne : b ≠ [] := by rintro rfl; simp at h
  have h2 := hb.low hne
  have h3 : 1000000000 ^ a.length ≤ 1000000000 ^ (b.length - 1) := Nat.pow_le_pow_right (by omega) (by omega)
  omega
theorem val_less {a b : List Nat} (ha : Dig a) (k : Nat) (hka : k < a.length) (hkb : k < b.length) (hup : a.drop (k + 1) = b.drop (k + 1)) (h : a[k] < b[k]) : val a < val b := by
  rw [val_at a k hka, val_at b k hkb, hup]
  have h1 := val_lt (ha.take k)
  rw [List.length_take, Nat.min_eq_left (by omega)] at h1
  have h2 : 1000000000 ^ k * (a[k] + 1000000000 * val (b.drop (k + 1))) + 1000000000 ^ k ≤ 1000000000 ^ k * (b[k] + 1000000000 * val (b.drop (k + 1))) := by
    rw [← Nat.mul_succ]
    exact Nat.mul_le_mul_left _ (by omega)
  omega
theorem Norm.inj : ∀ {a b : List Nat}, Norm a → Norm b → val a = val b → a = b
  | [], b, _, hb, h => ((hb.zero).1 h.symm).symm
  | a, [], ha, _, h => (ha.zero).1 h
  | d :: a, e :: b, ha, hb, h => by
    have h1 := ha.1.head
    have h2 := hb.1.head
    simp only [val] at h
    have hd : d = e := by omega
    have hv : val a = val b := by omega
    have na : Norm a := ⟨ha.1.tail, fun hl => ha.2 (by rw [List.getLast?_cons, hl]; rfl)⟩
    have nb : Norm b := ⟨hb.1.tail, fun hl => hb.2 (by rw [List.getLast?_cons, hl]; rfl)⟩
    rw [hd, Norm.inj na nb hv]
theorem drop_nought {l : List Nat} (k : Nat) (hk : k < l.length) (h : k + 1 = l.length) (h0 : l[k] = 0) : val (l.take k) = val l := by
  rw [val_at l k hk, h0, List.drop_eq_nil_of_le (by omega)]
  simp [val]
def dg (l : List Nat) (k : Nat) : Nat := l.getD k 0
theorem dg_get {l : List Nat} {k : Nat} (h : k < l.length) : dg l k = l[k] := by simp [dg, h]
theorem dg_out {l : List Nat} {k : Nat} (h : l.length ≤ k) : dg l k = 0 := by simp [dg, h]
theorem dg_lt {l : List Nat} (h : Dig l) (k : Nat) : dg l k < 1000000000 := by
  by_cases hk : k < l.length
  · rw [dg_get hk]; exact h.get k hk
  · rw [dg_out (by omega)]; omega
theorem dg_take {l : List Nat} {k n : Nat} (h : k < n) : dg (l.take n) k = dg l k := by simp [dg, h]
theorem dg_ext {a b : List Nat} (hl : a.length = b.length) (h : ∀ k, k < a.length → dg a k = dg b k) : a = b := by
  apply List.ext_getElem hl
  intro k h1 h2
  have := h k h1
  rwa [dg_get h1, dg_get h2] at this
theorem dg_map {l : List Nat} {k : Nat} (h : k < l.length) {α : Type} (f : Nat → α) : (l.map f)[k]? = some (f (dg l k)) := by simp [dg, h]
theorem val_dg (l : List Nat) (k : Nat) (hk : k < l.length) : val l = val (l.take k) + 1000000000 ^ k * (dg l k + 1000000000 * val (l.drop (k + 1))) := by rw [dg_get hk]; exact val_at l k hk
theorem take_dg (l : List Nat) (k : Nat) (hk : k < l.length) : l.take (k + 1) = l.take k ++ [dg l k] := by rw [dg_get hk, List.take_succ_eq_append_getElem hk]
theorem drop_dg (l : List Nat) (k : Nat) (hk : k < l.length) : l.drop k = dg l k :: l.drop (k + 1) := by rw [dg_get hk, List.drop_eq_getElem_cons hk]
theorem norm_top {l : List Nat} (h : Norm l) (hl : 0 < l.length) : dg l (l.length - 1) ≠ 0 := fun h0 => h.2 (by
  rw [List.getLast?_eq_getElem?, List.getElem?_eq_getElem (by omega), ← dg_get (by omega), h0])
theorem norm_of_top {l : List Nat} (h : Dig l) (ht : 0 < l.length → dg l (l.length - 1) ≠ 0) : Norm l := ⟨h, fun hl => by
  by_cases hn : 0 < l.length
  · rw [List.getLast?_eq_getElem?, List.getElem?_eq_getElem (by omega), ← dg_get (by omega)] at hl
    exact ht hn (by simpa using hl)
  · obtain rfl := List.eq_nil_of_length_eq_zero (show l.length = 0 by omega)
    simp at hl⟩
theorem drop_nought' {l : List Nat} (N : Nat) (h : l.length = N) (hN : 1 ≤ N) (h0 : dg l (N - 1) = 0) : val (l.take (N - 1)) = val l :=
  drop_nought (N - 1) (by omega) (by omega) (by rw [← dg_get (by omega)]; exact h0)
theorem val_take_succ (l : List Nat) (k : Nat) : val (l.take (k + 1)) = val (l.take k) + 1000000000 ^ k * dg l k := by
  by_cases h : k < l.length
  · rw [take_dg l k h, val_snoc, List.length_take, Nat.min_eq_left (by omega)]
  · rw [dg_out (by omega), List.take_of_length_le (by omega), List.take_of_length_le (by omega)]
    omega
theorem norm_of_low {l : List Nat} (h : Dig l) (hv : 1000000000 ^ (l.length - 1) ≤ val l) : Norm l := norm_of_top h fun hl h0 => by
  have h1 := drop_nought' l.length rfl hl h0
  have h2 := val_lt (h.take (l.length - 1))
  rw [List.length_take, Nat.min_eq_left (by omega)] at h2
  omega
theorem add_step {a b l : List Nat} {k c : Nat} (hl : l.length = k) (h : val l + 1000000000 ^ k * c = val (a.take k) + val (b.take k)) :
    val (l ++ [(c + dg a k + dg b k) % 1000000000]) + 1000000000 ^ (k + 1) * ((c + dg a k + dg b k) / 1000000000) = val (a.take (k + 1)) + val (b.take (k + 1)) := by
  rw [val_snoc, hl, val_take_succ, val_take_succ, Nat.pow_succ]
  have hm : 1000000000 ^ k * (c + dg a k + dg b k) = 1000000000 ^ k * ((c + dg a k + dg b k) % 1000000000) + 1000000000 ^ k * 1000000000 * ((c + dg a k + dg b k) / 1000000000) := by
    rw [Nat.mul_assoc, ← Nat.mul_add, Nat.mod_add_div]
  rw [Nat.mul_add, Nat.mul_add] at hm
  omega
theorem dg_set_same {l : List Nat} {j d : Nat} (h : j < l.length) : dg (l.set j d) j = d := by simp [dg, h]
theorem dg_set_other {l : List Nat} {j k d : Nat} (h : j ≠ k) : dg (l.set j d) k = dg l k := by simp [dg, h]
theorem Dig.set {l : List Nat} {j d : Nat} (h : Dig l) (hd : d < 1000000000) : Dig (l.set j d) := fun x hx => by
  rcases List.mem_or_eq_of_mem_set hx with h1 | h1
  · exact h x h1
  · rw [h1]; exact hd
theorem val_set {l : List Nat} {j d : Nat} (h : j < l.length) : val (l.set j d) + 1000000000 ^ j * dg l j = val l + 1000000000 ^ j * d := by
  have h1 := val_dg l j h
  have h2 := val_dg (l.set j d) j (by simpa using h)
  rw [dg_set_same h] at h2
  have e1 : (l.set j d).take j = l.take j := by rw [List.take_set, List.set_eq_of_length_le (by rw [List.length_take]; omega)]
  have e2 : (l.set j d).drop (j + 1) = l.drop (j + 1) := by rw [List.drop_set_of_lt (by omega)]
  rw [e1, e2] at h2
  rw [Nat.mul_add] at h1 h2
  omega
theorem val_zeros (n : Nat) : val (List.replicate n 0) = 0 := by
  induction n with
  | zero => rfl
  | succ n ih => simp [List.replicate_succ, val, ih]
theorem dig_zeros (n : Nat) : Dig (List.replicate n 0) := fun x hx => by rw [(List.mem_replicate.1 hx).2]; omega
theorem dg_zeros (n k : Nat) : dg (List.replicate n 0) k = 0 := by
  unfold dg
  rw [List.getD_eq_getElem?_getD, List.getElem?_replicate]
  split <;> rfl
theorem mul_step {o b : List Nat} {i k c ai V : Nat} (hj : i + k < o.length) (h : val o + 1000000000 ^ (i + k) * c = V + 1000000000 ^ i * (ai * val (b.take k))) :
    val (o.set (i + k) ((dg o (i + k) + c + ai * dg b k) % 1000000000)) + 1000000000 ^ (i + (k + 1)) * ((dg o (i + k) + c + ai * dg b k) / 1000000000) = V + 1000000000 ^ i * (ai * val (b.take (k + 1))) := by
  have h1 := val_set (d := (dg o (i + k) + c + ai * dg b k) % 1000000000) hj
  have h2 : 1000000000 ^ (i + k) * (dg o (i + k) + c + ai * dg b k) = 1000000000 ^ (i + k) * ((dg o (i + k) + c + ai * dg b k) % 1000000000) + 1000000000 ^ (i + (k + 1)) * ((dg o (i + k) + c + ai * dg b k) / 1000000000) := by
    rw [show i + (k + 1) = i + k + 1 by omega, Nat.pow_succ, Nat.mul_assoc, ← Nat.mul_add, Nat.mod_add_div]
  have h3 : 1000000000 ^ i * (ai * val (b.take (k + 1))) = 1000000000 ^ i * (ai * val (b.take k)) + 1000000000 ^ (i + k) * (ai * dg b k) := by
    rw [val_take_succ, Nat.mul_add, Nat.mul_add, Nat.pow_add]
    congr 1
    rw [Nat.mul_left_comm ai, Nat.mul_assoc]
  rw [Nat.mul_add, Nat.mul_add] at h2
  omega
theorem sub_plain {o b : List Nat} {i X : Nat} (hi : i < o.length) (h : val o + val (b.take i) = X) (hle : dg b i ≤ dg o i) : val (o.set i (dg o i - dg b i)) + val (b.take (i + 1)) = X := by
  have h1 := val_set (d := dg o i - dg b i) hi
  rw [val_take_succ]
  have h2 : 1000000000 ^ i * dg o i = 1000000000 ^ i * (dg o i - dg b i) + 1000000000 ^ i * dg b i := by
    rw [← Nat.mul_add, Nat.sub_add_cancel hle]
  omega
theorem sub_borrow {o b : List Nat} {i V : Nat} (hi : i < o.length) (h : val o = V) (hb : dg b i < 1000000000) : val (o.set i (dg o i + (1000000000 - dg b i))) + 1000000000 ^ i * dg b i = V + 1000000000 ^ (i + 1) := by
  have h1 := val_set (d := dg o i + (1000000000 - dg b i)) hi
  have h2 : 1000000000 ^ i * (dg o i + (1000000000 - dg b i)) + 1000000000 ^ i * dg b i = 1000000000 ^ i * dg o i + 1000000000 ^ (i + 1) := by
    rw [← Nat.mul_add, Nat.pow_succ, ← Nat.mul_add]
    congr 1
    omega
  omega
theorem sub_nought {o : List Nat} {k V D : Nat} (hk : k < o.length) (h : val o + D = V + 1000000000 ^ k) (h0 : dg o k = 0) : val (o.set k 999999999) + D = V + 1000000000 ^ (k + 1) := by
  have h1 := val_set (d := 999999999) hk
  rw [h0, Nat.mul_zero] at h1
  rw [Nat.pow_succ]
  omega
theorem sub_last {o : List Nat} {k V D : Nat} (hk : k < o.length) (h : val o + D = V + 1000000000 ^ k) (h0 : dg o k ≠ 0) : val (o.set k (dg o k - 1)) + D = V := by
  have h1 := val_set (d := dg o k - 1) hk
  have h2 : 1000000000 ^ k * dg o k = 1000000000 ^ k * (dg o k - 1) + 1000000000 ^ k := by
    rw [← Nat.mul_succ]
    congr 1
    omega
  omega
theorem sub_within {o : List Nat} {k V D : Nat} (hd : Dig o) (h : val o + D = V + 1000000000 ^ k) (hV : D ≤ V) : k < o.length := by
  have h1 := val_lt hd
  by_cases hk : k < o.length
  · exact hk
  · have h2 : 1000000000 ^ o.length ≤ 1000000000 ^ k := Nat.pow_le_pow_right (by omega) (by omega)
    omega
def digs (x : Nat) : List Nat := if h : x = 0 then [] else x % 1000000000 :: digs (x / 1000000000)
termination_by x
decreasing_by omega
theorem digs_zero : digs 0 = [] := by rw [digs]; simp
theorem digs_pos {x : Nat} (h : x ≠ 0) : digs x = x % 1000000000 :: digs (x / 1000000000) := by rw [digs]; simp [h]
theorem val_digs (x : Nat) : val (digs x) = x := by
  induction x using Nat.strongRecOn with
  | _ x ih =>
    by_cases h : x = 0
    · subst h; rw [digs_zero]; rfl
    · rw [digs_pos h, val, ih (x / 1000000000) (by omega)]
      omega
theorem norm_digs (x : Nat) : Norm (digs x) := by
  induction x using Nat.strongRecOn with
  | _ x ih =>
    by_cases h : x = 0
    · subst h; rw [digs_zero]; exact Norm.nil
    · rw [digs_pos h]
      obtain ⟨h1, h2⟩ := ih (x / 1000000000) (by omega)
      refine ⟨Dig.cons (Nat.mod_lt _ (by omega)) h1, ?_⟩
      by_cases hq : x / 1000000000 = 0
      · rw [hq, digs_zero]
        simp
        omega
      · rw [List.getLast?_cons]
        rw [digs_pos hq] at h2 ⊢
        rw [List.getLast?_cons] at h2
        rw [List.getLast?_cons]
        simpa using h2
theorem Norm.eq_digs {l : List Nat} (h : Norm l) : l = digs (val l) := h.inj (norm_digs _) (val_digs _).symm
end Go.Proofs.YtfpooimjjpamoaaGreatDoor.ref
