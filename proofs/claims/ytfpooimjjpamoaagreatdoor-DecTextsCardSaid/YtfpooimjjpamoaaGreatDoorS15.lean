/-
  The steps of the walks, part 15: IntA, Nums, TextN, Digits, Scale.
-/
import Derived.Lib.ItoaNum
import Derived.Test.YtfpooimjjpamoaaGreatDoorS14
import Derived.Test.YtfpooimjjpamoaaGreatDoorS04
namespace Go.Proofs.YtfpooimjjpamoaaGreatDoor.num
open Go.RowKit Go.Proofs.YtfpooimjjpamoaaGreatDoor.nat
set_option maxRecDepth 100000 in
theorem Neg_any (v : Value) (z : Int) (w : World) (h : IsZ w v z) :
    Calls Tryz.prog 65 #[v] w fun e w' => ∃ u, e = .returned u ∧ (IsZ w' u (-z) ∧ u ≠ .pointer none) ∧ Below w.heap.size w w' := by
  have B := Lib.hid (isBelow_any v z w h)
  have A := Lib.hid (amount_any v z w h)
  have N := Lib.hid (fun nv hn => New_any (!decide (z < 0)) nv z.natAbs w hn)
  rw [sgn_neg] at N
  clear h
  generalize decide (z < 0) = b at *
  go_enter Tryz.func65, Tryz.ntmps65
  go_wp2_with (first
    | (go_at_call 123; with_reducible refine (B.out).mono ?_; rintro e w1 ⟨rfl, rfl⟩; clear B)
    | (go_at_call 122; with_reducible refine (A.out).mono ?_; rintro e w1 ⟨nv, rfl, hn, rfl⟩; have HN := Lib.hid hn; clear A hn)
    | (go_at_call 97; refine (N.out _ HN.out).mono ?_; rintro e w2 ⟨u, rfl, hu, hb⟩; have HU := Lib.hid hu; have HB := Lib.hid hb; clear N hu hb))
  go_ret
  exact ⟨_, rfl, HU.out, HB.out⟩
def sg (z : Int) : Int := cmp3 z 0
set_option maxRecDepth 100000 in
theorem Sign_any (v : Value) (z : Int) (w : World) (h : IsZ w v z) :
    Calls Tryz.prog 67 #[v] w fun e w' => e = .returned (.int .i64 (sg z)) ∧ w = w' := by
  have B := isBelow_any v z w h
  have A := Lib.hid (amount_any v z w h)
  have N := fun nv hn => Zero_any nv z.natAbs w hn
  clear h
  unfold sg cmp3
  rcases (show z < 0 ∨ z = 0 ∨ 0 < z by omega) with h | h | h
  · rw [if_pos h]
    rw [decide_eq_true h] at B
    clear A N
    have B := Lib.hid B
    go_enter Tryz.func67, Tryz.ntmps67
    go_wp2_with (go_at_call 123; with_reducible refine (B.out).mono ?_; rintro e w1 ⟨rfl, rfl⟩; clear B)
    go_ret
    exact ⟨rfl, rfl⟩
  · rw [if_neg (by omega), if_neg (by omega)]
    rw [decide_eq_false (by omega)] at B
    rw [decide_eq_true (by omega : z.natAbs = 0)] at N
    have B := Lib.hid B
    have N := Lib.hid N
    go_enter Tryz.func67, Tryz.ntmps67
    go_wp2_with (first
      | (go_at_call 123; with_reducible refine (B.out).mono ?_; rintro e w1 ⟨rfl, rfl⟩; clear B)
      | (go_at_call 122; with_reducible refine (A.out).mono ?_; rintro e w1 ⟨nv, rfl, hn, rfl⟩; have HN := Lib.hid hn; clear A hn)
      | (go_at_call 42; with_reducible refine (N.out _ HN.out).mono ?_; rintro e w1 ⟨rfl, rfl⟩; clear N))
    go_ret
    exact ⟨rfl, rfl⟩
  · rw [if_neg (by omega), if_pos h]
    rw [decide_eq_false (by omega)] at B
    rw [decide_eq_false (by omega : ¬ z.natAbs = 0)] at N
    have B := Lib.hid B
    have N := Lib.hid N
    go_enter Tryz.func67, Tryz.ntmps67
    go_wp2_with (first
      | (go_at_call 123; with_reducible refine (B.out).mono ?_; rintro e w1 ⟨rfl, rfl⟩; clear B)
      | (go_at_call 122; with_reducible refine (A.out).mono ?_; rintro e w1 ⟨nv, rfl, hn, rfl⟩; have HN := Lib.hid hn; clear A hn)
      | (go_at_call 42; with_reducible refine (N.out _ HN.out).mono ?_; rintro e w1 ⟨rfl, rfl⟩; clear N))
    go_ret
    exact ⟨rfl, rfl⟩
set_option maxRecDepth 100000 in
theorem Abs_any (v : Value) (z : Int) (w : World) (h : IsZ w v z) :
    Calls Tryz.prog 66 #[v] w fun e w' => ∃ u, e = .returned u ∧ (IsN w' u z.natAbs ∧ u ≠ .pointer none) ∧ Below w.heap.size w w' := by
  rcases h with ⟨rfl, rfl⟩ | ⟨b, o, neg, sv, X, rfl, h2, h3, h4, h5, h6⟩
  · have O := Lib.hid (Of_any 0 w (by omega))
    go_enter Tryz.func66, Tryz.ntmps66
    go_wp2_with (go_at_call 46; refine (O.out).mono ?_; rintro e w2 ⟨u, rfl, hu, hb⟩; have HU := Lib.hid hu; have HB := Lib.hid hb; clear O hu hb)
    go_ret
    exact ⟨_, rfl, HU.out, HB.out⟩
  · have hz : z.natAbs = X := by subst h5; unfold sgn; split <;> omega
    rw [hz]
    have hb : Below w.heap.size w (w.alloc (.cells #[sv] 131)) := (Below.refl _ _).alloc (Nat.le_refl _) _
    have HZ := Lib.hid (show IsN (w.alloc (.cells #[sv] 131)) (.pointer (some ⟨w.heap.size, 0, none⟩)) X from Or.inr ⟨_, 0, sv, rfl, cell_of_row _ w.heap.size 0 #[sv] _ (0, 0) (heap_alloc_new w _), h4.below hb⟩)
    have HB := Lib.hid hb
    obtain ⟨ao, cap, rfl, -⟩ := id h4
    clear h4 h5 h6 hz hb
    go_enter Tryz.func66, Tryz.ntmps66
    go_wp2
    go_ret
    exact ⟨_, rfl, ⟨HZ.out, by simp⟩, HB.out⟩
theorem sgn_mul (z y : Int) : sgn (decide (z < 0) != decide (y < 0)) (z.natAbs * y.natAbs) = z * y := by
  unfold sgn
  rw [Int.natCast_mul]
  rcases Int.lt_or_le z 0 with h | h <;> rcases Int.lt_or_le y 0 with k | k
  · rw [decide_eq_true h, decide_eq_true k, Int.ofNat_natAbs_of_nonpos (by omega), Int.ofNat_natAbs_of_nonpos (by omega)]
    simp [Int.neg_mul_neg]
  · rw [decide_eq_true h, decide_eq_false (by omega), Int.ofNat_natAbs_of_nonpos (by omega), Int.natAbs_of_nonneg (by omega)]
    simp [Int.neg_mul]
  · rw [decide_eq_false (by omega), decide_eq_true k, Int.natAbs_of_nonneg (by omega), Int.ofNat_natAbs_of_nonpos (by omega)]
    simp [Int.mul_neg]
  · rw [decide_eq_false (by omega), decide_eq_false (by omega), Int.natAbs_of_nonneg (by omega), Int.natAbs_of_nonneg (by omega)]
    simp
set_option maxRecDepth 100000 in
theorem Mul_any (a b : Value) (z y : Int) (w : World) (ha : IsZ w a z) (hb : IsZ w b y) (hx : (digs z.natAbs).length ≤ 900000) (hy : (digs y.natAbs).length ≤ 900000) :
    Calls Tryz.prog 54 #[a, b] w fun e w' => ∃ u, e = .returned u ∧ (IsZ w' u (z * y) ∧ u ≠ .pointer none) ∧ Below w.heap.size w w' := by
  have B1 := Lib.hid (isBelow_any a z w ha)
  have B2 := Lib.hid (isBelow_any b y w hb)
  have A1 := Lib.hid (amount_any a z w ha)
  have A2 := Lib.hid (amount_any b y w hb)
  have M := Lib.hid (fun na nb h1 h2 => nat.Mul_any na nb z.natAbs y.natAbs w h1 h2 (by omega) (by omega))
  have N := Lib.hid (fun (w' : World) nv hn => New_any (decide (z < 0) != decide (y < 0)) nv (z.natAbs * y.natAbs) w' hn)
  rw [sgn_mul] at N
  clear ha hb
  generalize decide (z < 0) = b1 at *
  generalize decide (y < 0) = b2 at *
  have hbn : (!(b1 == b2)) = (b1 != b2) := rfl
  go_enter Tryz.func54, Tryz.ntmps54
  go_wp2_with (first
    | (go_at_call 123; with_reducible refine (B1.out).mono ?_; rintro e w1 ⟨rfl, rfl⟩; clear B1)
    | (go_at_call 123; with_reducible refine (B2.out).mono ?_; rintro e w1 ⟨rfl, rfl⟩; clear B2)
    | (go_at_call 122; with_reducible refine (A1.out).mono ?_; rintro e w1 ⟨na, rfl, hn, rfl⟩; have HN1 := Lib.hid hn; clear A1 hn)
    | (go_at_call 122; with_reducible refine (A2.out).mono ?_; rintro e w1 ⟨nb, rfl, hn, rfl⟩; have HN2 := Lib.hid hn; clear A2 hn)
    | (go_at_call 37; with_reducible refine (M.out _ _ HN1.out HN2.out).mono ?_; rintro e w2 ⟨m, rfl, ⟨hm, -⟩, hb2⟩; have HM := Lib.hid hm; have HB2 := Lib.hid hb2; clear M hm hb2)
    | (go_at_call 97; refine (N.out _ _ HM.out).mono ?_; rintro e w3 ⟨u, rfl, hu, hb⟩; have HU := Lib.hid hu; have HB := Lib.hid (HB2.out.trans (hb.mono HB2.out.size)); clear N hu hb))
  go_ret
  exact ⟨_, rfl, HU.out, HB.out⟩
end Go.Proofs.YtfpooimjjpamoaaGreatDoor.num
namespace Go.Proofs.YtfpooimjjpamoaaGreatDoor.ref
def val : List Nat → Nat
  | [] => 0
  | d :: r => d + 1000000000 * val r
def Dig (l : List Nat) : Prop := ∀ d ∈ l, d < 1000000000
def Norm (l : List Nat) : Prop := Dig l ∧ l.getLast? ≠ some 0
theorem Dig.nil : Dig [] := fun _ h => by cases h
theorem Dig.cons {d : Nat} {l : List Nat} (h : d < 1000000000) (hl : Dig l) : Dig (d :: l) := fun x hx => by
  rcases List.mem_cons.1 hx with rfl | hx
  · exact h
  · exact hl x hx
theorem Dig.tail {d : Nat} {l : List Nat} (h : Dig (d :: l)) : Dig l := fun x hx => h x (List.mem_cons_of_mem _ hx)
theorem Dig.head {d : Nat} {l : List Nat} (h : Dig (d :: l)) : d < 1000000000 := h d (List.mem_cons_self)
theorem Dig.append {a b : List Nat} (ha : Dig a) (hb : Dig b) : Dig (a ++ b) := fun x hx => by
  rcases List.mem_append.1 hx with h | h
  · exact ha x h
  · exact hb x h
theorem Dig.take {l : List Nat} (h : Dig l) (k : Nat) : Dig (l.take k) := fun x hx => h x (List.mem_of_mem_take hx)
theorem Dig.drop {l : List Nat} (h : Dig l) (k : Nat) : Dig (l.drop k) := fun x hx => h x (List.mem_of_mem_drop hx)
theorem Dig.get {l : List Nat} (h : Dig l) (k : Nat) (hk : k < l.length) : l[k] < 1000000000 := h _ (List.getElem_mem hk)
theorem val_append (a b : List Nat) : val (a ++ b) = val a + 1000000000 ^ a.length * val b := by
  induction a with
  | nil => simp [val]
  | cons d a ih =>
    simp only [List.cons_append, val, List.length_cons, ih, Nat.pow_succ]
    rw [Nat.mul_add, Nat.mul_comm (1000000000 ^ a.length) 1000000000, Nat.mul_assoc, Nat.add_assoc]
theorem val_lt {l : List Nat} (h : Dig l) : val l < 1000000000 ^ l.length := by
  induction l with
  | nil => simp [val]
  | cons d l ih =>
    have h1 := ih h.tail
    have h2 := h.head
    simp only [val, List.length_cons, Nat.pow_succ]
    omega
theorem val_at (l : List Nat) (k : Nat) (hk : k < l.length) : val l = val (l.take k) + 1000000000 ^ k * (l[k] + 1000000000 * val (l.drop (k + 1))) := by
  have h : l = l.take k ++ (l[k] :: l.drop (k + 1)) := by
    rw [← List.drop_eq_getElem_cons hk, List.take_append_drop]
  have h2 := val_append (l.take k) (l[k] :: l.drop (k + 1))
  rw [← h, List.length_take, Nat.min_eq_left (by omega)] at h2
  exact h2
theorem val_snoc (l : List Nat) (d : Nat) : val (l ++ [d]) = val l + 1000000000 ^ l.length * d := by
  rw [val_append]
  simp [val]
theorem Norm.nil : Norm [] := ⟨Dig.nil, by simp⟩
theorem norm_snoc {l : List Nat} {d : Nat} (h : Dig l) (hd : d < 1000000000) (h0 : d ≠ 0) : Norm (l ++ [d]) :=
  ⟨h.append (Dig.cons hd Dig.nil), by simp [h0]⟩
theorem pow_pos (k : Nat) : 0 < 1000000000 ^ k := Nat.pow_pos (by omega)
theorem Norm.low {l : List Nat} (h : Norm l) (hne : l ≠ []) : 1000000000 ^ (l.length - 1) ≤ val l := by
  obtain ⟨a, d, rfl⟩ : ∃ a d, l = a ++ [d] := ⟨l.dropLast, l.getLast hne, (List.dropLast_concat_getLast hne).symm⟩
  have h0 : d ≠ 0 := fun e => h.2 (by simp [e])
  rw [val_snoc]
  simp only [List.length_append, List.length_cons, List.length_nil, Nat.add_sub_cancel]
  have := Nat.le_mul_of_pos_right (1000000000 ^ a.length) (Nat.pos_of_ne_zero h0)
  omega
theorem Norm.zero {l : List Nat} (h : Norm l) : val l = 0 ↔ l = [] := by
  constructor
  · intro h0
    by_cases hne : l = []
    · exact hne
    · have := h.low hne
      have := pow_pos (l.length - 1)
      omega
  · rintro rfl
    rfl
theorem Norm.short {a b : List Nat} (ha : Norm a) (hb : Norm b) (h : a.length < b.length) : val a < val b := by
  have h1 := val_lt ha.1
  have hne : b ≠ [] := by rintro rfl; simp at h
  have h2 := hb.low hne
  have h3 : 1000000000 ^ a.length ≤ 1000000000 ^ (b.length - 1) := Nat.pow_le_pow_right (by omega) (by omega)
  omega
theorem val_less {a b : List Nat} (ha : Dig a) (k : Nat) (hka : k < a.length) (hkb : k < b.length) (hup : a.drop (k + 1) = b.drop (k + 1)) (h : a[k] < b[k]) : val a < val b := by
  rw [val_at a k hka, val_at b k hkb, hup]
  have h1 := val_lt (ha.take k)
  rw [List.length_take, Nat.min_eq_left (by omega)] at h1
  have h2 : 1000000000 ^ k * (a[k] + 1000000000 * val (b.drop (k + 1))) + 1000000000 ^ k ≤ 1000000000 ^ k * (b[k] + 1000000000 * val (b.drop (k + 1))) := by
    rw [← Nat.mul_succ]
    exact Nat.mul_le_mul_left _ (by omega)
  omega
theorem Norm.inj : ∀ {a b : List Nat}, Norm a → Norm b → val a = val b → a = b
  | [], b, _, hb, h => ((hb.zero).1 h.symm).symm
  | a, [], ha, _, h => (ha.zero).1 h
  | d :: a, e :: b, ha, hb, h => by
    have h1 := ha.1.head
    have h2 := hb.1.head
    simp only [val] at h
    have hd : d = e := by omega
    have hv : val a = val b := by omega
    have na : Norm a := ⟨ha.1.tail, fun hl => ha.2 (by rw [List.getLast?_cons, hl]; rfl)⟩
    have nb : Norm b := ⟨hb.1.tail, fun hl => hb.2 (by rw [List.getLast?_cons, hl]; rfl)⟩
    rw [hd, Norm.inj na nb hv]
theorem drop_nought {l : List Nat} (k : Nat) (hk : k < l.length) (h : k + 1 = l.length) (h0 : l[k] = 0) : val (l.take k) = val l := by
  rw [val_at l k hk, h0, List.drop_eq_nil_of_le (by omega)]
  simp [val]
def dg (l : List Nat) (k : Nat) : Nat := l.getD k 0
theorem dg_get {l : List Nat} {k : Nat} (h : k < l.length) : dg l k = l[k] := by simp [dg, h]
theorem dg_out {l : List Nat} {k : Nat} (h : l.length ≤ k) : dg l k = 0 := by simp [dg, h]
theorem dg_lt {l : List Nat} (h : Dig l) (k : Nat) : dg l k < 1000000000 := by
  by_cases hk : k < l.length
  · rw [dg_get hk]; exact h.get k hk
  · rw [dg_out (by omega)]; omega
theorem dg_take {l : List Nat} {k n : Nat} (h : k < n) : dg (l.take n) k = dg l k := by simp [dg, h]
theorem dg_ext {a b : List Nat} (hl : a.length = b.length) (h : ∀ k, k < a.length → dg a k = dg b k) : a = b := by
  apply List.ext_getElem hl
  intro k h1 h2
  have := h k h1
  rwa [dg_get h1, dg_get h2] at this
theorem dg_map {l : List Nat} {k : Nat} (h : k < l.length) {α : Type} (f : Nat → α) : (l.map f)[k]? = some (f (dg l k)) := by simp [dg, h]
theorem val_dg (l : List Nat) (k : Nat) (hk : k < l.length) : val l = val (l.take k) + 1000000000 ^ k * (dg l k + 1000000000 * val (l.drop (k + 1))) := by rw [dg_get hk]; exact val_at l k hk
theorem take_dg (l : List Nat) (k : Nat) (hk : k < l.length) : l.take (k + 1) = l.take k ++ [dg l k] := by rw [dg_get hk, List.take_succ_eq_append_getElem hk]
theorem drop_dg (l : List Nat) (k : Nat) (hk : k < l.length) : l.drop k = dg l k :: l.drop (k + 1) := by rw [dg_get hk, List.drop_eq_getElem_cons hk]
theorem norm_top {l : List Nat} (h : Norm l) (hl : 0 < l.length) : dg l (l.length - 1) ≠ 0 := fun h0 => h.2 (by
  rw [List.getLast?_eq_getElem?, List.getElem?_eq_getElem (by omega), ← dg_get (by omega), h0])
theorem norm_of_top {l : List Nat} (h : Dig l) (ht : 0 < l.length → dg l (l.length - 1) ≠ 0) : Norm l := ⟨h, fun hl => by
  by_cases hn : 0 < l.length
  · rw [List.getLast?_eq_getElem?, List.getElem?_eq_getElem (by omega), ← dg_get (by omega)] at hl
    exact ht hn (by simpa using hl)
  · obtain rfl := List.eq_nil_of_length_eq_zero (show l.length = 0 by omega)
    simp at hl⟩
theorem drop_nought' {l : List Nat} (N : Nat) (h : l.length = N) (hN : 1 ≤ N) (h0 : dg l (N - 1) = 0) : val (l.take (N - 1)) = val l :=
  drop_nought (N - 1) (by omega) (by omega) (by rw [← dg_get (by omega)]; exact h0)
theorem val_take_succ (l : List Nat) (k : Nat) : val (l.take (k + 1)) = val (l.take k) + 1000000000 ^ k * dg l k := by
  by_cases h : k < l.length
  · rw [take_dg l k h, val_snoc, List.length_take, Nat.min_eq_left (by omega)]
  · rw [dg_out (by omega), List.take_of_length_le (by omega), List.take_of_length_le (by omega)]
    omega
theorem norm_of_low {l : List Nat} (h : Dig l) (hv : 1000000000 ^ (l.length - 1) ≤ val l) : Norm l := norm_of_top h fun hl h0 => by
  have h1 := drop_nought' l.length rfl hl h0
  have h2 := val_lt (h.take (l.length - 1))
  rw [List.length_take, Nat.min_eq_left (by omega)] at h2
  omega
theorem add_step {a b l : List Nat} {k c : Nat} (hl : l.length = k) (h : val l + 1000000000 ^ k * c = val (a.take k) + val (b.take k)) :
    val (l ++ [(c + dg a k + dg b k) % 1000000000]) + 1000000000 ^ (k + 1) * ((c + dg a k + dg b k) / 1000000000) = val (a.take (k + 1)) + val (b.take (k + 1)) := by
  rw [val_snoc, hl, val_take_succ, val_take_succ, Nat.pow_succ]
  have hm : 1000000000 ^ k * (c + dg a k + dg b k) = 1000000000 ^ k * ((c + dg a k + dg b k) % 1000000000) + 1000000000 ^ k * 1000000000 * ((c + dg a k + dg b k) / 1000000000) := by
    rw [Nat.mul_assoc, ← Nat.mul_add, Nat.mod_add_div]
  rw [Nat.mul_add, Nat.mul_add] at hm
  omega
theorem dg_set_same {l : List Nat} {j d : Nat} (h : j < l.length) : dg (l.set j d) j = d := by simp [dg, h]
theorem dg_set_other {l : List Nat} {j k d : Nat} (h : j ≠ k) : dg (l.set j d) k = dg l k := by simp [dg, h]
theorem Dig.set {l : List Nat} {j d : Nat} (h : Dig l) (hd : d < 1000000000) : Dig (l.set j d) := fun x hx => by
  rcases List.mem_or_eq_of_mem_set hx with h1 | h1
  · exact h x h1
  · rw [h1]; exact hd
theorem val_set {l : List Nat} {j d : Nat} (h : j < l.length) : val (l.set j d) + 1000000000 ^ j * dg l j = val l + 1000000000 ^ j * d := by
  have h1 := val_dg l j h
  have h2 := val_dg (l.set j d) j (by simpa using h)
  rw [dg_set_same h] at h2
  have e1 : (l.set j d).take j = l.take j := by rw [List.take_set, List.set_eq_of_length_le (by rw [List.length_take]; omega)]
  have e2 : (l.set j d).drop (j + 1) = l.drop (j + 1) := by rw [List.drop_set_of_lt (by omega)]
  rw [e1, e2] at h2
  rw [Nat.mul_add] at h1 h2
  omega
theorem val_zeros (n : Nat) : val (List.replicate n 0) = 0 := by
  induction n with
  | zero => rfl
  | succ n ih => simp [List.replicate_succ, val, ih]
theorem dig_zeros (n : Nat) : Dig (List.replicate n 0) := fun x hx => by rw [(List.mem_replicate.1 hx).2]; omega
theorem dg_zeros (n k : Nat) : dg (List.replicate n 0) k = 0 := by
  unfold dg
  rw [List.getD_eq_getElem?_getD, List.getElem?_replicate]
  split <;> rfl
theorem mul_step {o b : List Nat} {i k c ai V : Nat} (hj : i + k < o.length) (h : val o + 1000000000 ^ (i + k) * c = V + 1000000000 ^ i * (ai * val (b.take k))) :
    val (o.set (i + k) ((dg o (i + k) + c + ai * dg b k) % 1000000000)) + 1000000000 ^ (i + (k + 1)) * ((dg o (i + k) + c + ai * dg b k) / 1000000000) = V + 1000000000 ^ i * (ai * val (b.take (k + 1))) := by
  have h1 := val_set (d := (dg o (i + k) + c + ai * dg b k) % 1000000000) hj
  have h2 : 1000000000 ^ (i + k) * (dg o (i + k) + c + ai * dg b k) = 1000000000 ^ (i + k) * ((dg o (i + k) + c + ai * dg b k) % 1000000000) + 1000000000 ^ (i + (k + 1)) * ((dg o (i + k) + c + ai * dg b k) / 1000000000) := by
    rw [show i + (k + 1) = i + k + 1 by omega, Nat.pow_succ, Nat.mul_assoc, ← Nat.mul_add, Nat.mod_add_div]
  have h3 : 1000000000 ^ i * (ai * val (b.take (k + 1))) = 1000000000 ^ i * (ai * val (b.take k)) + 1000000000 ^ (i + k) * (ai * dg b k) := by
    rw [val_take_succ, Nat.mul_add, Nat.mul_add, Nat.pow_add]
    congr 1
    rw [Nat.mul_left_comm ai, Nat.mul_assoc]
  rw [Nat.mul_add, Nat.mul_add] at h2
  omega
theorem sub_plain {o b : List Nat} {i X : Nat} (hi : i < o.length) (h : val o + val (b.take i) = X) (hle : dg b i ≤ dg o i) : val (o.set i (dg o i - dg b i)) + val (b.take (i + 1)) = X := by
  have h1 := val_set (d := dg o i - dg b i) hi
  rw [val_take_succ]
  have h2 : 1000000000 ^ i * dg o i = 1000000000 ^ i * (dg o i - dg b i) + 1000000000 ^ i * dg b i := by
    rw [← Nat.mul_add, Nat.sub_add_cancel hle]
  omega
theorem sub_borrow {o b : List Nat} {i V : Nat} (hi : i < o.length) (h : val o = V) (hb : dg b i < 1000000000) : val (o.set i (dg o i + (1000000000 - dg b i))) + 1000000000 ^ i * dg b i = V + 1000000000 ^ (i + 1) := by
  have h1 := val_set (d := dg o i + (1000000000 - dg b i)) hi
  have h2 : 1000000000 ^ i * (dg o i + (1000000000 - dg b i)) + 1000000000 ^ i * dg b i = 1000000000 ^ i * dg o i + 1000000000 ^ (i + 1) := by
    rw [← Nat.mul_add, Nat.pow_succ, ← Nat.mul_add]
    congr 1
    omega
  omega
theorem sub_nought {o : List Nat} {k V D : Nat} (hk : k < o.length) (h : val o + D = V + 1000000000 ^ k) (h0 : dg o k = 0) : val (o.set k 999999999) + D = V + 1000000000 ^ (k + 1) := by
  have h1 := val_set (d := 999999999) hk
  rw [h0, Nat.mul_zero] at h1
  rw [Nat.pow_succ]
  omega
theorem sub_last {o : List Nat} {k V D : Nat} (hk : k < o.length) (h : val o + D = V + 1000000000 ^ k) (h0 : dg o k ≠ 0) : val (o.set k (dg o k - 1)) + D = V := by
  have h1 := val_set (d := dg o k - 1) hk
  have h2 : 1000000000 ^ k * dg o k = 1000000000 ^ k * (dg o k - 1) + 1000000000 ^ k := by
    rw [← Nat.mul_succ]
    congr 1
    omega
  omega
theorem sub_within {o : List Nat} {k V D : Nat} (hd : Dig o) (h : val o + D = V + 1000000000 ^ k) (hV : D ≤ V) : k < o.length := by
  have h1 := val_lt hd
  by_cases hk : k < o.length
  · exact hk
  · have h2 : 1000000000 ^ o.length ≤ 1000000000 ^ k := Nat.pow_le_pow_right (by omega) (by omega)
    omega
def digs (x : Nat) : List Nat := if h : x = 0 then [] else x % 1000000000 :: digs (x / 1000000000)
termination_by x
decreasing_by omega
theorem digs_zero : digs 0 = [] := by rw [digs]; simp
theorem digs_pos {x : Nat} (h : x ≠ 0) : digs x = x % 1000000000 :: digs (x / 1000000000) := by rw [digs]; simp [h]
theorem val_digs (x : Nat) : val (digs x) = x := by
  induction x using Nat.strongRecOn with
  | _ x ih =>
    by_cases h : x = 0
    · subst h; rw [digs_zero]; rfl
    · rw [digs_pos h, val, ih (x / 1000000000) (by omega)]
      omega
theorem norm_digs (x : Nat) : Norm (digs x) := by
  induction x using Nat.strongRecOn with
  | _ x ih =>
    by_cases h : x = 0
    · subst h; rw [digs_zero]; exact Norm.nil
    · rw [digs_pos h]
      obtain ⟨h1, h2⟩ := ih (x / 1000000000) (by omega)
      refine ⟨Dig.cons (Nat.mod_lt _ (by omega)) h1, ?_⟩
      by_cases hq : x / 1000000000 = 0
      · rw [hq, digs_zero]
        simp
        omega
      · rw [List.getLast?_cons]
        rw [digs_pos hq] at h2 ⊢
        rw [List.getLast?_cons] at h2
        rw [List.getLast?_cons]
        simpa using h2
theorem Norm.eq_digs {l : List Nat} (h : Norm l) : l = digs (val l) := h.inj (norm_digs _) (val_digs _).symm
end Go.Proofs.YtfpooimjjpamoaaGreatDoor.ref
namespace Go.Proofs.YtfpooimjjpamoaaGreatDoor.ref
def pad : Nat → Nat → List UInt8
  | 0, _ => []
  | k + 1, d => pad k (d / 10) ++ [UInt8.ofNat (48 + d % 10)]
theorem pad_length : ∀ k d : Nat, (pad k d).length = k
  | 0, _ => rfl
  | k + 1, d => by rw [pad, List.length_append, pad_length k]; rfl
theorem pad_cons : ∀ k d : Nat, pad (k + 1) d = UInt8.ofNat (48 + d / 10 ^ k % 10) :: pad k d
  | 0, d => by simp [pad]
  | k + 1, d => by
    rw [pad, pad_cons k (d / 10), Nat.div_div_eq_div_mul, show 10 * 10 ^ k = 10 ^ (k + 1) by rw [Nat.pow_succ, Nat.mul_comm], List.cons_append]
    rfl
theorem pad_append : ∀ (k m u v : Nat), u < 10 ^ k → pad (m + k) (u + 10 ^ k * v) = pad m v ++ pad k u
  | 0, m, u, v, h => by
    obtain rfl : u = 0 := by simpa using h
    simp [pad]
  | k + 1, m, u, v, h => by
    rw [Nat.pow_succ] at h
    have e : u + 10 ^ (k + 1) * v = u + 10 * (10 ^ k * v) := by rw [Nat.pow_succ, Nat.mul_comm (10 ^ k) 10, Nat.mul_assoc]
    rw [e, show m + (k + 1) = (m + k) + 1 by omega, pad, show (u + 10 * (10 ^ k * v)) / 10 = u / 10 + 10 ^ k * v by omega, pad_append k m (u / 10) v (by omega), show (u + 10 * (10 ^ k * v)) % 10 = u % 10 by omega, List.append_assoc]
    rfl
theorem pad_nought {m x : Nat} (h : x < 10 ^ m) : pad (m + 1) x = 48 :: pad m x := by
  rw [pad_cons, Nat.div_eq_of_lt h]
  rfl
theorem pad_dec : ∀ (m x : Nat), x < 10 ^ (m + 1) → (m = 0 ∨ 10 ^ m ≤ x) → pad (m + 1) x = Lib.decDigits x
  | 0, x, h, _ => by
    rw [Lib.decDigits, dif_pos (by simpa using h), pad, pad, Nat.mod_eq_of_lt (by simpa using h)]
    rfl
  | m + 1, x, h, h2 => by
    have h3 : 10 ^ (m + 1) ≤ x := h2.resolve_left (by omega)
    have hp : 1 ≤ 10 ^ m := Nat.pow_pos (by omega)
    rw [Nat.pow_succ] at h h3
    rw [Lib.decDigits, dif_neg (by omega), pad, pad_dec m (x / 10) (by omega) (Or.inr (by omega))]
theorem pad_head {m x : Nat} (h : x < 10 ^ (m + 1)) (h2 : 10 ^ m ≤ x) : (UInt8.ofNat (48 + x / 10 ^ m % 10)).toNat ≠ 48 := by
  have h1 : 1 ≤ x / 10 ^ m := (Nat.le_div_iff_mul_le (Nat.pow_pos (by omega))).2 (by omega)
  have h3 : x / 10 ^ m < 10 := (Nat.div_lt_iff_lt_mul (Nat.pow_pos (by omega))).2 (by rw [Nat.pow_succ] at h; omega)
  rw [UInt8.toNat_ofNat']
  omega
theorem pow_nine (i : Nat) : 1000000000 ^ i = 10 ^ (9 * i) := by
  rw [Nat.pow_mul]
def str (l : List UInt8) : ByteArray := ⟨l.toArray⟩
theorem str_append (a b : List UInt8) : str a ++ str b = str (a ++ b) := by
  apply ByteArray.ext
  simp [str]
theorem str_size (l : List UInt8) : (str l).size = l.length := rfl
theorem str_tail (c : UInt8) (l : List UInt8) : (str (c :: l)).extract 1 (str (c :: l)).size = str l := by
  apply ByteArray.ext
  simp [str, ByteArray.size]
def ch (l : List UInt8) (i : Nat) : Nat := (l.getD i 0).toNat
def seg (l : List UInt8) (st : Nat) : Nat → Nat
  | 0 => 0
  | m + 1 => seg l st m * 10 + (ch l (st + m) - 48)
def IsDig (l : List UInt8) (i : Nat) : Prop := 48 ≤ ch l i ∧ ch l i ≤ 57
def Numeral (l : List UInt8) : Prop := 1 ≤ l.length ∧ l.length ≤ 4000 ∧ (1 < l.length → ch l 0 ≠ 48) ∧ ∀ i, i < l.length → IsDig l i
theorem seg_lt {l : List UInt8} {st m : Nat} (h : ∀ i, st ≤ i → i < st + m → IsDig l i) : seg l st m < 10 ^ m := by
  induction m with
  | zero => simp [seg]
  | succ m ih =>
    have h1 := ih fun i h1 h2 => h i h1 (by omega)
    have h2 := h (st + m) (by omega) (by omega)
    unfold IsDig at h2
    rw [seg, Nat.pow_succ]
    omega
theorem seg_add (l : List UInt8) (st a : Nat) : ∀ b, seg l st (a + b) = seg l st a * 10 ^ b + seg l (st + a) b
  | 0 => by simp [seg]
  | b + 1 => by
    rw [← Nat.add_assoc, seg, seg, seg_add l st a b, Nat.pow_succ, Nat.add_mul, Nat.mul_assoc, show st + (a + b) = st + a + b by omega]
    omega
theorem take_pad {l : List UInt8} : ∀ m, m ≤ l.length → (∀ i, i < m → IsDig l i) → l.take m = pad m (seg l 0 m)
  | 0, _, _ => rfl
  | m + 1, hm, h => by
    have h2 := h m (by omega)
    unfold IsDig at h2
    have hc : ch l m = l[m].toNat := by simp [ch, show m < l.length by omega]
    rw [List.take_succ_eq_append_getElem (by omega), take_pad m (by omega) fun i hi => h i (by omega), seg, pad, Nat.zero_add, show (seg l 0 m * 10 + (ch l m - 48)) / 10 = seg l 0 m by omega,
      show 48 + (seg l 0 m * 10 + (ch l m - 48)) % 10 = ch l m by omega, hc, UInt8.ofNat_toNat]
theorem Numeral.dec {l : List UInt8} (h : Numeral l) : l = Lib.decDigits (seg l 0 l.length) := by
  obtain ⟨h1, _, h3, h4⟩ := h
  have h5 := take_pad l.length (Nat.le_refl _) h4
  rw [List.take_length] at h5
  have h6 := seg_lt (st := 0) (m := l.length) fun i _ hi => h4 i (by omega)
  obtain ⟨m, hm⟩ : ∃ m, l.length = m + 1 := ⟨l.length - 1, by omega⟩
  rw [hm] at h5 h6 ⊢
  rw [← pad_dec m _ h6 ?_]
  · exact h5
  · by_cases h0 : m = 0
    · exact Or.inl h0
    · right
      have h7 := seg_add l 0 1 m
      rw [Nat.add_comm 1 m] at h7
      have h8 := h4 0 (by omega)
      unfold IsDig at h8
      have h9 := h3 (by omega)
      have h10 : 1 ≤ seg l 0 1 := by simp [seg]; omega
      have h11 := Nat.mul_le_mul_right (10 ^ m) h10
      omega
end Go.Proofs.YtfpooimjjpamoaaGreatDoor.ref
namespace Go.Proofs.YtfpooimjjpamoaaGreatDoor.nat
open Go.RowKit
open Go.Proofs.YtfpooimjjpamoaaGreatDoor.ref (str str_size ch seg IsDig Numeral seg_lt)
theorem ch_get {l : List UInt8} {i : Nat} (h : i < (str l).size) : ((str l)[i]'h).toNat = ch l i := by
  have h2 : i < l.length := h
  simp [ch, h2, str]
  rfl
set_option maxRecDepth 100000 in
set_option maxHeartbeats 1000000 in
theorem value_any (l : List UInt8) (w : World) (hl : l.length ≤ 19) (hd : ∀ i, i < l.length → IsDig l i) :
    Calls Tryz.prog 120 #[.string (str l)] w fun e w' => e = .returned (.int .u64 (seg l 0 l.length : Nat)) ∧ w = w' := by
  have hz : (str l).size = l.length := str_size l
  have HG := Lib.hid (fun i (h : i < (str l).size) => ch_get (l := l) h)
  have HD := Lib.hid hd
  generalize str l = s at *
  generalize hn : l.length = n at *
  have HN := Lib.hid hn
  clear hn hd
  go_enter Tryz.func120, Tryz.ntmps120
  go_wp2
  go_loopw [3, 7] (fun nv iv wr => w = wr ∧ ∃ i : Nat, i ≤ n ∧ iv = .int .i64 i ∧ nv = .int .u64 (seg l 0 i : Nat)) (fun _ iv _ => n - (intOf iv).toNat)
  case atStart => exact ⟨rfl, 0, Nat.zero_le _, rfl, rfl⟩
  case round =>
    obtain ⟨rfl, i, hi, rfl, rfl⟩ := hrel
    by_cases hlt : i < n
    · have hv := seg_lt (l := l) (st := 0) (m := i) fun j _ hj => HD.out j (by omega)
      have hp : 10 ^ i ≤ 10 ^ 18 := Nat.pow_le_pow_right (by omega) (by omega)
      have hdi := HD.out i hlt
      unfold IsDig at hdi
      have hgk : ∀ h : i < s.size, (s[i]'h).toNat = ch l i := fun h => HG.out _ h
      have HS := Lib.hid (show seg l 0 (i + 1) = seg l 0 i * 10 + (ch l i - 48) by rw [seg, Nat.zero_add])
      have hv8 : (seg l 0 i : Int) < 1000000000000000000 := by omega
      generalize seg l 0 i = v at *
      generalize ch l i = c at *
      clear hv hp
      obtain ⟨hc1, hc2⟩ := hdi
      go_wp2
      refine ⟨?_, ?_⟩
      · refine ⟨trivial, i + 1, by omega, by go_num, ?_⟩
        rw [HS.out]
        go_num
      · simp [intOf]; omega
    · obtain rfl : i = n := by omega
      go_wp2
      go_ret
      exact ⟨rfl, rfl⟩
set_option maxRecDepth 100000 in
set_option maxHeartbeats 2000000 in
open Classical in
theorem isNumber_any (l : List UInt8) (w : World) (hl : l.length ≤ 4611686018427387904) :
    Calls Tryz.prog 118 #[.string (str l)] w fun e w' => e = .returned (.bool (decide (Numeral l))) ∧ w = w' := by
  have hz : (str l).size = l.length := str_size l
  have HG := Lib.hid (fun i (h : i < (str l).size) => ch_get (l := l) h)
  have HNo := Lib.hid (fun h : ¬ Numeral l => (decide_eq_false h : decide (Numeral l) = false))
  have HYes := Lib.hid (fun h : Numeral l => (decide_eq_true h : decide (Numeral l) = true))
  have HNum := Lib.hid (show Numeral l ↔ 1 ≤ l.length ∧ l.length ≤ 4000 ∧ (1 < l.length → ch l 0 ≠ 48) ∧ ∀ i, i < l.length → IsDig l i from Iff.rfl)
  generalize str l = s at *
  generalize decide (Numeral l) = b at *
  generalize hn : l.length = n at *
  clear hn
  by_cases h0 : n = 0
  · have hb := HNo.out fun h => by have := (HNum.out.1 h).1; omega
    subst hb
    go_enter Tryz.func118, Tryz.ntmps118
    go_wp2
    go_ret
    exact ⟨rfl, rfl⟩
  · by_cases h4 : 4000 < n
    · have hb := HNo.out fun h => by have := (HNum.out.1 h).2.1; omega
      subst hb
      go_enter Tryz.func118, Tryz.ntmps118
      go_wp2
      go_ret
      exact ⟨rfl, rfl⟩
    · have hc0 : ∀ h : 0 < s.size, (s[0]'h).toNat = ch l 0 := fun h => HG.out 0 h
      by_cases h48 : ch l 0 = 48 ∧ 1 < n
      · obtain ⟨h48, h1⟩ := h48
        have hb := HNo.out fun h => (HNum.out.1 h).2.2.1 h1 h48
        subst hb
        rw [h48] at hc0
        clear h48
        go_enter Tryz.func118, Tryz.ntmps118
        go_wp2
        go_ret
        exact ⟨rfl, rfl⟩
      · have HH := Lib.hid (show 1 < n → ch l 0 ≠ 48 from fun h1 h2 => h48 ⟨h2, h1⟩)
        have hcase : (ch l 0 = 48 ∧ n = 1) ∨ ch l 0 ≠ 48 := by omega
        generalize ch l 0 = c0 at *
        clear h48
        rcases hcase with ⟨rfl, hn1⟩ | h48
        case' neg.inr =>
          have hb1 : ¬ (c0 : Int) = 48 := by omega
          have hnb : ((n : Int) == 0) = false := by simp; omega
        all_goals
          go_enter Tryz.func118, Tryz.ntmps118
          go_wp2
          go_loopw [24] (fun iv wr => w = wr ∧ ∃ i : Nat, i ≤ n ∧ iv = .int .i64 i ∧ ∀ j, j < i → IsDig l j) (fun iv _ => n - (intOf iv).toNat)
          case atStart => exact ⟨rfl, 0, Nat.zero_le _, rfl, fun j hj => by omega⟩
          case round =>
            obtain ⟨rfl, i, hi, rfl, hdg⟩ := hrel
            have HDg := Lib.hid hdg
            clear hdg
            by_cases hlt : i < n
            · have hgk : ∀ h : i < s.size, (s[i]'h).toNat = ch l i := fun h => HG.out _ h
              have HB := Lib.hid (show b = true → IsDig l i from fun hb => by
                by_cases hN : Numeral l
                · exact (HNum.out.1 hN).2.2.2 i hlt
                · rw [HNo.out hN] at hb; cases hb)
              have HC := Lib.hid (show IsDig l i ↔ 48 ≤ ch l i ∧ ch l i ≤ 57 from Iff.rfl)
              generalize ch l i = c at *
              by_cases hc1 : c < 48
              · have hb : b = false := by
                  cases b with
                  | false => rfl
                  | true => have := HC.out.1 (HB.out rfl); omega
                subst hb
                go_wp2
                go_ret
                exact ⟨rfl, rfl⟩
              · by_cases hc2 : 57 < c
                · have hb : b = false := by
                    cases b with
                    | false => rfl
                    | true => have := HC.out.1 (HB.out rfl); omega
                  subst hb
                  go_wp2
                  go_ret
                  exact ⟨rfl, rfl⟩
                · go_wp2
                  refine ⟨⟨trivial, i + 1, by omega, by go_num, fun j hj => ?_⟩, ?_⟩
                  · by_cases h3 : j < i
                    · exact HDg.out j h3
                    · obtain rfl : j = i := by omega
                      exact HC.out.2 ⟨by omega, by omega⟩
                  · simp [intOf]; omega
            · obtain rfl : i = n := by omega
              have hb := HYes.out (HNum.out.2 ⟨by omega, by omega, HH.out, HDg.out⟩)
              subst hb
              go_wp2
              go_ret
              exact ⟨rfl, rfl⟩
end Go.Proofs.YtfpooimjjpamoaaGreatDoor.nat
namespace Go.Proofs.YtfpooimjjpamoaaGreatDoor.nat
open Go.RowKit
theorem sca_ex (d y a : Nat) (hd : d < 18446744073709551616) (hy : y + 1 < 18446744073709551616) (ha : a < 18446744073709551616) : ∃ h l s k : Nat,
    (∀ w, Calls Tryz.prog 163 #[.int .u64 (d : Int), .int .u64 ((y : Int) + 1)] w fun e w' => e = .returned (.tuple #[.int .u64 (h : Int), .int .u64 (l : Int)]) ∧ w' = w) ∧
    (∀ w, (callFunc 164 #[.int .u64 (l : Int), .int .u64 (a : Int), .int .u64 0]).run Tryz.prog w = .ok (.value (.tuple #[.int .u64 (s : Int), .int .u64 (k : Int)])) w) ∧
    s < 18446744073709551616 ∧ h + k < 18446744073709551616 ∧ s + 18446744073709551616 * (h + k) = d + d * y + a := by
  obtain ⟨h, l, b1, b2, e1, r1⟩ := mul64_ex d (y + 1) hd hy
  obtain ⟨s, k, b3, b4, e2, r2⟩ := add64_ex l a 0 b2 ha (by omega)
  have hp : d * (y + 1) ≤ 18446744073709551615 * 18446744073709551615 := Nat.mul_le_mul (by omega) (by omega)
  rw [Nat.mul_add, Nat.mul_one] at e1 hp
  exact ⟨h, l, s, k, r1, r2, b3, by omega, by omega⟩
def RowT (w : World) (g : Nat) (L : List Nat) (R : List Value) : Prop := w.heap[g]? = some (.cells ((L.map fun d => Value.int .u64 (d : Nat)) ++ R).toArray 45 (0, 0))
theorem RowT.row {w : World} {g : Nat} {L : List Nat} {R : List Value} (h : RowT w g L R) : Row w g L := ⟨R, h⟩
theorem RowT.set {w : World} {g : Nat} {L : List Nat} {R : List Value} (h : RowT w g L R) (k : Nat) (hk : k < L.length) (d : Nat) : RowT (w.setCell ⟨g, k, none⟩ (.int .u64 (d : Nat))) g (L.set k d) R := by
  unfold RowT at h ⊢
  rw [heap_setCell_same w g k _ _ _ h]
  congr 2
  rw [List.setIfInBounds_toArray, List.set_append_left _ _ (by simpa using hk), List.map_set]
def CRel (w : World) (g y more : Nat) (R : List Value) (Z : List Nat) (i a : Nat) (wr : World) : Prop :=
  ∃ Z', Z'.length = Z.length ∧ Dig Z' ∧ a < 18446744073709551616 ∧ RowT wr g Z' R ∧ w.grownBy wr (some g) ∧ val Z' + 18446744073709551616 ^ i * a = val Z + more + val (Z.take i) * y ∧ ∀ j, i ≤ j → dg Z' j = dg Z j
theorem CRel.next {w wr : World} {g y more : Nat} {R : List Value} {Z Z' : List Nat} {i a s k : Nat} (h0 : Z'.length = Z.length) (h1 : Dig Z') (h3 : RowT wr g Z' R) (h4 : w.grownBy wr (some g)) (h5 : val Z' + 18446744073709551616 ^ i * a = val Z + more + val (Z.take i) * y) (h6 : ∀ j, i ≤ j → dg Z' j = dg Z j)
    (hi : i < Z.length) (hs : s < 18446744073709551616) (hk : k < 18446744073709551616) (he : s + 18446744073709551616 * k = dg Z' i + dg Z' i * y + a) : CRel w g y more R Z (i + 1) k (wr.setCell ⟨g, i, none⟩ (.int .u64 (s : Nat))) :=
  ⟨Z'.set i s, by simpa using h0, h1.set hs, hk, h3.set _ (by omega) _, grown_trans h4 (grown_set _ _ _ _), by
    have e : dg Z' i = dg Z i := h6 i (Nat.le_refl _)
    rw [add_one (by omega) he h5, val_take_succ, Nat.add_mul, Nat.mul_assoc, e]; omega, fun j hj => by rw [dg_set_other (by omega)]; exact h6 j (by omega)⟩
set_option maxRecDepth 100000 in
set_option maxHeartbeats 1000000 in
theorem scale_own {B : Nat} (sv : Value) (z : List Nat) (y more : Nat) (w : World) (hO : w.ownsRow B 45 1 sv z.length (z.map fun d => Value.int .u64 (d : Nat))) (hdz : Dig z) (hy : y + 1 < 18446744073709551616) (hm : more < 18446744073709551616) (hn : z.length ≤ 4000000) :
    Calls Tryz.prog 119 #[sv, .int .u64 ((y : Int) + 1), .int .u64 (more : Nat)] w fun e w' => ∃ (z' : List Nat) (a : Nat), e = .returned (.int .u64 (a : Nat)) ∧ (z'.length = z.length ∧ Dig z' ∧ val z' + 18446744073709551616 ^ z.length * a = val z * (y + 1) + more ∧ a < 18446744073709551616 ∧ w'.ownsRow B 45 1 sv z'.length (z'.map fun d => Value.int .u64 (d : Nat))) ∧ w.grownBy w' sv.ownBlock := by
  have HO := Lib.hid hO
  rcases hO.2 with ⟨rfl, h0⟩ | ⟨g, cap, cur, rfl, hB, hh, hnc, hcm, hsz, htk⟩
  · obtain rfl := List.eq_nil_of_length_eq_zero h0
    clear hO hn h0
    go_enter Tryz.func119, Tryz.ntmps119
    go_wp2
    go_loopw [2, 14] (fun rv iv wr => iv = .int .i64 0 ∧ rv = .int .u64 (more : Nat) ∧ w = wr) (fun _ _ _ => 0)
    case atStart => exact ⟨rfl, rfl, rfl⟩
    case round =>
      obtain ⟨rfl, rfl, rfl⟩ := hrel
      go_wp2
      go_ret
      exact ⟨[], more, rfl, ⟨rfl, Dig.nil, by simp [val], hm, HO.out⟩, grown_refl _ _⟩
  · obtain ⟨n, hnl⟩ : ∃ n, z.length = n := ⟨_, rfl⟩
    have HN := Lib.hid hnl
    have hrow : RowT w g z (cur.toList.drop (z.length * 1)) := by
      unfold RowT
      rw [← htk, List.take_append_drop, Array.toArray_toList]
      exact hh
    have HR := Lib.hid (show n + (cur.toList.drop (z.length * 1)).length = cap by simp; omega)
    generalize cur.toList.drop (z.length * 1) = R at hrow HR
    have HS := Lib.hid (show CRel w g y more R z 0 more w from ⟨z, rfl, hdz, hm, hrow, grown_refl _ _, by simp [val], fun _ _ => rfl⟩)
    have hgl := hrow.row.lt
    unfold maxLen at hcm
    rw [hnl] at hnc hn ⊢
    clear hO hdz hrow hnl hh hsz htk cur
    go_enter Tryz.func119, Tryz.ntmps119
    go_wp2
    go_loopw [2, 14] (fun rv iv wr => ∃ i a : Nat, iv = .int .i64 i ∧ rv = .int .u64 a ∧ i ≤ n ∧ CRel w g y more R z i a wr) (fun _ iv _ => n - (intOf iv).toNat)
    case atStart => exact ⟨0, more, rfl, rfl, Nat.zero_le _, HS.out⟩
    case round =>
      obtain ⟨i, a, rfl, rfl, hi, hrel⟩ := hrel
      obtain ⟨Z', hl, hd, ha, hrow, hgr, hv, hup⟩ := hrel
      by_cases hlt : i < n
      · have c1 := hrow.row.cell i (by rw [hl, HN.out]; omega)
        have f1 := hrow.row.free i
        obtain ⟨h, l, s, k, r1, r2, hs, hk, he⟩ := sca_ex (dg Z' i) y a (dg_lt hd i) hy ha
        have HNX := Lib.hid (CRel.next hl hd hrow hgr hv hup (by rw [HN.out]; exact hlt) hs hk he)
        have R1 := Lib.hid r1
        generalize dg Z' i = d at c1 R1
        clear he hrow hgr hv hl hd HS r1 hup HO
        go_wp2_with (go_at_call 163; refine (R1.out _).mono ?_; rintro e w' ⟨rfl, rfl⟩)
        go_roundw
        case rel => exact ⟨i + 1, h + k, by go_num, by go_num, by omega, HNX.out⟩
        case measure => simp [intOf]; omega
      · obtain rfl : i = n := by omega
        have HV := Lib.hid hv
        clear hv HS hup
        go_wp2
        go_ret
        refine ⟨Z', a, rfl, ⟨by rw [hl, HN.out], hd, ?_, ha, ?_⟩, hgr⟩
        · have := HV.out
          rw [List.take_of_length_le (by rw [HN.out]; omega)] at this
          rw [this, Nat.mul_add]
          omega
        · have e : Z'.length = i := by rw [hl, HN.out]
          refine ⟨by simp, Or.inr ⟨g, cap, _, by rw [e], hB, hrow, by omega, by unfold maxLen; omega, ?_, ?_⟩⟩
          · have := HR.out
            simp
            omega
          · rw [Nat.mul_one]
            simp
end Go.Proofs.YtfpooimjjpamoaaGreatDoor.nat
