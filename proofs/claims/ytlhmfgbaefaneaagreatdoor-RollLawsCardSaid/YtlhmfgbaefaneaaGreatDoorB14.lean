/-
  The steps of the walks, part 14: Int, IntA, Digits, Scale, Get, Meth3, IntC, IntD, IntE, Bytes.
-/
import Derived.Laws.MakeOwn
import Derived.Test.YtlhmfgbaefaneaaGreatDoorB13
import Derived.Test.YtlhmfgbaefaneaaGreatDoorB08
import Derived.Test.YtlhmfgbaefaneaaGreatDoorB02
import Derived.Test.YtlhmfgbaefaneaaGreatDoorB11
import Derived.Test.YtlhmfgbaefaneaaGreatDoorB01
namespace Go.Proofs.YtlhmfgbaefaneaaGreatDoor.num
open Go.RowKit Go.Proofs.YtlhmfgbaefaneaaGreatDoor.nat
def sgn (neg : Bool) (X : Nat) : Int := if neg then -(X : Int) else X
theorem sgn_neg (z : Int) : sgn (!decide (z < 0)) z.natAbs = -z := by
  unfold sgn
  split <;> simp_all <;> omega
def IsZ (w : World) (v : Value) (z : Int) : Prop :=
  (v = .pointer none ∧ z = 0) ∨ ∃ b o neg sv X, v = .pointer (some ⟨b, o, none⟩) ∧ w.cell? ⟨b, o, none⟩ = some (.bool neg) ∧ w.cell? ⟨b, o + 1, none⟩ = some sv ∧ Rd w sv (digs X) ∧ z = sgn neg X ∧ (neg = true → 0 < X)
theorem IsZ.below {w w' : World} {v : Value} {z : Int} (h : IsZ w v z) (hb : Below w.heap.size w w') : IsZ w' v z := by
  rcases h with h | ⟨b, o, neg, sv, X, h1, h2, h3, h4, h5⟩
  · exact Or.inl h
  · exact Or.inr ⟨b, o, neg, sv, X, h1, (hb.cell (p := ⟨b, o, none⟩) (cell_lt h2)).trans h2, (hb.cell (p := ⟨b, o + 1, none⟩) (cell_lt h3)).trans h3, h4.below hb, h5⟩
theorem IsZ.inj {w : World} {v : Value} {z y : Int} (h : IsZ w v z) (h' : IsZ w v y) : z = y := by
  rcases h with ⟨rfl, rfl⟩ | ⟨b, o, neg, sv, X, rfl, h2, h3, h4, rfl, -⟩
  · rcases h' with ⟨_, rfl⟩ | ⟨b', o', neg', sv', X', he, _⟩
    · rfl
    · simp at he
  · rcases h' with ⟨he, _⟩ | ⟨b', o', neg', sv', X', he, k2, k3, k4, rfl, -⟩
    · simp at he
    · simp only [Value.pointer.injEq, Option.some.injEq, Addr.mk.injEq, and_true] at he
      obtain ⟨rfl, rfl⟩ := he
      rw [h2] at k2
      rw [h3] at k3
      simp only [Option.some.injEq, Value.bool.injEq] at k2 k3
      subst k2 k3
      rw [← val_digs X, ← val_digs X', h4.inj k4]
set_option maxRecDepth 100000 in
theorem isBelow_any (v : Value) (z : Int) (w : World) (h : IsZ w v z) :
    Calls Tryz.prog 129 #[v] w fun e w' => e = .returned (.bool (decide (z < 0))) ∧ w = w' := by
  rcases h with ⟨rfl, rfl⟩ | ⟨b, o, neg, sv, X, rfl, h2, h3, h4, h5, h6⟩
  · go_enter Tryz.func129, Tryz.ntmps129
    go_wp2
    go_ret
    exact ⟨rfl, rfl⟩
  · have hd : decide (z < 0) = neg := by
      subst h5
      unfold sgn
      cases neg
      · simp
      · have := h6 rfl
        simp
        omega
    rw [hd]
    clear h3 h4 h5 h6 hd
    go_enter Tryz.func129, Tryz.ntmps129
    go_wp2
    go_ret
    exact ⟨rfl, rfl⟩
set_option maxRecDepth 100000 in
theorem amount_any (v : Value) (z : Int) (w : World) (h : IsZ w v z) :
    Calls Tryz.prog 130 #[v] w fun e w' => ∃ v', e = .returned v' ∧ IsN w v' z.natAbs ∧ w = w' := by
  rcases h with ⟨rfl, rfl⟩ | ⟨b, o, neg, sv, X, rfl, h2, h3, h4, h5, h6⟩
  · go_enter Tryz.func130, Tryz.ntmps130
    go_wp2
    go_ret
    exact ⟨_, rfl, Or.inl ⟨rfl, rfl⟩, rfl⟩
  · have hN := Lib.hid (show IsN w (.pointer (some ⟨b, o + 1, none⟩)) z.natAbs from by
      have : z.natAbs = X := by subst h5; unfold sgn; split <;> omega
      rw [this]
      exact Or.inr ⟨b, o + 1, sv, rfl, h3, h4⟩)
    clear h3 h4 h5 h6
    go_enter Tryz.func130, Tryz.ntmps130
    go_wp2
    go_ret
    exact ⟨_, rfl, hN.out, rfl⟩
set_option maxRecDepth 100000 in
theorem New_at (neg : Bool) (nv : Value) (X : Nat) (w : World) (h : IsN w nv X) :
    Calls Tryz.prog 128 #[.bool neg, nv] w fun e w' => e = .returned (.pointer (some ⟨w.heap.size, 0, none⟩)) ∧ IsZ w' (.pointer (some ⟨w.heap.size, 0, none⟩)) (sgn neg X) ∧ Below w.heap.size w w' := by
  have Z := Lib.hid (Zero_any nv X w h)
  by_cases h0 : X = 0
  · subst h0
    rw [decide_eq_true rfl] at Z
    have hs : sgn neg 0 = 0 := by unfold sgn; split <;> rfl
    rw [hs]
    have hb : Below w.heap.size w (w.alloc (.cells #[.bool false, .slice none 0 0] 142)) := (Below.refl _ _).alloc (Nat.le_refl _) _
    have hz := Lib.hid (show IsZ (w.alloc (.cells #[.bool false, .slice none 0 0] 142)) (.pointer (some ⟨w.heap.size, 0, none⟩)) 0 from Or.inr ⟨_, 0, false, .slice none 0 0, 0, rfl, cell_of_row _ w.heap.size 0 #[.bool false, .slice none 0 0] _ (0, 0) (heap_alloc_new w _), cell_of_row _ w.heap.size 1 #[.bool false, .slice none 0 0] _ (0, 0) (heap_alloc_new w _), by rw [digs_zero]; exact Rd.nil _, rfl, fun h => by cases h⟩)
    have HB := Lib.hid hb
    clear h hb
    go_enter Tryz.func128, Tryz.ntmps128
    go_wp2_with (go_at_call 164; refine (Z.out).mono ?_; rintro e w1 ⟨rfl, rfl⟩; clear Z)
    go_ret
    exact ⟨rfl, hz.out, HB.out⟩
  · rw [decide_eq_false h0] at Z
    rcases h with ⟨rfl, rfl⟩ | ⟨b, o, sv, rfl, h2, h3⟩
    · exact absurd rfl h0
    · have hb : Below w.heap.size w (w.alloc (.cells #[.bool neg, sv] 142)) := (Below.refl _ _).alloc (Nat.le_refl _) _
      have hz := Lib.hid (show IsZ (w.alloc (.cells #[.bool neg, sv] 142)) (.pointer (some ⟨w.heap.size, 0, none⟩)) (sgn neg X) from Or.inr ⟨_, 0, neg, sv, X, rfl, cell_of_row _ w.heap.size 0 #[.bool neg, sv] _ (0, 0) (heap_alloc_new w _), cell_of_row _ w.heap.size 1 #[.bool neg, sv] _ (0, 0) (heap_alloc_new w _), h3.below hb, rfl, fun _ => by omega⟩)
      have HB := Lib.hid hb
      obtain ⟨ao, cap, rfl, -⟩ := id h3
      clear h3 hb
      go_enter Tryz.func128, Tryz.ntmps128
      go_wp2_with (go_at_call 164; refine (Z.out).mono ?_; rintro e w1 ⟨rfl, rfl⟩; clear Z)
      go_ret
      exact ⟨rfl, hz.out, HB.out⟩
theorem New_any (neg : Bool) (nv : Value) (X : Nat) (w : World) (h : IsN w nv X) :
    Calls Tryz.prog 128 #[.bool neg, nv] w fun e w' => ∃ v, e = .returned v ∧ (IsZ w' v (sgn neg X) ∧ v ≠ .pointer none) ∧ Below w.heap.size w w' := by
  refine (New_at neg nv X w h).mono ?_
  rintro e w' ⟨rfl, hz, hb⟩
  exact ⟨_, rfl, ⟨hz, by simp⟩, hb⟩
end Go.Proofs.YtlhmfgbaefaneaaGreatDoor.num
namespace Go.Proofs.YtlhmfgbaefaneaaGreatDoor.num
open Go.RowKit Go.Proofs.YtlhmfgbaefaneaaGreatDoor.nat
set_option maxRecDepth 100000 in
theorem Neg_any (v : Value) (z : Int) (w : World) (h : IsZ w v z) :
    Calls Tryz.prog 165 #[v] w fun e w' => ∃ u, e = .returned u ∧ (IsZ w' u (-z) ∧ u ≠ .pointer none) ∧ Below w.heap.size w w' := by
  have B := Lib.hid (isBelow_any v z w h)
  have A := Lib.hid (amount_any v z w h)
  have N := Lib.hid (fun nv hn => New_any (!decide (z < 0)) nv z.natAbs w hn)
  rw [sgn_neg] at N
  clear h
  generalize decide (z < 0) = b at *
  go_enter Tryz.func165, Tryz.ntmps165
  go_wp2_with (first
    | (go_at_call 129; with_reducible refine (B.out).mono ?_; rintro e w1 ⟨rfl, rfl⟩; clear B)
    | (go_at_call 130; with_reducible refine (A.out).mono ?_; rintro e w1 ⟨nv, rfl, hn, rfl⟩; have HN := Lib.hid hn; clear A hn)
    | (go_at_call 128; refine (N.out _ HN.out).mono ?_; rintro e w2 ⟨u, rfl, hu, hb⟩; have HU := Lib.hid hu; have HB := Lib.hid hb; clear N hu hb))
  go_ret
  exact ⟨_, rfl, HU.out, HB.out⟩
def sg (z : Int) : Int := cmp3 z 0
set_option maxRecDepth 100000 in
theorem Sign_any (v : Value) (z : Int) (w : World) (h : IsZ w v z) :
    Calls Tryz.prog 126 #[v] w fun e w' => e = .returned (.int .i64 (sg z)) ∧ w = w' := by
  have B := isBelow_any v z w h
  have A := Lib.hid (amount_any v z w h)
  have N := fun nv hn => Zero_any nv z.natAbs w hn
  clear h
  unfold sg cmp3
  rcases (show z < 0 ∨ z = 0 ∨ 0 < z by omega) with h | h | h
  · rw [if_pos h]
    rw [decide_eq_true h] at B
    clear A N
    have B := Lib.hid B
    go_enter Tryz.func126, Tryz.ntmps126
    go_wp2_with (go_at_call 129; with_reducible refine (B.out).mono ?_; rintro e w1 ⟨rfl, rfl⟩; clear B)
    go_ret
    exact ⟨rfl, rfl⟩
  · rw [if_neg (by omega), if_neg (by omega)]
    rw [decide_eq_false (by omega)] at B
    rw [decide_eq_true (by omega : z.natAbs = 0)] at N
    have B := Lib.hid B
    have N := Lib.hid N
    go_enter Tryz.func126, Tryz.ntmps126
    go_wp2_with (first
      | (go_at_call 129; with_reducible refine (B.out).mono ?_; rintro e w1 ⟨rfl, rfl⟩; clear B)
      | (go_at_call 130; with_reducible refine (A.out).mono ?_; rintro e w1 ⟨nv, rfl, hn, rfl⟩; have HN := Lib.hid hn; clear A hn)
      | (go_at_call 164; with_reducible refine (N.out _ HN.out).mono ?_; rintro e w1 ⟨rfl, rfl⟩; clear N))
    go_ret
    exact ⟨rfl, rfl⟩
  · rw [if_neg (by omega), if_pos h]
    rw [decide_eq_false (by omega)] at B
    rw [decide_eq_false (by omega : ¬ z.natAbs = 0)] at N
    have B := Lib.hid B
    have N := Lib.hid N
    go_enter Tryz.func126, Tryz.ntmps126
    go_wp2_with (first
      | (go_at_call 129; with_reducible refine (B.out).mono ?_; rintro e w1 ⟨rfl, rfl⟩; clear B)
      | (go_at_call 130; with_reducible refine (A.out).mono ?_; rintro e w1 ⟨nv, rfl, hn, rfl⟩; have HN := Lib.hid hn; clear A hn)
      | (go_at_call 164; with_reducible refine (N.out _ HN.out).mono ?_; rintro e w1 ⟨rfl, rfl⟩; clear N))
    go_ret
    exact ⟨rfl, rfl⟩
set_option maxRecDepth 100000 in
theorem Abs_any (v : Value) (z : Int) (w : World) (h : IsZ w v z) :
    Calls Tryz.prog 138 #[v] w fun e w' => ∃ u, e = .returned u ∧ (IsN w' u z.natAbs ∧ u ≠ .pointer none) ∧ Below w.heap.size w w' := by
  rcases h with ⟨rfl, rfl⟩ | ⟨b, o, neg, sv, X, rfl, h2, h3, h4, h5, h6⟩
  · have O := Lib.hid (Of_any 0 w (by omega))
    go_enter Tryz.func138, Tryz.ntmps138
    go_wp2_with (go_at_call 134; refine (O.out).mono ?_; rintro e w2 ⟨u, rfl, hu, hb⟩; have HU := Lib.hid hu; have HB := Lib.hid hb; clear O hu hb)
    go_ret
    exact ⟨_, rfl, HU.out, HB.out⟩
  · have hz : z.natAbs = X := by subst h5; unfold sgn; split <;> omega
    rw [hz]
    have hb : Below w.heap.size w (w.alloc (.cells #[sv] 140)) := (Below.refl _ _).alloc (Nat.le_refl _) _
    have HZ := Lib.hid (show IsN (w.alloc (.cells #[sv] 140)) (.pointer (some ⟨w.heap.size, 0, none⟩)) X from Or.inr ⟨_, 0, sv, rfl, cell_of_row _ w.heap.size 0 #[sv] _ (0, 0) (heap_alloc_new w _), h4.below hb⟩)
    have HB := Lib.hid hb
    obtain ⟨ao, cap, rfl, -⟩ := id h4
    clear h4 h5 h6 hz hb
    go_enter Tryz.func138, Tryz.ntmps138
    go_wp2
    go_ret
    exact ⟨_, rfl, ⟨HZ.out, by simp⟩, HB.out⟩
theorem sgn_mul (z y : Int) : sgn (decide (z < 0) != decide (y < 0)) (z.natAbs * y.natAbs) = z * y := by
  unfold sgn
  rw [Int.natCast_mul]
  rcases Int.lt_or_le z 0 with h | h <;> rcases Int.lt_or_le y 0 with k | k
  · rw [decide_eq_true h, decide_eq_true k, Int.ofNat_natAbs_of_nonpos (by omega), Int.ofNat_natAbs_of_nonpos (by omega)]
    simp [Int.neg_mul_neg]
  · rw [decide_eq_true h, decide_eq_false (by omega), Int.ofNat_natAbs_of_nonpos (by omega), Int.natAbs_of_nonneg (by omega)]
    simp [Int.neg_mul]
  · rw [decide_eq_false (by omega), decide_eq_true k, Int.natAbs_of_nonneg (by omega), Int.ofNat_natAbs_of_nonpos (by omega)]
    simp [Int.mul_neg]
  · rw [decide_eq_false (by omega), decide_eq_false (by omega), Int.natAbs_of_nonneg (by omega), Int.natAbs_of_nonneg (by omega)]
    simp
set_option maxRecDepth 100000 in
theorem Mul_any (a b : Value) (z y : Int) (w : World) (ha : IsZ w a z) (hb : IsZ w b y) (hx : (digs z.natAbs).length ≤ 900000) (hy : (digs y.natAbs).length ≤ 900000) :
    Calls Tryz.prog 98 #[a, b] w fun e w' => ∃ u, e = .returned u ∧ (IsZ w' u (z * y) ∧ u ≠ .pointer none) ∧ Below w.heap.size w w' := by
  have B1 := Lib.hid (isBelow_any a z w ha)
  have B2 := Lib.hid (isBelow_any b y w hb)
  have A1 := Lib.hid (amount_any a z w ha)
  have A2 := Lib.hid (amount_any b y w hb)
  have M := Lib.hid (fun na nb h1 h2 => nat.Mul_any na nb z.natAbs y.natAbs w h1 h2 (by omega) (by omega))
  have N := Lib.hid (fun (w' : World) nv hn => New_any (decide (z < 0) != decide (y < 0)) nv (z.natAbs * y.natAbs) w' hn)
  rw [sgn_mul] at N
  clear ha hb
  generalize decide (z < 0) = b1 at *
  generalize decide (y < 0) = b2 at *
  have hbn : (!(b1 == b2)) = (b1 != b2) := rfl
  go_enter Tryz.func98, Tryz.ntmps98
  go_wp2_with (first
    | (go_at_call 129; with_reducible refine (B1.out).mono ?_; rintro e w1 ⟨rfl, rfl⟩; clear B1)
    | (go_at_call 129; with_reducible refine (B2.out).mono ?_; rintro e w1 ⟨rfl, rfl⟩; clear B2)
    | (go_at_call 130; with_reducible refine (A1.out).mono ?_; rintro e w1 ⟨na, rfl, hn, rfl⟩; have HN1 := Lib.hid hn; clear A1 hn)
    | (go_at_call 130; with_reducible refine (A2.out).mono ?_; rintro e w1 ⟨nb, rfl, hn, rfl⟩; have HN2 := Lib.hid hn; clear A2 hn)
    | (go_at_call 131; with_reducible refine (M.out _ _ HN1.out HN2.out).mono ?_; rintro e w2 ⟨m, rfl, ⟨hm, -⟩, hb2⟩; have HM := Lib.hid hm; have HB2 := Lib.hid hb2; clear M hm hb2)
    | (go_at_call 128; refine (N.out _ _ HM.out).mono ?_; rintro e w3 ⟨u, rfl, hu, hb⟩; have HU := Lib.hid hu; have HB := Lib.hid (HB2.out.trans (hb.mono HB2.out.size)); clear N hu hb))
  go_ret
  exact ⟨_, rfl, HU.out, HB.out⟩
end Go.Proofs.YtlhmfgbaefaneaaGreatDoor.num
namespace Go.Proofs.YtlhmfgbaefaneaaGreatDoor.nat
open Go.RowKit
open Go.Proofs.YtlhmfgbaefaneaaGreatDoor.ref (str str_size ch seg IsDig Numeral seg_lt)
theorem ch_get {l : List UInt8} {i : Nat} (h : i < (str l).size) : ((str l)[i]'h).toNat = ch l i := by
  have h2 : i < l.length := h
  simp [ch, h2, str]
  rfl
set_option maxRecDepth 100000 in
set_option maxHeartbeats 1000000 in
theorem value_any (l : List UInt8) (w : World) (hl : l.length ≤ 19) (hd : ∀ i, i < l.length → IsDig l i) :
    Calls Tryz.prog 183 #[.string (str l)] w fun e w' => e = .returned (.int .u64 (seg l 0 l.length : Nat)) ∧ w = w' := by
  have hz : (str l).size = l.length := str_size l
  have HG := Lib.hid (fun i (h : i < (str l).size) => ch_get (l := l) h)
  have HD := Lib.hid hd
  generalize str l = s at *
  generalize hn : l.length = n at *
  have HN := Lib.hid hn
  clear hn hd
  go_enter Tryz.func183, Tryz.ntmps183
  go_wp2
  go_loopw [3, 7] (fun nv iv wr => w = wr ∧ ∃ i : Nat, i ≤ n ∧ iv = .int .i64 i ∧ nv = .int .u64 (seg l 0 i : Nat)) (fun _ iv _ => n - (intOf iv).toNat)
  case atStart => exact ⟨rfl, 0, Nat.zero_le _, rfl, rfl⟩
  case round =>
    obtain ⟨rfl, i, hi, rfl, rfl⟩ := hrel
    by_cases hlt : i < n
    · have hv := seg_lt (l := l) (st := 0) (m := i) fun j _ hj => HD.out j (by omega)
      have hp : 10 ^ i ≤ 10 ^ 18 := Nat.pow_le_pow_right (by omega) (by omega)
      have hdi := HD.out i hlt
      unfold IsDig at hdi
      have hgk : ∀ h : i < s.size, (s[i]'h).toNat = ch l i := fun h => HG.out _ h
      have HS := Lib.hid (show seg l 0 (i + 1) = seg l 0 i * 10 + (ch l i - 48) by rw [seg, Nat.zero_add])
      have hv8 : (seg l 0 i : Int) < 1000000000000000000 := by omega
      generalize seg l 0 i = v at *
      generalize ch l i = c at *
      clear hv hp
      obtain ⟨hc1, hc2⟩ := hdi
      go_wp2
      refine ⟨?_, ?_⟩
      · refine ⟨trivial, i + 1, by omega, by go_num, ?_⟩
        rw [HS.out]
        go_num
      · simp [intOf]; omega
    · obtain rfl : i = n := by omega
      go_wp2
      go_ret
      exact ⟨rfl, rfl⟩
set_option maxRecDepth 100000 in
set_option maxHeartbeats 2000000 in
open Classical in
theorem isNumber_any (l : List UInt8) (w : World) (hl : l.length ≤ 4611686018427387904) :
    Calls Tryz.prog 181 #[.string (str l)] w fun e w' => e = .returned (.bool (decide (Numeral l))) ∧ w = w' := by
  have hz : (str l).size = l.length := str_size l
  have HG := Lib.hid (fun i (h : i < (str l).size) => ch_get (l := l) h)
  have HNo := Lib.hid (fun h : ¬ Numeral l => (decide_eq_false h : decide (Numeral l) = false))
  have HYes := Lib.hid (fun h : Numeral l => (decide_eq_true h : decide (Numeral l) = true))
  have HNum := Lib.hid (show Numeral l ↔ 1 ≤ l.length ∧ l.length ≤ 4000 ∧ (1 < l.length → ch l 0 ≠ 48) ∧ ∀ i, i < l.length → IsDig l i from Iff.rfl)
  generalize str l = s at *
  generalize decide (Numeral l) = b at *
  generalize hn : l.length = n at *
  clear hn
  by_cases h0 : n = 0
  · have hb := HNo.out fun h => by have := (HNum.out.1 h).1; omega
    subst hb
    go_enter Tryz.func181, Tryz.ntmps181
    go_wp2
    go_ret
    exact ⟨rfl, rfl⟩
  · by_cases h4 : 4000 < n
    · have hb := HNo.out fun h => by have := (HNum.out.1 h).2.1; omega
      subst hb
      go_enter Tryz.func181, Tryz.ntmps181
      go_wp2
      go_ret
      exact ⟨rfl, rfl⟩
    · have hc0 : ∀ h : 0 < s.size, (s[0]'h).toNat = ch l 0 := fun h => HG.out 0 h
      by_cases h48 : ch l 0 = 48 ∧ 1 < n
      · obtain ⟨h48, h1⟩ := h48
        have hb := HNo.out fun h => (HNum.out.1 h).2.2.1 h1 h48
        subst hb
        rw [h48] at hc0
        clear h48
        go_enter Tryz.func181, Tryz.ntmps181
        go_wp2
        go_ret
        exact ⟨rfl, rfl⟩
      · have HH := Lib.hid (show 1 < n → ch l 0 ≠ 48 from fun h1 h2 => h48 ⟨h2, h1⟩)
        have hcase : (ch l 0 = 48 ∧ n = 1) ∨ ch l 0 ≠ 48 := by omega
        generalize ch l 0 = c0 at *
        clear h48
        rcases hcase with ⟨rfl, hn1⟩ | h48
        case' neg.inr =>
          have hb1 : ¬ (c0 : Int) = 48 := by omega
          have hnb : ((n : Int) == 0) = false := by simp; omega
        all_goals
          go_enter Tryz.func181, Tryz.ntmps181
          go_wp2
          go_loopw [24] (fun iv wr => w = wr ∧ ∃ i : Nat, i ≤ n ∧ iv = .int .i64 i ∧ ∀ j, j < i → IsDig l j) (fun iv _ => n - (intOf iv).toNat)
          case atStart => exact ⟨rfl, 0, Nat.zero_le _, rfl, fun j hj => by omega⟩
          case round =>
            obtain ⟨rfl, i, hi, rfl, hdg⟩ := hrel
            have HDg := Lib.hid hdg
            clear hdg
            by_cases hlt : i < n
            · have hgk : ∀ h : i < s.size, (s[i]'h).toNat = ch l i := fun h => HG.out _ h
              have HB := Lib.hid (show b = true → IsDig l i from fun hb => by
                by_cases hN : Numeral l
                · exact (HNum.out.1 hN).2.2.2 i hlt
                · rw [HNo.out hN] at hb; cases hb)
              have HC := Lib.hid (show IsDig l i ↔ 48 ≤ ch l i ∧ ch l i ≤ 57 from Iff.rfl)
              generalize ch l i = c at *
              by_cases hc1 : c < 48
              · have hb : b = false := by
                  cases b with
                  | false => rfl
                  | true => have := HC.out.1 (HB.out rfl); omega
                subst hb
                go_wp2
                go_ret
                exact ⟨rfl, rfl⟩
              · by_cases hc2 : 57 < c
                · have hb : b = false := by
                    cases b with
                    | false => rfl
                    | true => have := HC.out.1 (HB.out rfl); omega
                  subst hb
                  go_wp2
                  go_ret
                  exact ⟨rfl, rfl⟩
                · go_wp2
                  refine ⟨⟨trivial, i + 1, by omega, by go_num, fun j hj => ?_⟩, ?_⟩
                  · by_cases h3 : j < i
                    · exact HDg.out j h3
                    · obtain rfl : j = i := by omega
                      exact HC.out.2 ⟨by omega, by omega⟩
                  · simp [intOf]; omega
            · obtain rfl : i = n := by omega
              have hb := HYes.out (HNum.out.2 ⟨by omega, by omega, HH.out, HDg.out⟩)
              subst hb
              go_wp2
              go_ret
              exact ⟨rfl, rfl⟩
end Go.Proofs.YtlhmfgbaefaneaaGreatDoor.nat
namespace Go.Proofs.YtlhmfgbaefaneaaGreatDoor.nat
open Go.RowKit
theorem sca_ex (d y a : Nat) (hd : d < 18446744073709551616) (hy : y + 1 < 18446744073709551616) (ha : a < 18446744073709551616) : ∃ h l s k : Nat,
    (∀ w, Calls Tryz.prog 201 #[.int .u64 (d : Int), .int .u64 ((y : Int) + 1)] w fun e w' => e = .returned (.tuple #[.int .u64 (h : Int), .int .u64 (l : Int)]) ∧ w' = w) ∧
    (∀ w, (callFunc 225 #[.int .u64 (l : Int), .int .u64 (a : Int), .int .u64 0]).run Tryz.prog w = .ok (.value (.tuple #[.int .u64 (s : Int), .int .u64 (k : Int)])) w) ∧
    s < 18446744073709551616 ∧ h + k < 18446744073709551616 ∧ s + 18446744073709551616 * (h + k) = d + d * y + a := by
  obtain ⟨h, l, b1, b2, e1, r1⟩ := mul64_ex d (y + 1) hd hy
  obtain ⟨s, k, b3, b4, e2, r2⟩ := add64_ex l a 0 b2 ha (by omega)
  have hp : d * (y + 1) ≤ 18446744073709551615 * 18446744073709551615 := Nat.mul_le_mul (by omega) (by omega)
  rw [Nat.mul_add, Nat.mul_one] at e1 hp
  exact ⟨h, l, s, k, r1, r2, b3, by omega, by omega⟩
def RowT (w : World) (g : Nat) (L : List Nat) (R : List Value) : Prop := w.heap[g]? = some (.cells ((L.map fun d => Value.int .u64 (d : Nat)) ++ R).toArray 104 (0, 0))
theorem RowT.row {w : World} {g : Nat} {L : List Nat} {R : List Value} (h : RowT w g L R) : Row w g L := ⟨R, h⟩
theorem RowT.set {w : World} {g : Nat} {L : List Nat} {R : List Value} (h : RowT w g L R) (k : Nat) (hk : k < L.length) (d : Nat) : RowT (w.setCell ⟨g, k, none⟩ (.int .u64 (d : Nat))) g (L.set k d) R := by
  unfold RowT at h ⊢
  rw [heap_setCell_same w g k _ _ _ h]
  congr 2
  rw [List.setIfInBounds_toArray, List.set_append_left _ _ (by simpa using hk), List.map_set]
def CRel (w : World) (g y more : Nat) (R : List Value) (Z : List Nat) (i a : Nat) (wr : World) : Prop :=
  ∃ Z', Z'.length = Z.length ∧ Dig Z' ∧ a < 18446744073709551616 ∧ RowT wr g Z' R ∧ w.grownBy wr (some g) ∧ val Z' + 18446744073709551616 ^ i * a = val Z + more + val (Z.take i) * y ∧ ∀ j, i ≤ j → dg Z' j = dg Z j
theorem CRel.next {w wr : World} {g y more : Nat} {R : List Value} {Z Z' : List Nat} {i a s k : Nat} (h0 : Z'.length = Z.length) (h1 : Dig Z') (h3 : RowT wr g Z' R) (h4 : w.grownBy wr (some g)) (h5 : val Z' + 18446744073709551616 ^ i * a = val Z + more + val (Z.take i) * y) (h6 : ∀ j, i ≤ j → dg Z' j = dg Z j)
    (hi : i < Z.length) (hs : s < 18446744073709551616) (hk : k < 18446744073709551616) (he : s + 18446744073709551616 * k = dg Z' i + dg Z' i * y + a) : CRel w g y more R Z (i + 1) k (wr.setCell ⟨g, i, none⟩ (.int .u64 (s : Nat))) :=
  ⟨Z'.set i s, by simpa using h0, h1.set hs, hk, h3.set _ (by omega) _, grown_trans h4 (grown_set _ _ _ _), by
    have e : dg Z' i = dg Z i := h6 i (Nat.le_refl _)
    rw [add_one (by omega) he h5, val_take_succ, Nat.add_mul, Nat.mul_assoc, e]; omega, fun j hj => by rw [dg_set_other (by omega)]; exact h6 j (by omega)⟩
set_option maxRecDepth 100000 in
set_option maxHeartbeats 1000000 in
theorem scale_own {B : Nat} (sv : Value) (z : List Nat) (y more : Nat) (w : World) (hO : w.ownsRow B 104 1 sv z.length (z.map fun d => Value.int .u64 (d : Nat))) (hdz : Dig z) (hy : y + 1 < 18446744073709551616) (hm : more < 18446744073709551616) (hn : z.length ≤ 4000000) :
    Calls Tryz.prog 182 #[sv, .int .u64 ((y : Int) + 1), .int .u64 (more : Nat)] w fun e w' => ∃ (z' : List Nat) (a : Nat), e = .returned (.int .u64 (a : Nat)) ∧ (z'.length = z.length ∧ Dig z' ∧ val z' + 18446744073709551616 ^ z.length * a = val z * (y + 1) + more ∧ a < 18446744073709551616 ∧ w'.ownsRow B 104 1 sv z'.length (z'.map fun d => Value.int .u64 (d : Nat))) ∧ w.grownBy w' sv.ownBlock := by
  have HO := Lib.hid hO
  rcases hO.2 with ⟨rfl, h0⟩ | ⟨g, cap, cur, rfl, hB, hh, hnc, hcm, hsz, htk⟩
  · obtain rfl := List.eq_nil_of_length_eq_zero h0
    clear hO hn h0
    go_enter Tryz.func182, Tryz.ntmps182
    go_wp2
    go_loopw [2, 14] (fun rv iv wr => iv = .int .i64 0 ∧ rv = .int .u64 (more : Nat) ∧ w = wr) (fun _ _ _ => 0)
    case atStart => exact ⟨rfl, rfl, rfl⟩
    case round =>
      obtain ⟨rfl, rfl, rfl⟩ := hrel
      go_wp2
      go_ret
      exact ⟨[], more, rfl, ⟨rfl, Dig.nil, by simp [val], hm, HO.out⟩, grown_refl _ _⟩
  · obtain ⟨n, hnl⟩ : ∃ n, z.length = n := ⟨_, rfl⟩
    have HN := Lib.hid hnl
    have hrow : RowT w g z (cur.toList.drop (z.length * 1)) := by
      unfold RowT
      rw [← htk, List.take_append_drop, Array.toArray_toList]
      exact hh
    have HR := Lib.hid (show n + (cur.toList.drop (z.length * 1)).length = cap by simp; omega)
    generalize cur.toList.drop (z.length * 1) = R at hrow HR
    have HS := Lib.hid (show CRel w g y more R z 0 more w from ⟨z, rfl, hdz, hm, hrow, grown_refl _ _, by simp [val], fun _ _ => rfl⟩)
    have hgl := hrow.row.lt
    unfold maxLen at hcm
    rw [hnl] at hnc hn ⊢
    clear hO hdz hrow hnl hh hsz htk cur
    go_enter Tryz.func182, Tryz.ntmps182
    go_wp2
    go_loopw [2, 14] (fun rv iv wr => ∃ i a : Nat, iv = .int .i64 i ∧ rv = .int .u64 a ∧ i ≤ n ∧ CRel w g y more R z i a wr) (fun _ iv _ => n - (intOf iv).toNat)
    case atStart => exact ⟨0, more, rfl, rfl, Nat.zero_le _, HS.out⟩
    case round =>
      obtain ⟨i, a, rfl, rfl, hi, hrel⟩ := hrel
      obtain ⟨Z', hl, hd, ha, hrow, hgr, hv, hup⟩ := hrel
      by_cases hlt : i < n
      · have c1 := hrow.row.cell i (by rw [hl, HN.out]; omega)
        have f1 := hrow.row.free i
        obtain ⟨h, l, s, k, r1, r2, hs, hk, he⟩ := sca_ex (dg Z' i) y a (dg_lt hd i) hy ha
        have HNX := Lib.hid (CRel.next hl hd hrow hgr hv hup (by rw [HN.out]; exact hlt) hs hk he)
        have R1 := Lib.hid r1
        generalize dg Z' i = d at c1 R1
        clear he hrow hgr hv hl hd HS r1 hup HO
        go_wp2_with (go_at_call 201; refine (R1.out _).mono ?_; rintro e w' ⟨rfl, rfl⟩)
        go_roundw
        case rel => exact ⟨i + 1, h + k, by go_num, by go_num, by omega, HNX.out⟩
        case measure => simp [intOf]; omega
      · obtain rfl : i = n := by omega
        have HV := Lib.hid hv
        clear hv HS hup
        go_wp2
        go_ret
        refine ⟨Z', a, rfl, ⟨by rw [hl, HN.out], hd, ?_, ha, ?_⟩, hgr⟩
        · have := HV.out
          rw [List.take_of_length_le (by rw [HN.out]; omega)] at this
          rw [this, Nat.mul_add]
          omega
        · have e : Z'.length = i := by rw [hl, HN.out]
          refine ⟨by simp, Or.inr ⟨g, cap, _, by rw [e], hB, hrow, by omega, by unfold maxLen; omega, ?_, ?_⟩⟩
          · have := HR.out
            simp
            omega
          · rw [Nat.mul_one]
            simp
end Go.Proofs.YtlhmfgbaefaneaaGreatDoor.nat
namespace Go.Proofs.YtlhmfgbaefaneaaGreatDoor.nat
open Go.RowKit
open Go.Proofs.YtlhmfgbaefaneaaGreatDoor.ref (str str_size ch seg IsDig Numeral seg_lt seg_add)
theorem ch_part {l : List UInt8} {k m i : Nat} (h : i < m) : ch ((l.drop k).take m) i = ch l (k + i) := by
  unfold ch
  rw [List.getD_eq_getElem?_getD, List.getD_eq_getElem?_getD, List.getElem?_take_of_lt h, List.getElem?_drop]
theorem seg_part {l : List UInt8} {k m : Nat} : ∀ j, j ≤ m → seg ((l.drop k).take m) 0 j = seg l k j
  | 0, _ => rfl
  | j + 1, h => by rw [seg, seg, seg_part j (by omega), Nat.zero_add, ch_part (by omega)]
theorem str_extract (l : List UInt8) (m : Nat) : (str l).extract 0 m = str (l.take m) := by
  apply ByteArray.ext
  simp [str]
theorem str_from (l : List UInt8) (m : Nat) : (str l).extract m l.length = str (l.drop m) := by
  apply ByteArray.ext
  simp [str, List.take_of_length_le]
theorem scale_ten {B : Nat} (sv : Value) (z : List Nat) (more : Nat) (w : World) (hO : w.ownsRow B 104 1 sv z.length (z.map fun d => Value.int .u64 (d : Nat))) (hdz : Dig z) (hm : more < 18446744073709551616) (hn : z.length ≤ 4000000) :
    Calls Tryz.prog 182 #[sv, .int .u64 10000000000000000000, .int .u64 (more : Nat)] w fun e w' => ∃ (z' : List Nat) (a : Nat), e = .returned (.int .u64 (a : Nat)) ∧ (z'.length = z.length ∧ Dig z' ∧ val z' + 18446744073709551616 ^ z.length * a = val z * 10 ^ 19 + more ∧ a < 18446744073709551616 ∧ w'.ownsRow B 104 1 sv z'.length (z'.map fun d => Value.int .u64 (d : Nat))) ∧ w.grownBy w' sv.ownBlock := by
  have h := scale_own sv z 9999999999999999999 more w hO hdz (by omega) hm hn
  rw [show ((9999999999999999999 : Nat) : Int) + 1 = 10000000000000000000 from rfl, show 9999999999999999999 + 1 = 10 ^ 19 from rfl] at h
  exact h
def KRel (w : World) (l : List UInt8) (sv nv : Value) (wr : World) : Prop :=
  ∃ (k : Nat) (z : List Nat), sv = .string (str (l.drop k)) ∧ k ≤ l.length ∧ z.length ≤ k ∧ (k = 0 ∨ (l.length - k) % 19 = 0) ∧ wr.ownsRow w.heap.size 104 1 nv z.length (z.map fun d => Value.int .u64 (d : Nat)) ∧ Below w.heap.size w wr ∧ Dig z ∧ val z = seg l 0 k
theorem KRel.next {w wr : World} {l : List UInt8} {nv : Value} {k m n : Nat} {z z' : List Nat} {a : Nat} (hk : k + m ≤ l.length) (hm : 0 < m) (hz : z.length ≤ k) (hl : z'.length = z.length) (hd : Dig z') (ha : a < 18446744073709551616)
    (h1 : k = 0 ∨ m = 19) (h2 : (l.length - (k + m)) % 19 = 0) (hv : val z = seg l 0 k) (he : val z' + 18446744073709551616 ^ z.length * a = val z * 10 ^ 19 + seg l k m) (hn : n = z'.length + 1)
    (ho : wr.ownsRow w.heap.size 104 1 nv n ((z' ++ [a]).map fun d => Value.int .u64 (d : Nat))) (hb : Below w.heap.size w wr) : KRel w l (.string (str ((l.drop k).drop m))) nv wr := by
  refine ⟨k + m, z' ++ [a], by rw [List.drop_drop], hk, by simp; omega, Or.inr h2, by rw [show (z' ++ [a]).length = n by simp [hn]]; exact ho, hb, hd.append (Dig.nil.cons ha), ?_⟩
  rw [val_snoc, hl, he, seg_add, Nat.zero_add, hv]
  rcases h1 with rfl | rfl
  · simp [seg]
  · rfl
set_option maxRecDepth 100000 in
set_option maxHeartbeats 4000000 in
theorem Get_ok (l : List UInt8) (w : World) (h : Numeral l) :
    Calls Tryz.prog 143 #[.string (str l)] w fun e w' => ∃ v, e = .returned (.tuple #[v, .nilIface]) ∧ (IsN w' v (seg l 0 l.length) ∧ v ≠ .pointer none) ∧ Below w.heap.size w w' := by
  have hdec : (@decide (Numeral l) (Classical.propDecidable _)) = true := @decide_eq_true _ (Classical.propDecidable _) h
  have hNu := isNumber_any l w (by have := h.2.1; omega)
  rw [hdec] at hNu
  have HNu := Lib.hid hNu
  obtain ⟨h1, h2, h3, h4⟩ := h
  have HD := Lib.hid h4
  have hz : (str l).size = l.length := str_size l
  obtain ⟨n, hn⟩ : ∃ n, l.length = n := ⟨_, rfl⟩
  have HN := Lib.hid hn
  have HS := Lib.hid (show str l = str (l.drop 0) from rfl)
  rw [hn] at hz h1 h2
  generalize hs : str l = s at hz HNu HS
  clear hNu hdec h3 h4 hn hs
  obtain ⟨i0, hi0, hz0, hz1, hz2⟩ := info_parts infoU64
  obtain ⟨w1, hmk, hown, hgr⟩ := run_make_own (P := Tryz.prog) w w.heap.size 78 104 i0 (.int .u64 0) 1 Tryz.underlying78 hi0 hz0 hz1 .i64 .i64 (n / 19 + 1) (by rw [hz2]; omega) (by unfold maxLen; omega) (Nat.le_refl _)
  rw [show (((n / 19 + 1 : Nat)) : Int) = (n : Int) / 19 + 1 by omega] at hmk
  generalize hc : n / 19 + 1 = C at hmk hown
  have HK := Lib.hid (show KRel w l (.string s) (.slice (some ⟨w.heap.size, 0, none⟩) 0 C) w1 from ⟨0, [], by rw [HS.out], Nat.zero_le _, Nat.le_refl _, Or.inl rfl, hown, (Below.refl _ _).grown hgr (Nat.le_refl _) (fun k hk => by cases hk), Dig.nil, rfl⟩)
  clear hown hgr i0 hi0 hz0 hz1 hz2 hc
  go_enter Tryz.func143, Tryz.ntmps143
  go_wp2_with (go_at_call 181; refine (HNu.out).mono ?_; rintro e w1 ⟨rfl, rfl⟩)
  go_loopw [0, 4] (fun sv nv wr => KRel w l sv nv wr) (fun sv _ _ => match sv with | .string b => b.size | _ => 0)
  case atStart => exact HK.out
  case round =>
    obtain ⟨k, z, rfl, hk, hz1, h19, hown, hbe, hdz, hv⟩ := hrel
    have hsz : (str (l.drop k)).size = n - k := by rw [str_size, List.length_drop, HN.out]
    rw [HN.out] at hk h19
    by_cases hlt : k < n
    · obtain ⟨r, hr⟩ : ∃ r, r = n - k := ⟨_, rfl⟩
      obtain ⟨m, hm⟩ : ∃ m, m = (r - 1) % 19 + 1 := ⟨_, rfl⟩
      have hmi : ((r : Int) - 1) % 19 + 1 = (m : Int) := by omega
      have hkl : (l.drop k).length = r := by rw [List.length_drop, HN.out]; omega
      have hml : ((l.drop k).take m).length = m := by rw [List.length_take, hkl]; omega
      have hval := value_any ((l.drop k).take m) wr (by rw [hml]; omega) (fun i hi => by
        rw [hml] at hi
        unfold IsDig
        rw [ch_part hi]
        exact HD.out (k + i) (by rw [HN.out]; omega))
      rw [hml, seg_part m (Nat.le_refl _), ← str_extract] at hval
      have hvl := seg_lt (l := l) (st := k) (m := m) fun i h1 h2 => HD.out i (by rw [HN.out]; omega)
      have hp : 10 ^ m ≤ 10 ^ 19 := Nat.pow_le_pow_right (by omega) (by omega)
      have hvb : seg l k m < 18446744073709551616 := by omega
      have hfrom := str_from (l.drop k) m
      rw [hkl] at hfrom
      have HSc := Lib.hid (scale_ten u4 z (seg l k m) wr hown hdz hvb (by omega))
      have HNX := Lib.hid (fun nv n z' a wr' hl hd ha he hn ho hb => KRel.next (w := w) (wr := wr') (l := l) (nv := nv) (k := k) (m := m) (n := n) (z := z) (z' := z') (a := a) (by rw [HN.out]; omega) (by omega) hz1 hl hd ha (by omega) (by rw [HN.out]; omega) hv he hn ho hb)
      have HB := Lib.hid hbe
      have HZ := Lib.hid hz1
      have HVal := Lib.hid hval
      have HFrom := Lib.hid hfrom
      have hts : (str (l.drop k)).size = r := by rw [hsz, hr]
      have hr0 : (0 : Int) < (r : Int) := by omega
      have hmr : m ≤ r := by omega
      have hr4 : r ≤ 4000 := by omega
      have hr1 : (0 : Int) ≤ (r : Int) - 1 := by omega
      have hm19 : m ≤ 19 := by omega
      have hm0 : 0 < m := by omega
      generalize str (l.drop k) = t at *
      generalize seg l k m = v at *
      have HM := Lib.hid hm
      have HRr := Lib.hid hr
      clear hval hfrom hkl hml hv hown hbe hdz hvl hp hvb hsz hz1 h19 hm HK hmk HS hr
      have hwb := HB.out.size
      go_wp2_with (first
        | (go_at_call 183; with_reducible refine (HVal.out).mono ?_; rintro e w2 ⟨rfl, rfl⟩)
        | (go_at_call 182; with_reducible refine (HSc.out).mono ?_; rintro e w2 ⟨z', a, rfl, ⟨hl, hd, he, ha, ho⟩, hg⟩
           have HHg := Lib.hid hg
           have HL := Lib.hid hl
           have HD' := Lib.hid hd
           have HE := Lib.hid he
           have HA := Lib.hid ha
           have HO := Lib.hid ho
           have hb2 := HB.out.grown hg hwb (fun b hb => (World.ownsRow.lt ho b hb).1)
           have HB2 := Lib.hid hb2
           have hwb2 := hb2.size
           have HO2 := Lib.hid (ho.alloc (.cells #[Value.int .u64 (a : Nat)] 104))
           have HLit := Lib.hid (word_own (w := w2) (d := a) (B := w2.heap.size) (Nat.le_refl _)).rd
           clear hg hl hd he ha ho hb2 HSc)
        | (at_builtin; refine wpList_append_rd rfl _ _ rfl w.heap.size _ _ z' [a] rfl HO2.out rfl HLit.out ?c1 ?c2 ?_))
      case c1 => rw [HL.out]; have := HZ.out; simp; omega
      case c2 => simp; omega
      intro v' w3 hown hg3
      have hb3 := (HB2.out.alloc hwb2 (.cells #[Value.int .u64 (a : Nat)] 104)).grown hg3 (by simp; omega) (fun b hb => (World.ownsRow.lt HO2.out b hb).1)
      have HK3 := Lib.hid (HNX.out v' (z'.length + 1) z' a w3 HL.out HD'.out HA.out HE.out rfl (by simpa using hown) hb3)
      clear hown hg3 hb3 HLit HO2 HO HHg
      go_wp2
      refine ⟨?_, ?_⟩
      · have := HK3.out
        rw [← HFrom.out] at this
        exact this
      · simp [ByteArray.size_extract]
        omega
    · obtain rfl : k = n := by omega
      have HT := Lib.hid (own_any u4 z wr (Own.of_owns hown).rd hdz (by omega))
      have HV := Lib.hid hv
      have HB := Lib.hid hbe
      clear hv hbe hown hdz HK hmk h19
      have hts : (str (l.drop k)).size = 0 := by omega
      generalize str (l.drop k) = t at *
      clear hsz
      go_wp2_with (go_at_call 166; with_reducible refine (HT.out).mono ?_; rintro e w2 ⟨v, rfl, ⟨hi, hnv⟩, hb⟩; have HI := Lib.hid hi; have HNv := Lib.hid hnv; have HB2 := Lib.hid (below_trans' HB.out HB.out.size hb); clear hi hb hnv)
      go_ret2
      refine ⟨_, rfl, ⟨?_, HNv.out⟩, HB2.out⟩
      have := HI.out
      rw [HV.out] at this
      rw [HN.out]
      exact this
end Go.Proofs.YtlhmfgbaefaneaaGreatDoor.nat
namespace Go.Proofs.YtlhmfgbaefaneaaGreatDoor.nat
open Go.RowKit
open Go.Proofs.YtlhmfgbaefaneaaGreatDoor.ref (str str_size Numeral)
set_option maxRecDepth 100000 in
theorem Div_ok (a b : Value) (X Y : Nat) (w : World) (ha : IsN w a X) (hb : IsN w b Y) (h0 : 0 < Y) (hx : (digs X).length ≤ 900000) (hy : (digs Y).length ≤ 900000) :
    Calls Tryz.prog 144 #[a, b] w fun e w' => ∃ q r, e = .returned (.tuple #[q, r, .nilIface]) ∧ (IsN w' q (X / Y) ∧ q ≠ .pointer none) ∧ (IsN w' r (X % Y) ∧ r ≠ .pointer none) ∧ Below w.heap.size w w' := by
  have Z := Zero_any b Y w hb
  rw [decide_eq_false (by omega : ¬ Y = 0)] at Z
  have HZ := Lib.hid Z
  have L1 := Lib.hid (list_any a X w ha)
  have L2 := Lib.hid (list_any b Y w hb)
  have hyn : digs Y ≠ [] := by
    intro h
    have := val_digs Y
    rw [h] at this
    simp [val] at this
    omega
  have hq : (digs (X / Y)).length ≤ 900000 := digs_le_len (Nat.div_le_self _ _) hx
  have hr : (digs (X % Y)).length ≤ 900000 := digs_le_len (Nat.mod_le _ _) hx
  clear ha hb Z h0
  go_enter Tryz.func144, Tryz.ntmps144
  go_wp2_with (first
    | (go_at_call 164; refine (HZ.out).mono ?_; rintro e w1 ⟨rfl, rfl⟩; clear HZ)
    | (go_at_call 168; refine (L1.out).mono ?_; rintro e w1 ⟨sa, rfl, ha, rfl⟩; have HA := Lib.hid ha; clear L1 ha)
    | (go_at_call 168; refine (L2.out).mono ?_; rintro e w1 ⟨sb, rfl, hb, rfl⟩
       have C := Lib.hid (divide_any sa sb _ _ _ HA.out hb (norm_digs X) (norm_digs Y) hyn hx hy)
       rw [val_digs, val_digs] at C
       clear L2 hb)
    | (go_at_call 184; refine (C.out).mono ?_; rintro e w2 ⟨sq, sr, rfl, ⟨hoq, hor⟩, hb2⟩
       have O1 := Lib.hid (own_any sq _ w2 hoq.rd (norm_digs _).1 (by omega))
       have O2 := Lib.hid (fun w3 (h3 : Below w2.heap.size w2 w3) => own_any sr _ w3 (hor.rd.below h3) (norm_digs _).1 (by omega))
       rw [val_digs] at O1
       rw [val_digs] at O2
       have HB2 := Lib.hid hb2
       clear C hoq hor hb2)
    | (go_at_call 166; refine (O1.out).mono ?_; rintro e w3 ⟨q, rfl, ⟨hi, hn⟩, hb3⟩
       have HI := Lib.hid hi
       have HN := Lib.hid hn
       have O3 := Lib.hid (O2.out w3 hb3)
       have HB3 := Lib.hid (HB2.out.trans (hb3.mono HB2.out.size))
       clear O1 O2 hi hn hb3)
    | (go_at_call 166; refine (O3.out).mono ?_; rintro e w4 ⟨r, rfl, ⟨hi, hn⟩, hb4⟩
       have HI2 := Lib.hid (HI.out.below hb4)
       have HB4 := Lib.hid (HB3.out.trans (hb4.mono HB3.out.size))
       have HJ := Lib.hid (And.intro hi hn)
       clear O3 hi hn hb4))
  go_ret3
  exact ⟨_, _, rfl, ⟨HI2.out, HN.out⟩, HJ.out, HB4.out⟩
end Go.Proofs.YtlhmfgbaefaneaaGreatDoor.nat
namespace Go.Proofs.YtlhmfgbaefaneaaGreatDoor.num
open Go.RowKit Go.Proofs.YtlhmfgbaefaneaaGreatDoor.nat
theorem cmp_signs {z y : Int} (h : sg z ≠ sg y) : cmp3 (sg z) (sg y) = cmp3 z y := by
  unfold sg cmp3 at *
  (repeat' split at h) <;> (repeat' split) <;> omega
theorem cmp_low {z y : Int} (h : sg z = sg y) (h1 : z < 0) : cmp3 (y.natAbs : Nat) (z.natAbs : Nat) = cmp3 z y := by
  unfold sg cmp3 at *
  (repeat' split at h) <;> (repeat' split) <;> omega
theorem cmp_high {z y : Int} (h : sg z = sg y) (h1 : ¬ z < 0) : cmp3 (z.natAbs : Nat) (y.natAbs : Nat) = cmp3 z y := by
  unfold sg cmp3 at *
  (repeat' split at h) <;> (repeat' split) <;> omega
set_option maxRecDepth 100000 in
set_option maxHeartbeats 2000000 in
theorem Cmp_any (a b : Value) (z y : Int) (w : World) (ha : IsZ w a z) (hb : IsZ w b y) (hx : (digs z.natAbs).length ≤ 800000) (hy : (digs y.natAbs).length ≤ 800000) :
    Calls Tryz.prog 102 #[a, b] w fun e w' => e = .returned (.int .i64 (cmp3 z y)) ∧ ∃ m, w' = w.drewN m := by
  have S1 := Lib.hid (Sign_any a z w ha)
  have S2 := Lib.hid (Sign_any b y w hb)
  by_cases hs : sg z = sg y
  · have B1 := isBelow_any a z w ha
    have A1 := Lib.hid (amount_any a z w ha)
    have A2 := Lib.hid (amount_any b y w hb)
    have hee : (sg z == sg y) = true := by simp [hs]
    by_cases hz : z < 0
    · have C := Lib.hid (fun na nb h1 h2 => nat.Cmp_any nb na y.natAbs z.natAbs w h2 h1 (by omega) (by omega))
      rw [cmp_low hs hz] at C
      rw [decide_eq_true hz] at B1
      have HB1 := Lib.hid B1
      clear ha hb B1 hz
      generalize sg z = s1 at *
      generalize sg y = s2 at *
      subst hs
      go_enter Tryz.func102, Tryz.ntmps102
      go_wp2_with (first
        | (go_at_call 126; (with_reducible refine (S1.out).mono ?_); rintro e w1 ⟨rfl, rfl⟩)
        | (go_at_call 126; (with_reducible refine (S2.out).mono ?_); rintro e w1 ⟨rfl, rfl⟩)
        | (go_at_call 129; (with_reducible refine (HB1.out).mono ?_); rintro e w1 ⟨rfl, rfl⟩)
        | (go_at_call 130; (with_reducible refine (A1.out).mono ?_); rintro e w1 ⟨na, rfl, hn, rfl⟩; have HN1 := Lib.hid hn; clear A1 hn)
        | (go_at_call 130; (with_reducible refine (A2.out).mono ?_); rintro e w1 ⟨nb, rfl, hn, rfl⟩; have HN2 := Lib.hid hn; clear A2 hn)
        | (go_at_call 133; (with_reducible refine (C.out _ _ HN1.out HN2.out).mono ?_); rintro e w2 ⟨rfl, m, rfl⟩; clear C))
      go_ret
      exact ⟨rfl, m, rfl⟩
    · have C := Lib.hid (fun na nb h1 h2 => nat.Cmp_any na nb z.natAbs y.natAbs w h1 h2 (by omega) (by omega))
      rw [cmp_high hs hz] at C
      rw [decide_eq_false hz] at B1
      have HB1 := Lib.hid B1
      clear ha hb B1 hz
      generalize sg z = s1 at *
      generalize sg y = s2 at *
      subst hs
      go_enter Tryz.func102, Tryz.ntmps102
      go_wp2_with (first
        | (go_at_call 126; (with_reducible refine (S1.out).mono ?_); rintro e w1 ⟨rfl, rfl⟩)
        | (go_at_call 126; (with_reducible refine (S2.out).mono ?_); rintro e w1 ⟨rfl, rfl⟩)
        | (go_at_call 129; (with_reducible refine (HB1.out).mono ?_); rintro e w1 ⟨rfl, rfl⟩)
        | (go_at_call 130; (with_reducible refine (A1.out).mono ?_); rintro e w1 ⟨na, rfl, hn, rfl⟩; have HN1 := Lib.hid hn; clear A1 hn)
        | (go_at_call 130; (with_reducible refine (A2.out).mono ?_); rintro e w1 ⟨nb, rfl, hn, rfl⟩; have HN2 := Lib.hid hn; clear A2 hn)
        | (go_at_call 133; (with_reducible refine (C.out _ _ HN1.out HN2.out).mono ?_); rintro e w2 ⟨rfl, m, rfl⟩; clear C))
      go_ret
      exact ⟨rfl, m, rfl⟩
  · have hee : (sg z == sg y) = false := by simp [hs]
    rw [← cmp_signs hs]
    clear ha hb
    generalize sg z = s1 at *
    generalize sg y = s2 at *
    have C := Lib.hid (CmpI_any s1 s2 w)
    clear hs
    go_enter Tryz.func102, Tryz.ntmps102
    go_wp2_with (first
      | (go_at_call 126; (with_reducible refine (S1.out).mono ?_); rintro e w1 ⟨rfl, rfl⟩)
      | (go_at_call 126; (with_reducible refine (S2.out).mono ?_); rintro e w1 ⟨rfl, rfl⟩)
      | (go_at_call 132; (with_reducible refine (C.out).mono ?_); rintro e w1 ⟨rfl, rfl⟩))
    go_ret
    exact ⟨rfl, 0, rfl⟩
set_option maxRecDepth 100000 in
theorem Of_any (z : Int) (w : World) (h1 : -9223372036854775808 ≤ z) (h2 : z < 9223372036854775808) :
    Calls Tryz.prog 103 #[.int .i64 z] w fun e w' => ∃ u, e = .returned u ∧ (IsZ w' u z ∧ u ≠ .pointer none) ∧ Below w.heap.size w w' := by
  have O := Lib.hid (nat.Of_any z.natAbs w (by omega))
  by_cases h0 : z < 0
  · have N := Lib.hid (fun (w' : World) nv hn => New_any true nv z.natAbs w' hn)
    rw [show sgn true z.natAbs = z by unfold sgn; simp; omega] at N
    have e1 : ((z.natAbs : Nat) : Int) = -z := by omega
    have e2 : IntKind.u64.wrap (-IntKind.u64.wrap z) = -z := by rw [IntKind.wrap_u64, IntKind.wrap_u64]; omega
    rw [e1] at O
    go_enter Tryz.func103, Tryz.ntmps103
    go_wp2_with (first
      | (go_at_call 134; (with_reducible refine (O.out).mono ?_); rintro e w2 ⟨m, rfl, ⟨hm, -⟩, hb2⟩; have HM := Lib.hid hm; have HBl := Lib.hid hb2; clear O hm hb2)
      | (go_at_call 128; (with_reducible refine (N.out _ _ HM.out).mono ?_); rintro e w3 ⟨u, rfl, hu, hb⟩; have HU := Lib.hid hu; have HB := Lib.hid (HBl.out.trans (hb.mono HBl.out.size)); clear hu hb))
    go_ret
    exact ⟨_, rfl, HU.out, HB.out⟩
  · have N := Lib.hid (fun (w' : World) nv hn => New_any false nv z.natAbs w' hn)
    rw [show sgn false z.natAbs = z by unfold sgn; simp; omega] at N
    have e1 : ((z.natAbs : Nat) : Int) = z := by omega
    rw [e1] at O
    go_enter Tryz.func103, Tryz.ntmps103
    go_wp2_with (first
      | (go_at_call 134; (with_reducible refine (O.out).mono ?_); rintro e w2 ⟨m, rfl, ⟨hm, -⟩, hb2⟩; have HM := Lib.hid hm; have HBl := Lib.hid hb2; clear O hm hb2)
      | (go_at_call 128; (with_reducible refine (N.out _ _ HM.out).mono ?_); rintro e w3 ⟨u, rfl, hu, hb⟩; have HU := Lib.hid hu; have HB := Lib.hid (HBl.out.trans (hb.mono HBl.out.size)); clear hu hb))
    go_ret
    exact ⟨_, rfl, HU.out, HB.out⟩
end Go.Proofs.YtlhmfgbaefaneaaGreatDoor.num
namespace Go.Proofs.YtlhmfgbaefaneaaGreatDoor.num
open Go.RowKit Go.Proofs.YtlhmfgbaefaneaaGreatDoor.nat
theorem fdiv_of {z y q r : Int} (h : r + y * q = z) (hr : (0 < y ∧ 0 ≤ r ∧ r < y) ∨ (y < 0 ∧ y < r ∧ r ≤ 0)) : z.fdiv y = q ∧ z.fmod y = r := by
  rcases hr with ⟨h1, h2⟩ | ⟨h1, h2⟩
  · exact (Int.fdiv_fmod_unique h1).2 ⟨h, h2⟩
  · exact (Int.fdiv_fmod_unique' h1).2 ⟨h, h2⟩
theorem floor_near {z y : Int} (hy : y ≠ 0) (h : decide (z < 0) = decide (y < 0) ∨ z.natAbs % y.natAbs = 0) :
    z.fdiv y = sgn (decide (z < 0) != decide (y < 0)) (z.natAbs / y.natAbs) ∧ z.fmod y = sgn (decide (y < 0)) (z.natAbs % y.natAbs) := by
  have hd : ((z.natAbs % y.natAbs : Nat) : Int) + (y.natAbs : Int) * ((z.natAbs / y.natAbs : Nat) : Int) = (z.natAbs : Int) := by
    rw [← Int.natCast_mul, ← Int.natCast_add, Nat.add_comm, Nat.div_add_mod]
  have hm : z.natAbs % y.natAbs < y.natAbs := Nat.mod_lt _ (by omega)
  generalize z.natAbs / y.natAbs = Q at *
  generalize z.natAbs % y.natAbs = R at *
  refine fdiv_of ?_ ?_
  · unfold sgn
    rcases Int.lt_or_le z 0 with h1 | h1 <;> rcases Int.lt_or_le y 0 with h2 | h2
    · have e1 : (y.natAbs : Int) = -y := by omega
      rw [e1] at hd
      simp [h1, h2]
      rw [Int.neg_mul] at hd
      omega
    · have e1 : (y.natAbs : Int) = y := by omega
      have h2' : ¬ y < 0 := by omega
      rw [e1] at hd
      simp [h1, h2'] at h ⊢
      rw [Int.mul_neg]
      omega
    · have e1 : (y.natAbs : Int) = -y := by omega
      have h1' : ¬ z < 0 := by omega
      rw [e1] at hd
      simp [h1', h2] at h ⊢
      rw [Int.neg_mul] at hd
      rw [Int.mul_neg]
      omega
    · have e1 : (y.natAbs : Int) = y := by omega
      have h1' : ¬ z < 0 := by omega
      have h2' : ¬ y < 0 := by omega
      rw [e1] at hd
      simp [h1', h2'] at h ⊢
      omega
  · unfold sgn
    by_cases h2 : y < 0 <;> simp [h2] <;> omega
theorem floor_past {z y : Int} (hy : y ≠ 0) (h : decide (z < 0) ≠ decide (y < 0)) (h0 : z.natAbs % y.natAbs ≠ 0) :
    z.fdiv y = sgn true (z.natAbs / y.natAbs + 1) ∧ z.fmod y = sgn (decide (y < 0)) (y.natAbs - z.natAbs % y.natAbs) := by
  have hd : ((z.natAbs % y.natAbs : Nat) : Int) + (y.natAbs : Int) * ((z.natAbs / y.natAbs : Nat) : Int) = (z.natAbs : Int) := by
    rw [← Int.natCast_mul, ← Int.natCast_add, Nat.add_comm, Nat.div_add_mod]
  have hm : z.natAbs % y.natAbs < y.natAbs := Nat.mod_lt _ (by omega)
  generalize z.natAbs / y.natAbs = Q at *
  generalize z.natAbs % y.natAbs = R at *
  refine fdiv_of ?_ ?_
  · unfold sgn
    by_cases h1 : z < 0 <;> by_cases h2 : y < 0
    · simp [h1, h2] at h
    · have e1 : (y.natAbs : Int) = y := by omega
      rw [e1] at hd
      simp [h2]
      rw [Int.mul_neg, Int.mul_add, Int.mul_one]
      omega
    · have e1 : (y.natAbs : Int) = -y := by omega
      rw [e1] at hd
      simp [h2]
      rw [Int.neg_mul] at hd
      rw [Int.mul_neg, Int.mul_add, Int.mul_one]
      omega
    · simp [h1, h2] at h
  · unfold sgn
    by_cases h2 : y < 0 <;> simp [h2] <;> omega
set_option maxRecDepth 100000 in
set_option maxHeartbeats 2000000 in
theorem Div_near (a b : Value) (z y : Int) (w : World) (ha : IsZ w a z) (hb : IsZ w b y) (hx : (digs z.natAbs).length ≤ 700000) (hy : (digs y.natAbs).length ≤ 700000) (h0 : y ≠ 0) (h : decide (z < 0) = decide (y < 0) ∨ z.natAbs % y.natAbs = 0) :
    Calls Tryz.prog 140 #[a, b] w fun e w' => ∃ q r, e = .returned (.tuple #[q, r, .nilIface]) ∧ (IsZ w' q (z.fdiv y) ∧ q ≠ .pointer none) ∧ (IsZ w' r (z.fmod y) ∧ r ≠ .pointer none) ∧ Below w.heap.size w w' := by
  have B1 := fun w' (h : Below w.heap.size w w') => isBelow_any a z w' (ha.below h)
  have B2 := fun w' (h : Below w.heap.size w w') => isBelow_any b y w' (hb.below h)
  have A1 := Lib.hid (amount_any a z w ha)
  have A2 := Lib.hid (amount_any b y w hb)
  have D := Lib.hid (fun na nb h1 h2 => nat.Div_ok na nb z.natAbs y.natAbs w h1 h2 (by omega) (by omega) (by omega))
  have Z := Lib.hid (fun (w' : World) r hr => Zero_any r (z.natAbs % y.natAbs) w' hr)
  have N1 := fun (w' : World) nv hn => New_any (decide (z < 0) != decide (y < 0)) nv (z.natAbs / y.natAbs) w' hn
  have N2 := fun (w' : World) nv hn => New_any (decide (y < 0)) nv (z.natAbs % y.natAbs) w' hn
  rw [← (floor_near h0 h).1] at N1
  rw [← (floor_near h0 h).2] at N2
  have HQ := Lib.hid h
  obtain ⟨b1, hb1⟩ : ∃ b1, decide (z < 0) = b1 := ⟨_, rfl⟩
  obtain ⟨b2, hb2⟩ : ∃ b2, decide (y < 0) = b2 := ⟨_, rfl⟩
  rw [hb1] at B1 N1 HQ
  rw [hb2] at B2 N1 N2 HQ
  have HB1 := Lib.hid B1
  have HB2 := Lib.hid B2
  have HN1 := Lib.hid N1
  have HN2 := Lib.hid N2
  generalize z.fdiv y = Q at *
  generalize z.fmod y = R at *
  have hbn : (!(b1 == b2)) = (b1 != b2) := rfl
  have hcase : (b1 != b2) = false ∨ ((b1 != b2) = true ∧ decide (z.natAbs % y.natAbs = 0) = true) := by
    rcases HQ.out with h | h
    · left; rw [h]; cases b2 <;> rfl
    · cases hc : (b1 != b2)
      · exact Or.inl rfl
      · exact Or.inr ⟨rfl, decide_eq_true h⟩
  clear ha hb B1 B2 N1 N2 hb1 hb2 h HQ
  generalize (b1 != b2) = d at *
  rcases hcase with rfl | ⟨rfl, hz0⟩
  · go_enter Tryz.func140, Tryz.ntmps140
    go_wp2_with (first
      | (go_at_call 130; (with_reducible refine (A1.out).mono ?_); rintro e w1 ⟨na, rfl, hn, rfl⟩; have HA1 := Lib.hid hn; clear A1 hn)
      | (go_at_call 130; (with_reducible refine (A2.out).mono ?_); rintro e w1 ⟨nb, rfl, hn, rfl⟩; have HA2 := Lib.hid hn; clear A2 hn)
      | (go_at_call 144; (with_reducible refine (D.out _ _ HA1.out HA2.out).mono ?_); rintro e w2 ⟨q, r, rfl, ⟨hq, -⟩, ⟨hr, -⟩, hb2⟩; have Hq := Lib.hid hq; have Hr := Lib.hid hr; have HBl := Lib.hid hb2; clear D hq hr hb2)
      | (go_at_call 129; (with_reducible refine (HB1.out _ HBl.out).mono ?_); rintro e w1 ⟨rfl, rfl⟩)
      | (go_at_call 129; (with_reducible refine (HB2.out _ HBl.out).mono ?_); rintro e w1 ⟨rfl, rfl⟩)
      | (go_at_call 128; (with_reducible refine (HN1.out _ _ Hq.out).mono ?_); rintro e w3 ⟨u, rfl, ⟨hu, hun⟩, hb⟩; have HU := Lib.hid hu; have HUn := Lib.hid hun; have HB3 := Lib.hid hb; have HBm := Lib.hid (HBl.out.trans (hb.mono HBl.out.size)); clear hu hun hb HN1)
      | (go_at_call 129; (with_reducible refine (HB2.out _ HBm.out).mono ?_); rintro e w1 ⟨rfl, rfl⟩)
      | (go_at_call 128; (with_reducible refine (HN2.out _ _ (Hr.out.below HB3.out)).mono ?_); rintro e w4 ⟨v, rfl, hv, hb⟩; have HV := Lib.hid hv; have HU4 := Lib.hid (HU.out.below hb); have HB := Lib.hid (HBm.out.trans (hb.mono HBm.out.size)); clear hv hb))
    go_ret3
    exact ⟨_, _, rfl, ⟨HU4.out, HUn.out⟩, HV.out, HB.out⟩
  · rw [hz0] at Z
    go_enter Tryz.func140, Tryz.ntmps140
    go_wp2_with (first
      | (go_at_call 130; (with_reducible refine (A1.out).mono ?_); rintro e w1 ⟨na, rfl, hn, rfl⟩; have HA1 := Lib.hid hn; clear A1 hn)
      | (go_at_call 130; (with_reducible refine (A2.out).mono ?_); rintro e w1 ⟨nb, rfl, hn, rfl⟩; have HA2 := Lib.hid hn; clear A2 hn)
      | (go_at_call 144; (with_reducible refine (D.out _ _ HA1.out HA2.out).mono ?_); rintro e w2 ⟨q, r, rfl, ⟨hq, -⟩, ⟨hr, -⟩, hb2⟩; have Hq := Lib.hid hq; have Hr := Lib.hid hr; have HBl := Lib.hid hb2; clear D hq hr hb2)
      | (go_at_call 129; (with_reducible refine (HB1.out _ HBl.out).mono ?_); rintro e w1 ⟨rfl, rfl⟩)
      | (go_at_call 129; (with_reducible refine (HB2.out _ HBl.out).mono ?_); rintro e w1 ⟨rfl, rfl⟩)
      | (go_at_call 164; (with_reducible refine (Z.out _ _ Hr.out).mono ?_); rintro e w1 ⟨rfl, rfl⟩; clear Z)
      | (go_at_call 128; (with_reducible refine (HN1.out _ _ Hq.out).mono ?_); rintro e w3 ⟨u, rfl, ⟨hu, hun⟩, hb⟩; have HU := Lib.hid hu; have HUn := Lib.hid hun; have HB3 := Lib.hid hb; have HBm := Lib.hid (HBl.out.trans (hb.mono HBl.out.size)); clear hu hun hb HN1)
      | (go_at_call 129; (with_reducible refine (HB2.out _ HBm.out).mono ?_); rintro e w1 ⟨rfl, rfl⟩)
      | (go_at_call 128; (with_reducible refine (HN2.out _ _ (Hr.out.below HB3.out)).mono ?_); rintro e w4 ⟨v, rfl, hv, hb⟩; have HV := Lib.hid hv; have HU4 := Lib.hid (HU.out.below hb); have HB := Lib.hid (HBm.out.trans (hb.mono HBm.out.size)); clear hv hb))
    go_ret3
    exact ⟨_, _, rfl, ⟨HU4.out, HUn.out⟩, HV.out, HB.out⟩
theorem Of_one (w : World) : Calls Tryz.prog 134 #[.int .u64 1] w fun e w' => ∃ v, e = .returned v ∧ (IsN w' v 1 ∧ v ≠ .pointer none) ∧ Below w.heap.size w w' := nat.Of_any 1 w (by omega)
set_option maxRecDepth 100000 in
set_option maxHeartbeats 2000000 in
theorem Div_past (a b : Value) (z y : Int) (w : World) (ha : IsZ w a z) (hb : IsZ w b y) (hx : (digs z.natAbs).length ≤ 700000) (hy : (digs y.natAbs).length ≤ 700000) (h0 : y ≠ 0) (h : decide (z < 0) ≠ decide (y < 0)) (hr0 : z.natAbs % y.natAbs ≠ 0) :
    Calls Tryz.prog 140 #[a, b] w fun e w' => ∃ q r, e = .returned (.tuple #[q, r, .nilIface]) ∧ (IsZ w' q (z.fdiv y) ∧ q ≠ .pointer none) ∧ (IsZ w' r (z.fmod y) ∧ r ≠ .pointer none) ∧ Below w.heap.size w w' := by
  have B1 := fun w' (h : Below w.heap.size w w') => isBelow_any a z w' (ha.below h)
  have B2 := fun w' (h : Below w.heap.size w w') => isBelow_any b y w' (hb.below h)
  have A1 := Lib.hid (amount_any a z w ha)
  have A2 := Lib.hid (fun w' (h : Below w.heap.size w w') => amount_any b y w' (hb.below h))
  have hq9 : (digs (z.natAbs / y.natAbs)).length ≤ 700000 := digs_le_len (Nat.div_le_self _ _) hx
  have D := Lib.hid (fun na nb h1 h2 => nat.Div_ok na nb z.natAbs y.natAbs w h1 h2 (by omega) (by omega) (by omega))
  have Z := Lib.hid (fun (w' : World) r hr => Zero_any r (z.natAbs % y.natAbs) w' hr)
  rw [decide_eq_false hr0] at Z
  have O := Lib.hid Of_one
  have P := Lib.hid (fun (w' : World) q o hq ho => nat.Add_any q o (z.natAbs / y.natAbs) 1 w' hq ho (by omega) (by rw [show digs 1 = [1] by decide +kernel]; simp))
  have S := Lib.hid (fun (w' : World) nb r hb hr => nat.Sub_ok nb r y.natAbs (z.natAbs % y.natAbs) w' hb hr (Nat.le_of_lt (Nat.mod_lt _ (by omega))) (by omega))
  have N1 := fun (w' : World) nv hn => New_any true nv (z.natAbs / y.natAbs + 1) w' hn
  have N2 := fun (w' : World) nv hn => New_any (decide (y < 0)) nv (y.natAbs - z.natAbs % y.natAbs) w' hn
  rw [← (floor_past h0 h hr0).1] at N1
  rw [← (floor_past h0 h hr0).2] at N2
  obtain ⟨b1, hb1⟩ : ∃ b1, decide (z < 0) = b1 := ⟨_, rfl⟩
  obtain ⟨b2, hb2⟩ : ∃ b2, decide (y < 0) = b2 := ⟨_, rfl⟩
  rw [hb1] at B1 h
  rw [hb2] at B2 N2 h
  have HB1 := Lib.hid B1
  have HB2 := Lib.hid B2
  have HN1 := Lib.hid N1
  have HN2 := Lib.hid N2
  generalize z.fdiv y = Q at *
  generalize z.fmod y = R at *
  have hbn : (!(b1 == b2)) = true := by simp [h]
  have hbb : (b1 == b2) = false := by simp [h]
  clear ha hb B1 B2 N1 N2 hb1 hb2 h hr0 hq9
  go_enter Tryz.func140, Tryz.ntmps140
  go_wp2_with (first
    | (go_at_call 130; (with_reducible refine (A1.out).mono ?_); rintro e w1 ⟨na, rfl, hn, rfl⟩; have HA1 := Lib.hid hn; clear A1 hn)
    | (go_at_call 130; (with_reducible refine (A2.out _ (Below.refl _ _)).mono ?_); rintro e w1 ⟨nb, rfl, hn, rfl⟩; have HA2 := Lib.hid hn; clear hn)
    | (go_at_call 144; (with_reducible refine (D.out _ _ HA1.out HA2.out).mono ?_); rintro e w2 ⟨q, r, rfl, ⟨hq, -⟩, ⟨hr, -⟩, hb2⟩; have Hq := Lib.hid hq; have Hr := Lib.hid hr; have HBl := Lib.hid hb2; clear D hq hr hb2 HA2)
    | (go_at_call 129; (with_reducible refine (HB1.out _ HBl.out).mono ?_); rintro e w1 ⟨rfl, rfl⟩)
    | (go_at_call 129; (with_reducible refine (HB2.out _ HBl.out).mono ?_); rintro e w1 ⟨rfl, rfl⟩)
    | (go_at_call 164; (with_reducible refine (Z.out _ _ Hr.out).mono ?_); rintro e w1 ⟨rfl, rfl⟩; clear Z)
    | (go_at_call 134; (with_reducible refine (O.out _).mono ?_); rintro e w3 ⟨o, rfl, ⟨ho, -⟩, hb⟩; have Ho := Lib.hid ho; have Hq3 := Lib.hid (Hq.out.below hb); have Hr3 := Lib.hid (Hr.out.below hb); have HB3 := Lib.hid (HBl.out.trans (hb.mono HBl.out.size)); clear ho hb O)
    | (go_at_call 141; (with_reducible refine (P.out _ _ _ Hq3.out Ho.out).mono ?_); rintro e w4 ⟨q4, rfl, ⟨hq, -⟩, hb⟩; have Hq4 := Lib.hid hq; have Hr4 := Lib.hid (Hr3.out.below hb); have HB4 := Lib.hid (HB3.out.trans (hb.mono HB3.out.size)); clear hq hb P)
    | (go_at_call 130; (with_reducible refine (A2.out _ HB4.out).mono ?_); rintro e w1 ⟨nb, rfl, hn, rfl⟩; have HA4 := Lib.hid hn; clear hn)
    | (go_at_call 142; (with_reducible refine (S.out _ _ _ HA4.out Hr4.out).mono ?_); rintro e w5 ⟨r5, rfl, ⟨hr, -⟩, hb⟩; have Hr5 := Lib.hid hr; have Hq5 := Lib.hid (Hq4.out.below hb); have HB5 := Lib.hid (HB4.out.trans (hb.mono HB4.out.size)); clear hr hb S)
    | (go_at_call 128; (with_reducible refine (HN1.out _ _ Hq5.out).mono ?_); rintro e w6 ⟨u, rfl, ⟨hu, hun⟩, hb⟩; have HU := Lib.hid hu; have HUn := Lib.hid hun; have Hr6 := Lib.hid (Hr5.out.below hb); have HB6 := Lib.hid (HB5.out.trans (hb.mono HB5.out.size)); clear hu hun hb HN1)
    | (go_at_call 129; (with_reducible refine (HB2.out _ HB6.out).mono ?_); rintro e w1 ⟨rfl, rfl⟩)
    | (go_at_call 128; (with_reducible refine (HN2.out _ _ Hr6.out).mono ?_); rintro e w7 ⟨v, rfl, hv, hb⟩; have HV := Lib.hid hv; have HU7 := Lib.hid (HU.out.below hb); have HB := Lib.hid (HB6.out.trans (hb.mono HB6.out.size)); clear hv hb))
  go_ret3
  exact ⟨_, _, rfl, ⟨HU7.out, HUn.out⟩, HV.out, HB.out⟩
theorem Div_any (a b : Value) (z y : Int) (w : World) (ha : IsZ w a z) (hb : IsZ w b y) (hx : (digs z.natAbs).length ≤ 700000) (hy : (digs y.natAbs).length ≤ 700000) (h0 : y ≠ 0) :
    Calls Tryz.prog 140 #[a, b] w fun e w' => ∃ q r, e = .returned (.tuple #[q, r, .nilIface]) ∧ (IsZ w' q (z.fdiv y) ∧ q ≠ .pointer none) ∧ (IsZ w' r (z.fmod y) ∧ r ≠ .pointer none) ∧ Below w.heap.size w w' := by
  by_cases h : decide (z < 0) = decide (y < 0) ∨ z.natAbs % y.natAbs = 0
  · exact Div_near a b z y w ha hb hx hy h0 h
  · exact Div_past a b z y w ha hb hx hy h0 (fun e => h (Or.inl e)) (fun e => h (Or.inr e))
end Go.Proofs.YtlhmfgbaefaneaaGreatDoor.num
namespace Go.Proofs.YtlhmfgbaefaneaaGreatDoor.num
open Go.RowKit Go.Proofs.YtlhmfgbaefaneaaGreatDoor.nat
set_option maxRecDepth 100000 in
set_option maxHeartbeats 2000000 in
theorem Small_in (a : Value) (z : Int) (w : World) (ha : IsZ w a z) (h1 : -9223372036854775808 ≤ z) (h2 : z < 9223372036854775808) :
    Calls Tryz.prog 192 #[a] w fun e w' => e = .returned (.tuple #[.int .i64 z, .bool true]) ∧ w = w' := by
  have B := isBelow_any a z w ha
  have A := Lib.hid (amount_any a z w ha)
  have S := fun na hn => nat.Small_any na z.natAbs w hn
  rw [if_pos (by omega), decide_eq_true (by omega : z.natAbs < 18446744073709551616)] at S
  by_cases h0 : z < 0
  · have e1 : ((z.natAbs : Nat) : Int) = -z := by omega
    have E2 := Lib.hid (show wrap64 (IntKind.u64.wrap z) = z by rw [IntKind.wrap_u64]; unfold wrap64; omega)
    rw [e1] at S
    rw [decide_eq_true h0] at B
    have HB := Lib.hid B
    have HS := Lib.hid S
    clear ha B S e1
    go_enter Tryz.func192, Tryz.ntmps192
    go_wp2_with (first
      | (go_at_call 130; (with_reducible refine (A.out).mono ?_); rintro e w1 ⟨na, rfl, hn, rfl⟩; have HN := Lib.hid hn; clear A hn)
      | (go_at_call 232; (with_reducible refine (HS.out _ HN.out).mono ?_); rintro e w1 ⟨rfl, rfl⟩; clear HS)
      | (go_at_call 129; (with_reducible refine (HB.out).mono ?_); rintro e w1 ⟨rfl, rfl⟩))
    go_ret2
    refine ⟨?_, rfl⟩
    show Ending.returned (.tuple #[.int .i64 (wrap64 (IntKind.u64.wrap z)), .bool true]) = _
    rw [E2.out]
  · have e1 : ((z.natAbs : Nat) : Int) = z := by omega
    rw [e1] at S
    rw [decide_eq_false h0] at B
    have HB := Lib.hid B
    have HS := Lib.hid S
    clear ha B S e1
    go_enter Tryz.func192, Tryz.ntmps192
    go_wp2_with (first
      | (go_at_call 130; (with_reducible refine (A.out).mono ?_); rintro e w1 ⟨na, rfl, hn, rfl⟩; have HN := Lib.hid hn; clear A hn)
      | (go_at_call 232; (with_reducible refine (HS.out _ HN.out).mono ?_); rintro e w1 ⟨rfl, rfl⟩; clear HS)
      | (go_at_call 129; (with_reducible refine (HB.out).mono ?_); rintro e w1 ⟨rfl, rfl⟩))
    go_ret2
    exact ⟨rfl, rfl⟩
end Go.Proofs.YtlhmfgbaefaneaaGreatDoor.num
namespace Go.Proofs.YtlhmfgbaefaneaaGreatDoor.nat
open Go.RowKit
open Go.Proofs.YtlhmfgbaefaneaaGreatDoor.ref (str str_size str_append pad pad_length pad_cons pad_append pad_nought pad_dec pad_head)
theorem infoU8 : (Tryz.prog.info? 5).map (fun i => (i.zero, i.size, i.bytes)) = some (some (.int .u8 0), 1, 1) := by kernel_rfl
theorem pad_split (k X : Nat) : ∀ m, pad (k + m) X = pad k (X / 10 ^ m) ++ pad m X
  | 0 => by simp [pad]
  | m + 1 => by
    have h : ∀ m X, pad (m + 1) X = pad m (X / 10) ++ [UInt8.ofNat (48 + X % 10)] := fun _ _ => rfl
    rw [show k + (m + 1) = (k + m) + 1 by omega, h (k + m) X, h m X]
    have ih := pad_split k (X / 10) m
    rw [ih, Nat.div_div_eq_div_mul, show 10 * 10 ^ m = 10 ^ (m + 1) by rw [Nat.pow_succ, Nat.mul_comm], List.append_assoc]
theorem pad_low {k r q : Nat} (h : r < 10 ^ k) : pad k (q * 10 ^ k + r) = pad k r := by
  have := pad_append k 0 r q h
  rw [Nat.zero_add] at this
  rw [Nat.add_comm, Nat.mul_comm, this]
  rfl
theorem pad_mod (k X : Nat) : pad k (X % 10 ^ k) = pad k X := by
  have h := pad_low (k := k) (r := X % 10 ^ k) (q := X / 10 ^ k) (Nat.mod_lt _ (Nat.pow_pos (by omega)))
  rw [Nat.mul_comm, Nat.div_add_mod] at h
  exact h.symm
def RowB (w : World) (g : Nat) (L : List UInt8) : Prop := ∃ R, w.heap[g]? = some (.cells ((L.map fun d => Value.int .u8 (d.toNat : Nat)) ++ R).toArray 5 (0, 0))
theorem RowB.lt {w : World} {g : Nat} {L : List UInt8} (h : RowB w g L) : g < w.heap.size := by
  obtain ⟨R, h⟩ := h
  exact (Array.getElem?_eq_some_iff.1 h).1
theorem RowB.cell {w : World} {g : Nat} {L : List UInt8} (h : RowB w g L) (k : Nat) (hk : k < L.length) : w.cell? ⟨g, k, none⟩ = some (.int .u8 (L[k].toNat : Nat)) := by
  obtain ⟨R, h⟩ := h
  simp only [World.cell?, h, Option.isSome_none, Bool.false_eq_true, if_false]
  rw [List.getElem?_toArray, List.getElem?_append_left (by simpa using hk)]
  simp [hk]
theorem RowB.free {w : World} {g : Nat} {L : List UInt8} (h : RowB w g L) (k : Nat) : w.frozen? ⟨g, k, none⟩ = false := by
  obtain ⟨R, h⟩ := h
  simp [World.frozen?, h]
theorem RowB.set {w : World} {g : Nat} {L : List UInt8} (h : RowB w g L) (k : Nat) (hk : k < L.length) {u : Int} {d : UInt8} (hu : u = (d.toNat : Nat)) : RowB (w.setCell ⟨g, k, none⟩ (.int .u8 u)) g (L.set k d) := by
  obtain ⟨R, h⟩ := h
  refine ⟨R, ?_⟩
  rw [heap_setCell_same w g k _ _ _ h, hu]
  congr 2
  rw [List.setIfInBounds_toArray, List.set_append_left _ _ (by simpa using hk), List.map_set]
theorem RowB.kept {w w' : World} {g : Nat} {L : List UInt8} {row : Option Nat} (h : RowB w g L) (hg : w.grownBy w' row) (hne : some g ≠ row) : RowB w' g L := by
  obtain ⟨R, hR⟩ := h
  exact ⟨R, (hg.block g (Array.getElem?_eq_some_iff.1 hR).1 hne).trans hR⟩
theorem RowB.below {w w' : World} {B g : Nat} {L : List UInt8} (h : RowB w g L) (hb : Below B w w') (hg : g < B) : RowB w' g L := by
  obtain ⟨R, hR⟩ := h
  exact ⟨R, (hb.block g hg).trans hR⟩
theorem RowB.drew {w : World} {g : Nat} {L : List UInt8} (h : RowB w g L) (n : Nat) : RowB (w.drewN n) g L := h
theorem Own.low {w : World} {B g k : Nat} {sv u : Value} {l : List Nat} (h : Own w B sv l) (hg : g < B) : Own (w.setCell ⟨g, k, none⟩ u) B sv l := by
  obtain ⟨ao, cap, h0, h1, h2, h3⟩ := h
  exact ⟨ao, cap, h0, h1, h2, h3.imp id fun ⟨b, e1, h4, hr⟩ => ⟨b, e1, h4, hr.kept (grown_set w g k u) (by simp; omega)⟩⟩
theorem make_bytes (w : World) (n : Nat) (hn : n ≤ 1000000000) : ∃ W1, (Instr.makeSlice 130 (.int .i64 (n : Int)) (.int .i64 (n : Int))).run Tryz.prog w = .ok (.slice (some ⟨w.heap.size, 0, none⟩) n n) W1 ∧
    RowB W1 w.heap.size (List.replicate n 0) ∧ Below w.heap.size w W1 := by
  obtain ⟨i0, hi0, hz0, hz1, hz2⟩ := info_parts infoU8
  have h := run_make (P := Tryz.prog) w 130 5 i0 (.int .u8 0) Tryz.underlying130 hi0 hz0 .i64 .i64 (n : Int) (n : Int) (by omega) (by omega) (by rw [hz2]; omega) (by omega)
  rw [hz1] at h
  have hc : madeCells (Value.int .u8 0).cells (((n : Int)).toNat * 1) = ((List.replicate n (0 : UInt8)).map fun d => Value.int .u8 (d.toNat : Nat)).toArray := by
    have h0 : (madeCells (Value.int .u8 0).cells (n * 1)).toList = (List.replicate n (0 : UInt8)).map fun d => Value.int .u8 (d.toNat : Nat) := by
      rw [Nat.mul_one, show (Value.int .u8 0).cells = #[Value.int .u8 0] from rfl, toList_madeCells_one]
      simp
    rw [show ((n : Int)).toNat = n by omega, ← h0, Array.toArray_toList]
  rw [hc, show ((n : Int)).toNat = n by omega] at h
  have hh : (w.alloc (.cells ((List.replicate n (0 : UInt8)).map fun d => Value.int .u8 (d.toNat : Nat)).toArray 5)).heap[w.heap.size]? = some (.cells ((List.replicate n (0 : UInt8)).map fun d => Value.int .u8 (d.toNat : Nat)).toArray 5 (0, 0)) := heap_alloc_new w _
  exact ⟨_, h, ⟨[], by rw [List.append_nil]; exact hh⟩, (Below.refl _ _).alloc (Nat.le_refl _) _⟩
def From (w : World) (g : Nat) (L0 : List UInt8) (p : Nat) (D : List UInt8) : Prop := ∃ L, L.length = L0.length ∧ L.take p = L0.take p ∧ L.drop p = D ∧ RowB w g L
theorem From.free {w : World} {g p : Nat} {L0 D : List UInt8} (h : From w g L0 p D) (k : Nat) : w.frozen? ⟨g, k, none⟩ = false := by
  obtain ⟨L, _, _, _, h⟩ := h
  exact h.free k
theorem From.cell {w : World} {g p : Nat} {L0 D : List UInt8} (h : From w g L0 p D) (k : Nat) (hk : k < L0.length) : ∃ u, w.cell? ⟨g, k, none⟩ = some (.int .u8 u) := by
  obtain ⟨L, h0, _, _, h⟩ := h
  exact ⟨_, h.cell k (by omega)⟩
theorem From.set {w : World} {g p : Nat} {L0 D : List UInt8} (h : From w g L0 (p + 1) D) (hp : p < L0.length) {u : Int} {d : UInt8} (hu : u = (d.toNat : Nat)) : From (w.setCell ⟨g, p, none⟩ (.int .u8 u)) g L0 p (d :: D) := by
  obtain ⟨L, h0, h1, h2, h3⟩ := h
  refine ⟨L.set p d, by simpa using h0, ?_, ?_, h3.set p (by omega) hu⟩
  · rw [List.take_set, List.set_eq_of_length_le (by rw [List.length_take]; omega)]
    have := congrArg (List.take p) h1
    rwa [List.take_take, List.take_take, Nat.min_eq_left (by omega)] at this
  · rw [List.drop_eq_getElem_cons (by rw [List.length_set]; omega), List.getElem_set_self, List.drop_set_of_lt (by omega), h2]
theorem From.below {w w' : World} {B g p : Nat} {L0 D : List UInt8} (h : From w g L0 p D) (hb : Below B w w') (hg : g < B) : From w' g L0 p D := by
  obtain ⟨L, h0, h1, h2, h3⟩ := h
  exact ⟨L, h0, h1, h2, h3.below hb hg⟩
theorem From.drew {w : World} {g p : Nat} {L0 D : List UInt8} (h : From w g L0 p D) (n : Nat) : From (w.drewN n) g L0 p D := h
theorem From.row {w : World} {g p : Nat} {L0 D : List UInt8} (h : From w g L0 p D) : RowB w g (L0.take p ++ D) := by
  obtain ⟨L, h0, h1, h2, h3⟩ := h
  rw [← h1, ← h2, List.take_append_drop]
  exact h3
theorem RowB.start {w : World} {g : Nat} {L : List UInt8} (h : RowB w g L) (p : Nat) : From w g L p (L.drop p) := ⟨L, rfl, rfl, rfl, h⟩
end Go.Proofs.YtlhmfgbaefaneaaGreatDoor.nat
