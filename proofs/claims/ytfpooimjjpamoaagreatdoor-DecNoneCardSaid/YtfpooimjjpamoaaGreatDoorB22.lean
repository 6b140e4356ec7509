/-
  The steps of the walks, part 22: DecW, DecKit.
-/
import Derived.Test.YtfpooimjjpamoaaGreatDoorB15
import Derived.Test.YtfpooimjjpamoaaGreatDoorB20
import Derived.Test.YtfpooimjjpamoaaGreatDoorS23
import Derived.Test.YtfpooimjjpamoaaGreatDoorS22
import Derived.Test.YtfpooimjjpamoaaGreatDoorS18
import Derived.Test.YtfpooimjjpamoaaGreatDoorB19
import Derived.Test.YtfpooimjjpamoaaGreatDoorB21
import Derived.Test.YtfpooimjjpamoaaGreatDoorB09
import Derived.Test.YtfpooimjjpamoaaGreatDoorB17
import Derived.Test.YtfpooimjjpamoaaGreatDoorS01
import Derived.Test.YtfpooimjjpamoaaGreatDoorB07
namespace Go.Proofs.YtfpooimjjpamoaaGreatDoor.dec
open Go.Proofs.YtfpooimjjpamoaaGreatDoor.ref (pad pad_length pad_nought pad_dec padTo decBody decText signed nearN nearUp Numeral seg ch IsDig DecBody DecForm pad_reads take_pad digits_of dec_numeral)
open Go.Proofs.YtfpooimjjpamoaaGreatDoor.nat (pad_split pad_mod)
theorem pad_more (m x : Nat) (h : x < 10 ^ (m + 1)) : ∀ j, pad (j + (m + 1)) x = List.replicate j 48 ++ pad (m + 1) x
  | 0 => by rw [Nat.zero_add]; rfl
  | j + 1 => by
    rw [show j + 1 + (m + 1) = (j + (m + 1)) + 1 by omega, pad_nought (Nat.lt_of_lt_of_le h (Nat.pow_le_pow_right (by omega) (by omega))), pad_more m x h j]
    rfl
theorem digits_at (x : Nat) : ∃ m, x < 10 ^ (m + 1) ∧ (m = 0 ∨ 10 ^ m ≤ x) := by
  obtain ⟨m, h1, h2, -⟩ := digits_of x x (Nat.lt_of_lt_of_le (Nat.lt_pow_self (by omega)) (Nat.pow_le_pow_right (by omega) (Nat.le_succ x)))
  exact ⟨m, h1, h2⟩
theorem decBody_nought (x : Nat) : decBody x 0 = Lib.decDigits x := by
  have := dec_pos x
  unfold decBody
  rw [if_pos rfl]
  unfold padTo
  rw [show 0 + 1 - (Lib.decDigits x).length = 0 by omega]
  rfl
theorem decBody_parts (x : Nat) {k : Nat} (hk : 0 < k) : decBody x k = Lib.decDigits (x / 10 ^ k) ++ 46 :: pad k x := by
  obtain ⟨m, h1, h2⟩ := digits_at x
  have hD : Lib.decDigits x = pad (m + 1) x := (pad_dec m x h1 h2).symm
  obtain ⟨M, hM⟩ : ∃ M, M = max k m := ⟨_, rfl⟩
  have hP : padTo (Lib.decDigits x) k = pad (M + 1) x := by
    unfold padTo
    rw [hD, pad_length, ← pad_more m x h1, show k + 1 - (m + 1) + (m + 1) = M + 1 by omega]
  have hS : pad (M + 1) x = pad (M + 1 - k) (x / 10 ^ k) ++ pad k x := by
    have := pad_split (M + 1 - k) x k
    rwa [show M + 1 - k + k = M + 1 by omega] at this
  have hQ : pad (M + 1 - k) (x / 10 ^ k) = Lib.decDigits (x / 10 ^ k) := by
    rw [show M + 1 - k = (M - k) + 1 by omega]
    refine pad_dec (M - k) _ ?_ ?_
    · rw [Nat.div_lt_iff_lt_mul (Nat.pow_pos (by omega)), ← Nat.pow_add, show M - k + 1 + k = M + 1 by omega]
      exact Nat.lt_of_lt_of_le h1 (Nat.pow_le_pow_right (by omega) (by omega))
    · rcases (show M = k ∨ k < m ∧ M = m by omega) with h3 | ⟨h3, h4⟩
      · exact Or.inl (by omega)
      · refine Or.inr ?_
        rw [Nat.le_div_iff_mul_le (Nat.pow_pos (by omega)), ← Nat.pow_add, show M - k + k = m by omega]
        omega
  unfold decBody
  rw [if_neg (by omega), hP, pad_length, hS]
  have hl : (pad (M + 1 - k) (x / 10 ^ k)).length = M + 1 - k := pad_length _ _
  rw [List.take_left' hl, List.drop_left' hl, hQ]
theorem body_form {x k p : Nat} (h : x < 10 ^ (p + 1)) (hp : p < 4000) (hk : k ≤ 20) : DecBody (decBody x k) x k := by
  rcases Nat.eq_zero_or_pos k with rfl | h0
  · rw [decBody_nought]
    obtain ⟨h1, h2, -⟩ := dec_numeral h hp
    exact Or.inl ⟨rfl, h1, h2.symm⟩
  · rw [decBody_parts x h0]
    obtain ⟨h1, h2, -⟩ := dec_numeral (x := x / 10 ^ k) (Nat.lt_of_le_of_lt (Nat.div_le_self _ _) h) hp
    obtain ⟨h3, h4⟩ := pad_reads k x
    refine Or.inr ⟨_, _, rfl, h1, pad_length _ _, h0, hk, h3, ?_⟩
    rw [h2, h4, Nat.mul_comm]
    exact (Nat.div_add_mod _ _).symm
theorem text_form {x k p : Nat} {below : Bool} (h : x < 10 ^ (p + 1)) (hp : p < 4000) (hk : k ≤ 20) (hl : (decText (signed below x) k).length ≤ 60) :
    DecForm (decText (signed below x) k) (below && decide (x ≠ 0)) x k := by
  refine ⟨hl, decBody x k, ?_, ?_, body_form h hp hk⟩
  · rw [text_of]
    cases below <;> by_cases h0 : x = 0 <;> simp [h0]
  · intro hb
    simp at hb
    exact hb.2
theorem text_len {x k p : Nat} {below : Bool} (h : x < 10 ^ (p + 1)) (hp : p < 4000) : (decText (signed below x) k).length ≤ max p k + 3 := by
  have h1 : (decBody x k).length ≤ max p k + 2 := by
    rcases Nat.eq_zero_or_pos k with rfl | h0
    · rw [decBody_nought]
      have := (dec_numeral h hp).2.2
      omega
    · rw [decBody_parts x h0, List.length_append, List.length_cons, pad_length]
      by_cases hkp : k ≤ p
      · have h2 : x / 10 ^ k < 10 ^ (p - k + 1) := by
          rw [Nat.div_lt_iff_lt_mul (Nat.pow_pos (by omega)), ← Nat.pow_add, show p - k + 1 + k = p + 1 by omega]
          exact h
        have := (dec_numeral h2 (by omega)).2.2
        omega
      · have h2 : x / 10 ^ k = 0 := Nat.div_eq_of_lt (Nat.lt_of_lt_of_le h (Nat.pow_le_pow_right (by omega) (by omega)))
        rw [h2, Lib.decDigits_length, Lib.nDigits_small (by omega)]
        omega
  rw [text_of]
  split
  · rw [List.length_cons]; omega
  · omega
theorem signed_self (z : Int) : signed (decide (z < 0)) z.natAbs = z := by
  unfold signed
  by_cases h : z < 0 <;> simp [h] <;> omega
theorem int_form {z : Int} {k p : Nat} (h : z.natAbs < 10 ^ (p + 1)) (hp : max p k + 3 ≤ 60) (hk : k ≤ 20) : DecForm (decText z k) (decide (z < 0)) z.natAbs k := by
  have hl := text_len (below := decide (z < 0)) (k := k) h (by omega)
  have hf := text_form (below := decide (z < 0)) h (by omega) hk (by omega)
  rw [signed_self] at hf
  have e : (decide (z < 0) && decide (z.natAbs ≠ 0)) = decide (z < 0) := by
    by_cases h : z < 0 <;> simp [h]
    omega
  rwa [e] at hf
end Go.Proofs.YtfpooimjjpamoaaGreatDoor.dec
namespace Go.Proofs.YtfpooimjjpamoaaGreatDoor.law2
open Go.RowKit Go.Proofs.YtfpooimjjpamoaaGreatDoor.nat
open Go.Proofs.YtfpooimjjpamoaaGreatDoor.ref (str DecForm signed decText)
def Cells3 (w : World) (g : Nat) (v0 v1 v2 : Value) : Prop := w.cell? ⟨g, 0, none⟩ = some v0 ∧ w.cell? ⟨g, 1, none⟩ = some v1 ∧ w.cell? ⟨g, 2, none⟩ = some v2
theorem Cells3.below {w w' : World} {g : Nat} {v0 v1 v2 : Value} (h : Cells3 w g v0 v1 v2) (hb : Below w.heap.size w w') : Cells3 w' g v0 v1 v2 :=
  ⟨(hb.cell (p := ⟨g, 0, none⟩) (cell_lt h.1)).trans h.1, (hb.cell (p := ⟨g, 1, none⟩) (cell_lt h.2.1)).trans h.2.1, (hb.cell (p := ⟨g, 2, none⟩) (cell_lt h.2.2)).trans h.2.2⟩
theorem DGet_yes (l : List UInt8) (neg : Bool) (n k : Nat) (q : Rat) (w : World) (hq : q = ((signed neg n : Int) : Rat) / ((10 ^ k : Nat) : Rat)) (h : DecForm l neg n k) :
    Calls Tryz.prog 78 #[.string (str l)] w fun e w' => ∃ u, e = .returned (.tuple #[u, .int .i64 (k : Nat), .nilIface]) ∧ (rat.IsR w' u q ∧ u ≠ .pointer none) ∧ Below w.heap.size w w' := by
  have := dec.Get_ok l neg n k w h
  rwa [Rat.intCast_natCast, ← hq] at this
end Go.Proofs.YtfpooimjjpamoaaGreatDoor.law2
