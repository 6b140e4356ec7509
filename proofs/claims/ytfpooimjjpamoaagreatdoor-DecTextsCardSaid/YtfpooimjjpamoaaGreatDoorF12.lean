/-
  The steps of the walks, part 12: DecM.
-/
import Derived.Test.YtfpooimjjpamoaaGreatDoorF10
import Derived.Test.YtfpooimjjpamoaaGreatDoorF09
import Derived.Test.YtfpooimjjpamoaaGreatDoorF11
import Derived.Test.YtfpooimjjpamoaaGreatDoorS20
namespace Go.Proofs.YtfpooimjjpamoaaGreatDoor.dec
open Go.RowKit Go.Proofs.YtfpooimjjpamoaaGreatDoor.nat Go.Proofs.YtfpooimjjpamoaaGreatDoor.num
open Go.Proofs.YtfpooimjjpamoaaGreatDoor.rat (IsR Lr)
open Go.Proofs.YtfpooimjjpamoaaGreatDoor.ref (str str_size str_append nearN nearUp signed decText)
def upB (mode C : Int) (odd : Bool) : Bool := ((mode == 1) && decide (0 ≤ C)) || ((mode == 2) && (decide (0 < C) || ((C == 0) && odd)))
theorem up_near (x d : Nat) (mode : Int) : upB mode (cmp3 ((x % d + x % d : Nat) : Int) (d : Int)) (decide (x / d % 2 = 1)) = nearUp x d mode := by
  have hC : cmp3 ((x % d + x % d : Nat) : Int) (d : Int) = ref.cmpN (x % d * 2) d := by
    rw [show x % d + x % d = x % d * 2 by omega]
    unfold cmp3 ref.cmpN
    (repeat' split) <;> omega
  rw [hC, ref.near_up (x := x) (d := d) (mode := mode) rfl]
  rfl
def putText (q : Rat) (k : Nat) (mode : Int) : List UInt8 := decText (signed (decide (q.num < 0)) (nearN (q.num.natAbs * 10 ^ k) q.den mode)) k
theorem signed_lt {z : Int} {x : Nat} (h : signed (decide (z < 0)) x < 0) : z < 0 := by
  unfold signed at h
  split at h <;> simp_all <;> omega
theorem text_of (below : Bool) (x k : Nat) : decText (signed below x) k = if below = true ∧ x ≠ 0 then 45 :: ref.decBody x k else ref.decBody x k := by
  unfold decText signed
  cases below
  · simp
  · by_cases h : x = 0
    · subst h; simp
    · simp [h]
theorem Ln_ten {k : Nat} (hk : k ≤ 20) : Ln (10 ^ k) 21 := rat.Ln_tens (n := 21) (Nat.lt_of_lt_of_le (show 10 ^ k < 10 ^ (k + 1) by rw [Nat.pow_succ]; have : 0 < 10 ^ k := Nat.pow_pos (by omega); omega) (Nat.pow_le_pow_right (by omega) (by omega))) (Nat.le_refl _)
theorem Ln_near {x d n : Nat} (mode : Int) (h : Ln x n) : Ln (nearN x d mode) (n + 2) := by
  have h1 : nearN x d mode ≤ x + 1 := by
    unfold nearN
    have := Nat.div_le_self x d
    split <;> omega
  exact (Ln_less h1 (Ln_add h (Ln_small (x := 1) (by decide)))).le (by omega)
theorem near_two {x d : Nat} {mode : Int} (h : nearUp x d mode = true) : nearN x d mode = x / d + 1 := by unfold nearN; rw [h]; rfl
theorem near_one {x d : Nat} {mode : Int} (h : nearUp x d mode = false) : nearN x d mode = x / d := by unfold nearN; rw [h]; rfl
theorem sign_ways (z : Int) : (sg z = -1 ∧ decide (z < 0) = true) ∨ (sg z = 0 ∧ decide (z < 0) = false) ∨ (sg z = 1 ∧ decide (z < 0) = false) := by
  unfold sg cmp3
  rcases Int.lt_trichotomy z 0 with h | h | h
  · exact Or.inl ⟨by rw [if_pos h], by simpa using h⟩
  · subst h; exact Or.inr (Or.inl ⟨rfl, rfl⟩)
  · exact Or.inr (Or.inr ⟨by rw [if_neg (by omega), if_pos h], by simp; omega⟩)
theorem sgn_signed (p : Bool) (x : Nat) : num.sgn p x = signed p x := rfl
end Go.Proofs.YtfpooimjjpamoaaGreatDoor.dec
