/-
  The steps of the walks, part 16: DivA.
-/
import Derived.Laws.Bits64b
import Derived.Test.YtlhmfgbaefaneabGreatDoorB15
namespace Go.Proofs.YtlhmfgbaefaneabGreatDoor.nat
open Go.RowKit
def Est (U u A B q r : Nat) : Prop := q * A + r = U ∧ (U * 4294967296 + u) / (A * 4294967296 + B) ≤ q
theorem Est.init {U u A B : Nat} (hu : u < 4294967296) (hA : 0 < A) : Est U u A B (U / A) (U % A) := by
  refine ⟨by rw [Nat.mul_comm]; exact Nat.div_add_mod U A, ?_⟩
  have h1 : (U * 4294967296 + u) / (A * 4294967296 + B) ≤ (U * 4294967296 + u) / (4294967296 * A) := Nat.div_le_div_left (by omega) (by omega)
  rw [← Nat.div_div_eq_div_mul, show (U * 4294967296 + u) / 4294967296 = U by omega] at h1
  exact h1
theorem Est.times {U u A B q r : Nat} (h : Est U u A B q r) : q * (A * 4294967296 + B) + r * 4294967296 = U * 4294967296 + q * B := by
  have h1 := h.1
  have : q * (A * 4294967296 + B) = q * A * 4294967296 + q * B := by rw [Nat.mul_add, Nat.mul_assoc]
  omega
theorem Est.le {U u A B q r : Nat} (h : Est U u A B q r) (hA : 0 < A) (ht : q * B ≤ 4294967296 * r + u) : q = (U * 4294967296 + u) / (A * 4294967296 + B) := by
  have h1 := h.times
  have h2 := h.2
  refine Nat.le_antisymm ?_ h2
  rw [Nat.le_div_iff_mul_le (by omega)]
  omega
theorem Est.next {U u A B q r : Nat} (h : Est U u A B q r) (hY : U < A * 4294967296 + B) (hu : u < 4294967296) (ht : 4294967296 ≤ q ∨ 4294967296 * r + u < q * B) : 0 < q ∧ Est U u A B (q - 1) (r + A) := by
  have h1 := h.times
  have h2 := h.2
  have hlt : (U * 4294967296 + u) / (A * 4294967296 + B) < q := by
    rcases ht with h3 | h3
    · refine Nat.lt_of_lt_of_le ?_ h3
      rw [Nat.div_lt_iff_lt_mul (by omega)]
      have : U * 4294967296 + 4294967296 ≤ (A * 4294967296 + B) * 4294967296 := by omega
      rw [Nat.mul_comm 4294967296]
      omega
    · rw [Nat.div_lt_iff_lt_mul (by omega)]
      omega
  have hq0 : 0 < q := Nat.lt_of_le_of_lt (Nat.zero_le _) hlt
  refine ⟨hq0, ?_, Nat.le_sub_one_of_lt hlt⟩
  have h3 := h.1
  have : (q - 1) * A + A = q * A := by
    rw [← Nat.succ_mul]; congr 1; omega
  omega
theorem Est.out {U u A B q r : Nat} (h : Est U u A B q r) (hA : 0 < A) (hB : B < 4294967296) (hY : U < A * 4294967296 + B) (hr : 4294967296 ≤ r) : q < 4294967296 ∧ q = (U * 4294967296 + u) / (A * 4294967296 + B) := by
  have h1 := h.1
  have hq : q < 4294967296 := by
    rcases Nat.lt_or_ge q 4294967296 with h2 | h2
    · exact h2
    · have := Nat.mul_le_mul_right A h2
      omega
  refine ⟨hq, h.le hA ?_⟩
  have : q * B ≤ 4294967295 * 4294967295 := Nat.mul_le_mul (by omega) (by omega)
  omega
theorem est_lt {U u A B : Nat} (hu : u < 4294967296) (hY : U < A * 4294967296 + B) : (U * 4294967296 + u) / (A * 4294967296 + B) < 4294967296 := by
  rw [Nat.div_lt_iff_lt_mul (by omega)]
  have : U * 4294967296 + 4294967296 ≤ (A * 4294967296 + B) * 4294967296 := by omega
  rw [Nat.mul_comm 4294967296]
  omega
theorem rest_aux {U u P R : Nat} (h : P + R = U * 4294967296 + u) (hR : R < 18446744073709551616) :
    IntKind.u64.wrap ((((U * 4294967296 % 18446744073709551616 + u) % 18446744073709551616 : Nat) : Int) - ((P % 18446744073709551616 : Nat) : Int)) = (R : Int) := by
  rw [IntKind.wrap_u64]
  omega
theorem rest_wrap {U u Y q : Nat} (hq : q = (U * 4294967296 + u) / Y) (hY0 : 0 < Y) (hY : Y < 18446744073709551616) :
    IntKind.u64.wrap ((((U * 4294967296 % 18446744073709551616 + u) % 18446744073709551616 : Nat) : Int) - ((q * Y % 18446744073709551616 : Nat) : Int)) = (((U * 4294967296 + u) % Y : Nat) : Int) := by
  refine rest_aux ?_ (Nat.lt_trans (Nat.mod_lt _ hY0) hY)
  rw [hq, Nat.mul_comm]
  exact Nat.div_add_mod _ _
theorem shift_parts {hi lo y s : Nat} (hs : s ≤ 63) (hh : hi < y) (hl : lo < 18446744073709551616) (hy1 : y * 2 ^ s < 18446744073709551616) :
    ∃ H L V : Nat, H = hi * 2 ^ s ∧ L = lo / 2 ^ (64 - s) ∧ V = lo * 2 ^ s % 18446744073709551616 ∧ H < 18446744073709551616 ∧ H + L < y * 2 ^ s ∧ (H + L) * 18446744073709551616 + V = (hi * 18446744073709551616 + lo) * 2 ^ s ∧ H ||| L = H + L := by
  refine ⟨_, _, _, rfl, rfl, rfl, ?_, ?_, ?_, ?_⟩
  · exact Nat.lt_of_le_of_lt (Nat.mul_le_mul_right _ (Nat.le_of_lt hh)) hy1
  · have hL : lo / 2 ^ (64 - s) < 2 ^ s := by
      rw [Nat.div_lt_iff_lt_mul (Nat.pow_pos (by omega)), ← Nat.pow_add, show s + (64 - s) = 64 by omega]
      exact hl
    have : (hi + 1) * 2 ^ s ≤ y * 2 ^ s := Nat.mul_le_mul_right _ hh
    rw [Nat.succ_mul] at this
    omega
  · have e : 2 ^ (64 - s) * 2 ^ s = 18446744073709551616 := by rw [← Nat.pow_add, show 64 - s + s = 64 by omega]
    have h1 : lo * 2 ^ s / 18446744073709551616 = lo / 2 ^ (64 - s) := by
      rw [← e, Nat.mul_div_mul_right _ _ (Nat.pow_pos (by omega))]
    have h2 := Nat.div_add_mod (lo * 2 ^ s) 18446744073709551616
    rw [h1] at h2
    rw [Nat.add_mul, Nat.add_mul, Nat.mul_right_comm hi]
    omega
  · have hL : lo / 2 ^ (64 - s) < 2 ^ s := by
      rw [Nat.div_lt_iff_lt_mul (Nat.pow_pos (by omega)), ← Nat.pow_add, show s + (64 - s) = 64 by omega]
      exact hl
    have := Nat.shiftLeft_add_eq_or_of_lt hL hi
    rw [Nat.shiftLeft_eq] at this
    exact this.symm
theorem halves_aux {N y s Y q1 r1 q0 r2 V u0 : Nat} (hY : Y = y * 2 ^ s) (hN : V * 4294967296 + u0 = N * 2 ^ s) (d1 : Y * q1 + r1 = V) (d2 : Y * q0 + r2 = r1 * 4294967296 + u0) (m2 : r2 < Y) :
    (q1 * 4294967296 + q0) * y + r2 / 2 ^ s = N ∧ r2 / 2 ^ s < y := by
  have hp : 0 < 2 ^ s := Nat.pow_pos (by omega)
  have e : Y * (q1 * 4294967296 + q0) + r2 = N * 2 ^ s := by
    rw [← hN, ← d1, Nat.mul_add, ← Nat.mul_assoc, Nat.add_mul, Nat.add_assoc, d2, Nat.add_assoc]
  have e2 : N * 2 ^ s = 2 ^ s * (y * (q1 * 4294967296 + q0)) + r2 := by
    rw [← e, hY, Nat.mul_comm y, Nat.mul_assoc]
  have hd : 2 ^ s ∣ r2 := by
    have h1 : 2 ^ s ∣ N * 2 ^ s := Nat.dvd_mul_left _ _
    rw [e2] at h1
    exact (Nat.dvd_add_right (Nat.dvd_mul_right _ _)).1 h1
  obtain ⟨r, rfl⟩ := hd
  rw [Nat.mul_div_cancel_left _ hp]
  constructor
  · rw [← Nat.mul_add, Nat.mul_comm] at e2
    have := Nat.eq_of_mul_eq_mul_left hp e2
    rw [Nat.mul_comm _ y]
    exact this.symm
  · rw [hY, Nat.mul_comm y] at m2
    exact Nat.lt_of_mul_lt_mul_left m2
theorem two_halves {N y s Y U u1 u0 : Nat} (hY : Y = y * 2 ^ s) (hy : 0 < y) (hN : (U * 4294967296 + u1) * 4294967296 + u0 = N * 2 ^ s) :
    ((U * 4294967296 + u1) / Y * 4294967296 + ((U * 4294967296 + u1) % Y * 4294967296 + u0) / Y) * y + ((U * 4294967296 + u1) % Y * 4294967296 + u0) % Y / 2 ^ s = N ∧ ((U * 4294967296 + u1) % Y * 4294967296 + u0) % Y / 2 ^ s < y :=
  halves_aux hY hN (Nat.div_add_mod _ _) (Nat.div_add_mod _ _) (Nat.mod_lt _ (by rw [hY]; exact Nat.mul_pos hy (Nat.pow_pos (by omega))))
end Go.Proofs.YtlhmfgbaefaneabGreatDoor.nat
