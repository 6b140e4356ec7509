/-
  The steps of the walks, part 1: Law6Hol, DayOrd.
-/
import Derived.Laws.Cover1
import Derived.Test.YtlhmfgbaefaneabGreatDoorB01
import Derived.Test.YtlhmfgbaefaneabGreatDoorB02
import Derived.Test.YtlhmfgbaefaneabGreatDoorB03
import Derived.Test.YtlhmfgbaefaneabGreatDoorB04
import Derived.Test.YtlhmfgbaefaneabGreatDoorB05
import Derived.Test.YtlhmfgbaefaneabGreatDoorB06
import Derived.Test.YtlhmfgbaefaneabGreatDoorB07
import Derived.Test.YtlhmfgbaefaneabGreatDoorB08
import Derived.Test.YtlhmfgbaefaneabGreatDoorB09
import Derived.Test.YtlhmfgbaefaneabGreatDoorB10
import Derived.Test.YtlhmfgbaefaneabGreatDoorB11
import Derived.Test.YtlhmfgbaefaneabGreatDoorB12
import Derived.Test.YtlhmfgbaefaneabGreatDoorB13
import Derived.Test.YtlhmfgbaefaneabGreatDoorB14
import Derived.Test.YtlhmfgbaefaneabGreatDoorB15
import Derived.Test.YtlhmfgbaefaneabGreatDoorB16
import Derived.Test.YtlhmfgbaefaneabGreatDoorB17
import Derived.Test.YtlhmfgbaefaneabGreatDoorB18
import Derived.Test.YtlhmfgbaefaneabGreatDoorB19
import Derived.Test.YtlhmfgbaefaneabGreatDoorB20
import Derived.Test.YtlhmfgbaefaneabGreatDoorB21
import Derived.Test.YtlhmfgbaefaneabGreatDoorB22
import Derived.Test.YtlhmfgbaefaneabGreatDoorB23
import Derived.Test.YtlhmfgbaefaneabGreatDoorB24
import Derived.Test.YtlhmfgbaefaneabGreatDoorB25
import Derived.Test.YtlhmfgbaefaneabGreatDoorB26
import Derived.Test.YtlhmfgbaefaneabGreatDoorB27
import Derived.Test.YtlhmfgbaefaneabGreatDoorB28
import Derived.Test.YtlhmfgbaefaneabGreatDoorB29
import Derived.Test.YtlhmfgbaefaneabGreatDoorB30
import Derived.Test.YtlhmfgbaefaneabGreatDoorB31
import Derived.Test.YtlhmfgbaefaneabGreatDoorB32
import Derived.Test.YtlhmfgbaefaneabGreatDoorB33
import Derived.Test.YtlhmfgbaefaneabGreatDoorB34
import Derived.Test.YtlhmfgbaefaneabGreatDoorB35
import Derived.Test.YtlhmfgbaefaneabGreatDoorB36
import Derived.Test.YtlhmfgbaefaneabGreatDoorB37
import Derived.Test.YtlhmfgbaefaneabGreatDoorB38
import Derived.Test.YtlhmfgbaefaneabGreatDoorB39
import Derived.Test.YtlhmfgbaefaneabGreatDoorB40
namespace Go.Proofs.YtlhmfgbaefaneabGreatDoor.law6
open Go Go.RowKit Go.Proofs.YtlhmfgbaefaneabGreatDoor.day Go.Proofs.YtlhmfgbaefaneabGreatDoor.date
open Go.Proofs.YtlhmfgbaefaneabGreatDoor.ref6 (Rule May holiday ruleDay rawDay shiftDay nthDay daysW)
theorem nth_plain {Y M s : Int} (y1 : 1900 ≤ Y) (y2 : Y ≤ 2199) (m1 : 1 ≤ M) (m2 : M ≤ 12) (s1 : 0 ≤ s) (s2 : s ≤ 6) : ∃ off cnt : Int, 0 ≤ off ∧ off ≤ 6 ∧ cnt = (mlen Y M + 6 - off) / 7 ∧ wday (dayOf Y M 1 + off) = s ∧
    holiday 2 M 0 (-1) s false Y = some (dayOf Y M (1 + off + 7 * (cnt - 1))) ∧
    (∀ N : Int, 1 ≤ N → N ≤ 5 → N ≤ cnt → holiday 2 M 0 N s false Y = some (dayOf Y M (1 + off + 7 * (N - 1)))) ∧ (∀ N : Int, 1 ≤ N → N ≤ 5 → cnt < N → holiday 2 M 0 N s false Y = none) := by
  have l1 := mlen_lo (y := Y) m1 m2
  have l2 := mlen_hi Y M
  have hC := ref6.daysW_count Y M s s1 s2 (mlen Y M).toNat
  have hA := ref6.daysW_at Y M s s1 s2 (mlen Y M).toNat
  rw [Int.toNat_of_nonneg (by omega)] at hC
  obtain ⟨off, ho⟩ : ∃ off, (s - dayOf Y M 1 - 1) % 7 = off := ⟨_, rfl⟩
  rw [ho] at hC hA
  have hadd := ref6.dayOf_add Y M
  have e : ∀ k : Int, dayOf Y M (1 + k) = dayOf Y M 1 + k := fun k => by rw [show (1 : Int) + k = k + 1 by omega, hadd]
  have hday : ∀ k : Int, 0 ≤ k → k < mlen Y M → IsDay (dayOf Y M 1 + k) := fun k k1 k2 => by rw [← e]; exact dayOf_isDay ⟨y1, y2, by omega, by omega⟩
  have hm : ∀ N : Int, (1 ≤ N ∧ N ≤ 5 ∨ N = -1) → May ⟨2, M, 0, N, s, false⟩ := fun N h => Or.inr (Or.inl ⟨rfl, m1, m2, h, s1, s2, rfl, rfl⟩)
  generalize hL : (daysW Y M s (mlen Y M).toNat) = L at *
  generalize hD : dayOf Y M 1 = D at *
  refine ⟨off, (L.length : Nat), by omega, by omega, hC, ?_, ?_, ?_, ?_⟩
  · unfold wday; omega
  · unfold holiday
    rw [if_pos ⟨hm _ (Or.inr rfl), y1, y2⟩]
    unfold rawDay
    rw [if_neg (by decide), if_neg (by decide)]
    unfold nthDay
    rw [hL, if_neg (by omega), if_pos (by decide), hA (L.length - 1) (by omega)]
    rw [show (1 : Int) + off + 7 * ((L.length : Nat) - 1) = 1 + (off + 7 * ((L.length : Nat) - 1)) by omega, e]
    have hd := hday (off + 7 * ((L.length : Nat) - 1)) (by omega) (by omega)
    rw [show D + off + 7 * ((L.length - 1 : Nat) : Int) = D + (off + 7 * ((L.length : Nat) - 1)) by omega]
    simp [hd]
  · intro N n1 n5 hN
    unfold holiday
    rw [if_pos ⟨hm _ (Or.inl ⟨n1, n5⟩), y1, y2⟩]
    unfold rawDay
    rw [if_neg (by decide), if_neg (by decide)]
    unfold nthDay
    rw [hL, if_neg (by omega), if_neg (by omega), hA (N - 1).toNat (by omega)]
    rw [show (1 : Int) + off + 7 * (N - 1) = 1 + (off + 7 * (N - 1)) by omega, e]
    have hd := hday (off + 7 * (N - 1)) (by omega) (by omega)
    rw [show D + off + 7 * (((N - 1).toNat : Nat) : Int) = D + (off + 7 * (N - 1)) by omega]
    simp [hd]
  · intro N n1 n5 hN
    unfold holiday
    rw [if_pos ⟨hm _ (Or.inl ⟨n1, n5⟩), y1, y2⟩]
    unfold rawDay
    rw [if_neg (by decide), if_neg (by decide)]
    unfold nthDay
    rw [hL, if_pos (by omega)]
    rfl
end Go.Proofs.YtlhmfgbaefaneabGreatDoor.law6
namespace Go.Proofs.YtlhmfgbaefaneabGreatDoor.day
open Go.Proofs.YtlhmfgbaefaneabGreatDoor.ref (str pad pad_cons)
open Go.Proofs.YtlhmfgbaefaneabGreatDoor.ref6 (dayText)
def Before (y m d y' m' d' : Int) : Prop := y < y' ∨ (y = y' ∧ (m < m' ∨ (m = m' ∧ d < d')))
instance (y m d y' m' d' : Int) : Decidable (Before y m d y' m' d') := by unfold Before; infer_instance
theorem Before.lt {y m d y' m' d' : Int} (h : IsCivil y m d) (h' : IsCivil y' m' d') (hb : Before y m d y' m' d') : dayOf y m d < dayOf y' m' d' := by
  rcases hb with hy | ⟨rfl, hm | ⟨rfl, hd⟩⟩
  · have a := dayOf_year h
    have b := dayOf_year h'
    have := ydays_mono (show (y - 1900).toNat + 1 ≤ (y' - 1900).toNat by have := h.1; omega)
    have e : ((y' - 1900).toNat : Int) - ((y - 1900).toNat + 1 : Nat) ≥ 0 := by have := h.1; omega
    omega
  · have a := dayOf_in h
    have b := dayOf_in h'
    have hm1 := h.month
    have := mdays_mono (y := y) (show m.toNat ≤ (m' - 1).toNat by omega)
    omega
  · unfold dayOf
    omega
end Go.Proofs.YtlhmfgbaefaneabGreatDoor.day
