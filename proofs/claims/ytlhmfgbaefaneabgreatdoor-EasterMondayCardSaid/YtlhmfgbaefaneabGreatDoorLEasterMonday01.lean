/-
  The steps of the walks, part 1: Law6Kit, Law6Eas, Law6Hol, DayOrd.
-/
import Derived.Laws.BitsLemmas
import Derived.Laws.Cover1
import Derived.Test.YtlhmfgbaefaneabGreatDoorB01
import Derived.Test.YtlhmfgbaefaneabGreatDoorB02
import Derived.Test.YtlhmfgbaefaneabGreatDoorB03
import Derived.Test.YtlhmfgbaefaneabGreatDoorB04
import Derived.Test.YtlhmfgbaefaneabGreatDoorB05
import Derived.Test.YtlhmfgbaefaneabGreatDoorB06
import Derived.Test.YtlhmfgbaefaneabGreatDoorB07
import Derived.Test.YtlhmfgbaefaneabGreatDoorB08
import Derived.Test.YtlhmfgbaefaneabGreatDoorB09
import Derived.Test.YtlhmfgbaefaneabGreatDoorB10
import Derived.Test.YtlhmfgbaefaneabGreatDoorB11
import Derived.Test.YtlhmfgbaefaneabGreatDoorB12
import Derived.Test.YtlhmfgbaefaneabGreatDoorB13
import Derived.Test.YtlhmfgbaefaneabGreatDoorB14
import Derived.Test.YtlhmfgbaefaneabGreatDoorB15
import Derived.Test.YtlhmfgbaefaneabGreatDoorB16
import Derived.Test.YtlhmfgbaefaneabGreatDoorB17
import Derived.Test.YtlhmfgbaefaneabGreatDoorB18
import Derived.Test.YtlhmfgbaefaneabGreatDoorB19
import Derived.Test.YtlhmfgbaefaneabGreatDoorB20
import Derived.Test.YtlhmfgbaefaneabGreatDoorB21
import Derived.Test.YtlhmfgbaefaneabGreatDoorB22
import Derived.Test.YtlhmfgbaefaneabGreatDoorB23
import Derived.Test.YtlhmfgbaefaneabGreatDoorB24
import Derived.Test.YtlhmfgbaefaneabGreatDoorB25
import Derived.Test.YtlhmfgbaefaneabGreatDoorB26
import Derived.Test.YtlhmfgbaefaneabGreatDoorB27
import Derived.Test.YtlhmfgbaefaneabGreatDoorB28
import Derived.Test.YtlhmfgbaefaneabGreatDoorB29
import Derived.Test.YtlhmfgbaefaneabGreatDoorB30
import Derived.Test.YtlhmfgbaefaneabGreatDoorB31
import Derived.Test.YtlhmfgbaefaneabGreatDoorB32
import Derived.Test.YtlhmfgbaefaneabGreatDoorB33
import Derived.Test.YtlhmfgbaefaneabGreatDoorB34
import Derived.Test.YtlhmfgbaefaneabGreatDoorB35
import Derived.Test.YtlhmfgbaefaneabGreatDoorB36
import Derived.Test.YtlhmfgbaefaneabGreatDoorB37
import Derived.Test.YtlhmfgbaefaneabGreatDoorB38
import Derived.Test.YtlhmfgbaefaneabGreatDoorB39
import Derived.Test.YtlhmfgbaefaneabGreatDoorB40
namespace Go.Proofs.YtlhmfgbaefaneabGreatDoor.law6
open Go Go.RowKit Go.Proofs.YtlhmfgbaefaneabGreatDoor.day Go.Proofs.YtlhmfgbaefaneabGreatDoor.date
open Go.Proofs.YtlhmfgbaefaneabGreatDoor.ref (str str_size)
open Go.Proofs.YtlhmfgbaefaneabGreatDoor.ref6 (CAt dayText DayForm quiet_same drewN_below6)
open Go.Proofs.YtlhmfgbaefaneabGreatDoor.itoa (Tab)
theorem same_below {f : Nat} {args : Array Value} {E : Ending} {w : World} (h : Calls Tryz.prog f args w fun e w' => e = E ∧ w = w') : Calls Tryz.prog f args w fun e w' => e = E ∧ Below w.heap.size w w' :=
  h.mono fun _ _ ⟨he, hw⟩ => ⟨he, hw ▸ Below.refl _ _⟩
end Go.Proofs.YtlhmfgbaefaneabGreatDoor.law6
namespace Go.Proofs.YtlhmfgbaefaneabGreatDoor.law6
open Go Go.RowKit Go.Proofs.YtlhmfgbaefaneabGreatDoor.day Go.Proofs.YtlhmfgbaefaneabGreatDoor.date
theorem sunday_all : (List.range 300).all (fun k => decide (wday (easterDay (1900 + (k : Nat))) = 0 ∧ (easterN (1900 + (k : Nat)) / 31 = 3 ∧ 22 ≤ easterN (1900 + (k : Nat)) % 31 + 1 ∨ easterN (1900 + (k : Nat)) / 31 = 4 ∧ easterN (1900 + (k : Nat)) % 31 + 1 ≤ 25))) = true := by decide +kernel
theorem easter_sunday {y : Int} (h1 : 1900 ≤ y) (h2 : y ≤ 2199) : wday (easterDay y) = 0 ∧ (easterN y / 31 = 3 ∧ 22 ≤ easterN y % 31 + 1 ∨ easterN y / 31 = 4 ∧ easterN y % 31 + 1 ≤ 25) := by
  have h := sunday_all
  rw [List.all_eq_true] at h
  have h3 := h (y - 1900).toNat (List.mem_range.2 (by omega))
  rw [decide_eq_true_eq, show (1900 : Int) + ((y - 1900).toNat : Nat) = y by omega] at h3
  exact h3
end Go.Proofs.YtlhmfgbaefaneabGreatDoor.law6
namespace Go.Proofs.YtlhmfgbaefaneabGreatDoor.law6
open Go Go.RowKit Go.Proofs.YtlhmfgbaefaneabGreatDoor.day Go.Proofs.YtlhmfgbaefaneabGreatDoor.date
open Go.Proofs.YtlhmfgbaefaneabGreatDoor.ref6 (Rule May holiday ruleDay rawDay shiftDay nthDay daysW)
theorem easter_place : (List.range 300).all (fun k => decide (ydays k + 79 ≤ easterDay (1900 + (k : Nat)) ∧ easterDay (1900 + (k : Nat)) ≤ ydays k + 120 ∧ 100 ≤ easterDay (1900 + (k : Nat)) ∧ easterDay (1900 + (k : Nat)) ≤ 109472)) = true := by decide +kernel
theorem easter_lies {y : Int} (h1 : 1900 ≤ y) (h2 : y ≤ 2199) : ydays (y - 1900).toNat + 79 ≤ easterDay y ∧ easterDay y ≤ ydays (y - 1900).toNat + 120 ∧ 100 ≤ easterDay y ∧ easterDay y ≤ 109472 := by
  have h := easter_place
  rw [List.all_eq_true] at h
  have h3 := h (y - 1900).toNat (List.mem_range.2 (by omega))
  rw [decide_eq_true_eq, show (1900 : Int) + ((y - 1900).toNat : Nat) = y by omega] at h3
  exact h3
theorem easter_holiday {y n : Int} (h1 : 1900 ≤ y) (h2 : y ≤ 2199) (n1 : -100 ≤ n) (n2 : n ≤ 100) : holiday 3 0 0 n 0 false y = some (easterDay y + n) ∧ IsDay (easterDay y + n) := by
  obtain ⟨-, -, a, b⟩ := easter_lies h1 h2
  have hd : IsDay (easterDay y + n) := ⟨by omega, by omega⟩
  refine ⟨?_, hd⟩
  unfold holiday
  rw [if_pos ⟨Or.inr (Or.inr ⟨rfl, n1, n2, rfl, rfl, rfl, rfl⟩), h1, h2⟩]
  simp [rawDay, hd]
theorem easter_rule {y n y' m a : Int} (h1 : 1900 ≤ y) (h2 : y ≤ 2199) (n1 : -100 ≤ n) (n2 : n ≤ 100) (hc : IsCivil y' m a) (e : dayOf y' m a = easterDay y + n) : ruleDay 3 0 0 n 0 false y' (dayOf y' m a) := by
  obtain ⟨a1, a2, -, -⟩ := easter_lies h1 h2
  have hh := (easter_holiday h1 h2 n1 n2).1
  have hy := dayOf_year hc
  rw [e] at hy ⊢
  have c1 := hc.1
  have hle : y' ≤ y := by
    rcases (show y' ≤ y ∨ y + 1 ≤ y' by omega) with h | h
    · exact h
    · have := ydays_mono (show (y - 1900).toNat + 1 ≤ (y' - 1900).toNat by omega)
      have l := ylen_lo (1900 + ((y - 1900).toNat : Nat))
      rw [ydays_succ] at this
      omega
  have hge : y - 1 ≤ y' := by
    rcases (show y - 1 ≤ y' ∨ y' + 2 ≤ y by omega) with h | h
    · exact h
    · have := ydays_mono (show (y' - 1900).toNat + 1 ≤ (y - 1900).toNat by omega)
      have t : ((y - 1900).toNat : Int) - (((y' - 1900).toNat + 1 : Nat) : Int) ≥ 1 := by omega
      omega
  rcases (show y' = y ∨ y' + 1 = y by omega) with rfl | rfl
  · exact Or.inr (Or.inl hh)
  · exact Or.inr (Or.inr hh)
end Go.Proofs.YtlhmfgbaefaneabGreatDoor.law6
namespace Go.Proofs.YtlhmfgbaefaneabGreatDoor.day
open Go.Proofs.YtlhmfgbaefaneabGreatDoor.ref (str pad pad_cons)
open Go.Proofs.YtlhmfgbaefaneabGreatDoor.ref6 (dayText)
def Before (y m d y' m' d' : Int) : Prop := y < y' ∨ (y = y' ∧ (m < m' ∨ (m = m' ∧ d < d')))
instance (y m d y' m' d' : Int) : Decidable (Before y m d y' m' d') := by unfold Before; infer_instance
theorem Before.lt {y m d y' m' d' : Int} (h : IsCivil y m d) (h' : IsCivil y' m' d') (hb : Before y m d y' m' d') : dayOf y m d < dayOf y' m' d' := by
  rcases hb with hy | ⟨rfl, hm | ⟨rfl, hd⟩⟩
  · have a := dayOf_year h
    have b := dayOf_year h'
    have := ydays_mono (show (y - 1900).toNat + 1 ≤ (y' - 1900).toNat by have := h.1; omega)
    have e : ((y' - 1900).toNat : Int) - ((y - 1900).toNat + 1 : Nat) ≥ 0 := by have := h.1; omega
    omega
  · have a := dayOf_in h
    have b := dayOf_in h'
    have hm1 := h.month
    have := mdays_mono (y := y) (show m.toNat ≤ (m' - 1).toNat by omega)
    omega
  · unfold dayOf
    omega
end Go.Proofs.YtlhmfgbaefaneabGreatDoor.day
