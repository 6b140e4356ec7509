/-
  The steps of the walks, part 1: Law6Kit, DayOrd.
-/
import Derived.Laws.BitsLemmas
import Derived.Laws.Cover1
import Derived.Test.YtlhmfgbaefaneaaGreatDoorB01
import Derived.Test.YtlhmfgbaefaneaaGreatDoorB02
import Derived.Test.YtlhmfgbaefaneaaGreatDoorB03
import Derived.Test.YtlhmfgbaefaneaaGreatDoorB04
import Derived.Test.YtlhmfgbaefaneaaGreatDoorB05
import Derived.Test.YtlhmfgbaefaneaaGreatDoorB06
import Derived.Test.YtlhmfgbaefaneaaGreatDoorB07
import Derived.Test.YtlhmfgbaefaneaaGreatDoorB08
import Derived.Test.YtlhmfgbaefaneaaGreatDoorB09
import Derived.Test.YtlhmfgbaefaneaaGreatDoorB10
import Derived.Test.YtlhmfgbaefaneaaGreatDoorB11
import Derived.Test.YtlhmfgbaefaneaaGreatDoorB12
import Derived.Test.YtlhmfgbaefaneaaGreatDoorB13
import Derived.Test.YtlhmfgbaefaneaaGreatDoorB14
import Derived.Test.YtlhmfgbaefaneaaGreatDoorB15
import Derived.Test.YtlhmfgbaefaneaaGreatDoorB16
import Derived.Test.YtlhmfgbaefaneaaGreatDoorB17
import Derived.Test.YtlhmfgbaefaneaaGreatDoorB18
import Derived.Test.YtlhmfgbaefaneaaGreatDoorB19
import Derived.Test.YtlhmfgbaefaneaaGreatDoorB20
import Derived.Test.YtlhmfgbaefaneaaGreatDoorB21
import Derived.Test.YtlhmfgbaefaneaaGreatDoorB22
namespace Go.Proofs.YtlhmfgbaefaneaaGreatDoor.law6
open Go Go.RowKit Go.Proofs.YtlhmfgbaefaneaaGreatDoor.day Go.Proofs.YtlhmfgbaefaneaaGreatDoor.date
open Go.Proofs.YtlhmfgbaefaneaaGreatDoor.ref (str str_size)
open Go.Proofs.YtlhmfgbaefaneaaGreatDoor.ref6 (CAt dayText DayForm quiet_same drewN_below6)
open Go.Proofs.YtlhmfgbaefaneaaGreatDoor.itoa (Tab)
theorem Day_isDay (n : Int) : IsDay (n % 109573) := ⟨by omega, by omega⟩
end Go.Proofs.YtlhmfgbaefaneaaGreatDoor.law6
namespace Go.Proofs.YtlhmfgbaefaneaaGreatDoor.day
open Go.Proofs.YtlhmfgbaefaneaaGreatDoor.ref (str pad pad_cons)
open Go.Proofs.YtlhmfgbaefaneaaGreatDoor.ref6 (dayText)
def Before (y m d y' m' d' : Int) : Prop := y < y' ∨ (y = y' ∧ (m < m' ∨ (m = m' ∧ d < d')))
instance (y m d y' m' d' : Int) : Decidable (Before y m d y' m' d') := by unfold Before; infer_instance
theorem Before.lt {y m d y' m' d' : Int} (h : IsCivil y m d) (h' : IsCivil y' m' d') (hb : Before y m d y' m' d') : dayOf y m d < dayOf y' m' d' := by
  rcases hb with hy | ⟨rfl, hm | ⟨rfl, hd⟩⟩
  · have a := dayOf_year h
    have b := dayOf_year h'
    have := ydays_mono (show (y - 1900).toNat + 1 ≤ (y' - 1900).toNat by have := h.1; omega)
    have e : ((y' - 1900).toNat : Int) - ((y - 1900).toNat + 1 : Nat) ≥ 0 := by have := h.1; omega
    omega
  · have a := dayOf_in h
    have b := dayOf_in h'
    have hm1 := h.month
    have := mdays_mono (y := y) (show m.toNat ≤ (m' - 1).toNat by omega)
    omega
  · unfold dayOf
    omega
theorem before_tri {y m d y' m' d' : Int} : Before y m d y' m' d' ∨ Before y' m' d' y m d ∨ (y = y' ∧ m = m' ∧ d = d') := by unfold Before; omega
theorem before_iff {y m d y' m' d' : Int} (h : IsCivil y m d) (h' : IsCivil y' m' d') : Before y m d y' m' d' ↔ dayOf y m d < dayOf y' m' d' := by
  refine ⟨Before.lt h h', fun hl => ?_⟩
  rcases before_tri (y := y) (m := m) (d := d) (y' := y') (m' := m') (d' := d') with hb | hb | ⟨rfl, rfl, rfl⟩
  · exact hb
  · have := Before.lt h' h hb; omega
  · omega
theorem u8_lt {a b : Nat} (ha : a < 10) (hb : b < 10) : (UInt8.ofNat (48 + a) < UInt8.ofNat (48 + b)) ↔ a < b := by
  rw [UInt8.lt_iff_toNat_lt]
  simp only [UInt8.toNat_ofNat']
  omega
theorem u8_eq {a b : Nat} (ha : a < 10) (hb : b < 10) : (UInt8.ofNat (48 + a) = UInt8.ofNat (48 + b)) ↔ a = b := by
  rw [← UInt8.toNat_inj]
  simp only [UInt8.toNat_ofNat']
  omega
theorem less_pad (r1 r2 : List UInt8) : ∀ (k u v : Nat), Op.bytesLess (pad k u ++ r1) (pad k v ++ r2) = (decide (u % 10 ^ k < v % 10 ^ k) || (decide (u % 10 ^ k = v % 10 ^ k) && Op.bytesLess r1 r2))
  | 0, u, v => by simp [pad, Nat.mod_one]
  | k + 1, u, v => by
    rw [pad_cons, pad_cons, List.cons_append, List.cons_append, Op.bytesLess, less_pad r1 r2 k u v]
    have hp : 0 < 10 ^ k := Nat.pow_pos (by omega)
    have a1 : u / 10 ^ k % 10 < 10 := Nat.mod_lt _ (by omega)
    have a2 : v / 10 ^ k % 10 < 10 := Nat.mod_lt _ (by omega)
    have e1 : u % 10 ^ (k + 1) = u % 10 ^ k + 10 ^ k * (u / 10 ^ k % 10) := Nat.mod_pow_succ
    have e2 : v % 10 ^ (k + 1) = v % 10 ^ k + 10 ^ k * (v / 10 ^ k % 10) := Nat.mod_pow_succ
    have b1 : u % 10 ^ k < 10 ^ k := Nat.mod_lt _ hp
    have b2 : v % 10 ^ k < 10 ^ k := Nat.mod_lt _ hp
    rw [e1, e2]
    generalize u / 10 ^ k % 10 = a at *
    generalize v / 10 ^ k % 10 = b at *
    generalize u % 10 ^ k = p at *
    generalize v % 10 ^ k = q at *
    generalize 10 ^ k = t at *
    clear e1 e2
    have c1 := u8_lt a1 a2
    have c2 := u8_eq a1 a2
    generalize UInt8.ofNat (48 + a) = A at *
    generalize UInt8.ofNat (48 + b) = B at *
    rcases Nat.lt_trichotomy a b with h | h | h
    · have hm : t * (a + 1) ≤ t * b := Nat.mul_le_mul_left t (by omega)
      rw [Nat.mul_add, Nat.mul_one] at hm
      have : p + t * a < q + t * b := by omega
      simp [c1.2 h, this]
    · subst h
      obtain rfl : A = B := c2.2 rfl
      simp
    · have hm : t * (b + 1) ≤ t * a := Nat.mul_le_mul_left t (by omega)
      rw [Nat.mul_add, Nat.mul_one] at hm
      have n1 : ¬ (A < B) := fun hh => by have := c1.1 hh; omega
      have n2 : ¬ (A = B) := fun hh => by have := c2.1 hh; omega
      have n3 : ¬ (p + t * a < q + t * b) := by omega
      have n4 : ¬ (p + t * a = q + t * b) := by omega
      simp [n1, n2, n3, n4]
theorem less_cons (c : UInt8) (a b : List UInt8) : Op.bytesLess (c :: a) (c :: b) = Op.bytesLess a b := by simp [Op.bytesLess]
theorem str_toList (l : List UInt8) : (str l).toList = l := by
  rw [ByteArray.toList_eq]; simp [str]
theorem text_less {y m d y' m' d' : Int} (h : IsCivil y m d) (h' : IsCivil y' m' d') : Op.bytesLess (str (dayText y m d)).toList (str (dayText y' m' d')).toList = decide (dayOf y m d < dayOf y' m' d') := by
  have hm := h.month
  have hm' := h'.month
  have l1 := mlen_hi y m
  have l2 := mlen_hi y' m'
  obtain ⟨a1, a2, a3, a4⟩ := id h
  obtain ⟨b1, b2, b3, b4⟩ := id h'
  rw [show decide (dayOf y m d < dayOf y' m' d') = decide (Before y m d y' m' d') from decide_eq_decide.2 (before_iff h h').symm]
  generalize mlen y m = p1 at *
  generalize mlen y' m' = p2 at *
  clear h h'
  obtain ⟨Y, rfl⟩ : ∃ Y : Nat, y = Y := ⟨y.toNat, by omega⟩
  obtain ⟨M, rfl⟩ : ∃ Y : Nat, m = Y := ⟨m.toNat, by omega⟩
  obtain ⟨D, rfl⟩ : ∃ Y : Nat, d = Y := ⟨d.toNat, by omega⟩
  obtain ⟨Y', rfl⟩ : ∃ Y : Nat, y' = Y := ⟨y'.toNat, by omega⟩
  obtain ⟨M', rfl⟩ : ∃ Y : Nat, m' = Y := ⟨m'.toNat, by omega⟩
  obtain ⟨D', rfl⟩ : ∃ Y : Nat, d' = Y := ⟨d'.toNat, by omega⟩
  rw [str_toList, str_toList]
  unfold dayText
  simp only [List.append_assoc, List.nil_append, List.cons_append, Int.toNat_natCast]
  rw [less_pad, less_cons, less_pad, less_cons]
  rw [show pad 2 D = pad 2 D ++ [] by simp, show pad 2 D' = pad 2 D' ++ [] by simp, less_pad]
  rw [Nat.mod_eq_of_lt (show Y < 10 ^ 4 by omega), Nat.mod_eq_of_lt (show Y' < 10 ^ 4 by omega), Nat.mod_eq_of_lt (show M < 10 ^ 2 by omega), Nat.mod_eq_of_lt (show M' < 10 ^ 2 by omega), Nat.mod_eq_of_lt (show D < 10 ^ 2 by omega), Nat.mod_eq_of_lt (show D' < 10 ^ 2 by omega)]
  rw [Bool.eq_iff_iff, decide_eq_true_iff]
  unfold Before
  simp only [Bool.or_eq_true, Bool.and_eq_true, decide_eq_true_eq, Op.bytesLess, Bool.false_eq_true, and_false, or_false]
  omega
theorem day_next {y m d : Int} (h : IsCivil y m d) (hn : dayOf y m d < 109572) :
    (d < mlen y m ∧ IsCivil y m (d + 1) ∧ dayOf y m (d + 1) = dayOf y m d + 1) ∨
    (d = mlen y m ∧ m < 12 ∧ IsCivil y (m + 1) 1 ∧ dayOf y (m + 1) 1 = dayOf y m d + 1) ∨
    (d = mlen y m ∧ m = 12 ∧ IsCivil (y + 1) 1 1 ∧ dayOf (y + 1) 1 1 = dayOf y m d + 1) := by
  have hm := h.month
  obtain ⟨a1, a2, a3, a4⟩ := id h
  rcases (show d < mlen y m ∨ d = mlen y m by omega) with hd | hd
  · exact Or.inl ⟨hd, ⟨a1, a2, by omega, by omega⟩, by unfold dayOf; omega⟩
  · by_cases h12 : m < 12
    · refine Or.inr (Or.inl ⟨hd, h12, ⟨a1, a2, by omega, ?_⟩, ?_⟩)
      · have := mlen_lo (y := y) (m := m + 1) (by omega) (by omega); omega
      · unfold dayOf
        obtain ⟨k, rfl⟩ : ∃ k : Nat, m = k + 1 := ⟨(m - 1).toNat, by omega⟩
        rw [show ((k : Int) + 1 + 1 - 1).toNat = k + 1 by omega, show ((k : Int) + 1 - 1).toNat = k by omega, mdays_succ]
        omega
    · obtain rfl : m = 12 := by omega
      obtain ⟨k, rfl⟩ : ∃ k : Nat, y = 1900 + k := ⟨(y - 1900).toNat, by omega⟩
      have e : dayOf (1900 + (k : Int) + 1) 1 1 = dayOf (1900 + k) 12 d + 1 := by
        unfold dayOf
        rw [show ((1900 : Int) + (k : Int) + 1 - 1900).toNat = k + 1 by omega, show ((1900 : Int) + (k : Int) - 1900).toNat = k by omega, ydays_succ]
        have hy := mdays_year (1900 + (k : Int))
        rw [show (12 : Nat) = 11 + 1 from rfl, mdays_succ] at hy
        rw [show ((12 : Int) - 1).toNat = 11 from rfl, show ((1 : Int) - 1).toNat = 0 from rfl]
        have e0 : mdays (1900 + (k : Int) + 1) 0 = 0 := rfl
        have e2 : mlen (1900 + (k : Int)) (((11 : Nat) : Int) + 1) = mlen (1900 + (k : Int)) 12 := rfl
        rw [e2] at hy
        rw [e0]
        omega
      refine Or.inr (Or.inr ⟨hd, rfl, ?_, e⟩)
      refine ⟨by omega, ?_, by omega, by have := mlen_lo (y := 1900 + (k : Int) + 1) (m := 1) (by omega) (by omega); omega⟩
      rcases (show (k : Int) = 299 ∨ k < 299 by omega) with h9 | h9
      · rw [h9] at hd hn
        have h1 : mlen (1900 + 299) 12 = 31 := by decide
        have h2 : dayOf (1900 + 299) 12 31 = 109572 := by decide +kernel
        have h3 : dayOf (1900 + 299) 12 d = 109572 := by rw [show d = 31 by omega]; exact h2
        rw [h3] at hn
        exact absurd hn (by decide)
      · omega
end Go.Proofs.YtlhmfgbaefaneaaGreatDoor.day
