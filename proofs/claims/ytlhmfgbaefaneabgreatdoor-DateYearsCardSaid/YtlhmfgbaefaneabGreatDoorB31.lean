/-
  The steps of the walks, part 31: RatForm, RefGetQ, RatG, RatTxt, Law6Cnt, RefNear, RefDec, Bnd, Law2Dg, Law2Kit.
-/
import Derived.Lib.Bytealg
import Derived.Laws.Externs
import Derived.Deep.QuietTactic
import Derived.BigQuiet
import Derived.StillTailTactics
import Derived.Deep.RegionHeld3
import Derived.Test.YtlhmfgbaefaneabGreatDoorB04
import Derived.Test.YtlhmfgbaefaneabGreatDoorB11
import Derived.Test.YtlhmfgbaefaneabGreatDoorB12
import Derived.Test.YtlhmfgbaefaneabGreatDoorB30
import Derived.Test.YtlhmfgbaefaneabGreatDoorB05
import Derived.Test.YtlhmfgbaefaneabGreatDoorB26
import Derived.Test.YtlhmfgbaefaneabGreatDoorB29
import Derived.Test.YtlhmfgbaefaneabGreatDoorB27
import Derived.Test.YtlhmfgbaefaneabGreatDoorB02
namespace Go.Proofs.YtlhmfgbaefaneabGreatDoor.ref
def RatForm (l : List UInt8) (z : Int) (d : Nat) : Prop := (IntText l z ∧ d = 1) ∨ ∃ a b, l = a ++ 47 :: b ∧ IntText a z ∧ Numeral b ∧ d = seg b 0 b.length ∧ 0 < d
theorem numeral_mem {l : List UInt8} (h : Numeral l) {c : UInt8} (hc : c ∈ l) : 48 ≤ c.toNat ∧ c.toNat ≤ 57 := by
  obtain ⟨i, hi, rfl⟩ := List.mem_iff_getElem.1 hc
  have := h.2.2.2 i hi
  unfold IsDig ch at this
  rw [List.getD_eq_getElem?_getD, List.getElem?_eq_getElem hi] at this
  exact this
theorem IntText.mem {l : List UInt8} {z : Int} (h : IntText l z) {c : UInt8} (hc : c ∈ l) : c ≠ 47 := by
  rintro rfl
  rcases h with ⟨h, _⟩ | ⟨t, rfl, h, _⟩
  · have := numeral_mem h hc
    simp at this
  · rcases List.mem_cons.1 hc with h1 | h1
    · simp at h1
    · have := numeral_mem h h1
      simp at this
theorem RatForm.whole {l : List UInt8} {z : Int} {d : Nat} (h : RatForm l z d) (hn : ∀ c ∈ l, c ≠ 47) : IntText l z ∧ d = 1 := by
  rcases h with h | ⟨a, b, rfl, _⟩
  · exact h
  · exact absurd rfl (hn 47 (by simp))
theorem RatForm.parts {a b : List UInt8} {z : Int} {d : Nat} (h : RatForm (a ++ 47 :: b) z d) (hn : ∀ c ∈ a, c ≠ 47) : IntText a z ∧ Numeral b ∧ d = seg b 0 b.length ∧ 0 < d := by
  rcases h with ⟨h, -⟩ | ⟨a', b', he, h1, h2, h3, h4⟩
  · exact absurd rfl (h.mem (c := 47) (by simp))
  · have : a = a' ∧ b = b' := by
      clear h2 h3 h4
      have hn' : ∀ c ∈ a', c ≠ 47 := fun c hc => h1.mem hc
      clear h1
      induction a generalizing a' with
      | nil =>
        rcases a' with _ | ⟨c, a'⟩
        · simp at he; exact ⟨rfl, he⟩
        · simp at he
          exact absurd he.1.symm (hn' c (by simp))
      | cons x a ih =>
        rcases a' with _ | ⟨c, a'⟩
        · simp at he
          exact absurd he.1 (hn x (by simp))
        · simp at he
          obtain ⟨rfl, he⟩ := he
          obtain ⟨rfl, rfl⟩ := ih (fun c hc => hn c (by simp [hc])) a' he (fun c hc => hn' c (by simp [hc]))
          exact ⟨rfl, rfl⟩
    obtain ⟨rfl, rfl⟩ := this
    exact ⟨h1, h2, h3, h4⟩
theorem RatForm.inj {l : List UInt8} {z z' : Int} {d d' : Nat} (h : RatForm l z d) (h' : RatForm l z' d') : z = z' ∧ d = d' := by
  rcases h with ⟨h, rfl⟩ | ⟨a, b, rfl, h1, h2, rfl, h4⟩
  · obtain ⟨k, rfl⟩ := h'.whole fun c hc => h.mem hc
    exact ⟨h.inj k, rfl⟩
  · obtain ⟨k1, k2, k3, k4⟩ := h'.parts fun c hc => h1.mem hc
    exact ⟨h1.inj k1, k3.symm⟩
end Go.Proofs.YtlhmfgbaefaneabGreatDoor.ref
namespace Go.Proofs.YtlhmfgbaefaneabGreatDoor.ref
open Go.RowKit
theorem IsQ.of {w : World} {s t : Value} {z : Int} {d : Nat} {p : Bool} (hp : decide (z < 0) = p) (hs : IsN w s z.natAbs) (ht : IsN w t d) : IsQ w (.agg #[.bool p, s, t]) z d := ⟨s, t, by rw [hp], hs, ht⟩
end Go.Proofs.YtlhmfgbaefaneabGreatDoor.ref
namespace Go.Proofs.YtlhmfgbaefaneabGreatDoor.rat
open Go.RowKit Go.Proofs.YtlhmfgbaefaneabGreatDoor.nat Go.Proofs.YtlhmfgbaefaneabGreatDoor.num
open Go.Proofs.YtlhmfgbaefaneabGreatDoor.ref (str str_size IntText Numeral seg seg_lt)
theorem Ln_tens {x n m : Nat} (h : x < 10 ^ n) (hn : n ≤ m) : Ln x m :=
  Ln_pow (Nat.lt_of_lt_of_le h (Nat.le_trans (Nat.pow_le_pow_right (by omega) hn) (Nat.pow_le_pow_left (by omega) _)))
def FracText (l : List UInt8) (q : Rat) : Prop := (IntText l q.num ∧ q.den = 1) ∨ ∃ a b, l = a ++ 47 :: b ∧ IntText a q.num ∧ IntText b (q.den : Int) ∧ 1 < q.den
end Go.Proofs.YtlhmfgbaefaneabGreatDoor.rat
namespace Go.Proofs.YtlhmfgbaefaneabGreatDoor.rat
open Go.Proofs.YtlhmfgbaefaneabGreatDoor.ref (str IntText Numeral seg seg_lt lowN lowD ratText RatForm signed)
theorem low_ends {z : Int} {d : Nat} (hd : 0 < d) : ((z : Rat) / (d : Rat)).num = lowN z d ∧ ((z : Rat) / (d : Rat)).den = lowD z d := by
  have hg : 0 < Nat.gcd z.natAbs d := Nat.gcd_pos_of_pos_right _ hd
  obtain ⟨D, hD⟩ := Nat.gcd_dvd_right z.natAbs d
  obtain ⟨Z, hZ⟩ : ((Nat.gcd z.natAbs d : Nat) : Int) ∣ z := by rw [← Int.dvd_natAbs, Int.ofNat_dvd]; exact Nat.gcd_dvd_left _ _
  have hc : Nat.gcd (z.natAbs / Nat.gcd z.natAbs d) (d / Nat.gcd z.natAbs d) = 1 := Nat.coprime_div_gcd_div_gcd hg
  have hN : (lowN z d).natAbs = z.natAbs / Nat.gcd z.natAbs d := ref.lowN_abs z d
  have hNZ : lowN z d = Z := by
    have h1 : z.natAbs / Nat.gcd z.natAbs d = Z.natAbs := by
      have : z.natAbs = Nat.gcd z.natAbs d * Z.natAbs := by
        conv => lhs; rw [hZ]
        rw [Int.natAbs_mul, Int.natAbs_natCast]
      rw [Nat.div_eq_of_eq_mul_right hg this]
    unfold lowN
    rw [h1]
    unfold signed
    have hsg : z < 0 ↔ Z < 0 := by
      constructor <;> intro h
      · rcases Int.lt_or_le Z 0 with h2 | h2
        · exact h2
        · have := Int.mul_nonneg (show (0 : Int) ≤ ((Nat.gcd z.natAbs d : Nat) : Int) by omega) h2
          omega
      · have := Int.mul_neg_of_pos_of_neg (show (0 : Int) < ((Nat.gcd z.natAbs d : Nat) : Int) by omega) h
        omega
    by_cases h : z < 0
    · have h2 := hsg.1 h
      simp [h]; omega
    · have h2 : ¬ Z < 0 := fun k => h (hsg.2 k)
      simp [h]; omega
  have hDD : lowD z d = D := by
    unfold lowD
    exact Nat.div_eq_of_eq_mul_right hg hD
  have hD0 : 0 < lowD z d := by
    rw [hDD]
    exact Nat.pos_of_ne_zero fun h => by rw [h] at hD; omega
  refine num_den_of hD0 (by rw [hN]; exact hc) ?_
  rw [hNZ, hDD]
  have e1 : (z : Rat) = ((Nat.gcd z.natAbs d : Nat) : Rat) * (Z : Rat) := by
    conv => lhs; rw [hZ]
    rw [Rat.intCast_mul, Rat.intCast_natCast]
  have e2 : (d : Rat) = ((Nat.gcd z.natAbs d : Nat) : Rat) * (D : Rat) := by
    conv => lhs; rw [hD]
    rw [Rat.natCast_mul]
  have n1 := cast_ne hg
  have n2 : (D : Rat) ≠ 0 := cast_ne (by rw [hDD] at hD0; exact hD0)
  rw [e1, e2]
  generalize ((Nat.gcd z.natAbs d : Nat) : Rat) = g at *
  grind
theorem ratText_rtxt {z : Int} {d : Nat} (hd : 0 < d) : ratText z d = rtxt ((z : Rat) / (d : Rat)) := by
  unfold rtxt ratText
  rw [(low_ends hd).1, (low_ends hd).2]
theorem low_le {z : Int} {d : Nat} (hd : 0 < d) : ((z : Rat) / (d : Rat)).num.natAbs ≤ z.natAbs ∧ ((z : Rat) / (d : Rat)).den ≤ d := by
  rw [(low_ends hd).1, (low_ends hd).2, ref.lowN_abs]
  exact ⟨Nat.div_le_self _ _, Nat.div_le_self _ _⟩
theorem FracText.form {l : List UInt8} {q : Rat} (h : FracText l q) : RatForm l q.num q.den ∧ l = ratText q.num q.den ∧ l = rtxt q := by
  have hr : ratText q.num q.den = rtxt q := by rw [ratText_rtxt q.den_pos, ← self_div]
  rcases h with ⟨h, h1⟩ | ⟨a, b, rfl, h1, h2, h3⟩
  · have e : l = rtxt q := by unfold rtxt; rw [if_pos h1, List.append_nil]; exact h.itoa
    exact ⟨Or.inl ⟨h, h1⟩, by rw [hr]; exact e, e⟩
  · have hb : Numeral b ∧ q.den = seg b 0 b.length := by
      rcases h2 with ⟨h2, h4⟩ | ⟨t, rfl, h2, h4, h5⟩
      · exact ⟨h2, by omega⟩
      · omega
    have e : a ++ 47 :: b = rtxt q := by
      unfold rtxt
      rw [if_neg (by omega), ← h1.itoa]
      congr 2
      rw [hb.2]
      exact hb.1.dec
    exact ⟨Or.inr ⟨a, b, rfl, h1, hb.1, hb.2, q.den_pos⟩, by rw [hr]; exact e, e⟩
end Go.Proofs.YtlhmfgbaefaneabGreatDoor.rat
namespace Go.Proofs.YtlhmfgbaefaneabGreatDoor.law6
open Go Go.RowKit Go.Proofs.YtlhmfgbaefaneabGreatDoor.day Go.Proofs.YtlhmfgbaefaneabGreatDoor.date
open Go.Proofs.YtlhmfgbaefaneabGreatDoor.ref6 (thirty)
def cdays (k y m d y' m' d' : Int) : Int := if k = 1 then thirty y m d y' m' d' else dayOf y' m' d' - dayOf y m d
def cpart (k y m d y' m' d' s t f : Int) : Rat := if k = 4 then ((dayOf y' m' d' - dayOf y m d : Int) : Rat) / ((f * (t - s) : Int) : Rat) else (cdays k y m d y' m' d' : Rat) / ((if k = 3 then 365 else 360 : Int) : Rat)
structure CntC : Prop where
  may : ∀ (k : Int) (w : World), Wd w → Calls Tryz.prog 53 #[.int .i64 k] w fun e w' => e = .returned (.bool (decide (1 ≤ k ∧ k ≤ 4))) ∧ Below w.heap.size w w'
  days : ∀ (k y m d y' m' d' : Int), 1 ≤ k → k ≤ 4 → IsCivil y m d → IsCivil y' m' d' → ∀ w, Wd w → Calls Tryz.prog 47 #[.int .i64 k, .int .i64 (dayOf y m d), .int .i64 (dayOf y' m' d')] w fun e w' => e = .returned (.int .i64 (cdays k y m d y' m' d')) ∧ Below w.heap.size w w'
  daysNo : ∀ (k a b : Int), ¬ (1 ≤ k ∧ k ≤ 4 ∧ IsDay a ∧ IsDay b) → ∀ w, Wd w → Calls Tryz.prog 47 #[.int .i64 k, .int .i64 a, .int .i64 b] w fun e w' => e = .returned (.int .i64 0) ∧ Below w.heap.size w w'
  part : ∀ (k y m d y' m' d' s t f : Int), 1 ≤ k → k ≤ 4 → IsCivil y m d → IsCivil y' m' d' → dayOf y m d ≤ dayOf y' m' d' → (k = 4 → IsDay s ∧ IsDay t ∧ s < t ∧ 1 ≤ f ∧ f ≤ 1000) → ∀ w, Wd w →
    Calls Tryz.prog 19 #[.int .i64 k, .int .i64 (dayOf y m d), .int .i64 (dayOf y' m' d'), .int .i64 s, .int .i64 t, .int .i64 f] w fun e w' => ∃ u, e = .returned (.tuple #[u, .nilIface]) ∧ (rat.IsR w' u (cpart k y m d y' m' d' s t f) ∧ u ≠ .pointer none) ∧ Below w.heap.size w w'
  partForm : ∀ (k a b s t f : Int), k < 1 ∨ 4 < k → ∀ w, Wd w → Calls Tryz.prog 19 #[.int .i64 k, .int .i64 a, .int .i64 b, .int .i64 s, .int .i64 t, .int .i64 f] w fun e w' => e = .returned (.tuple #[.pointer none, errOf 1]) ∧ Below w.heap.size w w'
  partDate : ∀ (k a b s t f : Int), 1 ≤ k → k ≤ 4 → ¬ (IsDay a ∧ IsDay b ∧ a ≤ b ∧ (k = 4 → IsDay s ∧ IsDay t)) → ∀ w, Wd w → Calls Tryz.prog 19 #[.int .i64 k, .int .i64 a, .int .i64 b, .int .i64 s, .int .i64 t, .int .i64 f] w fun e w' => e = .returned (.tuple #[.pointer none, errOf 4]) ∧ Below w.heap.size w w'
  partRange : ∀ (a b s t f : Int), IsDay a → IsDay b → a ≤ b → IsDay s → IsDay t → ¬ (s < t ∧ 1 ≤ f) → ∀ w, Wd w → Calls Tryz.prog 19 #[.int .i64 4, .int .i64 a, .int .i64 b, .int .i64 s, .int .i64 t, .int .i64 f] w fun e w' => e = .returned (.tuple #[.pointer none, errOf 2]) ∧ Below w.heap.size w w'
theorem lr_div {z : Int} {d : Nat} (hd : 0 < d) (hz : z.natAbs < 18446744073709551616) (hd2 : d < 18446744073709551616) : rat.Lr ((z : Rat) / ((d : Nat) : Rat)) 1 := by
  obtain ⟨h1, h2⟩ := rat.low_le (z := z) hd
  exact ⟨num.Ln_small (Nat.lt_of_le_of_lt h1 hz), num.Ln_small (Nat.lt_of_le_of_lt h2 hd2)⟩
theorem lr_int {z d : Int} (hd : 0 < d) (hz : z.natAbs < 18446744073709551616) (hd2 : d < 18446744073709551616) : rat.Lr ((z : Rat) / (d : Rat)) 1 := by
  have h := lr_div (z := z) (d := d.toNat) (by omega) hz (by omega)
  rwa [show ((d.toNat : Nat) : Rat) = (d : Rat) from by rw [← Rat.intCast_natCast, Int.toNat_of_nonneg (by omega)]] at h
end Go.Proofs.YtlhmfgbaefaneabGreatDoor.law6
namespace Go.Proofs.YtlhmfgbaefaneabGreatDoor.ref
open Go.RowKit
def nearUp (x d : Nat) (mode : Int) : Bool :=
  (decide (mode = 1) && decide (d ≤ x % d * 2)) || (decide (mode = 2) && (decide (d < x % d * 2) || (decide (d = x % d * 2) && decide (x / d % 2 = 1))))
def nearN (x d : Nat) (mode : Int) : Nat := x / d + (if nearUp x d mode then 1 else 0)
theorem near_up {x d : Nat} {mode C : Int} (hC : C = cmpN (x % d * 2) d) : nearUp x d mode = (((mode == 1) && decide (0 ≤ C)) || ((mode == 2) && (decide (0 < C) || ((C == 0) && decide (x / d % 2 = 1))))) := by
  have h1 : decide (0 ≤ C) = decide (d ≤ x % d * 2) := by
    rw [decide_eq_decide, hC]; unfold cmpN; (repeat' split) <;> omega
  have h2 : decide (0 < C) = decide (d < x % d * 2) := by
    rw [decide_eq_decide, hC]; unfold cmpN; (repeat' split) <;> omega
  have h3 : (C == 0) = decide (d = x % d * 2) := by
    show decide (C = 0) = _
    rw [decide_eq_decide, hC]; unfold cmpN; (repeat' split) <;> omega
  unfold nearUp
  rw [h1, h2, h3]
  rfl
end Go.Proofs.YtlhmfgbaefaneabGreatDoor.ref
namespace Go.Proofs.YtlhmfgbaefaneabGreatDoor.ref
open Go.RowKit
def padTo (l : List UInt8) (k : Nat) : List UInt8 := List.replicate (k + 1 - l.length) 48 ++ l
def decBody (x k : Nat) : List UInt8 :=
  if k = 0 then padTo (Lib.decDigits x) 0 else (padTo (Lib.decDigits x) k).take ((padTo (Lib.decDigits x) k).length - k) ++ 46 :: (padTo (Lib.decDigits x) k).drop ((padTo (Lib.decDigits x) k).length - k)
def decText (z : Int) (k : Nat) : List UInt8 := if z < 0 then 45 :: decBody z.natAbs k else decBody z.natAbs k
theorem padTo_length (l : List UInt8) (k : Nat) : (padTo l k).length = max (k + 1) l.length := by
  unfold padTo
  rw [List.length_append, List.length_replicate]
  omega
end Go.Proofs.YtlhmfgbaefaneabGreatDoor.ref
namespace Go.Proofs.YtlhmfgbaefaneabGreatDoor.law2
open Go.Proofs.YtlhmfgbaefaneabGreatDoor.num (Lz Ln)
def Bn (x n : Nat) : Prop := x < 10 ^ n
def Bz (z : Int) (n : Nat) : Prop := z.natAbs < 10 ^ n
def Br (q : Rat) (n : Nat) : Prop := Bz q.num n ∧ Bn q.den n
theorem ten_le {n m : Nat} (h : n ≤ m) : 10 ^ n ≤ 10 ^ m := Nat.pow_le_pow_right (by omega) h
theorem Bn.le {x n m : Nat} (h : Bn x n) (hm : n ≤ m) : Bn x m := Nat.lt_of_lt_of_le h (ten_le hm)
theorem Bz.le {x : Int} {n m : Nat} (h : Bz x n) (hm : n ≤ m) : Bz x m := Nat.lt_of_lt_of_le h (ten_le hm)
theorem Br.le {q : Rat} {n m : Nat} (h : Br q n) (hm : n ≤ m) : Br q m := ⟨h.1.le hm, h.2.le hm⟩
theorem Bn.nat {x n m : Nat} (h : Bn x n) (hm : n ≤ m) : (nat.digs x).length ≤ m :=
  Nat.le_trans (nat.digs_len (n := n) (Nat.lt_of_lt_of_le h (Nat.pow_le_pow_left (by omega) _))) hm
theorem Bz.nat {z : Int} {n m : Nat} (h : Bz z n) (hm : n ≤ m) : (nat.digs z.natAbs).length ≤ m := Bn.nat (x := z.natAbs) h hm
theorem Br.rat {q : Rat} {n m : Nat} (h : Br q n) (hm : n ≤ m) : rat.Lr q m := ⟨h.1.nat hm, h.2.nat hm⟩
theorem Bn_less {x y n : Nat} (hxy : x ≤ y) (h : Bn y n) : Bn x n := Nat.lt_of_le_of_lt hxy h
theorem Bn_mul {x y n m : Nat} (hx : Bn x n) (hy : Bn y m) : Bn (x * y) (n + m) := by
  unfold Bn at *
  rw [Nat.pow_add]
  rcases Nat.eq_zero_or_pos y with h | h
  · subst h; rw [Nat.mul_zero]; exact Nat.mul_pos (Nat.pow_pos (by omega)) (Nat.pow_pos (by omega))
  · exact Nat.lt_of_lt_of_le (Nat.mul_lt_mul_of_pos_right hx h) (Nat.mul_le_mul_left _ (Nat.le_of_lt hy))
theorem Bn_add {x y n m : Nat} (hx : Bn x n) (hy : Bn y m) : Bn (x + y) (n + m + 1) := by
  have h1 := hx.le (m := n + m) (by omega)
  have h2 := hy.le (m := n + m) (by omega)
  unfold Bn at *
  rw [Nat.pow_succ]
  omega
theorem Bn_div {x y n : Nat} (hx : Bn x n) : Bn (x / y) n := Bn_less (Nat.div_le_self _ _) hx
theorem Bn_mod {x y n : Nat} (hx : Bn x n) : Bn (x % y) n := Bn_less (Nat.mod_le _ _) hx
theorem Bn_small {x : Nat} (h2 : x < 18446744073709551616) : Bn x 20 := Nat.lt_of_lt_of_le h2 (by decide)
theorem Bz_small {z : Int} (h1 : -9223372036854775808 ≤ z) (h2 : z < 18446744073709551616) : Bz z 20 := Bn_small (x := z.natAbs) (by omega)
end Go.Proofs.YtlhmfgbaefaneabGreatDoor.law2
namespace Go.Proofs.YtlhmfgbaefaneabGreatDoor.law2
open Go.RowKit Go.Proofs.YtlhmfgbaefaneabGreatDoor.nat
open Go.Proofs.YtlhmfgbaefaneabGreatDoor.ref (str str_size str_append ch seg IsDig Numeral seg_lt)
def Front (t : List UInt8) (n : Nat) : Prop := t.length ≤ n ∧ (t ≠ [] → ch t 0 ≠ 48) ∧ ∀ i, i < t.length → IsDig t i
theorem Front.next {t : List UInt8} {n : Nat} {c : UInt8} (h : Front t n) (hl : t.length < n) (h1 : 48 ≤ c.toNat) (h2 : c.toNat ≤ 57) (h3 : t ≠ [] ∨ c.toNat ≠ 48) : Front (t ++ [c]) n := by
  refine ⟨by simp; omega, fun _ => ?_, fun i hi => ?_⟩
  · rcases t with _ | ⟨d, t⟩
    · simp [ch]
      rcases h3 with h3 | h3
      · exact absurd rfl h3
      · exact h3
    · exact h.2.1 (by simp)
  · simp at hi
    by_cases hi2 : i < t.length
    · have := h.2.2 i hi2
      unfold IsDig ch at this ⊢
      rw [List.getD_eq_getElem?_getD, List.getElem?_append_left hi2, ← List.getD_eq_getElem?_getD]
      exact this
    · obtain rfl : i = t.length := by omega
      unfold IsDig ch
      simp
      exact ⟨h1, h2⟩
end Go.Proofs.YtlhmfgbaefaneabGreatDoor.law2
namespace Go.Proofs.YtlhmfgbaefaneabGreatDoor.law2
open Go.RowKit Go.Proofs.YtlhmfgbaefaneabGreatDoor.nat
def Hd (w : World) : Prop := flt.Handle w
theorem Hd.below {w w' : World} (h : Hd w) (hb : Below w.heap.size w w') : Hd w' := flt.Handle.below h hb (flt.Handle.pos h)
theorem Hd.cell {w : World} (h : Hd w) : flt.Handle w := h
def BegunC : Prop := ∀ w, Hd w → Calls Tryz.prog 97 #[] w fun e w' => e = .returned (.bool true) ∧ Below w.heap.size w w'
theorem cmp3_eqN {x y : Nat} (h : x = y) : cmp3 (x : Int) (y : Int) = 0 := by subst h; unfold cmp3; rw [if_neg (by omega), if_neg (by omega)]
theorem cmpR_eq {p q : Rat} (h : p = q) : rat.cmpR p q = 0 := by subst h; unfold rat.cmpR; rw [if_neg Rat.lt_irrefl, if_neg Rat.lt_irrefl]
theorem NPow_at (a : Value) (X K : Nat) (z : Int) (hz : z = K) (hK : K < 1000000) (w : World) (ha : nat.IsN w a X) (hx : (nat.digs X).length ≤ 900000) (hb : (nat.digs (X ^ K)).length ≤ 900000) :
    Calls Tryz.prog 128 #[a, .int .i64 z] w fun e w' => ∃ v, e = .returned v ∧ (nat.IsN w' v (X ^ K) ∧ v ≠ .pointer none) ∧ Below w.heap.size w w' := by
  subst hz
  have := nat.Pow_any a X K w ha hx (by omega) (by rw [Int.toNat_natCast]; exact hb)
  rwa [Int.toNat_natCast] at this
def Cells2 (w : World) (g : Nat) (v0 v1 : Value) : Prop := w.cell? ⟨g, 0, none⟩ = some v0 ∧ w.cell? ⟨g, 1, none⟩ = some v1
theorem Cells2.below {w w' : World} {g : Nat} {v0 v1 : Value} (h : Cells2 w g v0 v1) (hb : Below w.heap.size w w') : Cells2 w' g v0 v1 :=
  ⟨(hb.cell (p := ⟨g, 0, none⟩) (cell_lt h.1)).trans h.1, (hb.cell (p := ⟨g, 1, none⟩) (cell_lt h.2)).trans h.2⟩
end Go.Proofs.YtlhmfgbaefaneabGreatDoor.law2
