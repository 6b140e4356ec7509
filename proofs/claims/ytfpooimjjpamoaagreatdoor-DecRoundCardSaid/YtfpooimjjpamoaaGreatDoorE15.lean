/-
  The steps of the walks, part 15: Law2Kit, DecM.
-/
import Derived.Test.YtfpooimjjpamoaaGreatDoorE12
import Derived.Test.YtfpooimjjpamoaaGreatDoorS22
import Derived.Test.YtfpooimjjpamoaaGreatDoorE13
import Derived.Test.YtfpooimjjpamoaaGreatDoorS19
import Derived.Test.YtfpooimjjpamoaaGreatDoorE08
import Derived.Test.YtfpooimjjpamoaaGreatDoorE09
import Derived.Test.YtfpooimjjpamoaaGreatDoorS18
import Derived.Test.YtfpooimjjpamoaaGreatDoorE14
import Derived.Test.YtfpooimjjpamoaaGreatDoorS23
import Derived.Test.YtfpooimjjpamoaaGreatDoorS20
namespace Go.Proofs.YtfpooimjjpamoaaGreatDoor.law2
open Go.RowKit Go.Proofs.YtfpooimjjpamoaaGreatDoor.nat
def Hd (w : World) : Prop := flt.Handle w
theorem Hd.below {w w' : World} (h : Hd w) (hb : Below w.heap.size w w') : Hd w' := flt.Handle.below h hb (flt.Handle.pos h)
theorem Hd.cell {w : World} (h : Hd w) : flt.Handle w := h
def BegunC : Prop := ∀ w, Hd w → Calls Tryz.prog 25 #[] w fun e w' => e = .returned (.bool true) ∧ Below w.heap.size w w'
set_option maxRecDepth 100000 in
theorem Same_any (c : Int) (w : World) (h : Hd w) :
    Calls Tryz.prog 29 #[.iface 171 (.int .i64 c), .int .i64 c] w fun e w' => e = .returned (.bool true) ∧ Below w.heap.size w w' := by
  have HC := Lib.hid (flt.Code_plain c w h)
  clear h
  go_enter Tryz.func29, Tryz.ntmps29
  go_wp2_with (first
    | (go_at_call 107; (with_reducible refine (HC.out).mono ?_); rintro e w1 ⟨rfl, hb⟩; have HB := Lib.hid hb; clear hb)
    | (fail "no arm"))
  go_ret
  exact ⟨rfl, HB.out⟩
theorem cmp3_eqN {x y : Nat} (h : x = y) : cmp3 (x : Int) (y : Int) = 0 := by subst h; unfold cmp3; rw [if_neg (by omega), if_neg (by omega)]
theorem cmpR_eq {p q : Rat} (h : p = q) : rat.cmpR p q = 0 := by subst h; unfold rat.cmpR; rw [if_neg Rat.lt_irrefl, if_neg Rat.lt_irrefl]
theorem sg_num (q : Rat) : num.sg q.num = rat.cmpR q 0 := by
  have h := rat.cmp3_den q 0
  rw [Rat.zero_den, Rat.zero_num, Int.zero_mul] at h
  unfold num.sg
  rw [← h]
  congr 1
  simp
theorem sg_sub (p q : Rat) : num.sg (p - q).num = rat.cmpR p q := by
  rw [sg_num]
  unfold rat.cmpR
  have e1 : p - q < 0 ↔ p < q := by constructor <;> intro h <;> grind
  have e2 : 0 < p - q ↔ q < p := by constructor <;> intro h <;> grind
  simp only [e1, e2]
theorem IsX_slice {w : World} {v : Value} {x : Nat} (h : ref.IsN w v x) : ∃ o c, v = .slice o (ref.digs x).length c := by
  obtain ⟨o, c, rfl, -⟩ := id h
  exact ⟨o, c, rfl⟩
theorem NPow_at (a : Value) (X K : Nat) (z : Int) (hz : z = K) (hK : K < 1000000) (w : World) (ha : nat.IsN w a X) (hx : (nat.digs X).length ≤ 900000) (hb : (nat.digs (X ^ K)).length ≤ 900000) :
    Calls Tryz.prog 94 #[a, .int .i64 z] w fun e w' => ∃ v, e = .returned v ∧ (nat.IsN w' v (X ^ K) ∧ v ≠ .pointer none) ∧ Below w.heap.size w w' := by
  subst hz
  have := nat.Pow_any a X K w ha hx (by omega) (by rw [Int.toNat_natCast]; exact hb)
  rwa [Int.toNat_natCast] at this
theorem XPow_at (a : Value) (X K n : Nat) (z : Int) (hz : z = K) (hK : K < 1000000) (w : World) (ha : ref.IsN w a X) (hx : Bn X n) (hn : n * K + 1 ≤ 100000) (hn2 : n ≤ 100000) :
    Calls Tryz.prog 87 #[a, .int .i64 z] w fun e w' => ∃ v, e = .returned v ∧ ref.IsN w' v (X ^ K) ∧ Below w.heap.size w w' := by
  subst hz
  have := ref.Pow_any a X K (by omega) w ha (hx.ref hn2) (fun i hi => (Bn_pow i hx).ref (by
    rw [Int.toNat_natCast] at hi
    have := Nat.mul_le_mul_left n hi
    omega))
  rwa [Int.toNat_natCast] at this
theorem ref_isI {w : World} {s : Value} {z : Int} (h : ref.IsN w s z.natAbs) : ref.IsI w (.agg #[.bool (decide (z < 0)), s]) z := ⟨s, rfl, h⟩
def Cells2 (w : World) (g : Nat) (v0 v1 : Value) : Prop := w.cell? ⟨g, 0, none⟩ = some v0 ∧ w.cell? ⟨g, 1, none⟩ = some v1
theorem Cells2.below {w w' : World} {g : Nat} {v0 v1 : Value} (h : Cells2 w g v0 v1) (hb : Below w.heap.size w w') : Cells2 w' g v0 v1 :=
  ⟨(hb.cell (p := ⟨g, 0, none⟩) (cell_lt h.1)).trans h.1, (hb.cell (p := ⟨g, 1, none⟩) (cell_lt h.2)).trans h.2⟩
end Go.Proofs.YtfpooimjjpamoaaGreatDoor.law2
namespace Go.Proofs.YtfpooimjjpamoaaGreatDoor.dec
open Go.RowKit Go.Proofs.YtfpooimjjpamoaaGreatDoor.nat Go.Proofs.YtfpooimjjpamoaaGreatDoor.num
open Go.Proofs.YtfpooimjjpamoaaGreatDoor.rat (IsR Lr)
open Go.Proofs.YtfpooimjjpamoaaGreatDoor.ref (str str_size str_append nearN nearUp signed decText)
def upB (mode C : Int) (odd : Bool) : Bool := ((mode == 1) && decide (0 ≤ C)) || ((mode == 2) && (decide (0 < C) || ((C == 0) && odd)))
theorem up_near (x d : Nat) (mode : Int) : upB mode (cmp3 ((x % d + x % d : Nat) : Int) (d : Int)) (decide (x / d % 2 = 1)) = nearUp x d mode := by
  have hC : cmp3 ((x % d + x % d : Nat) : Int) (d : Int) = ref.cmpN (x % d * 2) d := by
    rw [show x % d + x % d = x % d * 2 by omega]
    unfold cmp3 ref.cmpN
    (repeat' split) <;> omega
  rw [hC, ref.near_up (x := x) (d := d) (mode := mode) rfl]
  rfl
theorem near_scale (x d g : Nat) (mode : Int) (hg : 0 < g) : nearN (x * g) (d * g) mode = nearN x d mode := by
  have h1 : x * g / (d * g) = x / d := Nat.mul_div_mul_right x d hg
  have h2 : x * g % (d * g) = x % d * g := Nat.mul_mod_mul_right g x d
  have e0 : x % d * g * 2 = x % d * 2 * g := Nat.mul_right_comm _ _ _
  have e1 : (d * g ≤ x % d * 2 * g) = (d ≤ x % d * 2) := propext (Nat.mul_le_mul_right_iff hg)
  have e2 : (d * g < x % d * 2 * g) = (d < x % d * 2) := propext (Nat.mul_lt_mul_right hg)
  have e3 : (d * g = x % d * 2 * g) = (d = x % d * 2) := propext (Nat.mul_left_inj (by omega))
  unfold nearN nearUp
  rw [h1, h2, e0]
  simp only [e1, e2, e3]
def putText (q : Rat) (k : Nat) (mode : Int) : List UInt8 := decText (signed (decide (q.num < 0)) (nearN (q.num.natAbs * 10 ^ k) q.den mode)) k
theorem signed_lt {z : Int} {x : Nat} (h : signed (decide (z < 0)) x < 0) : z < 0 := by
  unfold signed at h
  split at h <;> simp_all <;> omega
theorem round_put {z : Int} {d : Nat} (hd : 0 < d) (k : Nat) (mode : Int) {q : Rat} (hq : q = (z : Rat) / (d : Rat)) : ref.roundText z d k mode = putText q k mode := by
  obtain ⟨e1, e2⟩ := rat.low_ends (z := z) hd
  have hg : 0 < Nat.gcd z.natAbs d := Nat.gcd_pos_of_pos_right _ hd
  have hP : 0 < 10 ^ k := Nat.pow_pos (by omega)
  unfold ref.roundText putText
  rw [hq, e1, e2, ref.lowN_abs, Nat.mul_one, Int.natAbs_mul, Int.natAbs_natCast]
  have h1 : z.natAbs / Nat.gcd z.natAbs d * Nat.gcd z.natAbs d = z.natAbs := Nat.div_mul_cancel (Nat.gcd_dvd_left _ _)
  have h2 : d / Nat.gcd z.natAbs d * Nat.gcd z.natAbs d = d := Nat.div_mul_cancel (Nat.gcd_dvd_right _ _)
  have hs : (z * ((10 ^ k : Nat) : Int) < 0) ↔ ref.lowN z d < 0 := by
    have hz : z * ((10 ^ k : Nat) : Int) < 0 ↔ z < 0 := by
      constructor <;> intro h
      · rcases Int.lt_or_le z 0 with h3 | h3
        · exact h3
        · have := Int.mul_nonneg h3 (show (0 : Int) ≤ ((10 ^ k : Nat) : Int) by omega)
          omega
      · exact Int.mul_neg_of_neg_of_pos h (by omega)
    rw [hz]
    constructor <;> intro h
    · unfold ref.lowN signed
      have : 0 < z.natAbs / Nat.gcd z.natAbs d := by
        refine Nat.pos_of_ne_zero fun e => ?_
        rw [e] at h1
        omega
      simp [h]
      omega
    · exact signed_lt h
  have hd2 : ref.lowD z d = d / Nat.gcd z.natAbs d := rfl
  rw [hd2]
  generalize Nat.gcd z.natAbs d = g at *
  have e3 : nearN (z.natAbs * 10 ^ k) d mode = nearN (z.natAbs / g * 10 ^ k) (d / g) mode := by
    rw [← near_scale (z.natAbs / g * 10 ^ k) (d / g) g mode hg, h2, Nat.mul_right_comm, h1]
  rw [e3, decide_eq_decide.2 hs]
theorem text_of (below : Bool) (x k : Nat) : decText (signed below x) k = if below = true ∧ x ≠ 0 then 45 :: ref.decBody x k else ref.decBody x k := by
  unfold decText signed
  cases below
  · simp
  · by_cases h : x = 0
    · subst h; simp
    · simp [h]
theorem Ln_ten {k : Nat} (hk : k ≤ 20) : Ln (10 ^ k) 21 := rat.Ln_tens (n := 21) (Nat.lt_of_lt_of_le (show 10 ^ k < 10 ^ (k + 1) by rw [Nat.pow_succ]; have : 0 < 10 ^ k := Nat.pow_pos (by omega); omega) (Nat.pow_le_pow_right (by omega) (by omega))) (Nat.le_refl _)
theorem Ln_near {x d n : Nat} (mode : Int) (h : Ln x n) : Ln (nearN x d mode) (n + 2) := by
  have h1 : nearN x d mode ≤ x + 1 := by
    unfold nearN
    have := Nat.div_le_self x d
    split <;> omega
  exact (Ln_less h1 (Ln_add h (Ln_small (x := 1) (by decide)))).le (by omega)
theorem near_two {x d : Nat} {mode : Int} (h : nearUp x d mode = true) : nearN x d mode = x / d + 1 := by unfold nearN; rw [h]; rfl
theorem near_one {x d : Nat} {mode : Int} (h : nearUp x d mode = false) : nearN x d mode = x / d := by unfold nearN; rw [h]; rfl
theorem sign_ways (z : Int) : (sg z = -1 ∧ decide (z < 0) = true) ∨ (sg z = 0 ∧ decide (z < 0) = false) ∨ (sg z = 1 ∧ decide (z < 0) = false) := by
  unfold sg cmp3
  rcases Int.lt_trichotomy z 0 with h | h | h
  · exact Or.inl ⟨by rw [if_pos h], by simpa using h⟩
  · subst h; exact Or.inr (Or.inl ⟨rfl, rfl⟩)
  · exact Or.inr (Or.inr ⟨by rw [if_neg (by omega), if_pos h], by simp; omega⟩)
theorem sgn_signed (p : Bool) (x : Nat) : num.sgn p x = signed p x := rfl
end Go.Proofs.YtfpooimjjpamoaaGreatDoor.dec
