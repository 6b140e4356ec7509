/-
  The steps of the walks, part 22: DecW, DecX.
-/
import Derived.Test.YtfpooimjjpamoaaGreatDoorE15
import Derived.Test.YtfpooimjjpamoaaGreatDoorE20
import Derived.Test.YtfpooimjjpamoaaGreatDoorS23
import Derived.Test.YtfpooimjjpamoaaGreatDoorS22
import Derived.Test.YtfpooimjjpamoaaGreatDoorS18
import Derived.Test.YtfpooimjjpamoaaGreatDoorE12
namespace Go.Proofs.YtfpooimjjpamoaaGreatDoor.dec
open Go.Proofs.YtfpooimjjpamoaaGreatDoor.ref (pad pad_length pad_nought pad_dec padTo decBody decText signed nearN nearUp Numeral seg ch IsDig DecBody DecForm pad_reads take_pad digits_of dec_numeral)
open Go.Proofs.YtfpooimjjpamoaaGreatDoor.nat (pad_split pad_mod)
theorem pad_more (m x : Nat) (h : x < 10 ^ (m + 1)) : ∀ j, pad (j + (m + 1)) x = List.replicate j 48 ++ pad (m + 1) x
  | 0 => by rw [Nat.zero_add]; rfl
  | j + 1 => by
    rw [show j + 1 + (m + 1) = (j + (m + 1)) + 1 by omega, pad_nought (Nat.lt_of_lt_of_le h (Nat.pow_le_pow_right (by omega) (by omega))), pad_more m x h j]
    rfl
theorem digits_at (x : Nat) : ∃ m, x < 10 ^ (m + 1) ∧ (m = 0 ∨ 10 ^ m ≤ x) := by
  obtain ⟨m, h1, h2, -⟩ := digits_of x x (Nat.lt_of_lt_of_le (Nat.lt_pow_self (by omega)) (Nat.pow_le_pow_right (by omega) (Nat.le_succ x)))
  exact ⟨m, h1, h2⟩
theorem decBody_nought (x : Nat) : decBody x 0 = Lib.decDigits x := by
  have := dec_pos x
  unfold decBody
  rw [if_pos rfl]
  unfold padTo
  rw [show 0 + 1 - (Lib.decDigits x).length = 0 by omega]
  rfl
theorem decBody_parts (x : Nat) {k : Nat} (hk : 0 < k) : decBody x k = Lib.decDigits (x / 10 ^ k) ++ 46 :: pad k x := by
  obtain ⟨m, h1, h2⟩ := digits_at x
  have hD : Lib.decDigits x = pad (m + 1) x := (pad_dec m x h1 h2).symm
  obtain ⟨M, hM⟩ : ∃ M, M = max k m := ⟨_, rfl⟩
  have hP : padTo (Lib.decDigits x) k = pad (M + 1) x := by
    unfold padTo
    rw [hD, pad_length, ← pad_more m x h1, show k + 1 - (m + 1) + (m + 1) = M + 1 by omega]
  have hS : pad (M + 1) x = pad (M + 1 - k) (x / 10 ^ k) ++ pad k x := by
    have := pad_split (M + 1 - k) x k
    rwa [show M + 1 - k + k = M + 1 by omega] at this
  have hQ : pad (M + 1 - k) (x / 10 ^ k) = Lib.decDigits (x / 10 ^ k) := by
    rw [show M + 1 - k = (M - k) + 1 by omega]
    refine pad_dec (M - k) _ ?_ ?_
    · rw [Nat.div_lt_iff_lt_mul (Nat.pow_pos (by omega)), ← Nat.pow_add, show M - k + 1 + k = M + 1 by omega]
      exact Nat.lt_of_lt_of_le h1 (Nat.pow_le_pow_right (by omega) (by omega))
    · rcases (show M = k ∨ k < m ∧ M = m by omega) with h3 | ⟨h3, h4⟩
      · exact Or.inl (by omega)
      · refine Or.inr ?_
        rw [Nat.le_div_iff_mul_le (Nat.pow_pos (by omega)), ← Nat.pow_add, show M - k + k = m by omega]
        omega
  unfold decBody
  rw [if_neg (by omega), hP, pad_length, hS]
  have hl : (pad (M + 1 - k) (x / 10 ^ k)).length = M + 1 - k := pad_length _ _
  rw [List.take_left' hl, List.drop_left' hl, hQ]
theorem body_form {x k p : Nat} (h : x < 10 ^ (p + 1)) (hp : p < 4000) (hk : k ≤ 20) : DecBody (decBody x k) x k := by
  rcases Nat.eq_zero_or_pos k with rfl | h0
  · rw [decBody_nought]
    obtain ⟨h1, h2, -⟩ := dec_numeral h hp
    exact Or.inl ⟨rfl, h1, h2.symm⟩
  · rw [decBody_parts x h0]
    obtain ⟨h1, h2, -⟩ := dec_numeral (x := x / 10 ^ k) (Nat.lt_of_le_of_lt (Nat.div_le_self _ _) h) hp
    obtain ⟨h3, h4⟩ := pad_reads k x
    refine Or.inr ⟨_, _, rfl, h1, pad_length _ _, h0, hk, h3, ?_⟩
    rw [h2, h4, Nat.mul_comm]
    exact (Nat.div_add_mod _ _).symm
theorem text_form {x k p : Nat} {below : Bool} (h : x < 10 ^ (p + 1)) (hp : p < 4000) (hk : k ≤ 20) (hl : (decText (signed below x) k).length ≤ 60) :
    DecForm (decText (signed below x) k) (below && decide (x ≠ 0)) x k := by
  refine ⟨hl, decBody x k, ?_, ?_, body_form h hp hk⟩
  · rw [text_of]
    cases below <;> by_cases h0 : x = 0 <;> simp [h0]
  · intro hb
    simp at hb
    exact hb.2
theorem text_len {x k p : Nat} {below : Bool} (h : x < 10 ^ (p + 1)) (hp : p < 4000) : (decText (signed below x) k).length ≤ max p k + 3 := by
  have h1 : (decBody x k).length ≤ max p k + 2 := by
    rcases Nat.eq_zero_or_pos k with rfl | h0
    · rw [decBody_nought]
      have := (dec_numeral h hp).2.2
      omega
    · rw [decBody_parts x h0, List.length_append, List.length_cons, pad_length]
      by_cases hkp : k ≤ p
      · have h2 : x / 10 ^ k < 10 ^ (p - k + 1) := by
          rw [Nat.div_lt_iff_lt_mul (Nat.pow_pos (by omega)), ← Nat.pow_add, show p - k + 1 + k = p + 1 by omega]
          exact h
        have := (dec_numeral h2 (by omega)).2.2
        omega
      · have h2 : x / 10 ^ k = 0 := Nat.div_eq_of_lt (Nat.lt_of_lt_of_le h (Nat.pow_le_pow_right (by omega) (by omega)))
        rw [h2, Lib.decDigits_length, Lib.nDigits_small (by omega)]
        omega
  rw [text_of]
  split
  · rw [List.length_cons]; omega
  · omega
theorem signed_self (z : Int) : signed (decide (z < 0)) z.natAbs = z := by
  unfold signed
  by_cases h : z < 0 <;> simp [h] <;> omega
theorem int_form {z : Int} {k p : Nat} (h : z.natAbs < 10 ^ (p + 1)) (hp : max p k + 3 ≤ 60) (hk : k ≤ 20) : DecForm (decText z k) (decide (z < 0)) z.natAbs k := by
  have hl := text_len (below := decide (z < 0)) (k := k) h (by omega)
  have hf := text_form (below := decide (z < 0)) h (by omega) hk (by omega)
  rw [signed_self] at hf
  have e : (decide (z < 0) && decide (z.natAbs ≠ 0)) = decide (z < 0) := by
    by_cases h : z < 0 <;> simp [h]
    omega
  rwa [e] at hf
theorem ends {z : Int} {d : Nat} (hd : 0 < d) {q : Rat} (hq : q = (z : Rat) / (d : Rat)) : ∃ g, 0 < g ∧ z.natAbs = q.num.natAbs * g ∧ d = q.den * g ∧ (q.num < 0 ↔ z < 0) := by
  obtain ⟨e1, e2⟩ := rat.low_ends (z := z) hd
  have hg : 0 < Nat.gcd z.natAbs d := Nat.gcd_pos_of_pos_right _ hd
  have h1 : z.natAbs / Nat.gcd z.natAbs d * Nat.gcd z.natAbs d = z.natAbs := Nat.div_mul_cancel (Nat.gcd_dvd_left _ _)
  have h2 : d / Nat.gcd z.natAbs d * Nat.gcd z.natAbs d = d := Nat.div_mul_cancel (Nat.gcd_dvd_right _ _)
  refine ⟨Nat.gcd z.natAbs d, hg, ?_, ?_, ?_⟩
  · rw [hq, e1, ref.lowN_abs, h1]
  · rw [hq, e2]
    exact h2.symm
  · rw [hq, e1]
    constructor <;> intro h
    · exact signed_lt h
    · unfold ref.lowN signed
      have : 0 < z.natAbs / Nat.gcd z.natAbs d := by
        refine Nat.pos_of_ne_zero fun e => ?_
        rw [e] at h1
        omega
      simp [h]
      omega
theorem units_eq {z : Int} {d : Nat} (hd : 0 < d) (mode : Int) {q : Rat} (hq : q = (z : Rat) / (d : Rat)) :
    signed (decide (q.num < 0)) (nearN q.num.natAbs q.den mode) = signed (decide (z < 0)) (nearN z.natAbs d mode) := by
  obtain ⟨g, hg, h1, h2, h3⟩ := ends hd hq
  rw [h1, h2, near_scale _ _ g mode hg, decide_eq_decide.2 h3]
theorem signed_abs (p : Bool) (x : Nat) : (signed p x).natAbs = x := by unfold signed; split <;> omega
theorem near_cut (x d : Nat) : nearN x d 3 = x / d := by unfold nearN nearUp; simp
theorem cut_twice {q q1 : Rat} {a b : Nat} (hab : a ≤ b) (h : q1 = ((signed (decide (q.num < 0)) (nearN (q.num.natAbs * 10 ^ b) q.den 3) : Int) : Rat) / ((10 ^ b : Nat) : Rat)) : putText q1 a 3 = putText q a 3 := by
  obtain ⟨g, hg, h1, h2, h3⟩ := ends (Nat.pow_pos (by omega)) h
  rw [signed_abs] at h1
  unfold putText
  have hA : nearN (q1.num.natAbs * 10 ^ a) q1.den 3 = nearN (q.num.natAbs * 10 ^ a) q.den 3 := by
    rw [near_cut, near_cut]
    rw [near_cut] at h1
    have e1 : q1.num.natAbs * 10 ^ a / q1.den = q1.num.natAbs * g * 10 ^ a / 10 ^ b := by
      rw [h2, Nat.mul_right_comm, Nat.mul_div_mul_right _ _ hg]
    obtain ⟨c, rfl⟩ : ∃ c, b = a + c := ⟨b - a, by omega⟩
    have hP : 0 < 10 ^ a := Nat.pow_pos (by omega)
    have hC : 0 < 10 ^ c := Nat.pow_pos (by omega)
    rw [e1, ← h1, Nat.pow_add]
    generalize 10 ^ a = A at *
    generalize 10 ^ c = C at *
    rw [Nat.mul_comm A C, Nat.mul_div_mul_right _ _ hP, Nat.div_div_eq_div_mul, Nat.mul_comm q.den C, ← Nat.mul_assoc, Nat.mul_right_comm, Nat.mul_comm C q.den, Nat.mul_div_mul_right _ _ hC]
  rw [hA]
  generalize hM : nearN (q.num.natAbs * 10 ^ a) q.den 3 = M at *
  by_cases h0 : M = 0
  · subst h0
    rw [text_of, text_of]
    simp
  · have hs : q1.num < 0 ↔ q.num < 0 := by
      rw [h3]
      constructor <;> intro h4
      · exact signed_lt h4
      · unfold signed
        have h5 : nearN (q.num.natAbs * 10 ^ b) q.den 3 ≠ 0 := by
          intro e
          rw [e] at h1
          have h6 : q1.num.natAbs = 0 := by
            rcases Nat.eq_zero_or_pos q1.num.natAbs with h7 | h7
            · exact h7
            · have := Nat.mul_pos h7 hg
              omega
          rw [h6, Nat.zero_mul, near_cut, Nat.zero_div] at hA
          exact h0 hA.symm
        simp [h4]
        omega
    rw [decide_eq_decide.2 hs]
end Go.Proofs.YtfpooimjjpamoaaGreatDoor.dec
namespace Go.Proofs.YtfpooimjjpamoaaGreatDoor.dec
open Go.Proofs.YtfpooimjjpamoaaGreatDoor.ref (decText signed nearN nearUp lowN lowD DecBody DecForm seg)
open Go.Proofs.YtfpooimjjpamoaaGreatDoor.law2 (Bn Bz Br Br_low Bz_nat)
theorem Bz_signed {p : Bool} {x n : Nat} (h : Bn x n) : Bz (signed p x) n := by unfold Bz; rw [signed_abs]; exact h
theorem Bn_ten {k : Nat} (hk : k ≤ 20) : Bn (10 ^ k) 21 := Nat.lt_of_lt_of_le (show 10 ^ k < 10 ^ (k + 1) by rw [Nat.pow_succ]; have : 0 < 10 ^ k := Nat.pow_pos (by omega); omega) (Nat.pow_le_pow_right (by omega) (by omega))
theorem br_ten {z : Int} {k n : Nat} {q : Rat} (hq : q = (z : Rat) / ((10 ^ k : Nat) : Rat)) (hk : k ≤ 20) (hz : Bz z n) (hn : 21 ≤ n) : Br q n :=
  Br_low (Nat.pow_pos (by omega)) hq hz ((Bn_ten hk).le hn)
theorem put_lowP {z : Int} {d P : Nat} (hP : 0 < P) (hd : 0 < d) {q : Rat} (hq : q = (z : Rat) / (d : Rat)) :
    (lowD (z * (P : Int)) (d * 1) = 1 ↔ q.num.natAbs * P % q.den = 0) ∧ (q.num.natAbs * P % q.den = 0 → lowN (z * (P : Int)) (d * 1) = signed (decide (q.num < 0)) (q.num.natAbs * P / q.den)) := by
  obtain ⟨g, hg, h1, h2, h3⟩ := ends hd hq
  rw [Nat.mul_one]
  have hA : (z * (P : Int)).natAbs = z.natAbs * P := by rw [Int.natAbs_mul, Int.natAbs_natCast]
  have hz : z * (P : Int) < 0 ↔ z < 0 := by
    constructor <;> intro h
    · rcases Int.lt_or_le z 0 with h3 | h3
      · exact h3
      · have := Int.mul_nonneg h3 (show (0 : Int) ≤ (P : Int) by omega)
        omega
    · exact Int.mul_neg_of_neg_of_pos h (by omega)
  have hs : decide (z * (P : Int) < 0) = decide (q.num < 0) := decide_eq_decide.2 (hz.trans h3.symm)
  unfold lowD lowN
  rw [hA, hs]
  have hg2 : 0 < Nat.gcd (z.natAbs * P) d := Nat.gcd_pos_of_pos_right _ hd
  have key : q.num.natAbs * P % q.den = 0 → Nat.gcd (z.natAbs * P) d = d := fun h => by
    refine Nat.gcd_eq_right ?_
    rw [h1, h2, Nat.mul_right_comm]
    exact Nat.mul_dvd_mul_right (Nat.dvd_of_mod_eq_zero h) g
  refine ⟨⟨fun h => ?_, fun h => ?_⟩, fun h => ?_⟩
  · have e : Nat.gcd (z.natAbs * P) d = d := by
      have := Nat.div_mul_cancel (Nat.gcd_dvd_right (z.natAbs * P) d)
      rw [h] at this
      omega
    have hdv : d ∣ z.natAbs * P := by rw [← e]; exact Nat.gcd_dvd_left _ _
    rw [h1, h2, Nat.mul_right_comm] at hdv
    exact Nat.mod_eq_zero_of_dvd (Nat.dvd_of_mul_dvd_mul_right hg hdv)
  · rw [key h]; exact Nat.div_self hd
  · rw [key h]
    congr 1
    rw [h1, h2, Nat.mul_right_comm]
    exact Nat.mul_div_mul_right _ _ hg
theorem put_low {z : Int} {d k : Nat} (hd : 0 < d) {q : Rat} (hq : q = (z : Rat) / (d : Rat)) :
    (lowD (z * ((10 ^ k : Nat) : Int)) (d * 1) = 1 ↔ q.num.natAbs * 10 ^ k % q.den = 0) ∧ (q.num.natAbs * 10 ^ k % q.den = 0 → lowN (z * ((10 ^ k : Nat) : Int)) (d * 1) = signed (decide (q.num < 0)) (q.num.natAbs * 10 ^ k / q.den)) :=
  put_lowP (Nat.pow_pos (by omega)) hd hq
theorem near_three (x d : Nat) (mode : Int) (h0 : 0 < d) : (mode = 3 → nearN x d mode * d ≤ x ∧ x < nearN x d mode * d + d) ∧ (mode = 1 ∨ mode = 2 → 2 * (nearN x d mode * d) ≤ 2 * x + d ∧ 2 * x ≤ 2 * (nearN x d mode * d) + d) := by
  have h1 := Nat.div_add_mod x d
  have h2 := Nat.mod_lt x h0
  rw [Nat.mul_comm] at h1
  refine ⟨?_, ?_⟩
  · rintro rfl
    rw [near_cut]
    omega
  · intro hm
    have hu : (nearUp x d mode = true → d ≤ x % d * 2) ∧ (nearUp x d mode = false → x % d * 2 ≤ d) := by
      unfold nearUp
      rcases hm with rfl | rfl
      · constructor <;> intro h <;> simp at h <;> omega
      · constructor <;> intro h <;> simp at h <;> omega
    cases hb : nearUp x d mode
    · have := hu.2 hb
      rw [near_one hb]
      omega
    · have := hu.1 hb
      rw [near_two hb, Nat.add_mul, Nat.one_mul]
      omega
theorem two_abs (h : Int) (hh : h % 2 = 1) : h.natAbs % 2 = 1 := by omega
theorem half_ways (n : Int) (mode : Int) : nearN (2 * n + 1).natAbs 2 mode = (if mode = 1 then ((2 * n + 1).natAbs + 1) / 2 else if mode = 2 then (if (2 * n + 1).natAbs / 2 % 2 = 1 then ((2 * n + 1).natAbs + 1) / 2 else (2 * n + 1).natAbs / 2) else (2 * n + 1).natAbs / 2) := by
  have h := two_abs (2 * n + 1) (by omega)
  generalize (2 * n + 1).natAbs = x at *
  unfold nearN nearUp
  by_cases h1 : mode = 1
  · subst h1
    simp [h]
    omega
  · by_cases h2 : mode = 2
    · subst h2
      simp [h]
      split <;> omega
    · simp [h1, h2]
theorem half_put {n : Int} {k : Nat} {q : Rat} (hq : q = ((2 * n + 1 : Int) : Rat) / ((2 * 10 ^ k : Nat) : Rat)) :
    putText q k 1 = decText (if n < 0 then n else n + 1) k ∧ putText q k 2 = decText (if n % 2 = 0 then n else n + 1) k ∧ putText q k 3 = decText (if n < 0 then n + 1 else n) k := by
  have hP : 0 < 10 ^ k := Nat.pow_pos (by omega)
  obtain ⟨g, hg, h1, h2, h3⟩ := ends (by omega) hq
  have key : ∀ mode, putText q k mode = decText (signed (decide (n < 0)) (nearN (2 * n + 1).natAbs 2 mode)) k := fun mode => by
    unfold putText
    rw [decide_eq_decide.2 (show q.num < 0 ↔ n < 0 by rw [h3]; omega), ← near_scale (q.num.natAbs * 10 ^ k) q.den g mode hg, ← h2, Nat.mul_right_comm, ← h1, near_scale _ 2 _ mode hP]
  rw [key, key, key, half_ways, half_ways, half_ways]
  simp only [if_true, show ¬ (2 : Int) = 1 by decide, show ¬ (3 : Int) = 1 by decide, show ¬ (3 : Int) = 2 by decide, if_false]
  refine ⟨?_, ?_, ?_⟩
  · congr 1
    unfold signed
    by_cases h : n < 0 <;> simp [h] <;> omega
  · congr 1
    unfold signed
    by_cases h : n < 0 <;> simp [h] <;> (repeat' split) <;> omega
  · congr 1
    unfold signed
    by_cases h : n < 0 <;> simp [h] <;> omega
theorem dist_base {q q1 s : Rat} {m : Int} {k : Nat} (h1 : q1 = (m : Rat) / ((10 ^ k : Nat) : Rat)) (hs : s = 1 / ((10 ^ k : Nat) : Rat)) :
    (q - q1) * (((q.den * 10 ^ k : Nat) : Int) : Rat) = ((q.num * ((10 ^ k : Nat) : Int) - m * (q.den : Int) : Int) : Rat) ∧ s * (((q.den * 10 ^ k : Nat) : Int) : Rat) = ((q.den : Int) : Rat) ∧ (0 : Rat) < (((q.den * 10 ^ k : Nat) : Int) : Rat) := by
  have hP : 0 < 10 ^ k := Nat.pow_pos (by omega)
  have hB := q.den_pos
  generalize 10 ^ k = P at *
  have nP := rat.cast_ne hP
  have nB := rat.den_ne q
  have e1 : q * (q.den : Rat) = (q.num : Rat) := by
    have := rat.self_div q
    rw [Rat.div_def] at this
    grind
  refine ⟨?_, ?_, ?_⟩
  · rw [Int.natCast_mul, Rat.intCast_sub, Rat.intCast_mul, Rat.intCast_mul, Rat.intCast_mul, Rat.intCast_natCast, Rat.intCast_natCast, h1, ← e1]
    grind
  · rw [hs, Int.natCast_mul, Rat.intCast_mul, Rat.intCast_natCast, Rat.intCast_natCast]
    grind
  · rw [show (0 : Rat) = ((0 : Int) : Rat) from rfl, Rat.intCast_lt_intCast]
    have := Nat.mul_pos hB hP
    omega
theorem num_signed (z : Int) (P M B : Nat) : ∃ t : Int, z * (P : Int) - signed (decide (z < 0)) M * (B : Int) = t ∧ (t = ((z.natAbs * P : Nat) : Int) - ((M * B : Nat) : Int) ∨ t = ((M * B : Nat) : Int) - ((z.natAbs * P : Nat) : Int)) := by
  refine ⟨_, rfl, ?_⟩
  unfold signed
  by_cases h : z < 0
  · right
    have hz : z = -(z.natAbs : Int) := by omega
    generalize z.natAbs = x at *
    subst hz
    rw [decide_eq_true h, if_pos rfl, Int.natCast_mul, Int.natCast_mul, Int.neg_mul, Int.neg_mul]
    omega
  · left
    have hz : z = (z.natAbs : Int) := by omega
    generalize z.natAbs = x at *
    subst hz
    rw [decide_eq_false h, if_neg (by decide), Int.natCast_mul, Int.natCast_mul]
theorem dist_ways {q q1 s : Rat} {mode : Int} {k : Nat} (h1 : q1 = ((signed (decide (q.num < 0)) (nearN (q.num.natAbs * 10 ^ k) q.den mode) : Int) : Rat) / ((10 ^ k : Nat) : Rat)) (hs : s = 1 / ((10 ^ k : Nat) : Rat)) :
    (mode = 3 → q - q1 < s ∧ q1 - q < s) ∧ (mode = 1 ∨ mode = 2 → (q - q1) * 2 ≤ s ∧ (q1 - q) * 2 ≤ s) := by
  obtain ⟨b1, b2, b3⟩ := dist_base (q := q) h1 hs
  obtain ⟨n1, n2⟩ := near_three (q.num.natAbs * 10 ^ k) q.den mode q.den_pos
  obtain ⟨t, ht, htw⟩ := num_signed q.num (10 ^ k) (nearN (q.num.natAbs * 10 ^ k) q.den mode) q.den
  rw [ht] at b1
  clear ht h1 hs
  generalize q.num.natAbs * 10 ^ k = A at *
  generalize nearN A q.den mode * q.den = M at *
  generalize hC : (((q.den * 10 ^ k : Nat) : Int) : Rat) = C at *
  clear hC
  have b4 : (q1 - q) * C = ((-t : Int) : Rat) := by
    rw [Rat.intCast_neg, ← b1]
    grind
  refine ⟨fun hm => ?_, fun hm => ?_⟩
  · have h := n1 hm
    refine ⟨Rat.lt_of_mul_lt_mul_right (c := C) ?_ (Rat.le_of_lt b3), Rat.lt_of_mul_lt_mul_right (c := C) ?_ (Rat.le_of_lt b3)⟩
    · rw [b1, b2, Rat.intCast_lt_intCast]
      rcases htw with h2 | h2 <;> omega
    · rw [b4, b2, Rat.intCast_lt_intCast]
      rcases htw with h2 | h2 <;> omega
  · have h := n2 hm
    refine ⟨Rat.le_of_mul_le_mul_right (c := C) ?_ b3, Rat.le_of_mul_le_mul_right (c := C) ?_ b3⟩
    · rw [show (q - q1) * 2 * C = ((2 * t : Int) : Rat) by rw [Rat.intCast_mul, ← b1]; grind, b2, Rat.intCast_le_intCast]
      rcases htw with h2 | h2 <;> omega
    · rw [show (q1 - q) * 2 * C = ((2 * (-t) : Int) : Rat) by rw [Rat.intCast_mul, ← b4]; grind, b2, Rat.intCast_le_intCast]
      rcases htw with h2 | h2 <;> omega
theorem sign_kept {q q1 : Rat} {M k : Nat} (h1 : q1 = ((signed (decide (q.num < 0)) M : Int) : Rat) / ((10 ^ k : Nat) : Rat)) (hM : 0 < M → q.num ≠ 0) : num.sg q1.num = 0 ∨ num.sg q1.num = num.sg q.num := by
  obtain ⟨g, hg, h2, h3, h4⟩ := ends (Nat.pow_pos (by omega)) h1
  rw [signed_abs] at h2
  unfold num.sg nat.cmp3
  rcases Nat.eq_zero_or_pos M with h0 | h0
  · left
    have h6 : q1.num.natAbs = 0 := by
      rcases Nat.eq_zero_or_pos q1.num.natAbs with h7 | h7
      · exact h7
      · have := Nat.mul_pos h7 hg
        omega
    rw [if_neg (by omega), if_neg (by omega)]
  · right
    have h5 := hM h0
    have h6 : q1.num ≠ 0 := by
      intro e
      rw [e] at h2
      simp at h2
      omega
    have h7 : signed (decide (q.num < 0)) M < 0 ↔ q.num < 0 := by
      constructor <;> intro h
      · exact signed_lt h
      · unfold signed; simp [h]; omega
    rw [h7] at h4
    by_cases h8 : q.num < 0
    · rw [if_pos (h4.2 h8), if_pos h8]
    · rw [if_neg (fun e => h8 (h4.1 e)), if_neg h8, if_pos (by have := fun e => h8 (h4.1 e); omega), if_pos (by omega)]
theorem step_next (i : Nat) : (1 : Rat) / ((10 ^ i : Nat) : Rat) / 10 = 1 / ((10 ^ (i + 1) : Nat) : Rat) := by
  have hP : 0 < 10 ^ i := Nat.pow_pos (by omega)
  rw [Nat.pow_succ, Rat.natCast_mul]
  have := rat.cast_ne hP
  generalize ((10 ^ i : Nat) : Rat) = P at *
  rw [show ((10 : Nat) : Rat) = 10 from rfl]
  grind
end Go.Proofs.YtfpooimjjpamoaaGreatDoor.dec
