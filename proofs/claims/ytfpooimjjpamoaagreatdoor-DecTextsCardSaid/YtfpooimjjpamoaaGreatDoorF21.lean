/-
  The steps of the walks, part 21: DecW, DecX, RefGetDec3.
-/
import Derived.Test.YtfpooimjjpamoaaGreatDoorF12
import Derived.Test.YtfpooimjjpamoaaGreatDoorF19
import Derived.Test.YtfpooimjjpamoaaGreatDoorS23
import Derived.Test.YtfpooimjjpamoaaGreatDoorS22
import Derived.Test.YtfpooimjjpamoaaGreatDoorS18
import Derived.Test.YtfpooimjjpamoaaGreatDoorF11
import Derived.Test.YtfpooimjjpamoaaGreatDoorF16
import Derived.Test.YtfpooimjjpamoaaGreatDoorS01
namespace Go.Proofs.YtfpooimjjpamoaaGreatDoor.dec
open Go.Proofs.YtfpooimjjpamoaaGreatDoor.ref (pad pad_length pad_nought pad_dec padTo decBody decText signed nearN nearUp Numeral seg ch IsDig DecBody DecForm pad_reads take_pad digits_of dec_numeral)
open Go.Proofs.YtfpooimjjpamoaaGreatDoor.nat (pad_split pad_mod)
theorem pad_more (m x : Nat) (h : x < 10 ^ (m + 1)) : ∀ j, pad (j + (m + 1)) x = List.replicate j 48 ++ pad (m + 1) x
  | 0 => by rw [Nat.zero_add]; rfl
  | j + 1 => by
    rw [show j + 1 + (m + 1) = (j + (m + 1)) + 1 by omega, pad_nought (Nat.lt_of_lt_of_le h (Nat.pow_le_pow_right (by omega) (by omega))), pad_more m x h j]
    rfl
theorem digits_at (x : Nat) : ∃ m, x < 10 ^ (m + 1) ∧ (m = 0 ∨ 10 ^ m ≤ x) := by
  obtain ⟨m, h1, h2, -⟩ := digits_of x x (Nat.lt_of_lt_of_le (Nat.lt_pow_self (by omega)) (Nat.pow_le_pow_right (by omega) (Nat.le_succ x)))
  exact ⟨m, h1, h2⟩
theorem decBody_nought (x : Nat) : decBody x 0 = Lib.decDigits x := by
  have := dec_pos x
  unfold decBody
  rw [if_pos rfl]
  unfold padTo
  rw [show 0 + 1 - (Lib.decDigits x).length = 0 by omega]
  rfl
theorem decBody_parts (x : Nat) {k : Nat} (hk : 0 < k) : decBody x k = Lib.decDigits (x / 10 ^ k) ++ 46 :: pad k x := by
  obtain ⟨m, h1, h2⟩ := digits_at x
  have hD : Lib.decDigits x = pad (m + 1) x := (pad_dec m x h1 h2).symm
  obtain ⟨M, hM⟩ : ∃ M, M = max k m := ⟨_, rfl⟩
  have hP : padTo (Lib.decDigits x) k = pad (M + 1) x := by
    unfold padTo
    rw [hD, pad_length, ← pad_more m x h1, show k + 1 - (m + 1) + (m + 1) = M + 1 by omega]
  have hS : pad (M + 1) x = pad (M + 1 - k) (x / 10 ^ k) ++ pad k x := by
    have := pad_split (M + 1 - k) x k
    rwa [show M + 1 - k + k = M + 1 by omega] at this
  have hQ : pad (M + 1 - k) (x / 10 ^ k) = Lib.decDigits (x / 10 ^ k) := by
    rw [show M + 1 - k = (M - k) + 1 by omega]
    refine pad_dec (M - k) _ ?_ ?_
    · rw [Nat.div_lt_iff_lt_mul (Nat.pow_pos (by omega)), ← Nat.pow_add, show M - k + 1 + k = M + 1 by omega]
      exact Nat.lt_of_lt_of_le h1 (Nat.pow_le_pow_right (by omega) (by omega))
    · rcases (show M = k ∨ k < m ∧ M = m by omega) with h3 | ⟨h3, h4⟩
      · exact Or.inl (by omega)
      · refine Or.inr ?_
        rw [Nat.le_div_iff_mul_le (Nat.pow_pos (by omega)), ← Nat.pow_add, show M - k + k = m by omega]
        omega
  unfold decBody
  rw [if_neg (by omega), hP, pad_length, hS]
  have hl : (pad (M + 1 - k) (x / 10 ^ k)).length = M + 1 - k := pad_length _ _
  rw [List.take_left' hl, List.drop_left' hl, hQ]
theorem body_form {x k p : Nat} (h : x < 10 ^ (p + 1)) (hp : p < 4000) (hk : k ≤ 20) : DecBody (decBody x k) x k := by
  rcases Nat.eq_zero_or_pos k with rfl | h0
  · rw [decBody_nought]
    obtain ⟨h1, h2, -⟩ := dec_numeral h hp
    exact Or.inl ⟨rfl, h1, h2.symm⟩
  · rw [decBody_parts x h0]
    obtain ⟨h1, h2, -⟩ := dec_numeral (x := x / 10 ^ k) (Nat.lt_of_le_of_lt (Nat.div_le_self _ _) h) hp
    obtain ⟨h3, h4⟩ := pad_reads k x
    refine Or.inr ⟨_, _, rfl, h1, pad_length _ _, h0, hk, h3, ?_⟩
    rw [h2, h4, Nat.mul_comm]
    exact (Nat.div_add_mod _ _).symm
theorem form_body {t : List UInt8} {n k : Nat} (h : DecBody t n k) : t = decBody n k := by
  rcases h with ⟨rfl, h1, rfl⟩ | ⟨a, b, rfl, h1, rfl, h2, h3, h4, rfl⟩
  · rw [decBody_nought]
    exact h1.dec
  · rw [decBody_parts _ h2]
    have hb := ref.seg_lt (l := b) (st := 0) (m := b.length) fun i _ hi => h4 i (by omega)
    have e1 : (seg a 0 a.length * 10 ^ b.length + seg b 0 b.length) / 10 ^ b.length = seg a 0 a.length := by
      rw [Nat.add_comm, Nat.add_mul_div_right _ _ (Nat.pow_pos (by omega)), Nat.div_eq_of_lt hb, Nat.zero_add]
    have e2 : (seg a 0 a.length * 10 ^ b.length + seg b 0 b.length) % 10 ^ b.length = seg b 0 b.length := by
      rw [Nat.add_comm, Nat.add_mul_mod_self_right, Nat.mod_eq_of_lt hb]
    have e3 := take_pad (l := b) b.length (Nat.le_refl _) h4
    rw [List.take_length] at e3
    rw [e1, ← pad_mod, e2, ← h1.dec, ← e3]
theorem form_text {l : List UInt8} {neg : Bool} {n k : Nat} (h : DecForm l neg n k) : l = decText (signed neg n) k := by
  obtain ⟨-, t, rfl, h0, hb⟩ := h
  rw [text_of, ← form_body hb]
  cases neg
  · simp
  · simp [h0 rfl]
theorem text_form {x k p : Nat} {below : Bool} (h : x < 10 ^ (p + 1)) (hp : p < 4000) (hk : k ≤ 20) (hl : (decText (signed below x) k).length ≤ 60) :
    DecForm (decText (signed below x) k) (below && decide (x ≠ 0)) x k := by
  refine ⟨hl, decBody x k, ?_, ?_, body_form h hp hk⟩
  · rw [text_of]
    cases below <;> by_cases h0 : x = 0 <;> simp [h0]
  · intro hb
    simp at hb
    exact hb.2
theorem text_len {x k p : Nat} {below : Bool} (h : x < 10 ^ (p + 1)) (hp : p < 4000) : (decText (signed below x) k).length ≤ max p k + 3 := by
  have h1 : (decBody x k).length ≤ max p k + 2 := by
    rcases Nat.eq_zero_or_pos k with rfl | h0
    · rw [decBody_nought]
      have := (dec_numeral h hp).2.2
      omega
    · rw [decBody_parts x h0, List.length_append, List.length_cons, pad_length]
      by_cases hkp : k ≤ p
      · have h2 : x / 10 ^ k < 10 ^ (p - k + 1) := by
          rw [Nat.div_lt_iff_lt_mul (Nat.pow_pos (by omega)), ← Nat.pow_add, show p - k + 1 + k = p + 1 by omega]
          exact h
        have := (dec_numeral h2 (by omega)).2.2
        omega
      · have h2 : x / 10 ^ k = 0 := Nat.div_eq_of_lt (Nat.lt_of_lt_of_le h (Nat.pow_le_pow_right (by omega) (by omega)))
        rw [h2, Lib.decDigits_length, Lib.nDigits_small (by omega)]
        omega
  rw [text_of]
  split
  · rw [List.length_cons]; omega
  · omega
theorem signed_self (z : Int) : signed (decide (z < 0)) z.natAbs = z := by
  unfold signed
  by_cases h : z < 0 <;> simp [h] <;> omega
theorem int_form {z : Int} {k p : Nat} (h : z.natAbs < 10 ^ (p + 1)) (hp : max p k + 3 ≤ 60) (hk : k ≤ 20) : DecForm (decText z k) (decide (z < 0)) z.natAbs k := by
  have hl := text_len (below := decide (z < 0)) (k := k) h (by omega)
  have hf := text_form (below := decide (z < 0)) h (by omega) hk (by omega)
  rw [signed_self] at hf
  have e : (decide (z < 0) && decide (z.natAbs ≠ 0)) = decide (z < 0) := by
    by_cases h : z < 0 <;> simp [h]
    omega
  rwa [e] at hf
theorem ends {z : Int} {d : Nat} (hd : 0 < d) {q : Rat} (hq : q = (z : Rat) / (d : Rat)) : ∃ g, 0 < g ∧ z.natAbs = q.num.natAbs * g ∧ d = q.den * g ∧ (q.num < 0 ↔ z < 0) := by
  obtain ⟨e1, e2⟩ := rat.low_ends (z := z) hd
  have hg : 0 < Nat.gcd z.natAbs d := Nat.gcd_pos_of_pos_right _ hd
  have h1 : z.natAbs / Nat.gcd z.natAbs d * Nat.gcd z.natAbs d = z.natAbs := Nat.div_mul_cancel (Nat.gcd_dvd_left _ _)
  have h2 : d / Nat.gcd z.natAbs d * Nat.gcd z.natAbs d = d := Nat.div_mul_cancel (Nat.gcd_dvd_right _ _)
  refine ⟨Nat.gcd z.natAbs d, hg, ?_, ?_, ?_⟩
  · rw [hq, e1, ref.lowN_abs, h1]
  · rw [hq, e2]
    exact h2.symm
  · rw [hq, e1]
    constructor <;> intro h
    · exact signed_lt h
    · unfold ref.lowN signed
      have : 0 < z.natAbs / Nat.gcd z.natAbs d := by
        refine Nat.pos_of_ne_zero fun e => ?_
        rw [e] at h1
        omega
      simp [h]
      omega
theorem put_rest {z : Int} {k : Nat} {q : Rat} (hq : q = (z : Rat) / ((10 ^ k : Nat) : Rat)) : q.num.natAbs * 10 ^ k % q.den = 0 ∧ q.num.natAbs * 10 ^ k / q.den = z.natAbs ∧ signed (decide (q.num < 0)) z.natAbs = z := by
  obtain ⟨g, hg, h1, h2, h3⟩ := ends (Nat.pow_pos (by omega)) hq
  have h4 : q.num.natAbs * 10 ^ k = q.den * z.natAbs := by rw [h1, h2]; ac_rfl
  refine ⟨?_, ?_, ?_⟩
  · rw [h4]; exact Nat.mul_mod_right _ _
  · rw [h4]; exact Nat.mul_div_cancel_left _ q.den_pos
  · have e : decide (q.num < 0) = decide (z < 0) := decide_eq_decide.2 h3
    rw [e]
    unfold signed
    by_cases h : z < 0 <;> simp [h] <;> omega
theorem signed_abs (p : Bool) (x : Nat) : (signed p x).natAbs = x := by unfold signed; split <;> omega
end Go.Proofs.YtfpooimjjpamoaaGreatDoor.dec
namespace Go.Proofs.YtfpooimjjpamoaaGreatDoor.dec
open Go.Proofs.YtfpooimjjpamoaaGreatDoor.ref (decText signed nearN nearUp lowN lowD DecBody DecForm seg)
open Go.Proofs.YtfpooimjjpamoaaGreatDoor.law2 (Bn Bz Br Br_low)
theorem form_places {l : List UInt8} {neg : Bool} {n k : Nat} (h : DecForm l neg n k) : k ≤ 20 := by
  obtain ⟨-, t, -, -, hb⟩ := h
  rcases hb with ⟨rfl, -⟩ | ⟨a, b, -, -, -, -, h, -⟩
  · omega
  · exact h
theorem form_low {l : List UInt8} {neg : Bool} {n k : Nat} (h : DecForm l neg n k) : n < 10 ^ 60 := by
  obtain ⟨hl, t, rfl, -, hb⟩ := h
  have ht : t.length ≤ 60 := by
    cases neg <;> simp at hl <;> omega
  refine Nat.lt_of_lt_of_le ?_ (Nat.pow_le_pow_right (by omega) ht)
  rcases hb with ⟨-, h, rfl⟩ | ⟨a, b, rfl, h, rfl, -, -, h1, rfl⟩
  · exact ref.seg_lt (l := t) (st := 0) (m := t.length) fun i _ hi => h.2.2.2 i (by omega)
  · have ha := ref.seg_lt (l := a) (st := 0) (m := a.length) fun i _ hi => h.2.2.2 i (by omega)
    have hb := ref.seg_lt (l := b) (st := 0) (m := b.length) fun i _ hi => h1 i (by omega)
    have e : 10 ^ (a ++ 46 :: b).length = 10 ^ a.length * 10 ^ b.length * 10 := by
      rw [show (a ++ 46 :: b).length = a.length + b.length + 1 by simp; omega, Nat.pow_succ, Nat.pow_add]
    rw [e]
    generalize 10 ^ a.length = A at *
    generalize 10 ^ b.length = B at *
    generalize seg a 0 a.length = x at *
    generalize seg b 0 b.length = y at *
    have h2 : (x + 1) * B ≤ A * B := Nat.mul_le_mul_right B ha
    rw [Nat.add_mul] at h2
    omega
theorem Bz_signed {p : Bool} {x n : Nat} (h : Bn x n) : Bz (signed p x) n := by unfold Bz; rw [signed_abs]; exact h
theorem Bn_ten {k : Nat} (hk : k ≤ 20) : Bn (10 ^ k) 21 := Nat.lt_of_lt_of_le (show 10 ^ k < 10 ^ (k + 1) by rw [Nat.pow_succ]; have : 0 < 10 ^ k := Nat.pow_pos (by omega); omega) (Nat.pow_le_pow_right (by omega) (by omega))
theorem br_ten {z : Int} {k n : Nat} {q : Rat} (hq : q = (z : Rat) / ((10 ^ k : Nat) : Rat)) (hk : k ≤ 20) (hz : Bz z n) (hn : 21 ≤ n) : Br q n :=
  Br_low (Nat.pow_pos (by omega)) hq hz ((Bn_ten hk).le hn)
end Go.Proofs.YtfpooimjjpamoaaGreatDoor.dec
namespace Go.Proofs.YtfpooimjjpamoaaGreatDoor.ref
open Go.RowKit
set_option maxRecDepth 100000 in
set_option maxHeartbeats 4000000 in
theorem GetDec_empty (w : World) : Calls Tryz.prog 79 #[.string (str [])] w fun e w' => GetDecEnd [] w e w' := by
  have HEnd := Lib.hid (fun neg n m (h : DecForm [] neg n m) => (show False from by
    obtain ⟨c, u, hc, -⟩ := (h.plain (fun t e => by cases e)).2.head
    cases hc))
  have hzt : (str []).size = 0 := rfl
  have hem : (str []).toList.isEmpty = true := by rw [ByteArray.toList_eq]; rfl
  have hx : (str []).extract 0 0 = str [] := rfl
  have HGN := Lib.hid (fun W => GetN_no [] W (by simp) (fun h => by have := h.1; simp at this))
  rw [show str [] = ByteArray.empty from rfl] at HGN
  generalize str [] = st at hzt hem hx ⊢
  go_enter Tryz.func79, Tryz.ntmps79
  go_wp2
  go_quiet (fail)
  go_wp2
  obtain ⟨V, hV⟩ : ∃ V, V = (w.alloc (.cells #[.bool false, .slice none 0 0, .slice none 0 0] 86)).drewN nq := ⟨_, rfl⟩
  rw [← hV]
  have HV0 := Lib.hid (show Below w.heap.size w V from by rw [hV]; exact nat.drewN_below ((Below.refl _ _).alloc (Nat.le_refl _) _) nq)
  have HVr := Lib.hid (show V.heap[w.heap.size]? = some (.cells #[.bool false, .slice none 0 0, .slice none 0 0] 86 (0, 0)) from by rw [hV]; exact heap_alloc_new _ _)
  clear hV
  go_loopw [7] (fun kv wr => kv = .int .i64 0 ∧ V = wr) (fun _ _ => 0)
  case atStart => exact ⟨rfl, rfl⟩
  case round =>
    obtain ⟨rfl, rfl⟩ := hrel
    go_wp2_with (first
      | (go_at_call 45; (with_reducible refine (HGN.out _).mono ?_); rintro e w2 ⟨rfl, hb⟩
         obtain ⟨c0, c1, c2, f0, f1, f2⟩ := row3 ((hb.block w.heap.size (Array.getElem?_eq_some_iff.1 HVr.out).1).trans HVr.out)
         have HB2 := Lib.hid hb
         clear hb)
      | (fail "no arm"))
    obtain ⟨-, -, -, q3, q4, q5⟩ := three_cells (.bool false) (.slice none 0 0) (.slice none 0 0) c0 c1 c2
    refine bodyPost_ret (v := .tuple #[.agg #[.bool false, .slice none 0 0, .slice none 0 0], .int .i64 0, .bool false]) ?_ rfl ?_
    · simp [results, Tryz.results79, go_sem, q3, q4, q5]
    · exact ⟨_, _, _, rfl, (fun h => by cases h), fun _ => ⟨rfl, rfl, HEnd.out⟩, result_below (HV0.out.trans (HB2.out.mono HV0.out.size)) (Nat.le_refl _) _ _ _⟩
theorem GetDec_any (l : List UInt8) (w : World) (hl : l.length ≤ 9000) : Calls Tryz.prog 79 #[.string (str l)] w fun e w' => GetDecEnd l w e w' := by
  by_cases hm : ∃ t, l = 45 :: t
  · obtain ⟨t, rfl⟩ := hm
    rw [List.length_cons] at hl
    rcases point_first t with hn | ⟨a, b, rfl, hn⟩
    · by_cases h6 : 60 < t.length + 1
      · exact GetDec_minus_long t w (by omega) hn h6
      · by_cases hN : Numeral t
        · by_cases h0 : seg t 0 t.length = 0
          · exact GetDec_minus_nought t w (by omega) hn (by omega) hN h0
          · exact GetDec_minus_yes t w (by omega) hn (by omega) hN h0
        · exact GetDec_minus_bad t w (by omega) hn (by omega) hN
    · have hL : (a ++ 46 :: b).length = a.length + 1 + b.length := by simp; omega
      by_cases h6 : 60 < a.length + 1 + b.length + 1
      · exact GetDec_point_minus_long a b w (by omega) hn h6
      · by_cases h7 : b.length = 0
        · exact GetDec_point_minus_short a b w (by omega) hn (by omega) h7
        · by_cases h8 : 20 < b.length
          · exact GetDec_point_minus_many a b w (by omega) hn (by omega) h8
          · by_cases hN : Numeral a
            · exact GetDec_point_minus_go a b w (by omega) hn (by omega) (by omega) (by omega) hN
            · exact GetDec_point_minus_bad a b w (by omega) hn (by omega) (by omega) (by omega) hN
  · have hm : ∀ t, l ≠ 45 :: t := fun t e => hm ⟨t, e⟩
    by_cases hne : l = []
    · subst hne
      exact GetDec_empty w
    · rcases point_first l with hn | ⟨a, b, rfl, hn⟩
      · by_cases h6 : 60 < l.length
        · exact GetDec_plain_long l w hl hn h6 hne hm
        · by_cases hN : Numeral l
          · exact GetDec_plain_yes l w hl hn (by omega) hN hne hm
          · exact GetDec_plain_bad l w hl hn (by omega) hN hne hm
      · have hL : (a ++ 46 :: b).length = a.length + 1 + b.length := by simp; omega
        by_cases h6 : 60 < a.length + 1 + b.length
        · exact GetDec_point_plain_long a b w hl hn h6 hm
        · by_cases h7 : b.length = 0
          · exact GetDec_point_plain_short a b w hl hn (by omega) h7 hm
          · by_cases h8 : 20 < b.length
            · exact GetDec_point_plain_many a b w hl hn (by omega) h8 hm
            · by_cases hN : Numeral a
              · exact GetDec_point_plain_go a b w hl hn (by omega) (by omega) (by omega) hN hm
              · exact GetDec_point_plain_bad a b w hl hn (by omega) (by omega) (by omega) hN hm
end Go.Proofs.YtfpooimjjpamoaaGreatDoor.ref
