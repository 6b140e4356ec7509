/-
  The steps of the walks, part 15: RatTxt, Law2Kit, DecM.
-/
import Derived.Test.YtfpooimjjpamoaaGreatDoorB13
import Derived.Test.YtfpooimjjpamoaaGreatDoorB14
import Derived.Test.YtfpooimjjpamoaaGreatDoorS22
import Derived.Test.YtfpooimjjpamoaaGreatDoorB09
import Derived.Test.YtfpooimjjpamoaaGreatDoorB10
import Derived.Test.YtfpooimjjpamoaaGreatDoorS19
import Derived.Test.YtfpooimjjpamoaaGreatDoorB11
import Derived.Test.YtfpooimjjpamoaaGreatDoorB07
import Derived.Test.YtfpooimjjpamoaaGreatDoorB08
import Derived.Test.YtfpooimjjpamoaaGreatDoorS18
import Derived.Test.YtfpooimjjpamoaaGreatDoorB12
import Derived.Test.YtfpooimjjpamoaaGreatDoorS23
import Derived.Test.YtfpooimjjpamoaaGreatDoorS20
namespace Go.Proofs.YtfpooimjjpamoaaGreatDoor.rat
open Go.Proofs.YtfpooimjjpamoaaGreatDoor.ref (str IntText Numeral seg seg_lt lowN lowD ratText RatForm signed)
theorem low_ends {z : Int} {d : Nat} (hd : 0 < d) : ((z : Rat) / (d : Rat)).num = lowN z d ∧ ((z : Rat) / (d : Rat)).den = lowD z d := by
  have hg : 0 < Nat.gcd z.natAbs d := Nat.gcd_pos_of_pos_right _ hd
  obtain ⟨D, hD⟩ := Nat.gcd_dvd_right z.natAbs d
  obtain ⟨Z, hZ⟩ : ((Nat.gcd z.natAbs d : Nat) : Int) ∣ z := by rw [← Int.dvd_natAbs, Int.ofNat_dvd]; exact Nat.gcd_dvd_left _ _
  have hc : Nat.gcd (z.natAbs / Nat.gcd z.natAbs d) (d / Nat.gcd z.natAbs d) = 1 := Nat.coprime_div_gcd_div_gcd hg
  have hN : (lowN z d).natAbs = z.natAbs / Nat.gcd z.natAbs d := ref.lowN_abs z d
  have hNZ : lowN z d = Z := by
    have h1 : z.natAbs / Nat.gcd z.natAbs d = Z.natAbs := by
      have : z.natAbs = Nat.gcd z.natAbs d * Z.natAbs := by
        conv => lhs; rw [hZ]
        rw [Int.natAbs_mul, Int.natAbs_natCast]
      rw [Nat.div_eq_of_eq_mul_right hg this]
    unfold lowN
    rw [h1]
    unfold signed
    have hsg : z < 0 ↔ Z < 0 := by
      constructor <;> intro h
      · rcases Int.lt_or_le Z 0 with h2 | h2
        · exact h2
        · have := Int.mul_nonneg (show (0 : Int) ≤ ((Nat.gcd z.natAbs d : Nat) : Int) by omega) h2
          omega
      · have := Int.mul_neg_of_pos_of_neg (show (0 : Int) < ((Nat.gcd z.natAbs d : Nat) : Int) by omega) h
        omega
    by_cases h : z < 0
    · have h2 := hsg.1 h
      simp [h]; omega
    · have h2 : ¬ Z < 0 := fun k => h (hsg.2 k)
      simp [h]; omega
  have hDD : lowD z d = D := by
    unfold lowD
    exact Nat.div_eq_of_eq_mul_right hg hD
  have hD0 : 0 < lowD z d := by
    rw [hDD]
    exact Nat.pos_of_ne_zero fun h => by rw [h] at hD; omega
  refine num_den_of hD0 (by rw [hN]; exact hc) ?_
  rw [hNZ, hDD]
  have e1 : (z : Rat) = ((Nat.gcd z.natAbs d : Nat) : Rat) * (Z : Rat) := by
    conv => lhs; rw [hZ]
    rw [Rat.intCast_mul, Rat.intCast_natCast]
  have e2 : (d : Rat) = ((Nat.gcd z.natAbs d : Nat) : Rat) * (D : Rat) := by
    conv => lhs; rw [hD]
    rw [Rat.natCast_mul]
  have n1 := cast_ne hg
  have n2 : (D : Rat) ≠ 0 := cast_ne (by rw [hDD] at hD0; exact hD0)
  rw [e1, e2]
  generalize ((Nat.gcd z.natAbs d : Nat) : Rat) = g at *
  grind
theorem ratText_rtxt {z : Int} {d : Nat} (hd : 0 < d) : ratText z d = rtxt ((z : Rat) / (d : Rat)) := by
  unfold rtxt ratText
  rw [(low_ends hd).1, (low_ends hd).2]
theorem low_le {z : Int} {d : Nat} (hd : 0 < d) : ((z : Rat) / (d : Rat)).num.natAbs ≤ z.natAbs ∧ ((z : Rat) / (d : Rat)).den ≤ d := by
  rw [(low_ends hd).1, (low_ends hd).2, ref.lowN_abs]
  exact ⟨Nat.div_le_self _ _, Nat.div_le_self _ _⟩
theorem intText_lt' {l : List UInt8} {z : Int} (h : IntText l z) : ∃ p, p < 4000 ∧ z.natAbs < 10 ^ (p + 1) := by
  have h4 : (4000 : Nat) = 3999 + 1 := rfl
  rcases h with ⟨h, rfl⟩ | ⟨t, rfl, h, -, rfl⟩
  · refine ⟨l.length - 1, by have := h.2.1; have := h.1; omega, ?_⟩
    rw [Int.natAbs_natCast, show l.length - 1 + 1 = l.length by have := h.1; omega]
    exact seg_lt (l := l) (st := 0) (m := l.length) fun i _ hi => h.2.2.2 i (by omega)
  · refine ⟨t.length - 1, by have := h.2.1; have := h.1; omega, ?_⟩
    rw [Int.natAbs_neg, Int.natAbs_natCast, show t.length - 1 + 1 = t.length by have := h.1; omega]
    exact seg_lt (l := t) (st := 0) (m := t.length) fun i _ hi => h.2.2.2 i (by omega)
theorem itoa_inj {l : List UInt8} {z y : Int} (h : IntText l z) (he : l = Lib.itoa y) (hy : y.natAbs ≤ z.natAbs) : z = y := by
  obtain ⟨p, hp, hz⟩ := intText_lt' h
  have := ref.itoa_text (z := y) (p := p) (by omega) hp
  rw [← he] at this
  exact h.inj this
theorem one_slash {a b a' b' : List UInt8} (h : a ++ 47 :: b = a' ++ 47 :: b') (ha : ∀ c ∈ a, c ≠ 47) (ha' : ∀ c ∈ a', c ≠ 47) : a = a' ∧ b = b' := by
  induction a generalizing a' with
  | nil =>
    rcases a' with _ | ⟨c, a'⟩
    · simp at h; exact ⟨rfl, h⟩
    · simp at h; exact absurd h.1.symm (ha' c (by simp))
  | cons x a ih =>
    rcases a' with _ | ⟨c, a'⟩
    · simp at h; exact absurd h.1 (ha x (by simp))
    · simp at h
      obtain ⟨rfl, h⟩ := h
      obtain ⟨rfl, rfl⟩ := ih h (fun c hc => ha c (by simp [hc])) (fun c hc => ha' c (by simp [hc]))
      exact ⟨rfl, rfl⟩
theorem itoa_slash (z : Int) : ∀ c ∈ Lib.itoa z, c ≠ 47 := by
  obtain ⟨p, hp⟩ : ∃ p, z.natAbs < 10 ^ (p + 1) := ⟨Lib.nDigits z.natAbs, Nat.lt_of_lt_of_le (Lib.lt_pow_nDigits _) (Nat.pow_le_pow_right (by omega) (by omega))⟩
  have hd : ∀ x : Nat, ∀ c ∈ Lib.decDigits x, 48 ≤ c.toNat := fun x c hc => by
    obtain ⟨m, h1, h2, -⟩ := ref.digits_of (Lib.nDigits x) x (Nat.lt_of_lt_of_le (Lib.lt_pow_nDigits _) (Nat.pow_le_pow_right (by omega) (by omega)))
    have hr := ref.pad_reads (m + 1) x
    rw [← ref.pad_dec m x h1 h2] at hc
    obtain ⟨i, hi, rfl⟩ := List.mem_iff_getElem.1 hc
    have := hr.1 i (by rw [ref.pad_length] at hi; exact hi)
    unfold ref.IsDig ref.ch at this
    rw [List.getD_eq_getElem?_getD, List.getElem?_eq_getElem hi] at this
    exact this.1
  intro c hc e
  unfold Lib.itoa at hc
  subst e
  split at hc
  · rcases List.mem_cons.1 hc with h | h
    · simp at h
    · have := hd _ _ h; simp at this
  · have := hd _ _ hc; simp at this
theorem FracText.form {l : List UInt8} {q : Rat} (h : FracText l q) : RatForm l q.num q.den ∧ l = ratText q.num q.den ∧ l = rtxt q := by
  have hr : ratText q.num q.den = rtxt q := by rw [ratText_rtxt q.den_pos, ← self_div]
  rcases h with ⟨h, h1⟩ | ⟨a, b, rfl, h1, h2, h3⟩
  · have e : l = rtxt q := by unfold rtxt; rw [if_pos h1, List.append_nil]; exact h.itoa
    exact ⟨Or.inl ⟨h, h1⟩, by rw [hr]; exact e, e⟩
  · have hb : Numeral b ∧ q.den = seg b 0 b.length := by
      rcases h2 with ⟨h2, h4⟩ | ⟨t, rfl, h2, h4, h5⟩
      · exact ⟨h2, by omega⟩
      · omega
    have e : a ++ 47 :: b = rtxt q := by
      unfold rtxt
      rw [if_neg (by omega), ← h1.itoa]
      congr 2
      rw [hb.2]
      exact hb.1.dec
    exact ⟨Or.inr ⟨a, b, rfl, h1, hb.1, hb.2, q.den_pos⟩, by rw [hr]; exact e, e⟩
theorem form_frac {l : List UInt8} {z : Int} {d : Nat} (hd : 0 < d) (h : RatForm l z d) (he : l = ratText z d) : FracText l ((z : Rat) / (d : Rat)) := by
  have hle := low_le (z := z) hd
  rw [ratText_rtxt hd] at he
  generalize hq : (z : Rat) / (d : Rat) = q at *
  rcases h with ⟨h, rfl⟩ | ⟨a, b, rfl, h1, h2, rfl, h4⟩
  · have h1 : q = (z : Rat) := by
      rw [← hq]
      have h2 : ((1 : Nat) : Rat) = 1 := rfl
      rw [h2]
      grind
    subst h1
    exact Or.inl ⟨h, rfl⟩
  · unfold rtxt at he
    split at he
    · exfalso
      rw [List.append_nil] at he
      exact itoa_slash q.num 47 (he ▸ by simp) rfl
    · rename_i hd1
      obtain ⟨ea, eb⟩ := one_slash he (fun c hc => h1.mem hc) (itoa_slash q.num)
      have e1 := itoa_inj h1 ea hle.1
      have hpos := q.den_pos
      have e2 : ((seg b 0 b.length : Nat) : Int) = ((q.den : Nat) : Int) := itoa_inj (l := b) (Or.inl ⟨h2, rfl⟩) (by rw [itoa_nat]; exact eb) (by rw [Int.natAbs_natCast, Int.natAbs_natCast]; exact hle.2)
      exact Or.inr ⟨a, b, rfl, e1 ▸ h1, e2 ▸ Or.inl ⟨h2, rfl⟩, by omega⟩
end Go.Proofs.YtfpooimjjpamoaaGreatDoor.rat
namespace Go.Proofs.YtfpooimjjpamoaaGreatDoor.law2
open Go.RowKit Go.Proofs.YtfpooimjjpamoaaGreatDoor.nat
def Hd (w : World) : Prop := flt.Handle w
theorem Hd.below {w w' : World} (h : Hd w) (hb : Below w.heap.size w w') : Hd w' := flt.Handle.below h hb (flt.Handle.pos h)
theorem Hd.cell {w : World} (h : Hd w) : flt.Handle w := h
def BegunC : Prop := ∀ w, Hd w → Calls Tryz.prog 25 #[] w fun e w' => e = .returned (.bool true) ∧ Below w.heap.size w w'
set_option maxRecDepth 100000 in
theorem Same_any (c : Int) (w : World) (h : Hd w) :
    Calls Tryz.prog 29 #[.iface 171 (.int .i64 c), .int .i64 c] w fun e w' => e = .returned (.bool true) ∧ Below w.heap.size w w' := by
  have HC := Lib.hid (flt.Code_plain c w h)
  clear h
  go_enter Tryz.func29, Tryz.ntmps29
  go_wp2_with (first
    | (go_at_call 107; (with_reducible refine (HC.out).mono ?_); rintro e w1 ⟨rfl, hb⟩; have HB := Lib.hid hb; clear hb)
    | (fail "no arm"))
  go_ret
  exact ⟨rfl, HB.out⟩
theorem cmp3_eqN {x y : Nat} (h : x = y) : cmp3 (x : Int) (y : Int) = 0 := by subst h; unfold cmp3; rw [if_neg (by omega), if_neg (by omega)]
theorem dec_one : ref.str (Lib.decDigits 1) = ⟨#[49]⟩ := by rw [Lib.decDigits_one (by omega)]; rfl
theorem dec_four : ref.str (Lib.decDigits 4) = ⟨#[52]⟩ := by rw [Lib.decDigits_one (by omega)]; rfl
theorem dec_nought : ref.str (Lib.decDigits 0) = ⟨#[48]⟩ := by rw [Lib.decDigits_one (by omega)]; rfl
theorem cmpR_eq {p q : Rat} (h : p = q) : rat.cmpR p q = 0 := by subst h; unfold rat.cmpR; rw [if_neg Rat.lt_irrefl, if_neg Rat.lt_irrefl]
theorem sg_num (q : Rat) : num.sg q.num = rat.cmpR q 0 := by
  have h := rat.cmp3_den q 0
  rw [Rat.zero_den, Rat.zero_num, Int.zero_mul] at h
  unfold num.sg
  rw [← h]
  congr 1
  simp
theorem sg_sub (p q : Rat) : num.sg (p - q).num = rat.cmpR p q := by
  rw [sg_num]
  unfold rat.cmpR
  have e1 : p - q < 0 ↔ p < q := by constructor <;> intro h <;> grind
  have e2 : 0 < p - q ↔ q < p := by constructor <;> intro h <;> grind
  simp only [e1, e2]
theorem IsX_slice {w : World} {v : Value} {x : Nat} (h : ref.IsN w v x) : ∃ o c, v = .slice o (ref.digs x).length c := by
  obtain ⟨o, c, rfl, -⟩ := id h
  exact ⟨o, c, rfl⟩
theorem intText_lt {l : List UInt8} {z : Int} {n : Nat} (h : ref.IntText l z) (hl : l.length ≤ n) : Bz z n := by
  rcases h with ⟨h, rfl⟩ | ⟨t, rfl, h, -, rfl⟩
  · exact Bz_nat (Nat.lt_of_lt_of_le (ref.seg_lt (l := l) (st := 0) (m := l.length) fun i _ hi => h.2.2.2 i (by omega)) (ten_le hl))
  · refine Bz_neg (Bz_nat (Nat.lt_of_lt_of_le (ref.seg_lt (l := t) (st := 0) (m := t.length) fun i _ hi => h.2.2.2 i (by omega)) (ten_le ?_)))
    simp at hl
    omega
theorem NPow_at (a : Value) (X K : Nat) (z : Int) (hz : z = K) (hK : K < 1000000) (w : World) (ha : nat.IsN w a X) (hx : (nat.digs X).length ≤ 900000) (hb : (nat.digs (X ^ K)).length ≤ 900000) :
    Calls Tryz.prog 94 #[a, .int .i64 z] w fun e w' => ∃ v, e = .returned v ∧ (nat.IsN w' v (X ^ K) ∧ v ≠ .pointer none) ∧ Below w.heap.size w w' := by
  subst hz
  have := nat.Pow_any a X K w ha hx (by omega) (by rw [Int.toNat_natCast]; exact hb)
  rwa [Int.toNat_natCast] at this
theorem GetQ_yes (l : List UInt8) (q : Rat) (w : World) (hl : l.length ≤ 9000) (h : rat.FracText l q) :
    Calls Tryz.prog 72 #[.string (ref.str l)] w fun e w' => ∃ p o1 n1 c1 o2 n2 c2, e = .returned (.tuple #[.agg #[.bool p, .slice o1 n1 c1, .slice o2 n2 c2], .bool true]) ∧ Below w.heap.size w w' := by
  refine (ref.GetQ_any l w hl).mono ?_
  rintro e w' ⟨v, ok, rfl, h1, h2, hb⟩
  obtain ⟨f1, f2, -⟩ := h.form
  cases ok
  · exact absurd f2 ((h2 rfl).2 _ _ f1)
  · obtain ⟨z, d, -, -, -, s, t, rfl, hs, ht⟩ := h1 rfl
    obtain ⟨o1, c1, rfl⟩ := IsX_slice hs
    obtain ⟨o2, c2, rfl⟩ := IsX_slice ht
    exact ⟨_, _, _, _, _, _, _, rfl, hb⟩
theorem GetQ_no (l : List UInt8) (w : World) (hl : l.length ≤ 9000) (h : ∀ q, ¬ rat.FracText l q) :
    Calls Tryz.prog 72 #[.string (ref.str l)] w fun e w' => e = .returned (.tuple #[.agg #[.bool false, .slice none 0 0, .slice none 0 0], .bool false]) ∧ Below w.heap.size w w' := by
  refine (ref.GetQ_any l w hl).mono ?_
  rintro e w' ⟨v, ok, rfl, h1, h2, hb⟩
  cases ok
  · obtain ⟨rfl, -⟩ := h2 rfl
    exact ⟨rfl, hb⟩
  · obtain ⟨z, d, hd, f1, f2, -⟩ := h1 rfl
    exact absurd (rat.form_frac hd f1 f2) (h _)
theorem fracText_lt {l : List UInt8} {q : Rat} {n : Nat} (h : rat.FracText l q) (hl : l.length ≤ n) (hn : 1 ≤ n) : Br q n := by
  rcases h with ⟨h, h1⟩ | ⟨a, b, rfl, h1, h2, h3⟩
  · refine ⟨intText_lt h hl, ?_⟩
    rw [h1]
    exact Nat.lt_of_lt_of_le (show 1 < 10 ^ 1 by decide) (ten_le hn)
  · simp at hl
    refine ⟨intText_lt h1 (by omega), ?_⟩
    have := intText_lt h2 (n := n) (by omega)
    unfold Bz at this
    rwa [Int.natAbs_natCast] at this
theorem rtxt_frac {q : Rat} {p : Nat} (h : Br q (p + 1)) (hp : p < 4000) : rat.FracText (rat.rtxt q) q := by
  have h1 := ref.itoa_text h.1 hp
  by_cases hd : q.den = 1
  · refine Or.inl ⟨?_, hd⟩
    unfold rat.rtxt
    rw [if_pos hd, List.append_nil]
    exact h1
  · refine Or.inr ⟨_, _, by unfold rat.rtxt; rw [if_neg hd], h1, ?_, by have := q.den_pos; omega⟩
    obtain ⟨e1, e2, -⟩ := ref.dec_numeral h.2 hp
    exact Or.inl ⟨e1, by rw [e2]⟩
theorem frac_val (n : Int) {d : Int} (hd : d ≠ 0) : ((ref.signed (decide (n < 0) != decide (d < 0)) n.natAbs : Int) : Rat) / ((d.natAbs : Nat) : Rat) = (n : Rat) / (d : Rat) := by
  have h0 := rat.cast_nez hd
  rcases Int.lt_or_gt_of_ne hd with h | h
  · have e : ((d.natAbs : Nat) : Rat) = -(d : Rat) := by rw [← Rat.intCast_natCast, show (d.natAbs : Int) = -d by omega, Rat.intCast_neg]
    have e2 : ref.signed (decide (n < 0) != decide (d < 0)) n.natAbs = -n := by
      unfold ref.signed
      by_cases hn : n < 0 <;> simp [hn, h] <;> omega
    rw [e, e2, Rat.intCast_neg]
    grind
  · have e : ((d.natAbs : Nat) : Rat) = (d : Rat) := by rw [← Rat.intCast_natCast, show (d.natAbs : Int) = d by omega]
    have e2 : ref.signed (decide (n < 0) != decide (d < 0)) n.natAbs = n := by
      unfold ref.signed
      have h2 : ¬ d < 0 := by omega
      by_cases hn : n < 0 <;> simp [hn, h2] <;> omega
    rw [e, e2]
theorem nought_text : ref.str (Lib.itoa 0) = ⟨#[48]⟩ := by decide +kernel
def Cells2 (w : World) (g : Nat) (v0 v1 : Value) : Prop := w.cell? ⟨g, 0, none⟩ = some v0 ∧ w.cell? ⟨g, 1, none⟩ = some v1
theorem Cells2.below {w w' : World} {g : Nat} {v0 v1 : Value} (h : Cells2 w g v0 v1) (hb : Below w.heap.size w w') : Cells2 w' g v0 v1 :=
  ⟨(hb.cell (p := ⟨g, 0, none⟩) (cell_lt h.1)).trans h.1, (hb.cell (p := ⟨g, 1, none⟩) (cell_lt h.2)).trans h.2⟩
end Go.Proofs.YtfpooimjjpamoaaGreatDoor.law2
namespace Go.Proofs.YtfpooimjjpamoaaGreatDoor.dec
open Go.RowKit Go.Proofs.YtfpooimjjpamoaaGreatDoor.nat Go.Proofs.YtfpooimjjpamoaaGreatDoor.num
open Go.Proofs.YtfpooimjjpamoaaGreatDoor.rat (IsR Lr)
open Go.Proofs.YtfpooimjjpamoaaGreatDoor.ref (str str_size str_append nearN nearUp signed decText)
def upB (mode C : Int) (odd : Bool) : Bool := ((mode == 1) && decide (0 ≤ C)) || ((mode == 2) && (decide (0 < C) || ((C == 0) && odd)))
theorem up_near (x d : Nat) (mode : Int) : upB mode (cmp3 ((x % d + x % d : Nat) : Int) (d : Int)) (decide (x / d % 2 = 1)) = nearUp x d mode := by
  have hC : cmp3 ((x % d + x % d : Nat) : Int) (d : Int) = ref.cmpN (x % d * 2) d := by
    rw [show x % d + x % d = x % d * 2 by omega]
    unfold cmp3 ref.cmpN
    (repeat' split) <;> omega
  rw [hC, ref.near_up (x := x) (d := d) (mode := mode) rfl]
  rfl
def putText (q : Rat) (k : Nat) (mode : Int) : List UInt8 := decText (signed (decide (q.num < 0)) (nearN (q.num.natAbs * 10 ^ k) q.den mode)) k
theorem text_of (below : Bool) (x k : Nat) : decText (signed below x) k = if below = true ∧ x ≠ 0 then 45 :: ref.decBody x k else ref.decBody x k := by
  unfold decText signed
  cases below
  · simp
  · by_cases h : x = 0
    · subst h; simp
    · simp [h]
theorem Ln_ten {k : Nat} (hk : k ≤ 20) : Ln (10 ^ k) 21 := rat.Ln_tens (n := 21) (Nat.lt_of_lt_of_le (show 10 ^ k < 10 ^ (k + 1) by rw [Nat.pow_succ]; have : 0 < 10 ^ k := Nat.pow_pos (by omega); omega) (Nat.pow_le_pow_right (by omega) (by omega))) (Nat.le_refl _)
theorem Ln_near {x d n : Nat} (mode : Int) (h : Ln x n) : Ln (nearN x d mode) (n + 2) := by
  have h1 : nearN x d mode ≤ x + 1 := by
    unfold nearN
    have := Nat.div_le_self x d
    split <;> omega
  exact (Ln_less h1 (Ln_add h (Ln_small (x := 1) (by decide)))).le (by omega)
theorem near_two {x d : Nat} {mode : Int} (h : nearUp x d mode = true) : nearN x d mode = x / d + 1 := by unfold nearN; rw [h]; rfl
theorem near_one {x d : Nat} {mode : Int} (h : nearUp x d mode = false) : nearN x d mode = x / d := by unfold nearN; rw [h]; rfl
theorem sign_ways (z : Int) : (sg z = -1 ∧ decide (z < 0) = true) ∨ (sg z = 0 ∧ decide (z < 0) = false) ∨ (sg z = 1 ∧ decide (z < 0) = false) := by
  unfold sg cmp3
  rcases Int.lt_trichotomy z 0 with h | h | h
  · exact Or.inl ⟨by rw [if_pos h], by simpa using h⟩
  · subst h; exact Or.inr (Or.inl ⟨rfl, rfl⟩)
  · exact Or.inr (Or.inr ⟨by rw [if_neg (by omega), if_pos h], by simp; omega⟩)
theorem sgn_signed (p : Bool) (x : Nat) : num.sgn p x = signed p x := rfl
end Go.Proofs.YtfpooimjjpamoaaGreatDoor.dec
