/-
  The steps of the walks, part 38: RatTxt, Law2Kit, DecM.
-/
import Derived.Test.YtfpooimjjpamoaaGreatDoorA37
import Derived.Test.YtfpooimjjpamoaaGreatDoorA36
import Derived.Test.YtfpooimjjpamoaaGreatDoorA34
import Derived.Test.YtfpooimjjpamoaaGreatDoorA35
import Derived.Test.YtfpooimjjpamoaaGreatDoorA26
namespace Go.Proofs.YtfpooimjjpamoaaGreatDoor.rat
open Go.Proofs.YtfpooimjjpamoaaGreatDoor.ref (str IntText Numeral seg seg_lt lowN lowD ratText RatForm signed)
theorem low_ends {z : Int} {d : Nat} (hd : 0 < d) : ((z : Rat) / (d : Rat)).num = lowN z d ∧ ((z : Rat) / (d : Rat)).den = lowD z d := by
  have hg : 0 < Nat.gcd z.natAbs d := Nat.gcd_pos_of_pos_right _ hd
  obtain ⟨D, hD⟩ := Nat.gcd_dvd_right z.natAbs d
  obtain ⟨Z, hZ⟩ : ((Nat.gcd z.natAbs d : Nat) : Int) ∣ z := by rw [← Int.dvd_natAbs, Int.ofNat_dvd]; exact Nat.gcd_dvd_left _ _
  have hc : Nat.gcd (z.natAbs / Nat.gcd z.natAbs d) (d / Nat.gcd z.natAbs d) = 1 := Nat.coprime_div_gcd_div_gcd hg
  have hN : (lowN z d).natAbs = z.natAbs / Nat.gcd z.natAbs d := ref.lowN_abs z d
  have hNZ : lowN z d = Z := by
    have h1 : z.natAbs / Nat.gcd z.natAbs d = Z.natAbs := by
      have : z.natAbs = Nat.gcd z.natAbs d * Z.natAbs := by
        conv => lhs; rw [hZ]
        rw [Int.natAbs_mul, Int.natAbs_natCast]
      rw [Nat.div_eq_of_eq_mul_right hg this]
    unfold lowN
    rw [h1]
    unfold signed
    have hsg : z < 0 ↔ Z < 0 := by
      constructor <;> intro h
      · rcases Int.lt_or_le Z 0 with h2 | h2
        · exact h2
        · have := Int.mul_nonneg (show (0 : Int) ≤ ((Nat.gcd z.natAbs d : Nat) : Int) by omega) h2
          omega
      · have := Int.mul_neg_of_pos_of_neg (show (0 : Int) < ((Nat.gcd z.natAbs d : Nat) : Int) by omega) h
        omega
    by_cases h : z < 0
    · have h2 := hsg.1 h
      simp [h]; omega
    · have h2 : ¬ Z < 0 := fun k => h (hsg.2 k)
      simp [h]; omega
  have hDD : lowD z d = D := by
    unfold lowD
    exact Nat.div_eq_of_eq_mul_right hg hD
  have hD0 : 0 < lowD z d := by
    rw [hDD]
    exact Nat.pos_of_ne_zero fun h => by rw [h] at hD; omega
  refine num_den_of hD0 (by rw [hN]; exact hc) ?_
  rw [hNZ, hDD]
  have e1 : (z : Rat) = ((Nat.gcd z.natAbs d : Nat) : Rat) * (Z : Rat) := by
    conv => lhs; rw [hZ]
    rw [Rat.intCast_mul, Rat.intCast_natCast]
  have e2 : (d : Rat) = ((Nat.gcd z.natAbs d : Nat) : Rat) * (D : Rat) := by
    conv => lhs; rw [hD]
    rw [Rat.natCast_mul]
  have n1 := cast_ne hg
  have n2 : (D : Rat) ≠ 0 := cast_ne (by rw [hDD] at hD0; exact hD0)
  rw [e1, e2]
  generalize ((Nat.gcd z.natAbs d : Nat) : Rat) = g at *
  grind
theorem ratText_rtxt {z : Int} {d : Nat} (hd : 0 < d) : ratText z d = rtxt ((z : Rat) / (d : Rat)) := by
  unfold rtxt ratText
  rw [(low_ends hd).1, (low_ends hd).2]
theorem FracText.form {l : List UInt8} {q : Rat} (h : FracText l q) : RatForm l q.num q.den ∧ l = ratText q.num q.den ∧ l = rtxt q := by
  have hr : ratText q.num q.den = rtxt q := by rw [ratText_rtxt q.den_pos, ← self_div]
  rcases h with ⟨h, h1⟩ | ⟨a, b, rfl, h1, h2, h3⟩
  · have e : l = rtxt q := by unfold rtxt; rw [if_pos h1, List.append_nil]; exact h.itoa
    exact ⟨Or.inl ⟨h, h1⟩, by rw [hr]; exact e, e⟩
  · have hb : Numeral b ∧ q.den = seg b 0 b.length := by
      rcases h2 with ⟨h2, h4⟩ | ⟨t, rfl, h2, h4, h5⟩
      · exact ⟨h2, by omega⟩
      · omega
    have e : a ++ 47 :: b = rtxt q := by
      unfold rtxt
      rw [if_neg (by omega), ← h1.itoa]
      congr 2
      rw [hb.2]
      exact hb.1.dec
    exact ⟨Or.inr ⟨a, b, rfl, h1, hb.1, hb.2, q.den_pos⟩, by rw [hr]; exact e, e⟩
end Go.Proofs.YtfpooimjjpamoaaGreatDoor.rat
namespace Go.Proofs.YtfpooimjjpamoaaGreatDoor.law2
open Go.RowKit Go.Proofs.YtfpooimjjpamoaaGreatDoor.nat
def Hd (w : World) : Prop := flt.Handle w
theorem Hd.below {w w' : World} (h : Hd w) (hb : Below w.heap.size w w') : Hd w' := flt.Handle.below h hb (flt.Handle.pos h)
theorem Hd.cell {w : World} (h : Hd w) : flt.Handle w := h
def BegunC : Prop := ∀ w, Hd w → Calls Tryz.prog 25 #[] w fun e w' => e = .returned (.bool true) ∧ Below w.heap.size w w'
set_option maxRecDepth 100000 in
theorem Same_any (c : Int) (w : World) (h : Hd w) :
    Calls Tryz.prog 29 #[.iface 171 (.int .i64 c), .int .i64 c] w fun e w' => e = .returned (.bool true) ∧ Below w.heap.size w w' := by
  have HC := Lib.hid (flt.Code_plain c w h)
  clear h
  go_enter Tryz.func29, Tryz.ntmps29
  go_wp2_with (first
    | (go_at_call 107; (with_reducible refine (HC.out).mono ?_); rintro e w1 ⟨rfl, hb⟩; have HB := Lib.hid hb; clear hb)
    | (fail "no arm"))
  go_ret
  exact ⟨rfl, HB.out⟩
theorem cmp3_eqN {x y : Nat} (h : x = y) : cmp3 (x : Int) (y : Int) = 0 := by subst h; unfold cmp3; rw [if_neg (by omega), if_neg (by omega)]
theorem cmp3_ltN {x y : Nat} (h : x < y) : cmp3 (x : Int) (y : Int) = -1 := by unfold cmp3; rw [if_pos (by omega)]
theorem cmp3_eqZ {x y : Int} (h : x = y) : cmp3 x y = 0 := by subst h; unfold cmp3; rw [if_neg (by omega), if_neg (by omega)]
theorem dec_one : ref.str (Lib.decDigits 1) = ⟨#[49]⟩ := by rw [Lib.decDigits_one (by omega)]; rfl
theorem cmpR_eq {p q : Rat} (h : p = q) : rat.cmpR p q = 0 := by subst h; unfold rat.cmpR; rw [if_neg Rat.lt_irrefl, if_neg Rat.lt_irrefl]
theorem IsX_slice {w : World} {v : Value} {x : Nat} (h : ref.IsN w v x) : ∃ o c, v = .slice o (ref.digs x).length c := by
  obtain ⟨o, c, rfl, -⟩ := id h
  exact ⟨o, c, rfl⟩
theorem intText_lt {l : List UInt8} {z : Int} {n : Nat} (h : ref.IntText l z) (hl : l.length ≤ n) : Bz z n := by
  rcases h with ⟨h, rfl⟩ | ⟨t, rfl, h, -, rfl⟩
  · exact Bz_nat (Nat.lt_of_lt_of_le (ref.seg_lt (l := l) (st := 0) (m := l.length) fun i _ hi => h.2.2.2 i (by omega)) (ten_le hl))
  · refine Bz_neg (Bz_nat (Nat.lt_of_lt_of_le (ref.seg_lt (l := t) (st := 0) (m := t.length) fun i _ hi => h.2.2.2 i (by omega)) (ten_le ?_)))
    simp at hl
    omega
theorem NPow_at (a : Value) (X K : Nat) (z : Int) (hz : z = K) (hK : K < 1000000) (w : World) (ha : nat.IsN w a X) (hx : (nat.digs X).length ≤ 900000) (hb : (nat.digs (X ^ K)).length ≤ 900000) :
    Calls Tryz.prog 94 #[a, .int .i64 z] w fun e w' => ∃ v, e = .returned v ∧ (nat.IsN w' v (X ^ K) ∧ v ≠ .pointer none) ∧ Below w.heap.size w w' := by
  subst hz
  have := nat.Pow_any a X K w ha hx (by omega) (by rw [Int.toNat_natCast]; exact hb)
  rwa [Int.toNat_natCast] at this
theorem XPow_at (a : Value) (X K n : Nat) (z : Int) (hz : z = K) (hK : K < 1000000) (w : World) (ha : ref.IsN w a X) (hx : Bn X n) (hn : n * K + 1 ≤ 100000) (hn2 : n ≤ 100000) :
    Calls Tryz.prog 87 #[a, .int .i64 z] w fun e w' => ∃ v, e = .returned v ∧ ref.IsN w' v (X ^ K) ∧ Below w.heap.size w w' := by
  subst hz
  have := ref.Pow_any a X K (by omega) w ha (hx.ref hn2) (fun i hi => (Bn_pow i hx).ref (by
    rw [Int.toNat_natCast] at hi
    have := Nat.mul_le_mul_left n hi
    omega))
  rwa [Int.toNat_natCast] at this
theorem isI_zero (w : World) : ref.IsI w (.agg #[.bool false, .slice none 0 0]) 0 :=
  ⟨.slice none 0 0, by simp, none, 0, by rw [show Int.natAbs 0 = 0 from rfl, ref.digs_zero]; rfl, ⟨by rw [show Int.natAbs 0 = 0 from rfl, ref.digs_zero]; exact Nat.le_refl _, fun _ => rfl⟩, Nat.zero_le _, Or.inl (by rw [show Int.natAbs 0 = 0 from rfl, ref.digs_zero])⟩
theorem dec_bn {x n : Nat} (h : Bn x n) (h1 : 1 ≤ n) (hn : n ≤ 4000) : ref.Numeral (Lib.decDigits x) ∧ ref.seg (Lib.decDigits x) 0 (Lib.decDigits x).length = x ∧ (Lib.decDigits x).length ≤ n := by
  obtain ⟨p, rfl⟩ : ∃ p, n = p + 1 := ⟨n - 1, by omega⟩
  exact ref.dec_numeral h (by omega)
theorem low_text : ref.str (Lib.itoa (-9223372036854775808)) = ⟨#[45, 57, 50, 50, 51, 51, 55, 50, 48, 51, 54, 56, 53, 52, 55, 55, 53, 56, 48, 56]⟩ := by decide +kernel
theorem nought_text : ref.str (Lib.itoa 0) = ⟨#[48]⟩ := by decide +kernel
theorem ref_isI {w : World} {s : Value} {z : Int} (h : ref.IsN w s z.natAbs) : ref.IsI w (.agg #[.bool (decide (z < 0)), s]) z := ⟨s, rfl, h⟩
def Cells2 (w : World) (g : Nat) (v0 v1 : Value) : Prop := w.cell? ⟨g, 0, none⟩ = some v0 ∧ w.cell? ⟨g, 1, none⟩ = some v1
theorem Cells2.below {w w' : World} {g : Nat} {v0 v1 : Value} (h : Cells2 w g v0 v1) (hb : Below w.heap.size w w') : Cells2 w' g v0 v1 :=
  ⟨(hb.cell (p := ⟨g, 0, none⟩) (cell_lt h.1)).trans h.1, (hb.cell (p := ⟨g, 1, none⟩) (cell_lt h.2)).trans h.2⟩
theorem cells2_new (w : World) (v0 v1 : Value) (t : TypeId) : Cells2 (w.alloc (.cells #[v0, v1] t)) w.heap.size v0 v1 :=
  ⟨by rw [cell_of_row _ _ 0 _ t (0, 0) (heap_alloc_new w _)]; rfl, by rw [cell_of_row _ _ 1 _ t (0, 0) (heap_alloc_new w _)]; rfl⟩
theorem xlen_zero {x : Nat} (h : x = 0) : (ref.digs x).length = 0 := by rw [h, ref.digs_zero]; rfl
theorem xlen_pos {x : Nat} (h : x ≠ 0) : 0 < (ref.digs x).length := by rw [ref.digs_pos h]; simp
theorem cmp_same (X Y : Nat) : cmp3 (X : Int) (Y : Int) = ref.cmpN X Y := by
  unfold cmp3 ref.cmpN
  (repeat' split) <;> omega
end Go.Proofs.YtfpooimjjpamoaaGreatDoor.law2
namespace Go.Proofs.YtfpooimjjpamoaaGreatDoor.dec
open Go.RowKit Go.Proofs.YtfpooimjjpamoaaGreatDoor.nat Go.Proofs.YtfpooimjjpamoaaGreatDoor.num
open Go.Proofs.YtfpooimjjpamoaaGreatDoor.rat (IsR Lr)
open Go.Proofs.YtfpooimjjpamoaaGreatDoor.ref (str str_size str_append nearN nearUp signed decText)
def upB (mode C : Int) (odd : Bool) : Bool := ((mode == 1) && decide (0 ≤ C)) || ((mode == 2) && (decide (0 < C) || ((C == 0) && odd)))
theorem up_near (x d : Nat) (mode : Int) : upB mode (cmp3 ((x % d + x % d : Nat) : Int) (d : Int)) (decide (x / d % 2 = 1)) = nearUp x d mode := by
  have hC : cmp3 ((x % d + x % d : Nat) : Int) (d : Int) = ref.cmpN (x % d * 2) d := by
    rw [show x % d + x % d = x % d * 2 by omega]
    unfold cmp3 ref.cmpN
    (repeat' split) <;> omega
  rw [hC, ref.near_up (x := x) (d := d) (mode := mode) rfl]
  rfl
def putText (q : Rat) (k : Nat) (mode : Int) : List UInt8 := decText (signed (decide (q.num < 0)) (nearN (q.num.natAbs * 10 ^ k) q.den mode)) k
theorem text_of (below : Bool) (x k : Nat) : decText (signed below x) k = if below = true ∧ x ≠ 0 then 45 :: ref.decBody x k else ref.decBody x k := by
  unfold decText signed
  cases below
  · simp
  · by_cases h : x = 0
    · subst h; simp
    · simp [h]
theorem Ln_ten {k : Nat} (hk : k ≤ 20) : Ln (10 ^ k) 21 := rat.Ln_tens (n := 21) (Nat.lt_of_lt_of_le (show 10 ^ k < 10 ^ (k + 1) by rw [Nat.pow_succ]; have : 0 < 10 ^ k := Nat.pow_pos (by omega); omega) (Nat.pow_le_pow_right (by omega) (by omega))) (Nat.le_refl _)
theorem Ln_near {x d n : Nat} (mode : Int) (h : Ln x n) : Ln (nearN x d mode) (n + 2) := by
  have h1 : nearN x d mode ≤ x + 1 := by
    unfold nearN
    have := Nat.div_le_self x d
    split <;> omega
  exact (Ln_less h1 (Ln_add h (Ln_small (x := 1) (by decide)))).le (by omega)
theorem near_two {x d : Nat} {mode : Int} (h : nearUp x d mode = true) : nearN x d mode = x / d + 1 := by unfold nearN; rw [h]; rfl
theorem near_one {x d : Nat} {mode : Int} (h : nearUp x d mode = false) : nearN x d mode = x / d := by unfold nearN; rw [h]; rfl
theorem sign_ways (z : Int) : (sg z = -1 ∧ decide (z < 0) = true) ∨ (sg z = 0 ∧ decide (z < 0) = false) ∨ (sg z = 1 ∧ decide (z < 0) = false) := by
  unfold sg cmp3
  rcases Int.lt_trichotomy z 0 with h | h | h
  · exact Or.inl ⟨by rw [if_pos h], by simpa using h⟩
  · subst h; exact Or.inr (Or.inl ⟨rfl, rfl⟩)
  · exact Or.inr (Or.inr ⟨by rw [if_neg (by omega), if_pos h], by simp; omega⟩)
theorem sgn_signed (p : Bool) (x : Nat) : num.sgn p x = signed p x := rfl
end Go.Proofs.YtfpooimjjpamoaaGreatDoor.dec
