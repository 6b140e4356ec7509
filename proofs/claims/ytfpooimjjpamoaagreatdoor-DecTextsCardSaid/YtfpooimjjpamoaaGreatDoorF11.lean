/-
  The steps of the walks, part 11: Bnd, RefGetI, Law2Dg, Law2T, RefGetQ, Law2R, RatG, RefGetQ2, RatTxt, Law2Kit.
-/
import Derived.Lib.Bytealg
import Derived.Laws.Externs
import Derived.Test.YtfpooimjjpamoaaGreatDoorS21
import Derived.Test.YtfpooimjjpamoaaGreatDoorF10
import Derived.Test.YtfpooimjjpamoaaGreatDoorF09
import Derived.Test.YtfpooimjjpamoaaGreatDoorS19
import Derived.Test.YtfpooimjjpamoaaGreatDoorS15
import Derived.Test.YtfpooimjjpamoaaGreatDoorS17
import Derived.Test.YtfpooimjjpamoaaGreatDoorS22
import Derived.Test.YtfpooimjjpamoaaGreatDoorS20
import Derived.Test.YtfpooimjjpamoaaGreatDoorS18
namespace Go.Proofs.YtfpooimjjpamoaaGreatDoor.law2
open Go.Proofs.YtfpooimjjpamoaaGreatDoor.num (Lz Ln)
def Bn (x n : Nat) : Prop := x < 10 ^ n
def Bz (z : Int) (n : Nat) : Prop := z.natAbs < 10 ^ n
def Br (q : Rat) (n : Nat) : Prop := Bz q.num n ∧ Bn q.den n
theorem ten_le {n m : Nat} (h : n ≤ m) : 10 ^ n ≤ 10 ^ m := Nat.pow_le_pow_right (by omega) h
theorem Bn.le {x n m : Nat} (h : Bn x n) (hm : n ≤ m) : Bn x m := Nat.lt_of_lt_of_le h (ten_le hm)
theorem Bz.le {x : Int} {n m : Nat} (h : Bz x n) (hm : n ≤ m) : Bz x m := Nat.lt_of_lt_of_le h (ten_le hm)
theorem Br.le {q : Rat} {n m : Nat} (h : Br q n) (hm : n ≤ m) : Br q m := ⟨h.1.le hm, h.2.le hm⟩
theorem Bn.nat {x n m : Nat} (h : Bn x n) (hm : n ≤ m) : (nat.digs x).length ≤ m :=
  Nat.le_trans (nat.digs_len (n := n) (Nat.lt_of_lt_of_le h (Nat.pow_le_pow_left (by omega) _))) hm
theorem Bn.ref {x n m : Nat} (h : Bn x n) (hm : n ≤ m) : (ref.digs x).length ≤ m :=
  Nat.le_trans (ref.digs_len_of_lt (n := n) (Nat.lt_of_lt_of_le h (Nat.pow_le_pow_left (by omega) _))) hm
theorem Bz.nat {z : Int} {n m : Nat} (h : Bz z n) (hm : n ≤ m) : (nat.digs z.natAbs).length ≤ m := Bn.nat (x := z.natAbs) h hm
theorem Bz.ref {z : Int} {n m : Nat} (h : Bz z n) (hm : n ≤ m) : (ref.digs z.natAbs).length ≤ m := Bn.ref (x := z.natAbs) h hm
theorem Br.rat {q : Rat} {n m : Nat} (h : Br q n) (hm : n ≤ m) : rat.Lr q m := ⟨h.1.nat hm, h.2.nat hm⟩
theorem Bn_less {x y n : Nat} (hxy : x ≤ y) (h : Bn y n) : Bn x n := Nat.lt_of_le_of_lt hxy h
theorem Bn_mul {x y n m : Nat} (hx : Bn x n) (hy : Bn y m) : Bn (x * y) (n + m) := by
  unfold Bn at *
  rw [Nat.pow_add]
  rcases Nat.eq_zero_or_pos y with h | h
  · subst h; rw [Nat.mul_zero]; exact Nat.mul_pos (Nat.pow_pos (by omega)) (Nat.pow_pos (by omega))
  · exact Nat.lt_of_lt_of_le (Nat.mul_lt_mul_of_pos_right hx h) (Nat.mul_le_mul_left _ (Nat.le_of_lt hy))
theorem Bn_add {x y n m : Nat} (hx : Bn x n) (hy : Bn y m) : Bn (x + y) (n + m + 1) := by
  have h1 := hx.le (m := n + m) (by omega)
  have h2 := hy.le (m := n + m) (by omega)
  unfold Bn at *
  rw [Nat.pow_succ]
  omega
theorem Bn_div {x y n : Nat} (hx : Bn x n) : Bn (x / y) n := Bn_less (Nat.div_le_self _ _) hx
theorem Bn_mod {x y n : Nat} (hx : Bn x n) : Bn (x % y) n := Bn_less (Nat.mod_le _ _) hx
theorem Bn_small {x : Nat} (h2 : x < 18446744073709551616) : Bn x 20 := Nat.lt_of_lt_of_le h2 (by decide)
theorem Bz_small {z : Int} (h1 : -9223372036854775808 ≤ z) (h2 : z < 18446744073709551616) : Bz z 20 := Bn_small (x := z.natAbs) (by omega)
theorem Br_low {q : Rat} {z : Int} {d n : Nat} (hd : 0 < d) (hq : q = (z : Rat) / (d : Rat)) (hz : Bz z n) (hdn : Bn d n) : Br q n := by
  have h : mkRat z d = Rat.normalize z d (by omega) := (Rat.normalize_eq_mkRat _).symm
  rw [← Rat.mkRat_eq_div] at hq
  rw [hq, h]
  have hg : 0 < Nat.gcd z.natAbs d := Nat.gcd_pos_of_pos_right _ hd
  refine ⟨?_, ?_⟩
  · rw [Rat.num_normalize]
    refine Bn_less ?_ hz
    rw [Int.natAbs_ediv_of_dvd (by rw [← Int.dvd_natAbs, Int.ofNat_dvd]; exact Nat.gcd_dvd_left _ _), Int.natAbs_natCast]
    exact Nat.div_le_self _ _
  · rw [Rat.den_normalize]
    exact Bn_div hdn
end Go.Proofs.YtfpooimjjpamoaaGreatDoor.law2
namespace Go.Proofs.YtfpooimjjpamoaaGreatDoor.ref
open Go.RowKit
theorem GetN_yes (l : List UInt8) (w : World) (h : Numeral l) :
    Calls Tryz.prog 45 #[.string (str l)] w fun e w' => ∃ sv, e = .returned (.tuple #[sv, .bool true]) ∧ IsN w' sv (seg l 0 l.length) ∧ Below w.heap.size w w' := by
  refine (GetN_any l w (by have := h.2.1; omega)).mono ?_
  rintro e w' ⟨sv, ok, rfl, h1, h2, hb⟩
  cases ok
  · exact absurd h (h2 rfl).1
  · exact ⟨sv, rfl, (h1 rfl).2, hb⟩
theorem GetN_no (l : List UInt8) (w : World) (hl : l.length ≤ 100000) (h : ¬ Numeral l) :
    Calls Tryz.prog 45 #[.string (str l)] w fun e w' => e = .returned (.tuple #[.slice none 0 0, .bool false]) ∧ Below w.heap.size w w' := by
  refine (GetN_any l w hl).mono ?_
  rintro e w' ⟨sv, ok, rfl, h1, h2, hb⟩
  cases ok
  · rw [(h2 rfl).2]
    exact ⟨rfl, hb⟩
  · exact absurd (h1 rfl).1 h
end Go.Proofs.YtfpooimjjpamoaaGreatDoor.ref
namespace Go.Proofs.YtfpooimjjpamoaaGreatDoor.law2
open Go.RowKit Go.Proofs.YtfpooimjjpamoaaGreatDoor.nat
open Go.Proofs.YtfpooimjjpamoaaGreatDoor.ref (str str_size str_append ch seg IsDig Numeral seg_lt)
def Front (t : List UInt8) (n : Nat) : Prop := t.length ≤ n ∧ (t ≠ [] → ch t 0 ≠ 48) ∧ ∀ i, i < t.length → IsDig t i
theorem Front.next {t : List UInt8} {n : Nat} {c : UInt8} (h : Front t n) (hl : t.length < n) (h1 : 48 ≤ c.toNat) (h2 : c.toNat ≤ 57) (h3 : t ≠ [] ∨ c.toNat ≠ 48) : Front (t ++ [c]) n := by
  refine ⟨by simp; omega, fun _ => ?_, fun i hi => ?_⟩
  · rcases t with _ | ⟨d, t⟩
    · simp [ch]
      rcases h3 with h3 | h3
      · exact absurd rfl h3
      · exact h3
    · exact h.2.1 (by simp)
  · simp at hi
    by_cases hi2 : i < t.length
    · have := h.2.2 i hi2
      unfold IsDig ch at this ⊢
      rw [List.getD_eq_getElem?_getD, List.getElem?_append_left hi2, ← List.getD_eq_getElem?_getD]
      exact this
    · obtain rfl : i = t.length := by omega
      unfold IsDig ch
      simp
      exact ⟨h1, h2⟩
end Go.Proofs.YtfpooimjjpamoaaGreatDoor.law2
namespace Go.Proofs.YtfpooimjjpamoaaGreatDoor.law2
open Go.RowKit Go.Proofs.YtfpooimjjpamoaaGreatDoor.nat
open Go.Proofs.YtfpooimjjpamoaaGreatDoor.ref (str str_size)
theorem str_take (l : List UInt8) (m : Nat) : (str l).extract 0 m = str (l.take m) := by
  apply ByteArray.ext
  simp [str]
set_option maxRecDepth 100000 in
theorem Text_any (l : List UInt8) (n : Nat) (w : World) (hl : l.length ≤ 4611686018427387904) (hn : n ≤ 100000) :
    Calls Tryz.prog 43 #[.string (str l), .int .i64 (n : Nat)] w fun e w' => e = .returned (.string (str (l.take n))) ∧ w = w' := by
  have hz : (str l).size = l.length := str_size l
  have HX := Lib.hid (fun m => str_take l m)
  obtain ⟨N, hN⟩ : ∃ N, l.length = N := ⟨_, rfl⟩
  rw [hN] at hz hl
  have HT := Lib.hid (show l.take (min N n) = l.take n by
    rcases Nat.le_total N n with h | h
    · rw [Nat.min_eq_left h, List.take_of_length_le (by omega), List.take_of_length_le (by omega)]
    · rw [Nat.min_eq_right h])
  generalize str l = s at *
  clear hN
  go_enter Tryz.func43, Tryz.ntmps43
  go_wp2
  go_ret
  refine ⟨?_, rfl⟩
  show Ending.returned (.string (s.extract 0 (min (N : Int) (n : Int)).toNat)) = _
  rw [show (min (N : Int) (n : Int)).toNat = min N n by omega, HX.out, HT.out]
end Go.Proofs.YtfpooimjjpamoaaGreatDoor.law2
namespace Go.Proofs.YtfpooimjjpamoaaGreatDoor.ref
open Go.RowKit
def MadeQ (V w3 : World) : Prop := Below (V.alloc (.cells #[Value.bool false, .slice none 0 0, .slice none 0 0] 86)).heap.size (V.alloc (.cells #[Value.bool false, .slice none 0 0, .slice none 0 0] 86)) w3
theorem MadeQ.cells {V w3 : World} (h : MadeQ V w3) : w3.cell? ⟨V.heap.size, 0, none⟩ = some (.bool false) ∧ w3.cell? ⟨V.heap.size, 1, none⟩ = some (.slice none 0 0) ∧ w3.cell? ⟨V.heap.size, 2, none⟩ = some (.slice none 0 0) ∧ w3.frozen? ⟨V.heap.size, 0, none⟩ = false ∧ w3.frozen? ⟨V.heap.size, 1, none⟩ = false ∧ w3.frozen? ⟨V.heap.size, 2, none⟩ = false :=
  row3 ((Below.block h V.heap.size (by simp)).trans (heap_alloc_new V _))
theorem IsQ.of {w : World} {s t : Value} {z : Int} {d : Nat} {p : Bool} (hp : decide (z < 0) = p) (hs : IsN w s z.natAbs) (ht : IsN w t d) : IsQ w (.agg #[.bool p, s, t]) z d := ⟨s, t, by rw [hp], hs, ht⟩
end Go.Proofs.YtfpooimjjpamoaaGreatDoor.ref
namespace Go.Proofs.YtfpooimjjpamoaaGreatDoor.law2
open Go.RowKit Go.Proofs.YtfpooimjjpamoaaGreatDoor.nat
open Go.Proofs.YtfpooimjjpamoaaGreatDoor.ref (str str_size Numeral seg seg_lt)
theorem Rd_set3 {w : World} {sv u : Value} {l : List Nat} {g k : Nat} {p : Bool} {a a' : Option Addr} {n c n' c' : Nat} {t : TypeId} (h : Rd w sv l) (hg : w.heap[g]? = some (.cells #[.bool p, .slice a n c, .slice a' n' c'] t (0, 0))) : Rd (w.setCell ⟨g, k, none⟩ u) sv l := by
  refine h.kept (grown_set w g k u) ?_
  obtain ⟨ao, cap, rfl, h1, h2, h3⟩ := h
  rintro ad m c' he hm
  simp only [Value.slice.injEq] at he
  obtain ⟨rfl, rfl, rfl⟩ := he
  rcases h3 with rfl | ⟨b, off, hb, hc⟩
  · simp at hm
  · simp only [Option.some.injEq] at hb
    subst hb
    rintro rfl
    have h4 := hc 0 hm
    rw [cell_of_row _ _ _ _ t (0, 0) hg] at h4
    rcases hoff : off + 0 with _ | _ | _ | _
    all_goals
      rw [hoff] at h4
      simp at h4
def QRow (w : World) (g : Nat) : Prop := ∃ p a n c a' n' c', w.heap[g]? = some (.cells #[.bool p, .slice a n c, .slice a' n' c'] 86 (0, 0))
theorem QRow.rd {w : World} {sv u : Value} {l : List Nat} {g k : Nat} (h : Rd w sv l) (hg : QRow w g) : Rd (w.setCell ⟨g, k, none⟩ u) sv l := by
  obtain ⟨p, a, n, c, a', n', c', hg⟩ := hg
  exact Rd_set3 h hg
end Go.Proofs.YtfpooimjjpamoaaGreatDoor.law2
namespace Go.Proofs.YtfpooimjjpamoaaGreatDoor.rat
open Go.RowKit Go.Proofs.YtfpooimjjpamoaaGreatDoor.nat Go.Proofs.YtfpooimjjpamoaaGreatDoor.num
open Go.Proofs.YtfpooimjjpamoaaGreatDoor.ref (str str_size IntText Numeral seg seg_lt)
theorem Ln_tens {x n m : Nat} (h : x < 10 ^ n) (hn : n ≤ m) : Ln x m :=
  Ln_pow (Nat.lt_of_lt_of_le h (Nat.le_trans (Nat.pow_le_pow_right (by omega) hn) (Nat.pow_le_pow_left (by omega) _)))
def FracText (l : List UInt8) (q : Rat) : Prop := (IntText l q.num ∧ q.den = 1) ∨ ∃ a b, l = a ++ 47 :: b ∧ IntText a q.num ∧ IntText b (q.den : Int) ∧ 1 < q.den
end Go.Proofs.YtfpooimjjpamoaaGreatDoor.rat
namespace Go.Proofs.YtfpooimjjpamoaaGreatDoor.ref
open Go.RowKit
theorem MadeQ.row {V w3 : World} (h : MadeQ V w3) : w3.heap[V.heap.size]? = some (.cells #[.bool false, .slice none 0 0, .slice none 0 0] 86 (0, 0)) :=
  (Below.block h V.heap.size (by simp)).trans (heap_alloc_new V _)
end Go.Proofs.YtfpooimjjpamoaaGreatDoor.ref
namespace Go.Proofs.YtfpooimjjpamoaaGreatDoor.rat
open Go.Proofs.YtfpooimjjpamoaaGreatDoor.ref (str IntText Numeral seg seg_lt lowN lowD ratText RatForm signed)
theorem low_ends {z : Int} {d : Nat} (hd : 0 < d) : ((z : Rat) / (d : Rat)).num = lowN z d ∧ ((z : Rat) / (d : Rat)).den = lowD z d := by
  have hg : 0 < Nat.gcd z.natAbs d := Nat.gcd_pos_of_pos_right _ hd
  obtain ⟨D, hD⟩ := Nat.gcd_dvd_right z.natAbs d
  obtain ⟨Z, hZ⟩ : ((Nat.gcd z.natAbs d : Nat) : Int) ∣ z := by rw [← Int.dvd_natAbs, Int.ofNat_dvd]; exact Nat.gcd_dvd_left _ _
  have hc : Nat.gcd (z.natAbs / Nat.gcd z.natAbs d) (d / Nat.gcd z.natAbs d) = 1 := Nat.coprime_div_gcd_div_gcd hg
  have hN : (lowN z d).natAbs = z.natAbs / Nat.gcd z.natAbs d := ref.lowN_abs z d
  have hNZ : lowN z d = Z := by
    have h1 : z.natAbs / Nat.gcd z.natAbs d = Z.natAbs := by
      have : z.natAbs = Nat.gcd z.natAbs d * Z.natAbs := by
        conv => lhs; rw [hZ]
        rw [Int.natAbs_mul, Int.natAbs_natCast]
      rw [Nat.div_eq_of_eq_mul_right hg this]
    unfold lowN
    rw [h1]
    unfold signed
    have hsg : z < 0 ↔ Z < 0 := by
      constructor <;> intro h
      · rcases Int.lt_or_le Z 0 with h2 | h2
        · exact h2
        · have := Int.mul_nonneg (show (0 : Int) ≤ ((Nat.gcd z.natAbs d : Nat) : Int) by omega) h2
          omega
      · have := Int.mul_neg_of_pos_of_neg (show (0 : Int) < ((Nat.gcd z.natAbs d : Nat) : Int) by omega) h
        omega
    by_cases h : z < 0
    · have h2 := hsg.1 h
      simp [h]; omega
    · have h2 : ¬ Z < 0 := fun k => h (hsg.2 k)
      simp [h]; omega
  have hDD : lowD z d = D := by
    unfold lowD
    exact Nat.div_eq_of_eq_mul_right hg hD
  have hD0 : 0 < lowD z d := by
    rw [hDD]
    exact Nat.pos_of_ne_zero fun h => by rw [h] at hD; omega
  refine num_den_of hD0 (by rw [hN]; exact hc) ?_
  rw [hNZ, hDD]
  have e1 : (z : Rat) = ((Nat.gcd z.natAbs d : Nat) : Rat) * (Z : Rat) := by
    conv => lhs; rw [hZ]
    rw [Rat.intCast_mul, Rat.intCast_natCast]
  have e2 : (d : Rat) = ((Nat.gcd z.natAbs d : Nat) : Rat) * (D : Rat) := by
    conv => lhs; rw [hD]
    rw [Rat.natCast_mul]
  have n1 := cast_ne hg
  have n2 : (D : Rat) ≠ 0 := cast_ne (by rw [hDD] at hD0; exact hD0)
  rw [e1, e2]
  generalize ((Nat.gcd z.natAbs d : Nat) : Rat) = g at *
  grind
theorem ratText_rtxt {z : Int} {d : Nat} (hd : 0 < d) : ratText z d = rtxt ((z : Rat) / (d : Rat)) := by
  unfold rtxt ratText
  rw [(low_ends hd).1, (low_ends hd).2]
theorem FracText.form {l : List UInt8} {q : Rat} (h : FracText l q) : RatForm l q.num q.den ∧ l = ratText q.num q.den ∧ l = rtxt q := by
  have hr : ratText q.num q.den = rtxt q := by rw [ratText_rtxt q.den_pos, ← self_div]
  rcases h with ⟨h, h1⟩ | ⟨a, b, rfl, h1, h2, h3⟩
  · have e : l = rtxt q := by unfold rtxt; rw [if_pos h1, List.append_nil]; exact h.itoa
    exact ⟨Or.inl ⟨h, h1⟩, by rw [hr]; exact e, e⟩
  · have hb : Numeral b ∧ q.den = seg b 0 b.length := by
      rcases h2 with ⟨h2, h4⟩ | ⟨t, rfl, h2, h4, h5⟩
      · exact ⟨h2, by omega⟩
      · omega
    have e : a ++ 47 :: b = rtxt q := by
      unfold rtxt
      rw [if_neg (by omega), ← h1.itoa]
      congr 2
      rw [hb.2]
      exact hb.1.dec
    exact ⟨Or.inr ⟨a, b, rfl, h1, hb.1, hb.2, q.den_pos⟩, by rw [hr]; exact e, e⟩
end Go.Proofs.YtfpooimjjpamoaaGreatDoor.rat
namespace Go.Proofs.YtfpooimjjpamoaaGreatDoor.law2
open Go.RowKit Go.Proofs.YtfpooimjjpamoaaGreatDoor.nat
def Hd (w : World) : Prop := flt.Handle w
theorem Hd.below {w w' : World} (h : Hd w) (hb : Below w.heap.size w w') : Hd w' := flt.Handle.below h hb (flt.Handle.pos h)
theorem Hd.cell {w : World} (h : Hd w) : flt.Handle w := h
def BegunC : Prop := ∀ w, Hd w → Calls Tryz.prog 25 #[] w fun e w' => e = .returned (.bool true) ∧ Below w.heap.size w w'
set_option maxRecDepth 100000 in
theorem Same_any (c : Int) (w : World) (h : Hd w) :
    Calls Tryz.prog 29 #[.iface 171 (.int .i64 c), .int .i64 c] w fun e w' => e = .returned (.bool true) ∧ Below w.heap.size w w' := by
  have HC := Lib.hid (flt.Code_plain c w h)
  clear h
  go_enter Tryz.func29, Tryz.ntmps29
  go_wp2_with (first
    | (go_at_call 107; (with_reducible refine (HC.out).mono ?_); rintro e w1 ⟨rfl, hb⟩; have HB := Lib.hid hb; clear hb)
    | (fail "no arm"))
  go_ret
  exact ⟨rfl, HB.out⟩
theorem cmp3_eqN {x y : Nat} (h : x = y) : cmp3 (x : Int) (y : Int) = 0 := by subst h; unfold cmp3; rw [if_neg (by omega), if_neg (by omega)]
theorem cmpR_eq {p q : Rat} (h : p = q) : rat.cmpR p q = 0 := by subst h; unfold rat.cmpR; rw [if_neg Rat.lt_irrefl, if_neg Rat.lt_irrefl]
theorem IsX_slice {w : World} {v : Value} {x : Nat} (h : ref.IsN w v x) : ∃ o c, v = .slice o (ref.digs x).length c := by
  obtain ⟨o, c, rfl, -⟩ := id h
  exact ⟨o, c, rfl⟩
theorem NPow_at (a : Value) (X K : Nat) (z : Int) (hz : z = K) (hK : K < 1000000) (w : World) (ha : nat.IsN w a X) (hx : (nat.digs X).length ≤ 900000) (hb : (nat.digs (X ^ K)).length ≤ 900000) :
    Calls Tryz.prog 94 #[a, .int .i64 z] w fun e w' => ∃ v, e = .returned v ∧ (nat.IsN w' v (X ^ K) ∧ v ≠ .pointer none) ∧ Below w.heap.size w w' := by
  subst hz
  have := nat.Pow_any a X K w ha hx (by omega) (by rw [Int.toNat_natCast]; exact hb)
  rwa [Int.toNat_natCast] at this
def Cells2 (w : World) (g : Nat) (v0 v1 : Value) : Prop := w.cell? ⟨g, 0, none⟩ = some v0 ∧ w.cell? ⟨g, 1, none⟩ = some v1
theorem Cells2.below {w w' : World} {g : Nat} {v0 v1 : Value} (h : Cells2 w g v0 v1) (hb : Below w.heap.size w w') : Cells2 w' g v0 v1 :=
  ⟨(hb.cell (p := ⟨g, 0, none⟩) (cell_lt h.1)).trans h.1, (hb.cell (p := ⟨g, 1, none⟩) (cell_lt h.2)).trans h.2⟩
end Go.Proofs.YtfpooimjjpamoaaGreatDoor.law2
