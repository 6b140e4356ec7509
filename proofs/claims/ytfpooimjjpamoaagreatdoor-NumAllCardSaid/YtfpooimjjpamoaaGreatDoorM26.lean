/-
  The steps of the walks, part 26: IntF, Size, RatM, Rat.
-/
import Derived.BigRegion
import Derived.Test.YtfpooimjjpamoaaGreatDoorM23
import Derived.Test.YtfpooimjjpamoaaGreatDoorM25
namespace Go.Proofs.YtfpooimjjpamoaaGreatDoor.num
open Go.RowKit Go.Proofs.YtfpooimjjpamoaaGreatDoor.nat
open Go.Proofs.YtfpooimjjpamoaaGreatDoor.ref (str str_size str_tail str_append ch seg IsDig Numeral seg_lt IntText numeral_head)
set_option maxRecDepth 100000 in
theorem Cut_minus (t : List UInt8) (w : World) (hl : t.length ≤ 4611686018427387904) :
    Calls Tryz.prog 126 #[.string (str (45 :: t)), .string ⟨#[45]⟩] w fun e w' => e = .returned (.tuple #[.string (str t), .bool true]) ∧ w = w' := by
  have hz : (str (45 :: t)).size = t.length + 1 := rfl
  have hx : (str (45 :: t)).extract 0 1 = ⟨#[45]⟩ := by apply ByteArray.ext; simp [str]
  have ht : (str (45 :: t)).extract 1 (t.length + 1) = str t := str_tail 45 t
  have kz : (⟨#[45]⟩ : ByteArray).size = 1 := rfl
  generalize (⟨#[45]⟩ : ByteArray) = k at *
  generalize str (45 :: t) = s at *
  have HT := Lib.hid ht
  clear ht
  go_enter Tryz.func126, Tryz.ntmps126
  go_wp2
  go_ret2
  refine ⟨?_, rfl⟩
  rw [← HT.out]
  rfl
set_option maxRecDepth 100000 in
theorem Cut_none (l : List UInt8) (w : World) (hl : l.length ≤ 4611686018427387904) (h : ∀ t, l ≠ 45 :: t) :
    Calls Tryz.prog 126 #[.string (str l), .string ⟨#[45]⟩] w fun e w' => e = .returned (.tuple #[.string (str l), .bool false]) ∧ w = w' := by
  rcases l with _ | ⟨c, t⟩
  · have hz : (str []).size = 0 := rfl
    have kz : (⟨#[45]⟩ : ByteArray).size = 1 := rfl
    generalize (⟨#[45]⟩ : ByteArray) = k at *
    generalize str [] = s at *
    go_enter Tryz.func126, Tryz.ntmps126
    go_wp2
    go_ret2
    exact ⟨rfl, rfl⟩
  · have hc : c ≠ 45 := fun e => h t (by rw [e])
    have hz : (str (c :: t)).size = t.length + 1 := rfl
    have hx : (str (c :: t)).extract 0 1 = str [c] := by apply ByteArray.ext; simp [str]
    have hk : ((str [c]).toList == (⟨#[45]⟩ : ByteArray).toList) = false := by
      rw [ByteArray.toList_eq, ByteArray.toList_eq]
      simp [str, hc]
    have kz : (⟨#[45]⟩ : ByteArray).size = 1 := rfl
    generalize (⟨#[45]⟩ : ByteArray) = k at *
    generalize str [c] = p at *
    generalize str (c :: t) = s at *
    clear h
    go_enter Tryz.func126, Tryz.ntmps126
    go_wp2
    go_ret2
    exact ⟨rfl, rfl⟩
theorem nDigits_le : ∀ (n x : Nat), x < 10 ^ (n + 1) → Lib.nDigits x ≤ n + 1
  | 0, x, h => by rw [Lib.nDigits_small (by simpa using h)]; exact Nat.le_refl _
  | n + 1, x, h => by
    by_cases h1 : x < 10
    · rw [Lib.nDigits_small h1]; omega
    · rw [Lib.nDigits_big (by omega)]
      have := nDigits_le n (x / 10) (by rw [Nat.pow_succ] at h; omega)
      omega
set_option maxRecDepth 100000 in
set_option maxHeartbeats 2000000 in
theorem Get_ok (l : List UInt8) (z : Int) (w : World) (h : IntText l z) :
    Calls Tryz.prog 69 #[.string (str l)] w fun e w' => ∃ v, e = .returned (.tuple #[v, .nilIface]) ∧ (IsZ w' v z ∧ v ≠ .pointer none) ∧ Below w.heap.size w w' := by
  rcases h with ⟨h, rfl⟩ | ⟨t, rfl, h, h0, rfl⟩
  · have hll : l.length ≤ 4000 := h.2.1
    have C := Lib.hid (Cut_none l w (by omega) (fun t e => numeral_head (t := t) (e ▸ h)))
    have G := Lib.hid (nat.Get_ok l w h)
    generalize seg l 0 l.length = X at *
    have N := Lib.hid (fun (w' : World) nv hn => New_any false nv X w' hn)
    rw [show sgn false X = (X : Int) from rfl] at N
    generalize str l = s at *
    clear h hll
    go_enter Tryz.func69, Tryz.ntmps69
    go_wp2_with (first
      | (go_at_call 126; (with_reducible refine (C.out).mono ?_); rintro e w1 ⟨rfl, rfl⟩; clear C)
      | (go_at_call 44; (with_reducible refine (G.out).mono ?_); rintro e w2 ⟨v, rfl, ⟨hv, -⟩, hb⟩; have HV := Lib.hid hv; have HBl := Lib.hid hb; clear G hv hb)
      | (go_at_call 97; (with_reducible refine (N.out _ _ HV.out).mono ?_); rintro e w3 ⟨u, rfl, hu, hb⟩; have HU := Lib.hid hu; have HB := Lib.hid (HBl.out.trans (hb.mono HBl.out.size)); clear hu hb))
    go_ret2
    exact ⟨_, rfl, HU.out, HB.out⟩
  · have hll : t.length ≤ 4000 := h.2.1
    have C := Lib.hid (Cut_minus t w (by omega))
    have G := Lib.hid (nat.Get_ok t w h)
    generalize seg t 0 t.length = X at *
    have N := Lib.hid (fun (w' : World) nv hn => New_any true nv X w' hn)
    rw [show sgn true X = -(X : Int) from rfl] at N
    have Z := Lib.hid (fun (w' : World) nv hn => Zero_any nv X w' hn)
    rw [decide_eq_false h0] at Z
    generalize str t = s at *
    generalize str (45 :: t) = s2 at *
    clear h hll
    go_enter Tryz.func69, Tryz.ntmps69
    go_wp2_with (first
      | (go_at_call 126; (with_reducible refine (C.out).mono ?_); rintro e w1 ⟨rfl, rfl⟩; clear C)
      | (go_at_call 44; (with_reducible refine (G.out).mono ?_); rintro e w2 ⟨v, rfl, ⟨hv, -⟩, hb⟩; have HV := Lib.hid hv; have HBl := Lib.hid hb; clear G hv hb)
      | (go_at_call 42; (with_reducible refine (Z.out _ _ HV.out).mono ?_); rintro e w1 ⟨rfl, rfl⟩; clear Z)
      | (go_at_call 97; (with_reducible refine (N.out _ _ HV.out).mono ?_); rintro e w3 ⟨u, rfl, hu, hb⟩; have HU := Lib.hid hu; have HB := Lib.hid (HBl.out.trans (hb.mono HBl.out.size)); clear hu hb))
    go_ret2
    exact ⟨_, rfl, HU.out, HB.out⟩
theorem dec_size {x m : Nat} (h : (digs x).length ≤ m) : (str (Lib.decDigits x)).size ≤ 20 * m + 1 := by
  rw [str_size, Lib.decDigits_length]
  have h1 := val_lt' (norm_digs x).1 h
  rw [val_digs] at h1
  have h2 : x < 10 ^ (20 * m + 1) := by
    refine Nat.lt_of_lt_of_le h1 ?_
    rw [Nat.pow_add, Nat.pow_mul]
    refine Nat.le_trans (Nat.pow_le_pow_left (show 18446744073709551616 ≤ 10 ^ 20 by decide) m) (Nat.le_mul_of_pos_right _ (by decide))
  exact nDigits_le _ _ (Nat.lt_of_lt_of_le h2 (Nat.pow_le_pow_right (by omega) (by omega)))
set_option maxRecDepth 100000 in
set_option maxHeartbeats 2000000 in
theorem Text_any (a : Value) (z : Int) (w : World) (ha : IsZ w a z) (hx : (digs z.natAbs).length ≤ 40000) :
    Calls Tryz.prog 52 #[a] w fun e w' => e = .returned (.string (str (Lib.itoa z))) ∧ Below w.heap.size w w' := by
  have B := isBelow_any a z w ha
  have A := Lib.hid (amount_any a z w ha)
  have T := Lib.hid (fun na hn => nat.Text_any na z.natAbs w hn hx)
  have hlen := dec_size hx
  by_cases h : z < 0
  · have hz2 : str (Lib.itoa z) = str [45] ++ str (Lib.decDigits z.natAbs) := by
      unfold Lib.itoa
      rw [if_pos h, str_append]
      rfl
    rw [decide_eq_true h] at B
    rw [hz2]
    have HB := Lib.hid B
    generalize str (Lib.decDigits z.natAbs) = s at *
    have h45 : ({ data := #[45] } : ByteArray) = str [45] := rfl
    have hsz : ¬ 9223372036854775807 < ({ data := #[45] } : ByteArray).size + s.size := by
      have : ({ data := #[45] } : ByteArray).size = 1 := rfl
      omega
    clear ha B hz2 h hx hlen
    go_enter Tryz.func52, Tryz.ntmps52
    go_wp2_with (first
      | (go_at_call 123; (with_reducible refine (HB.out).mono ?_); rintro e w1 ⟨rfl, rfl⟩)
      | (go_at_call 122; (with_reducible refine (A.out).mono ?_); rintro e w1 ⟨na, rfl, hn, rfl⟩; have HN := Lib.hid hn; clear A hn)
      | (go_at_call 30; (with_reducible refine (T.out _ HN.out).mono ?_); rintro e w1 ⟨rfl, hb⟩; have HBl := Lib.hid hb; clear T hb))
    go_ret
    exact ⟨rfl, HBl.out⟩
  · have hz2 : str (Lib.itoa z) = str (Lib.decDigits z.natAbs) := by
      unfold Lib.itoa
      rw [if_neg h]
      congr 2
      omega
    rw [decide_eq_false h] at B
    rw [hz2]
    have HB := Lib.hid B
    generalize str (Lib.decDigits z.natAbs) = s at *
    clear ha B hz2 h hx hlen
    go_enter Tryz.func52, Tryz.ntmps52
    go_wp2_with (first
      | (go_at_call 123; (with_reducible refine (HB.out).mono ?_); rintro e w1 ⟨rfl, rfl⟩)
      | (go_at_call 122; (with_reducible refine (A.out).mono ?_); rintro e w1 ⟨na, rfl, hn, rfl⟩; have HN := Lib.hid hn; clear A hn)
      | (go_at_call 30; (with_reducible refine (T.out _ HN.out).mono ?_); rintro e w1 ⟨rfl, hb⟩; have HBl := Lib.hid hb; clear T hb))
    go_ret
    exact ⟨rfl, HBl.out⟩
end Go.Proofs.YtfpooimjjpamoaaGreatDoor.num
namespace Go.Proofs.YtfpooimjjpamoaaGreatDoor.nat
open Go.RowKit
theorem Cmp_b (a b : Value) (X Y : Nat) (w : World) (ha : IsN w a X) (hb : IsN w b Y) (hx : (digs X).length ≤ 1000000) (hy : (digs Y).length ≤ 1000000) :
    Calls Tryz.prog 39 #[a, b] w fun e w' => e = .returned (.int .i64 (cmp3 (X : Int) (Y : Int))) ∧ Below w.heap.size w w' :=
  (Cmp_any a b X Y w ha hb hx hy).mono fun e w' h => by
    obtain ⟨rfl, m, rfl⟩ := h
    exact ⟨rfl, drew_below _ _⟩
theorem below_tr {w w1 w2 : World} (h : Below w.heap.size w w1) (k : Below w1.heap.size w1 w2) : Below w.heap.size w w2 := h.trans (k.mono h.size)
theorem Of_int (z : Int) (d : Nat) (hz : z = d) (h : d < 18446744073709551616) (w : World) :
    Calls Tryz.prog 46 #[.int .u64 z] w fun e w' => ∃ v, e = .returned v ∧ (IsN w' v d ∧ v ≠ .pointer none) ∧ Below w.heap.size w w' := by
  subst hz
  exact Of_any d w h
theorem IsN.some {w : World} {v : Value} {X : Nat} (h : IsN w v X) (hn : v ≠ .pointer none) : ∃ p, v = .pointer (some p) := by
  rcases h with ⟨h, -⟩ | ⟨b, o, sv, h, -⟩
  · exact absurd h hn
  · exact ⟨_, h⟩
end Go.Proofs.YtfpooimjjpamoaaGreatDoor.nat
namespace Go.Proofs.YtfpooimjjpamoaaGreatDoor.num
open Go.RowKit Go.Proofs.YtfpooimjjpamoaaGreatDoor.nat
theorem Cmp_b (a b : Value) (z y : Int) (w : World) (ha : IsZ w a z) (hb : IsZ w b y) (hx : (digs z.natAbs).length ≤ 800000) (hy : (digs y.natAbs).length ≤ 800000) :
    Calls Tryz.prog 56 #[a, b] w fun e w' => e = .returned (.int .i64 (cmp3 z y)) ∧ Below w.heap.size w w' :=
  (Cmp_any a b z y w ha hb hx hy).mono fun e w' h => by
    obtain ⟨rfl, m, rfl⟩ := h
    exact ⟨rfl, drew_below _ _⟩
theorem IsZ.some {w : World} {v : Value} {z : Int} (h : IsZ w v z) (hn : v ≠ .pointer none) : ∃ p, v = .pointer (some p) := by
  rcases h with ⟨h, -⟩ | ⟨b, o, neg, sv, X, h, -⟩
  · exact absurd h hn
  · exact ⟨_, h⟩
def Ln (x n : Nat) : Prop := (digs x).length ≤ n
def Lz (z : Int) (n : Nat) : Prop := (digs z.natAbs).length ≤ n
theorem Ln.le {x n m : Nat} (h : Ln x n) (hm : n ≤ m) : Ln x m := Nat.le_trans h hm
theorem Lz.le {x : Int} {n m : Nat} (h : Lz x n) (hm : n ≤ m) : Lz x m := Nat.le_trans h hm
theorem Ln_less {x y n : Nat} (hxy : x ≤ y) (h : Ln y n) : Ln x n := digs_le_len hxy h
theorem Ln_pow {x n : Nat} (h : x < 18446744073709551616 ^ n) : Ln x n := digs_len h
theorem Ln_small {x : Nat} (h : x < 18446744073709551616) : Ln x 1 := digs_len (by rwa [Nat.pow_one])
theorem Lz_small {z : Int} (h : z.natAbs < 18446744073709551616) : Lz z 1 := Ln_small h
theorem Lz_nat {x n : Nat} (h : Ln x n) : Lz (x : Int) n := by unfold Lz; rw [Int.natAbs_natCast]; exact h
theorem Ln_abs {z : Int} {n : Nat} (h : Lz z n) : Ln z.natAbs n := h
theorem Ln_mul {x y n m : Nat} (hx : Ln x n) (hy : Ln y m) : Ln (x * y) (n + m) := digs_mul_len hx hy
theorem Lz_mul {x y : Int} {n m : Nat} (hx : Lz x n) (hy : Lz y m) : Lz (x * y) (n + m) := by unfold Lz; rw [Int.natAbs_mul]; exact digs_mul_len hx hy
theorem Ln_add {x y n m : Nat} (hx : Ln x n) (hy : Ln y m) : Ln (x + y) (n + m + 1) := digs_add_len (Nat.le_trans hx (by omega)) (Nat.le_trans hy (by omega))
theorem Ln_gcd {x y n m : Nat} (hx : Ln x n) (hy : Ln y m) : Ln (Nat.gcd x y) (n + m) := digs_gcd_len (Nat.le_trans hx (by omega)) (Nat.le_trans hy (by omega))
theorem sgn_natAbs (b : Bool) (X : Nat) : (sgn b X).natAbs = X := by
  unfold sgn
  split
  · rw [Int.natAbs_neg, Int.natAbs_natCast]
  · rw [Int.natAbs_natCast]
theorem fdiv_le (z y : Int) : (Int.fdiv z y).natAbs ≤ z.natAbs := by
  by_cases hy : y = 0
  · subst hy; simp
  by_cases hc : decide (z < 0) = decide (y < 0) ∨ z.natAbs % y.natAbs = 0
  · rw [(floor_near hy hc).1]
    rw [sgn_natAbs]
    exact Nat.div_le_self _ _
  · rw [not_or] at hc
    rw [(floor_past hy hc.1 hc.2).1]
    rw [sgn_natAbs]
    have h2 : 2 ≤ y.natAbs := by
      rcases Nat.lt_or_ge y.natAbs 2 with h | h
      · exfalso
        have h1 : y.natAbs = 1 := by omega
        rw [h1] at hc
        omega
      · exact h
    have h1 : 0 < z.natAbs := by
      rcases Nat.eq_zero_or_pos z.natAbs with h | h
      · rw [h] at hc; simp at hc
      · exact h
    have h3 : z.natAbs / y.natAbs ≤ z.natAbs / 2 := Nat.div_le_div_left h2 (by omega)
    omega
theorem fmod_le (z : Int) {y : Int} (hy0 : y ≠ 0) : (Int.fmod z y).natAbs ≤ y.natAbs := by
  by_cases hc : decide (z < 0) = decide (y < 0) ∨ z.natAbs % y.natAbs = 0
  · rw [(floor_near hy0 hc).2, sgn_natAbs]
    exact Nat.le_of_lt (Nat.mod_lt z.natAbs (y := y.natAbs) (by omega))
  · rw [not_or] at hc
    rw [(floor_past hy0 hc.1 hc.2).2, sgn_natAbs]
    exact Nat.sub_le _ _
end Go.Proofs.YtfpooimjjpamoaaGreatDoor.num
namespace Go.Proofs.YtfpooimjjpamoaaGreatDoor.rat
theorem num_den_of {q : Rat} {z : Int} {e : Nat} (he : 0 < e) (hc : Nat.gcd z.natAbs e = 1) (h : q = (z : Rat) / (e : Rat)) : q.num = z ∧ q.den = e := by
  rw [h, ← Rat.mkRat_eq_div, ← Rat.mk_eq_mkRat z e (by omega) hc]
  exact ⟨rfl, rfl⟩
theorem self_div (q : Rat) : q = (q.num : Rat) / (q.den : Rat) := by rw [← Rat.mkRat_eq_div, Rat.mkRat_self]
theorem cast_ne {e : Nat} (h : 0 < e) : (e : Rat) ≠ 0 := by
  intro h0
  have := Rat.natCast_pos.2 h
  rw [h0] at this
  exact Rat.lt_irrefl this
theorem cast_nez {e : Int} (h : e ≠ 0) : (e : Rat) ≠ 0 := fun h0 => h (Rat.intCast_inj.1 h0)
theorem fdiv_exact {z g : Int} (hg : g ≠ 0) (h : g ∣ z) : ((Int.fdiv z g : Int) : Rat) = (z : Rat) / (g : Rat) := by
  obtain ⟨k, rfl⟩ := h
  rw [Int.mul_fdiv_cancel_left _ hg, Rat.intCast_mul, Rat.mul_comm, Rat.mul_div_cancel (cast_nez hg)]
theorem fdiv_abs {z g : Int} (hg : g ≠ 0) (h : g ∣ z) : (Int.fdiv z g).natAbs = z.natAbs / g.natAbs := by
  obtain ⟨k, rfl⟩ := h
  rw [Int.mul_fdiv_cancel_left _ hg, Int.natAbs_mul, Nat.mul_div_cancel_left _ (by omega)]
theorem gcd_divides_l (z y : Int) : ((Nat.gcd z.natAbs y.natAbs : Nat) : Int) ∣ z := by rw [← Int.dvd_natAbs, Int.ofNat_dvd]; exact Nat.gcd_dvd_left _ _
theorem gcd_divides_r (z y : Int) : ((Nat.gcd z.natAbs y.natAbs : Nat) : Int) ∣ y := by rw [← Int.dvd_natAbs, Int.ofNat_dvd]; exact Nat.gcd_dvd_right _ _
def upN (z y : Int) : Int := if y < 0 then -z else z
theorem up_val {z y : Int} (hy : y ≠ 0) (hc : Nat.gcd z.natAbs y.natAbs = 1) : ((z : Rat) / (y : Rat)).num = upN z y ∧ ((z : Rat) / (y : Rat)).den = y.natAbs := by
  refine num_den_of (by omega) ?_ ?_
  · unfold upN
    split
    · rw [Int.natAbs_neg]; exact hc
    · exact hc
  · have h0 := cast_nez hy
    unfold upN
    split
    · rename_i h
      have e : (y.natAbs : Int) = -y := by omega
      have e2 : ((y.natAbs : Nat) : Rat) = -(y : Rat) := by
        rw [← Rat.intCast_natCast, e, Rat.intCast_neg]
      rw [e2, Rat.intCast_neg]
      grind
    · have e : (y.natAbs : Int) = y := by omega
      have e2 : ((y.natAbs : Nat) : Rat) = (y : Rat) := by
        rw [← Rat.intCast_natCast, e]
      rw [e2]
end Go.Proofs.YtfpooimjjpamoaaGreatDoor.rat
namespace Go.Proofs.YtfpooimjjpamoaaGreatDoor.rat
open Go.RowKit Go.Proofs.YtfpooimjjpamoaaGreatDoor.nat Go.Proofs.YtfpooimjjpamoaaGreatDoor.num
def IsR (w : World) (v : Value) (q : Rat) : Prop :=
  (v = .pointer none ∧ q = 0) ∨ ∃ b o y, v = .pointer (some ⟨b, o, none⟩) ∧ IsZ w (.pointer (some ⟨b, o, none⟩)) q.num ∧ IsZ w (.pointer (some ⟨b, o + 2, none⟩)) y ∧ (y = q.den ∨ (y = 0 ∧ q = 0))
theorem IsR.below {w w' : World} {v : Value} {q : Rat} (h : IsR w v q) (hb : Below w.heap.size w w') : IsR w' v q := by
  rcases h with h | ⟨b, o, y, h1, h2, h3, h4⟩
  · exact Or.inl h
  · exact Or.inr ⟨b, o, y, h1, h2.below hb, h3.below hb, h4⟩
theorem IsR.some {w : World} {v : Value} {q : Rat} (h : IsR w v q) (hn : v ≠ .pointer none) : ∃ p, v = .pointer (some p) := by
  rcases h with ⟨h, -⟩ | ⟨b, o, y, h, -⟩
  · exact absurd h hn
  · exact ⟨_, h⟩
theorem IsZ.cells {w : World} {v : Value} {z : Int} (h : IsZ w v z) (hn : v ≠ .pointer none) : ∃ b o neg ao n cap X, v = .pointer (some ⟨b, o, none⟩) ∧ w.cell? ⟨b, o, none⟩ = some (.bool neg) ∧ w.cell? ⟨b, o + 1, none⟩ = some (.slice ao n cap) ∧ Rd w (.slice ao n cap) (digs X) ∧ z = sgn neg X ∧ (neg = true → 0 < X) := by
  rcases h with ⟨h, -⟩ | ⟨b, o, neg, sv, X, h1, h2, h3, h4, h5⟩
  · exact absurd h hn
  · obtain ⟨ao, cap, rfl, -⟩ := id h4
    exact ⟨b, o, neg, ao, _, cap, X, h1, h2, h3, h4, h5⟩
theorem IsZ.of_cells {w : World} {b o : Nat} {neg : Bool} {sv : Value} {X : Nat} {z : Int} (h1 : w.cell? ⟨b, o, none⟩ = some (.bool neg)) (h2 : w.cell? ⟨b, o + 1, none⟩ = some sv) (h3 : Rd w sv (digs X)) (h4 : z = sgn neg X) (h5 : neg = true → 0 < X) : IsZ w (.pointer (some ⟨b, o, none⟩)) z :=
  Or.inr ⟨b, o, neg, sv, X, rfl, h1, h2, h3, h4, h5⟩
theorem row4 {w : World} {g : Nat} {v0 v1 v2 v3 : Value} {t : TypeId} (h : w.heap[g]? = some (.cells #[v0, v1, v2, v3] t (0, 0))) :
    w.cell? ⟨g, 0, none⟩ = some v0 ∧ w.cell? ⟨g, 1, none⟩ = some v1 ∧ w.cell? ⟨g, 2, none⟩ = some v2 ∧ w.cell? ⟨g, 3, none⟩ = some v3 :=
  ⟨by rw [cell_of_row _ _ 0 _ t (0, 0) h]; rfl, by rw [cell_of_row _ _ 1 _ t (0, 0) h]; rfl, by rw [cell_of_row _ _ 2 _ t (0, 0) h]; rfl, by rw [cell_of_row _ _ 3 _ t (0, 0) h]; rfl⟩
set_option maxRecDepth 100000 in
theorem own_at (q : Rat) (a b : Value) (z y : Int) (w : World) (ha : IsZ w a z) (hna : a ≠ .pointer none) (hb : IsZ w b y) (hnb : b ≠ .pointer none) (h1 : q.num = z) (h2 : y = q.den) :
    Calls Tryz.prog 128 #[a, b] w fun e w' => ∃ u, e = .returned u ∧ (IsR w' u q ∧ u ≠ .pointer none) ∧ Below w.heap.size w w' := by
  obtain ⟨ab, ao, an, aq, al, ac, AX, rfl, a1, a2, a3, a4, a5⟩ := IsZ.cells ha hna
  obtain ⟨bb, bo, bn, bq, bl, bc, BX, rfl, b1, b2, b3, b4, b5⟩ := IsZ.cells hb hnb
  have hbl : Below w.heap.size w (w.alloc (.cells #[.bool an, .slice aq al ac, .bool bn, .slice bq bl bc] 135)) := (Below.refl _ _).alloc (Nat.le_refl _) _
  obtain ⟨c0, c1, c2, c3⟩ := row4 (heap_alloc_new w (.cells #[.bool an, .slice aq al ac, .bool bn, .slice bq bl bc] 135))
  have HU := Lib.hid (show IsR (w.alloc (.cells #[.bool an, .slice aq al ac, .bool bn, .slice bq bl bc] 135)) (.pointer (some ⟨w.heap.size, 0, none⟩)) q from
    Or.inr ⟨_, 0, y, rfl, IsZ.of_cells c0 c1 (a3.below hbl) (h1.trans a4) a5, IsZ.of_cells c2 c3 (b3.below hbl) b4 b5, Or.inl h2⟩)
  have HB := Lib.hid hbl
  clear c0 c1 c2 c3 hbl ha hb a3 a4 a5 b3 b4 b5 h1 h2 hna hnb
  go_enter Tryz.func128, Tryz.ntmps128
  go_wp2
  go_region
  go_wp2
  go_ret
  exact ⟨_, rfl, ⟨HU.out.below (Below.refl _ _).drew, by simp⟩, HB.out.drew⟩
set_option maxRecDepth 100000 in
theorem Num_any (v : Value) (q : Rat) (w : World) (h : IsR w v q) :
    Calls Tryz.prog 99 #[v] w fun e w' => ∃ u, e = .returned u ∧ (IsZ w' u q.num ∧ u ≠ .pointer none) ∧ Below w.heap.size w w' := by
  rcases h with ⟨rfl, rfl⟩ | ⟨b, o, y, rfl, hz, hy, hd⟩
  · have O := Lib.hid (num.Of_any 0 w (by decide) (by decide))
    go_enter Tryz.func99, Tryz.ntmps99
    go_wp2_with (go_at_call 57; (with_reducible refine (O.out).mono ?_); rintro e w2 ⟨u, rfl, hu, hb⟩; have HU := Lib.hid hu; have HB := Lib.hid hb; clear O hu hb)
    go_ret
    exact ⟨_, rfl, HU.out, HB.out⟩
  · obtain ⟨ab, ao, an, aq, al, ac, AX, he, a1, a2, a3, a4, a5⟩ := IsZ.cells hz (by simp)
    simp only [Value.pointer.injEq, Option.some.injEq, Addr.mk.injEq, and_true] at he
    obtain ⟨rfl, rfl⟩ := he
    have hbl : Below w.heap.size w (w.alloc (.cells #[.bool an, .slice aq al ac] 133)) := (Below.refl _ _).alloc (Nat.le_refl _) _
    have HU := Lib.hid (show IsZ (w.alloc (.cells #[.bool an, .slice aq al ac] 133)) (.pointer (some ⟨w.heap.size, 0, none⟩)) q.num from
      IsZ.of_cells (cell_of_row _ w.heap.size 0 #[.bool an, .slice aq al ac] _ (0, 0) (heap_alloc_new w _)) (cell_of_row _ w.heap.size 1 #[.bool an, .slice aq al ac] _ (0, 0) (heap_alloc_new w _)) (a3.below hbl) a4 a5)
    have HB := Lib.hid hbl
    clear hbl hz hy hd a3 a4 a5
    go_enter Tryz.func99, Tryz.ntmps99
    go_wp2
    go_ret
    exact ⟨_, rfl, ⟨HU.out, by simp⟩, HB.out⟩
set_option maxRecDepth 100000 in
theorem Den_any (v : Value) (q : Rat) (w : World) (h : IsR w v q) :
    Calls Tryz.prog 95 #[v] w fun e w' => ∃ u, e = .returned u ∧ (IsZ w' u (q.den : Int) ∧ u ≠ .pointer none) ∧ Below w.heap.size w w' := by
  rcases h with ⟨rfl, rfl⟩ | ⟨b, o, y, rfl, hz, hy, hd⟩
  · have O := Lib.hid (num.Of_any 1 w (by decide) (by decide))
    go_enter Tryz.func95, Tryz.ntmps95
    go_wp2_with (go_at_call 57; (with_reducible refine (O.out).mono ?_); rintro e w2 ⟨u, rfl, hu, hb⟩; have HU := Lib.hid hu; have HB := Lib.hid hb; clear O hu hb)
    go_ret
    exact ⟨_, rfl, HU.out, HB.out⟩
  · have S := num.Sign_any _ y w hy
    obtain ⟨ab, ao, an, aq, al, ac, AX, he, a1, a2, a3, a4, a5⟩ := IsZ.cells hy (by simp)
    simp only [Value.pointer.injEq, Option.some.injEq, Addr.mk.injEq, and_true] at he
    obtain ⟨rfl, rfl⟩ := he
    by_cases h0 : y = 0
    · have hq : q = 0 := by
        rcases hd with hd | hd
        · have := q.den_pos; omega
        · exact hd.2
      subst hq
      rw [h0, show sg 0 = 0 by decide] at S
      have S := Lib.hid S
      have O := Lib.hid (num.Of_any 1 w (by decide) (by decide))
      clear hz hy hd a1 a2 a3 a4 a5 h0
      go_enter Tryz.func95, Tryz.ntmps95
      go_wp2_with (first
        | (go_at_call 67; (with_reducible refine (S.out).mono ?_); rintro e w1 ⟨rfl, rfl⟩; clear S)
        | (go_at_call 57; (with_reducible refine (O.out).mono ?_); rintro e w2 ⟨u, rfl, hu, hb⟩; have HU := Lib.hid hu; have HB := Lib.hid hb; clear O hu hb)
        | (fail "no arm"))
      go_ret
      exact ⟨_, rfl, HU.out, HB.out⟩
    · have hq : y = q.den := by
        rcases hd with hd | hd
        · exact hd
        · exact absurd hd.1 h0
      have hsg : (sg y == 0) = false := by unfold sg cmp3; simp; (repeat' split) <;> omega
      have S := Lib.hid S
      have hbl : Below w.heap.size w (w.alloc (.cells #[.bool an, .slice aq al ac] 133)) := (Below.refl _ _).alloc (Nat.le_refl _) _
      have HU := Lib.hid (show IsZ (w.alloc (.cells #[.bool an, .slice aq al ac] 133)) (.pointer (some ⟨w.heap.size, 0, none⟩)) (q.den : Int) from
        IsZ.of_cells (cell_of_row _ w.heap.size 0 #[.bool an, .slice aq al ac] _ (0, 0) (heap_alloc_new w _)) (cell_of_row _ w.heap.size 1 #[.bool an, .slice aq al ac] _ (0, 0) (heap_alloc_new w _)) (a3.below hbl) (hq ▸ a4) a5)
      have HB := Lib.hid hbl
      clear hbl hz hy hd a3 a4 a5 h0 hq
      generalize sg y = s at *
      go_enter Tryz.func95, Tryz.ntmps95
      go_wp2_with (first
        | (go_at_call 67; (with_reducible refine (S.out).mono ?_); rintro e w1 ⟨rfl, rfl⟩; clear S)
        | (fail "no arm"))
      go_ret
      exact ⟨_, rfl, ⟨HU.out, by simp⟩, HB.out⟩
set_option maxRecDepth 100000 in
theorem Sign_any (v : Value) (q : Rat) (w : World) (h : IsR w v q) :
    Calls Tryz.prog 90 #[v] w fun e w' => e = .returned (.int .i64 (sg q.num)) ∧ Below w.heap.size w w' := by
  have N := Lib.hid (Num_any v q w h)
  clear h
  go_enter Tryz.func90, Tryz.ntmps90
  go_wp2_with (first
    | (go_at_call 99; (with_reducible refine (N.out).mono ?_); rintro e w2 ⟨u, rfl, ⟨hu, -⟩, hb⟩; have HU := Lib.hid hu; have HB := Lib.hid hb; clear N hu hb)
    | (go_at_call 67; (with_reducible refine (num.Sign_any _ _ _ HU.out).mono ?_); rintro e w1 ⟨rfl, rfl⟩)
    | (fail "no arm"))
  go_ret
  exact ⟨rfl, HB.out⟩
end Go.Proofs.YtfpooimjjpamoaaGreatDoor.rat
