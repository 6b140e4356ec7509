/-
  The steps of the walks, part 26: IntF, Size, RatM.
-/
import Derived.Test.YtfpooimjjpamoaaGreatDoorA23
import Derived.Test.YtfpooimjjpamoaaGreatDoorA25
namespace Go.Proofs.YtfpooimjjpamoaaGreatDoor.num
open Go.RowKit Go.Proofs.YtfpooimjjpamoaaGreatDoor.nat
open Go.Proofs.YtfpooimjjpamoaaGreatDoor.ref (str str_size str_tail str_append ch seg IsDig Numeral seg_lt IntText numeral_head)
set_option maxRecDepth 100000 in
theorem Cut_minus (t : List UInt8) (w : World) (hl : t.length ≤ 4611686018427387904) :
    Calls Tryz.prog 126 #[.string (str (45 :: t)), .string ⟨#[45]⟩] w fun e w' => e = .returned (.tuple #[.string (str t), .bool true]) ∧ w = w' := by
  have hz : (str (45 :: t)).size = t.length + 1 := rfl
  have hx : (str (45 :: t)).extract 0 1 = ⟨#[45]⟩ := by apply ByteArray.ext; simp [str]
  have ht : (str (45 :: t)).extract 1 (t.length + 1) = str t := str_tail 45 t
  have kz : (⟨#[45]⟩ : ByteArray).size = 1 := rfl
  generalize (⟨#[45]⟩ : ByteArray) = k at *
  generalize str (45 :: t) = s at *
  have HT := Lib.hid ht
  clear ht
  go_enter Tryz.func126, Tryz.ntmps126
  go_wp2
  go_ret2
  refine ⟨?_, rfl⟩
  rw [← HT.out]
  rfl
set_option maxRecDepth 100000 in
theorem Cut_none (l : List UInt8) (w : World) (hl : l.length ≤ 4611686018427387904) (h : ∀ t, l ≠ 45 :: t) :
    Calls Tryz.prog 126 #[.string (str l), .string ⟨#[45]⟩] w fun e w' => e = .returned (.tuple #[.string (str l), .bool false]) ∧ w = w' := by
  rcases l with _ | ⟨c, t⟩
  · have hz : (str []).size = 0 := rfl
    have kz : (⟨#[45]⟩ : ByteArray).size = 1 := rfl
    generalize (⟨#[45]⟩ : ByteArray) = k at *
    generalize str [] = s at *
    go_enter Tryz.func126, Tryz.ntmps126
    go_wp2
    go_ret2
    exact ⟨rfl, rfl⟩
  · have hc : c ≠ 45 := fun e => h t (by rw [e])
    have hz : (str (c :: t)).size = t.length + 1 := rfl
    have hx : (str (c :: t)).extract 0 1 = str [c] := by apply ByteArray.ext; simp [str]
    have hk : ((str [c]).toList == (⟨#[45]⟩ : ByteArray).toList) = false := by
      rw [ByteArray.toList_eq, ByteArray.toList_eq]
      simp [str, hc]
    have kz : (⟨#[45]⟩ : ByteArray).size = 1 := rfl
    generalize (⟨#[45]⟩ : ByteArray) = k at *
    generalize str [c] = p at *
    generalize str (c :: t) = s at *
    clear h
    go_enter Tryz.func126, Tryz.ntmps126
    go_wp2
    go_ret2
    exact ⟨rfl, rfl⟩
theorem nDigits_le : ∀ (n x : Nat), x < 10 ^ (n + 1) → Lib.nDigits x ≤ n + 1
  | 0, x, h => by rw [Lib.nDigits_small (by simpa using h)]; exact Nat.le_refl _
  | n + 1, x, h => by
    by_cases h1 : x < 10
    · rw [Lib.nDigits_small h1]; omega
    · rw [Lib.nDigits_big (by omega)]
      have := nDigits_le n (x / 10) (by rw [Nat.pow_succ] at h; omega)
      omega
set_option maxRecDepth 100000 in
set_option maxHeartbeats 2000000 in
theorem Get_ok (l : List UInt8) (z : Int) (w : World) (h : IntText l z) :
    Calls Tryz.prog 69 #[.string (str l)] w fun e w' => ∃ v, e = .returned (.tuple #[v, .nilIface]) ∧ (IsZ w' v z ∧ v ≠ .pointer none) ∧ Below w.heap.size w w' := by
  rcases h with ⟨h, rfl⟩ | ⟨t, rfl, h, h0, rfl⟩
  · have hll : l.length ≤ 4000 := h.2.1
    have C := Lib.hid (Cut_none l w (by omega) (fun t e => numeral_head (t := t) (e ▸ h)))
    have G := Lib.hid (nat.Get_ok l w h)
    generalize seg l 0 l.length = X at *
    have N := Lib.hid (fun (w' : World) nv hn => New_any false nv X w' hn)
    rw [show sgn false X = (X : Int) from rfl] at N
    generalize str l = s at *
    clear h hll
    go_enter Tryz.func69, Tryz.ntmps69
    go_wp2_with (first
      | (go_at_call 126; (with_reducible refine (C.out).mono ?_); rintro e w1 ⟨rfl, rfl⟩; clear C)
      | (go_at_call 44; (with_reducible refine (G.out).mono ?_); rintro e w2 ⟨v, rfl, ⟨hv, -⟩, hb⟩; have HV := Lib.hid hv; have HBl := Lib.hid hb; clear G hv hb)
      | (go_at_call 97; (with_reducible refine (N.out _ _ HV.out).mono ?_); rintro e w3 ⟨u, rfl, hu, hb⟩; have HU := Lib.hid hu; have HB := Lib.hid (HBl.out.trans (hb.mono HBl.out.size)); clear hu hb))
    go_ret2
    exact ⟨_, rfl, HU.out, HB.out⟩
  · have hll : t.length ≤ 4000 := h.2.1
    have C := Lib.hid (Cut_minus t w (by omega))
    have G := Lib.hid (nat.Get_ok t w h)
    generalize seg t 0 t.length = X at *
    have N := Lib.hid (fun (w' : World) nv hn => New_any true nv X w' hn)
    rw [show sgn true X = -(X : Int) from rfl] at N
    have Z := Lib.hid (fun (w' : World) nv hn => Zero_any nv X w' hn)
    rw [decide_eq_false h0] at Z
    generalize str t = s at *
    generalize str (45 :: t) = s2 at *
    clear h hll
    go_enter Tryz.func69, Tryz.ntmps69
    go_wp2_with (first
      | (go_at_call 126; (with_reducible refine (C.out).mono ?_); rintro e w1 ⟨rfl, rfl⟩; clear C)
      | (go_at_call 44; (with_reducible refine (G.out).mono ?_); rintro e w2 ⟨v, rfl, ⟨hv, -⟩, hb⟩; have HV := Lib.hid hv; have HBl := Lib.hid hb; clear G hv hb)
      | (go_at_call 42; (with_reducible refine (Z.out _ _ HV.out).mono ?_); rintro e w1 ⟨rfl, rfl⟩; clear Z)
      | (go_at_call 97; (with_reducible refine (N.out _ _ HV.out).mono ?_); rintro e w3 ⟨u, rfl, hu, hb⟩; have HU := Lib.hid hu; have HB := Lib.hid (HBl.out.trans (hb.mono HBl.out.size)); clear hu hb))
    go_ret2
    exact ⟨_, rfl, HU.out, HB.out⟩
set_option maxRecDepth 100000 in
set_option maxHeartbeats 2000000 in
theorem Get_bad (l : List UInt8) (w : World) (hl : l.length ≤ 4611686018427387904) (h : ∀ z, ¬ IntText l z) :
    Calls Tryz.prog 69 #[.string (str l)] w fun e w' => e = .returned (.tuple #[.pointer none, errOf 1]) ∧ Below w.heap.size w w' := by
  by_cases hm : ∃ t, l = 45 :: t
  · obtain ⟨t, rfl⟩ := hm
    have C := Lib.hid (Cut_minus t w (by simp at hl; omega))
    by_cases ht : Numeral t
    · have G := Lib.hid (nat.Get_ok t w ht)
      have h0 : seg t 0 t.length = 0 := Classical.byContradiction fun h0 => h _ (Or.inr ⟨t, rfl, ht, h0, rfl⟩)
      rw [h0] at G
      have Z := Lib.hid (fun (w' : World) nv hn => Zero_any nv 0 w' hn)
      rw [decide_eq_true rfl] at Z
      have F := Lib.hid (fun w' => flt.Of_some 1 w' rfl)
      generalize str t = s at *
      generalize str (45 :: t) = s2 at *
      clear h hl ht h0
      go_enter Tryz.func69, Tryz.ntmps69
      go_wp2_with (first
        | (go_at_call 126; (with_reducible refine (C.out).mono ?_); rintro e w1 ⟨rfl, rfl⟩; clear C)
        | (go_at_call 44; (with_reducible refine (G.out).mono ?_); rintro e w2 ⟨v, rfl, ⟨hv, -⟩, hb⟩; have HV := Lib.hid hv; have HBl := Lib.hid hb; clear G hv hb)
        | (go_at_call 42; (with_reducible refine (Z.out _ _ HV.out).mono ?_); rintro e w1 ⟨rfl, rfl⟩; clear Z)
        | (go_at_call 103; (with_reducible refine (F.out _).mono ?_); rintro e w1 ⟨rfl, rfl⟩; clear F))
      go_ret2
      exact ⟨rfl, HBl.out⟩
    · have G := Lib.hid (nat.Get_none t w ht (by simp at hl; omega))
      unfold errOf at *
      generalize str t = s at *
      generalize str (45 :: t) = s2 at *
      clear h hl ht
      go_enter Tryz.func69, Tryz.ntmps69
      go_wp2_with (first
        | (go_at_call 126; (with_reducible refine (C.out).mono ?_); rintro e w1 ⟨rfl, rfl⟩; clear C)
        | (go_at_call 44; (with_reducible refine (G.out).mono ?_); rintro e w2 ⟨rfl, rfl⟩; clear G))
      go_ret2
      exact ⟨rfl, Below.refl _ _⟩
  · have C := Lib.hid (Cut_none l w hl (fun t e => hm ⟨t, e⟩))
    have G := Lib.hid (nat.Get_none l w (fun hN => h _ (Or.inl ⟨hN, rfl⟩)) hl)
    unfold errOf at *
    generalize str l = s at *
    clear h hl hm
    go_enter Tryz.func69, Tryz.ntmps69
    go_wp2_with (first
      | (go_at_call 126; (with_reducible refine (C.out).mono ?_); rintro e w1 ⟨rfl, rfl⟩; clear C)
      | (go_at_call 44; (with_reducible refine (G.out).mono ?_); rintro e w2 ⟨rfl, rfl⟩; clear G))
    go_ret2
    exact ⟨rfl, Below.refl _ _⟩
theorem dec_size {x m : Nat} (h : (digs x).length ≤ m) : (str (Lib.decDigits x)).size ≤ 20 * m + 1 := by
  rw [str_size, Lib.decDigits_length]
  have h1 := val_lt' (norm_digs x).1 h
  rw [val_digs] at h1
  have h2 : x < 10 ^ (20 * m + 1) := by
    refine Nat.lt_of_lt_of_le h1 ?_
    rw [Nat.pow_add, Nat.pow_mul]
    refine Nat.le_trans (Nat.pow_le_pow_left (show 18446744073709551616 ≤ 10 ^ 20 by decide) m) (Nat.le_mul_of_pos_right _ (by decide))
  exact nDigits_le _ _ (Nat.lt_of_lt_of_le h2 (Nat.pow_le_pow_right (by omega) (by omega)))
set_option maxRecDepth 100000 in
set_option maxHeartbeats 2000000 in
theorem Text_any (a : Value) (z : Int) (w : World) (ha : IsZ w a z) (hx : (digs z.natAbs).length ≤ 40000) :
    Calls Tryz.prog 52 #[a] w fun e w' => e = .returned (.string (str (Lib.itoa z))) ∧ Below w.heap.size w w' := by
  have B := isBelow_any a z w ha
  have A := Lib.hid (amount_any a z w ha)
  have T := Lib.hid (fun na hn => nat.Text_any na z.natAbs w hn hx)
  have hlen := dec_size hx
  by_cases h : z < 0
  · have hz2 : str (Lib.itoa z) = str [45] ++ str (Lib.decDigits z.natAbs) := by
      unfold Lib.itoa
      rw [if_pos h, str_append]
      rfl
    rw [decide_eq_true h] at B
    rw [hz2]
    have HB := Lib.hid B
    generalize str (Lib.decDigits z.natAbs) = s at *
    have h45 : ({ data := #[45] } : ByteArray) = str [45] := rfl
    have hsz : ¬ 9223372036854775807 < ({ data := #[45] } : ByteArray).size + s.size := by
      have : ({ data := #[45] } : ByteArray).size = 1 := rfl
      omega
    clear ha B hz2 h hx hlen
    go_enter Tryz.func52, Tryz.ntmps52
    go_wp2_with (first
      | (go_at_call 123; (with_reducible refine (HB.out).mono ?_); rintro e w1 ⟨rfl, rfl⟩)
      | (go_at_call 122; (with_reducible refine (A.out).mono ?_); rintro e w1 ⟨na, rfl, hn, rfl⟩; have HN := Lib.hid hn; clear A hn)
      | (go_at_call 30; (with_reducible refine (T.out _ HN.out).mono ?_); rintro e w1 ⟨rfl, hb⟩; have HBl := Lib.hid hb; clear T hb))
    go_ret
    exact ⟨rfl, HBl.out⟩
  · have hz2 : str (Lib.itoa z) = str (Lib.decDigits z.natAbs) := by
      unfold Lib.itoa
      rw [if_neg h]
      congr 2
      omega
    rw [decide_eq_false h] at B
    rw [hz2]
    have HB := Lib.hid B
    generalize str (Lib.decDigits z.natAbs) = s at *
    clear ha B hz2 h hx hlen
    go_enter Tryz.func52, Tryz.ntmps52
    go_wp2_with (first
      | (go_at_call 123; (with_reducible refine (HB.out).mono ?_); rintro e w1 ⟨rfl, rfl⟩)
      | (go_at_call 122; (with_reducible refine (A.out).mono ?_); rintro e w1 ⟨na, rfl, hn, rfl⟩; have HN := Lib.hid hn; clear A hn)
      | (go_at_call 30; (with_reducible refine (T.out _ HN.out).mono ?_); rintro e w1 ⟨rfl, hb⟩; have HBl := Lib.hid hb; clear T hb))
    go_ret
    exact ⟨rfl, HBl.out⟩
end Go.Proofs.YtfpooimjjpamoaaGreatDoor.num
namespace Go.Proofs.YtfpooimjjpamoaaGreatDoor.nat
open Go.RowKit
theorem Cmp_b (a b : Value) (X Y : Nat) (w : World) (ha : IsN w a X) (hb : IsN w b Y) (hx : (digs X).length ≤ 1000000) (hy : (digs Y).length ≤ 1000000) :
    Calls Tryz.prog 39 #[a, b] w fun e w' => e = .returned (.int .i64 (cmp3 (X : Int) (Y : Int))) ∧ Below w.heap.size w w' :=
  (Cmp_any a b X Y w ha hb hx hy).mono fun e w' h => by
    obtain ⟨rfl, m, rfl⟩ := h
    exact ⟨rfl, drew_below _ _⟩
theorem Sub_none_b (a b : Value) (X Y : Nat) (w : World) (ha : IsN w a X) (hb : IsN w b Y) (hlt : X < Y) (hx : (digs X).length ≤ 900000) (hy : (digs Y).length ≤ 900000) :
    Calls Tryz.prog 27 #[a, b] w fun e w' => e = .returned (.tuple #[.pointer none, .iface 171 (.int .i64 2)]) ∧ Below w.heap.size w w' :=
  (Sub_none a b X Y w ha hb hlt hx hy).mono fun e w' h => by
    obtain ⟨rfl, m, rfl⟩ := h
    exact ⟨rfl, drew_below _ _⟩
theorem Div_none_b (a b : Value) (w : World) (hb : IsN w b 0) :
    Calls Tryz.prog 33 #[a, b] w fun e w' => e = .returned (.tuple #[.pointer none, .pointer none, .iface 171 (.int .i64 3)]) ∧ Below w.heap.size w w' :=
  (Div_none a b w hb).mono fun e w' h => by
    obtain ⟨rfl, rfl⟩ := h
    exact ⟨rfl, Below.refl _ _⟩
theorem below_tr {w w1 w2 : World} (h : Below w.heap.size w w1) (k : Below w1.heap.size w1 w2) : Below w.heap.size w w2 := h.trans (k.mono h.size)
theorem Of_int (z : Int) (d : Nat) (hz : z = d) (h : d < 18446744073709551616) (w : World) :
    Calls Tryz.prog 46 #[.int .u64 z] w fun e w' => ∃ v, e = .returned v ∧ (IsN w' v d ∧ v ≠ .pointer none) ∧ Below w.heap.size w w' := by
  subst hz
  exact Of_any d w h
theorem Sub_some (a b : Value) (X Y : Nat) (w : World) (ha : IsN w a X) (hb : IsN w b Y) (hx : (digs X).length ≤ 900000) (hy : (digs Y).length ≤ 900000) :
    Calls Tryz.prog 27 #[a, b] w fun e w' => ∃ u v, e = .returned (.tuple #[u, v]) ∧ Below w.heap.size w w' := by
  rcases Nat.lt_or_ge X Y with h | h
  · refine (Sub_none_b a b X Y w ha hb h hx hy).mono ?_
    rintro e w' ⟨rfl, hb⟩
    exact ⟨_, _, rfl, hb⟩
  · refine (Sub_ok a b X Y w ha hb h hx).mono ?_
    rintro e w' ⟨v, rfl, -, hb⟩
    exact ⟨_, _, rfl, hb⟩
theorem Div_some (a b : Value) (X Y : Nat) (w : World) (ha : IsN w a X) (hb : IsN w b Y) (hx : (digs X).length ≤ 900000) (hy : (digs Y).length ≤ 900000) :
    Calls Tryz.prog 33 #[a, b] w fun e w' => ∃ u v x, e = .returned (.tuple #[u, v, x]) ∧ Below w.heap.size w w' := by
  rcases Nat.eq_zero_or_pos Y with h | h
  · subst h
    refine (Div_none_b a b w hb).mono ?_
    rintro e w' ⟨rfl, hb⟩
    exact ⟨_, _, _, rfl, hb⟩
  · refine (Div_ok a b X Y w ha hb h hx hy).mono ?_
    rintro e w' ⟨q, r, rfl, -, -, hb⟩
    exact ⟨_, _, _, rfl, hb⟩
theorem IsN.some {w : World} {v : Value} {X : Nat} (h : IsN w v X) (hn : v ≠ .pointer none) : ∃ p, v = .pointer (some p) := by
  rcases h with ⟨h, -⟩ | ⟨b, o, sv, h, -⟩
  · exact absurd h hn
  · exact ⟨_, h⟩
end Go.Proofs.YtfpooimjjpamoaaGreatDoor.nat
namespace Go.Proofs.YtfpooimjjpamoaaGreatDoor.num
open Go.RowKit Go.Proofs.YtfpooimjjpamoaaGreatDoor.nat
theorem Cmp_b (a b : Value) (z y : Int) (w : World) (ha : IsZ w a z) (hb : IsZ w b y) (hx : (digs z.natAbs).length ≤ 800000) (hy : (digs y.natAbs).length ≤ 800000) :
    Calls Tryz.prog 56 #[a, b] w fun e w' => e = .returned (.int .i64 (cmp3 z y)) ∧ Below w.heap.size w w' :=
  (Cmp_any a b z y w ha hb hx hy).mono fun e w' h => by
    obtain ⟨rfl, m, rfl⟩ := h
    exact ⟨rfl, drew_below _ _⟩
theorem IsZ.some {w : World} {v : Value} {z : Int} (h : IsZ w v z) (hn : v ≠ .pointer none) : ∃ p, v = .pointer (some p) := by
  rcases h with ⟨h, -⟩ | ⟨b, o, neg, sv, X, h, -⟩
  · exact absurd h hn
  · exact ⟨_, h⟩
theorem sg_zero {z : Int} (h : z = 0) : sg z = 0 := by subst h; decide
theorem sg_neg {z : Int} (h : z < 0) : sg z = -1 := by unfold sg cmp3; rw [if_pos h]
theorem sg_pos {z : Int} (h : 0 < z) : sg z = 1 := by unfold sg cmp3; rw [if_neg (by omega), if_pos h]
theorem sg_mul (z y : Int) : sg (z * y) = sg z * sg y := by
  rcases Int.lt_trichotomy z 0 with h | h | h <;> rcases Int.lt_trichotomy y 0 with k | k | k
  · rw [sg_neg h, sg_neg k, sg_pos (Int.mul_pos_of_neg_of_neg h k)]; rfl
  · subst k; rw [Int.mul_zero, sg_zero rfl, Int.mul_zero]
  · rw [sg_neg h, sg_pos k, sg_neg (Int.mul_neg_of_neg_of_pos h k)]; rfl
  · subst h; rw [Int.zero_mul, sg_zero rfl, Int.zero_mul]
  · subst h; rw [Int.zero_mul, sg_zero rfl, Int.zero_mul]
  · subst h; rw [Int.zero_mul, sg_zero rfl, Int.zero_mul]
  · rw [sg_pos h, sg_neg k, sg_neg (Int.mul_neg_of_pos_of_neg h k)]; rfl
  · subst k; rw [Int.mul_zero, sg_zero rfl, Int.mul_zero]
  · rw [sg_pos h, sg_pos k, sg_pos (Int.mul_pos h k)]; rfl
theorem fmod_side (z : Int) {y : Int} (hy : y ≠ 0) : (0 < y → 0 ≤ Int.fmod z y ∧ Int.fmod z y < y) ∧ (y < 0 → y < Int.fmod z y ∧ Int.fmod z y ≤ 0) := by
  by_cases hc : decide (z < 0) = decide (y < 0) ∨ z.natAbs % y.natAbs = 0
  · rw [(floor_near hy hc).2]
    have hm := Nat.mod_lt z.natAbs (y := y.natAbs) (by omega)
    unfold sgn
    refine ⟨fun h => ?_, fun h => ?_⟩
    · rw [decide_eq_false (by omega)]; simp; omega
    · rw [decide_eq_true h]; simp; omega
  · rw [not_or] at hc
    rw [(floor_past hy hc.1 hc.2).2]
    have hm := Nat.mod_lt z.natAbs (y := y.natAbs) (by omega)
    unfold sgn
    refine ⟨fun h => ?_, fun h => ?_⟩
    · rw [decide_eq_false (by omega)]; simp; omega
    · rw [decide_eq_true h]; simp; omega
theorem sg_fmod_neg {z y : Int} (hy : y < 0) (hr : Int.fmod z y ≠ 0) : sg (Int.fmod z y) = -1 := sg_neg (by have := (fmod_side z (y := y) (by omega)).2 hy; omega)
theorem sg_fmod_pos {z y : Int} (hy : 0 < y) (hr : Int.fmod z y ≠ 0) : sg (Int.fmod z y) = 1 := sg_pos (by have := (fmod_side z (y := y) (by omega)).1 hy; omega)
theorem fmod_lt {z y : Int} (hy : y ≠ 0) : (Int.fmod z y).natAbs < y.natAbs := by
  have := fmod_side z hy
  rcases Int.lt_or_gt_of_ne hy with h | h
  · have := this.2 h; omega
  · have := this.1 h; omega
def Ln (x n : Nat) : Prop := (digs x).length ≤ n
def Lz (z : Int) (n : Nat) : Prop := (digs z.natAbs).length ≤ n
theorem Ln.le {x n m : Nat} (h : Ln x n) (hm : n ≤ m) : Ln x m := Nat.le_trans h hm
theorem Lz.le {x : Int} {n m : Nat} (h : Lz x n) (hm : n ≤ m) : Lz x m := Nat.le_trans h hm
theorem Ln_less {x y n : Nat} (hxy : x ≤ y) (h : Ln y n) : Ln x n := digs_le_len hxy h
theorem Ln_pow {x n : Nat} (h : x < 18446744073709551616 ^ n) : Ln x n := digs_len h
theorem Ln_small {x : Nat} (h : x < 18446744073709551616) : Ln x 1 := digs_len (by rwa [Nat.pow_one])
theorem Lz_small {z : Int} (h : z.natAbs < 18446744073709551616) : Lz z 1 := Ln_small h
theorem Lz_nat {x n : Nat} (h : Ln x n) : Lz (x : Int) n := by unfold Lz; rw [Int.natAbs_natCast]; exact h
theorem Ln_abs {z : Int} {n : Nat} (h : Lz z n) : Ln z.natAbs n := h
theorem Ln_mul {x y n m : Nat} (hx : Ln x n) (hy : Ln y m) : Ln (x * y) (n + m) := digs_mul_len hx hy
theorem Lz_mul {x y : Int} {n m : Nat} (hx : Lz x n) (hy : Lz y m) : Lz (x * y) (n + m) := by unfold Lz; rw [Int.natAbs_mul]; exact digs_mul_len hx hy
theorem Ln_add {x y n m : Nat} (hx : Ln x n) (hy : Ln y m) : Ln (x + y) (n + m + 1) := digs_add_len (Nat.le_trans hx (by omega)) (Nat.le_trans hy (by omega))
theorem Ln_gcd {x y n m : Nat} (hx : Ln x n) (hy : Ln y m) : Ln (Nat.gcd x y) (n + m) := digs_gcd_len (Nat.le_trans hx (by omega)) (Nat.le_trans hy (by omega))
theorem sgn_natAbs (b : Bool) (X : Nat) : (sgn b X).natAbs = X := by
  unfold sgn
  split
  · rw [Int.natAbs_neg, Int.natAbs_natCast]
  · rw [Int.natAbs_natCast]
theorem fdiv_le (z y : Int) : (Int.fdiv z y).natAbs ≤ z.natAbs := by
  by_cases hy : y = 0
  · subst hy; simp
  by_cases hc : decide (z < 0) = decide (y < 0) ∨ z.natAbs % y.natAbs = 0
  · rw [(floor_near hy hc).1]
    rw [sgn_natAbs]
    exact Nat.div_le_self _ _
  · rw [not_or] at hc
    rw [(floor_past hy hc.1 hc.2).1]
    rw [sgn_natAbs]
    have h2 : 2 ≤ y.natAbs := by
      rcases Nat.lt_or_ge y.natAbs 2 with h | h
      · exfalso
        have h1 : y.natAbs = 1 := by omega
        rw [h1] at hc
        omega
      · exact h
    have h1 : 0 < z.natAbs := by
      rcases Nat.eq_zero_or_pos z.natAbs with h | h
      · rw [h] at hc; simp at hc
      · exact h
    have h3 : z.natAbs / y.natAbs ≤ z.natAbs / 2 := Nat.div_le_div_left h2 (by omega)
    omega
theorem fmod_le (z : Int) {y : Int} (hy0 : y ≠ 0) : (Int.fmod z y).natAbs ≤ y.natAbs := by
  by_cases hc : decide (z < 0) = decide (y < 0) ∨ z.natAbs % y.natAbs = 0
  · rw [(floor_near hy0 hc).2, sgn_natAbs]
    exact Nat.le_of_lt (Nat.mod_lt z.natAbs (y := y.natAbs) (by omega))
  · rw [not_or] at hc
    rw [(floor_past hy0 hc.1 hc.2).2, sgn_natAbs]
    exact Nat.sub_le _ _
end Go.Proofs.YtfpooimjjpamoaaGreatDoor.num
namespace Go.Proofs.YtfpooimjjpamoaaGreatDoor.rat
theorem num_den_of {q : Rat} {z : Int} {e : Nat} (he : 0 < e) (hc : Nat.gcd z.natAbs e = 1) (h : q = (z : Rat) / (e : Rat)) : q.num = z ∧ q.den = e := by
  rw [h, ← Rat.mkRat_eq_div, ← Rat.mk_eq_mkRat z e (by omega) hc]
  exact ⟨rfl, rfl⟩
theorem self_div (q : Rat) : q = (q.num : Rat) / (q.den : Rat) := by rw [← Rat.mkRat_eq_div, Rat.mkRat_self]
theorem cast_ne {e : Nat} (h : 0 < e) : (e : Rat) ≠ 0 := by
  intro h0
  have := Rat.natCast_pos.2 h
  rw [h0] at this
  exact Rat.lt_irrefl this
theorem cast_nez {e : Int} (h : e ≠ 0) : (e : Rat) ≠ 0 := fun h0 => h (Rat.intCast_inj.1 h0)
theorem fdiv_exact {z g : Int} (hg : g ≠ 0) (h : g ∣ z) : ((Int.fdiv z g : Int) : Rat) = (z : Rat) / (g : Rat) := by
  obtain ⟨k, rfl⟩ := h
  rw [Int.mul_fdiv_cancel_left _ hg, Rat.intCast_mul, Rat.mul_comm, Rat.mul_div_cancel (cast_nez hg)]
theorem fdiv_abs {z g : Int} (hg : g ≠ 0) (h : g ∣ z) : (Int.fdiv z g).natAbs = z.natAbs / g.natAbs := by
  obtain ⟨k, rfl⟩ := h
  rw [Int.mul_fdiv_cancel_left _ hg, Int.natAbs_mul, Nat.mul_div_cancel_left _ (by omega)]
theorem gcd_divides_l (z y : Int) : ((Nat.gcd z.natAbs y.natAbs : Nat) : Int) ∣ z := by rw [← Int.dvd_natAbs, Int.ofNat_dvd]; exact Nat.gcd_dvd_left _ _
theorem gcd_divides_r (z y : Int) : ((Nat.gcd z.natAbs y.natAbs : Nat) : Int) ∣ y := by rw [← Int.dvd_natAbs, Int.ofNat_dvd]; exact Nat.gcd_dvd_right _ _
def upN (z y : Int) : Int := if y < 0 then -z else z
theorem up_val {z y : Int} (hy : y ≠ 0) (hc : Nat.gcd z.natAbs y.natAbs = 1) : ((z : Rat) / (y : Rat)).num = upN z y ∧ ((z : Rat) / (y : Rat)).den = y.natAbs := by
  refine num_den_of (by omega) ?_ ?_
  · unfold upN
    split
    · rw [Int.natAbs_neg]; exact hc
    · exact hc
  · have h0 := cast_nez hy
    unfold upN
    split
    · rename_i h
      have e : (y.natAbs : Int) = -y := by omega
      have e2 : ((y.natAbs : Nat) : Rat) = -(y : Rat) := by
        rw [← Rat.intCast_natCast, e, Rat.intCast_neg]
      rw [e2, Rat.intCast_neg]
      grind
    · have e : (y.natAbs : Int) = y := by omega
      have e2 : ((y.natAbs : Nat) : Rat) = (y : Rat) := by
        rw [← Rat.intCast_natCast, e]
      rw [e2]
end Go.Proofs.YtfpooimjjpamoaaGreatDoor.rat
