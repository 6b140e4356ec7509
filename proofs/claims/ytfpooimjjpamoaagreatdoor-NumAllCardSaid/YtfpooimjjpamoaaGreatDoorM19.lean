/-
  The steps of the walks, part 19: TextN, Digits, Scale, Get.
-/
import Derived.Lib.ItoaNum
import Derived.Laws.MakeOwn
import Derived.Test.YtfpooimjjpamoaaGreatDoorM18
import Derived.Test.YtfpooimjjpamoaaGreatDoorM04
import Derived.Test.YtfpooimjjpamoaaGreatDoorM11
namespace Go.Proofs.YtfpooimjjpamoaaGreatDoor.ref
def pad : Nat → Nat → List UInt8
  | 0, _ => []
  | k + 1, d => pad k (d / 10) ++ [UInt8.ofNat (48 + d % 10)]
theorem pad_length : ∀ k d : Nat, (pad k d).length = k
  | 0, _ => rfl
  | k + 1, d => by rw [pad, List.length_append, pad_length k]; rfl
theorem pad_cons : ∀ k d : Nat, pad (k + 1) d = UInt8.ofNat (48 + d / 10 ^ k % 10) :: pad k d
  | 0, d => by simp [pad]
  | k + 1, d => by
    rw [pad, pad_cons k (d / 10), Nat.div_div_eq_div_mul, show 10 * 10 ^ k = 10 ^ (k + 1) by rw [Nat.pow_succ, Nat.mul_comm], List.cons_append]
    rfl
theorem pad_append : ∀ (k m u v : Nat), u < 10 ^ k → pad (m + k) (u + 10 ^ k * v) = pad m v ++ pad k u
  | 0, m, u, v, h => by
    obtain rfl : u = 0 := by simpa using h
    simp [pad]
  | k + 1, m, u, v, h => by
    rw [Nat.pow_succ] at h
    have e : u + 10 ^ (k + 1) * v = u + 10 * (10 ^ k * v) := by rw [Nat.pow_succ, Nat.mul_comm (10 ^ k) 10, Nat.mul_assoc]
    rw [e, show m + (k + 1) = (m + k) + 1 by omega, pad, show (u + 10 * (10 ^ k * v)) / 10 = u / 10 + 10 ^ k * v by omega, pad_append k m (u / 10) v (by omega), show (u + 10 * (10 ^ k * v)) % 10 = u % 10 by omega, List.append_assoc]
    rfl
theorem pad_nought {m x : Nat} (h : x < 10 ^ m) : pad (m + 1) x = 48 :: pad m x := by
  rw [pad_cons, Nat.div_eq_of_lt h]
  rfl
theorem pad_dec : ∀ (m x : Nat), x < 10 ^ (m + 1) → (m = 0 ∨ 10 ^ m ≤ x) → pad (m + 1) x = Lib.decDigits x
  | 0, x, h, _ => by
    rw [Lib.decDigits, dif_pos (by simpa using h), pad, pad, Nat.mod_eq_of_lt (by simpa using h)]
    rfl
  | m + 1, x, h, h2 => by
    have h3 : 10 ^ (m + 1) ≤ x := h2.resolve_left (by omega)
    have hp : 1 ≤ 10 ^ m := Nat.pow_pos (by omega)
    rw [Nat.pow_succ] at h h3
    rw [Lib.decDigits, dif_neg (by omega), pad, pad_dec m (x / 10) (by omega) (Or.inr (by omega))]
theorem pad_head {m x : Nat} (h : x < 10 ^ (m + 1)) (h2 : 10 ^ m ≤ x) : (UInt8.ofNat (48 + x / 10 ^ m % 10)).toNat ≠ 48 := by
  have h1 : 1 ≤ x / 10 ^ m := (Nat.le_div_iff_mul_le (Nat.pow_pos (by omega))).2 (by omega)
  have h3 : x / 10 ^ m < 10 := (Nat.div_lt_iff_lt_mul (Nat.pow_pos (by omega))).2 (by rw [Nat.pow_succ] at h; omega)
  rw [UInt8.toNat_ofNat']
  omega
theorem pow_nine (i : Nat) : 1000000000 ^ i = 10 ^ (9 * i) := by
  rw [Nat.pow_mul]
def str (l : List UInt8) : ByteArray := ⟨l.toArray⟩
theorem str_append (a b : List UInt8) : str a ++ str b = str (a ++ b) := by
  apply ByteArray.ext
  simp [str]
theorem str_size (l : List UInt8) : (str l).size = l.length := rfl
theorem str_tail (c : UInt8) (l : List UInt8) : (str (c :: l)).extract 1 (str (c :: l)).size = str l := by
  apply ByteArray.ext
  simp [str, ByteArray.size]
def ch (l : List UInt8) (i : Nat) : Nat := (l.getD i 0).toNat
def seg (l : List UInt8) (st : Nat) : Nat → Nat
  | 0 => 0
  | m + 1 => seg l st m * 10 + (ch l (st + m) - 48)
def IsDig (l : List UInt8) (i : Nat) : Prop := 48 ≤ ch l i ∧ ch l i ≤ 57
def Numeral (l : List UInt8) : Prop := 1 ≤ l.length ∧ l.length ≤ 4000 ∧ (1 < l.length → ch l 0 ≠ 48) ∧ ∀ i, i < l.length → IsDig l i
theorem seg_lt {l : List UInt8} {st m : Nat} (h : ∀ i, st ≤ i → i < st + m → IsDig l i) : seg l st m < 10 ^ m := by
  induction m with
  | zero => simp [seg]
  | succ m ih =>
    have h1 := ih fun i h1 h2 => h i h1 (by omega)
    have h2 := h (st + m) (by omega) (by omega)
    unfold IsDig at h2
    rw [seg, Nat.pow_succ]
    omega
theorem seg_add (l : List UInt8) (st a : Nat) : ∀ b, seg l st (a + b) = seg l st a * 10 ^ b + seg l (st + a) b
  | 0 => by simp [seg]
  | b + 1 => by
    rw [← Nat.add_assoc, seg, seg, seg_add l st a b, Nat.pow_succ, Nat.add_mul, Nat.mul_assoc, show st + (a + b) = st + a + b by omega]
    omega
theorem take_pad {l : List UInt8} : ∀ m, m ≤ l.length → (∀ i, i < m → IsDig l i) → l.take m = pad m (seg l 0 m)
  | 0, _, _ => rfl
  | m + 1, hm, h => by
    have h2 := h m (by omega)
    unfold IsDig at h2
    have hc : ch l m = l[m].toNat := by simp [ch, show m < l.length by omega]
    rw [List.take_succ_eq_append_getElem (by omega), take_pad m (by omega) fun i hi => h i (by omega), seg, pad, Nat.zero_add, show (seg l 0 m * 10 + (ch l m - 48)) / 10 = seg l 0 m by omega,
      show 48 + (seg l 0 m * 10 + (ch l m - 48)) % 10 = ch l m by omega, hc, UInt8.ofNat_toNat]
theorem Numeral.dec {l : List UInt8} (h : Numeral l) : l = Lib.decDigits (seg l 0 l.length) := by
  obtain ⟨h1, _, h3, h4⟩ := h
  have h5 := take_pad l.length (Nat.le_refl _) h4
  rw [List.take_length] at h5
  have h6 := seg_lt (st := 0) (m := l.length) fun i _ hi => h4 i (by omega)
  obtain ⟨m, hm⟩ : ∃ m, l.length = m + 1 := ⟨l.length - 1, by omega⟩
  rw [hm] at h5 h6 ⊢
  rw [← pad_dec m _ h6 ?_]
  · exact h5
  · by_cases h0 : m = 0
    · exact Or.inl h0
    · right
      have h7 := seg_add l 0 1 m
      rw [Nat.add_comm 1 m] at h7
      have h8 := h4 0 (by omega)
      unfold IsDig at h8
      have h9 := h3 (by omega)
      have h10 : 1 ≤ seg l 0 1 := by simp [seg]; omega
      have h11 := Nat.mul_le_mul_right (10 ^ m) h10
      omega
end Go.Proofs.YtfpooimjjpamoaaGreatDoor.ref
namespace Go.Proofs.YtfpooimjjpamoaaGreatDoor.nat
open Go.RowKit
open Go.Proofs.YtfpooimjjpamoaaGreatDoor.ref (str str_size ch seg IsDig Numeral seg_lt)
theorem ch_get {l : List UInt8} {i : Nat} (h : i < (str l).size) : ((str l)[i]'h).toNat = ch l i := by
  have h2 : i < l.length := h
  simp [ch, h2, str]
  rfl
set_option maxRecDepth 100000 in
set_option maxHeartbeats 1000000 in
theorem value_any (l : List UInt8) (w : World) (hl : l.length ≤ 19) (hd : ∀ i, i < l.length → IsDig l i) :
    Calls Tryz.prog 120 #[.string (str l)] w fun e w' => e = .returned (.int .u64 (seg l 0 l.length : Nat)) ∧ w = w' := by
  have hz : (str l).size = l.length := str_size l
  have HG := Lib.hid (fun i (h : i < (str l).size) => ch_get (l := l) h)
  have HD := Lib.hid hd
  generalize str l = s at *
  generalize hn : l.length = n at *
  have HN := Lib.hid hn
  clear hn hd
  go_enter Tryz.func120, Tryz.ntmps120
  go_wp2
  go_loopw [3, 7] (fun nv iv wr => w = wr ∧ ∃ i : Nat, i ≤ n ∧ iv = .int .i64 i ∧ nv = .int .u64 (seg l 0 i : Nat)) (fun _ iv _ => n - (intOf iv).toNat)
  case atStart => exact ⟨rfl, 0, Nat.zero_le _, rfl, rfl⟩
  case round =>
    obtain ⟨rfl, i, hi, rfl, rfl⟩ := hrel
    by_cases hlt : i < n
    · have hv := seg_lt (l := l) (st := 0) (m := i) fun j _ hj => HD.out j (by omega)
      have hp : 10 ^ i ≤ 10 ^ 18 := Nat.pow_le_pow_right (by omega) (by omega)
      have hdi := HD.out i hlt
      unfold IsDig at hdi
      have hgk : ∀ h : i < s.size, (s[i]'h).toNat = ch l i := fun h => HG.out _ h
      have HS := Lib.hid (show seg l 0 (i + 1) = seg l 0 i * 10 + (ch l i - 48) by rw [seg, Nat.zero_add])
      have hv8 : (seg l 0 i : Int) < 1000000000000000000 := by omega
      generalize seg l 0 i = v at *
      generalize ch l i = c at *
      clear hv hp
      obtain ⟨hc1, hc2⟩ := hdi
      go_wp2
      refine ⟨?_, ?_⟩
      · refine ⟨trivial, i + 1, by omega, by go_num, ?_⟩
        rw [HS.out]
        go_num
      · simp [intOf]; omega
    · obtain rfl : i = n := by omega
      go_wp2
      go_ret
      exact ⟨rfl, rfl⟩
set_option maxRecDepth 100000 in
set_option maxHeartbeats 2000000 in
open Classical in
theorem isNumber_any (l : List UInt8) (w : World) (hl : l.length ≤ 4611686018427387904) :
    Calls Tryz.prog 118 #[.string (str l)] w fun e w' => e = .returned (.bool (decide (Numeral l))) ∧ w = w' := by
  have hz : (str l).size = l.length := str_size l
  have HG := Lib.hid (fun i (h : i < (str l).size) => ch_get (l := l) h)
  have HNo := Lib.hid (fun h : ¬ Numeral l => (decide_eq_false h : decide (Numeral l) = false))
  have HYes := Lib.hid (fun h : Numeral l => (decide_eq_true h : decide (Numeral l) = true))
  have HNum := Lib.hid (show Numeral l ↔ 1 ≤ l.length ∧ l.length ≤ 4000 ∧ (1 < l.length → ch l 0 ≠ 48) ∧ ∀ i, i < l.length → IsDig l i from Iff.rfl)
  generalize str l = s at *
  generalize decide (Numeral l) = b at *
  generalize hn : l.length = n at *
  clear hn
  by_cases h0 : n = 0
  · have hb := HNo.out fun h => by have := (HNum.out.1 h).1; omega
    subst hb
    go_enter Tryz.func118, Tryz.ntmps118
    go_wp2
    go_ret
    exact ⟨rfl, rfl⟩
  · by_cases h4 : 4000 < n
    · have hb := HNo.out fun h => by have := (HNum.out.1 h).2.1; omega
      subst hb
      go_enter Tryz.func118, Tryz.ntmps118
      go_wp2
      go_ret
      exact ⟨rfl, rfl⟩
    · have hc0 : ∀ h : 0 < s.size, (s[0]'h).toNat = ch l 0 := fun h => HG.out 0 h
      by_cases h48 : ch l 0 = 48 ∧ 1 < n
      · obtain ⟨h48, h1⟩ := h48
        have hb := HNo.out fun h => (HNum.out.1 h).2.2.1 h1 h48
        subst hb
        rw [h48] at hc0
        clear h48
        go_enter Tryz.func118, Tryz.ntmps118
        go_wp2
        go_ret
        exact ⟨rfl, rfl⟩
      · have HH := Lib.hid (show 1 < n → ch l 0 ≠ 48 from fun h1 h2 => h48 ⟨h2, h1⟩)
        have hcase : (ch l 0 = 48 ∧ n = 1) ∨ ch l 0 ≠ 48 := by omega
        generalize ch l 0 = c0 at *
        clear h48
        rcases hcase with ⟨rfl, hn1⟩ | h48
        case' neg.inr =>
          have hb1 : ¬ (c0 : Int) = 48 := by omega
          have hnb : ((n : Int) == 0) = false := by simp; omega
        all_goals
          go_enter Tryz.func118, Tryz.ntmps118
          go_wp2
          go_loopw [24] (fun iv wr => w = wr ∧ ∃ i : Nat, i ≤ n ∧ iv = .int .i64 i ∧ ∀ j, j < i → IsDig l j) (fun iv _ => n - (intOf iv).toNat)
          case atStart => exact ⟨rfl, 0, Nat.zero_le _, rfl, fun j hj => by omega⟩
          case round =>
            obtain ⟨rfl, i, hi, rfl, hdg⟩ := hrel
            have HDg := Lib.hid hdg
            clear hdg
            by_cases hlt : i < n
            · have hgk : ∀ h : i < s.size, (s[i]'h).toNat = ch l i := fun h => HG.out _ h
              have HB := Lib.hid (show b = true → IsDig l i from fun hb => by
                by_cases hN : Numeral l
                · exact (HNum.out.1 hN).2.2.2 i hlt
                · rw [HNo.out hN] at hb; cases hb)
              have HC := Lib.hid (show IsDig l i ↔ 48 ≤ ch l i ∧ ch l i ≤ 57 from Iff.rfl)
              generalize ch l i = c at *
              by_cases hc1 : c < 48
              · have hb : b = false := by
                  cases b with
                  | false => rfl
                  | true => have := HC.out.1 (HB.out rfl); omega
                subst hb
                go_wp2
                go_ret
                exact ⟨rfl, rfl⟩
              · by_cases hc2 : 57 < c
                · have hb : b = false := by
                    cases b with
                    | false => rfl
                    | true => have := HC.out.1 (HB.out rfl); omega
                  subst hb
                  go_wp2
                  go_ret
                  exact ⟨rfl, rfl⟩
                · go_wp2
                  refine ⟨⟨trivial, i + 1, by omega, by go_num, fun j hj => ?_⟩, ?_⟩
                  · by_cases h3 : j < i
                    · exact HDg.out j h3
                    · obtain rfl : j = i := by omega
                      exact HC.out.2 ⟨by omega, by omega⟩
                  · simp [intOf]; omega
            · obtain rfl : i = n := by omega
              have hb := HYes.out (HNum.out.2 ⟨by omega, by omega, HH.out, HDg.out⟩)
              subst hb
              go_wp2
              go_ret
              exact ⟨rfl, rfl⟩
end Go.Proofs.YtfpooimjjpamoaaGreatDoor.nat
namespace Go.Proofs.YtfpooimjjpamoaaGreatDoor.nat
open Go.RowKit
theorem sca_ex (d y a : Nat) (hd : d < 18446744073709551616) (hy : y + 1 < 18446744073709551616) (ha : a < 18446744073709551616) : ∃ h l s k : Nat,
    (∀ w, Calls Tryz.prog 163 #[.int .u64 (d : Int), .int .u64 ((y : Int) + 1)] w fun e w' => e = .returned (.tuple #[.int .u64 (h : Int), .int .u64 (l : Int)]) ∧ w' = w) ∧
    (∀ w, (callFunc 164 #[.int .u64 (l : Int), .int .u64 (a : Int), .int .u64 0]).run Tryz.prog w = .ok (.value (.tuple #[.int .u64 (s : Int), .int .u64 (k : Int)])) w) ∧
    s < 18446744073709551616 ∧ h + k < 18446744073709551616 ∧ s + 18446744073709551616 * (h + k) = d + d * y + a := by
  obtain ⟨h, l, b1, b2, e1, r1⟩ := mul64_ex d (y + 1) hd hy
  obtain ⟨s, k, b3, b4, e2, r2⟩ := add64_ex l a 0 b2 ha (by omega)
  have hp : d * (y + 1) ≤ 18446744073709551615 * 18446744073709551615 := Nat.mul_le_mul (by omega) (by omega)
  rw [Nat.mul_add, Nat.mul_one] at e1 hp
  exact ⟨h, l, s, k, r1, r2, b3, by omega, by omega⟩
def RowT (w : World) (g : Nat) (L : List Nat) (R : List Value) : Prop := w.heap[g]? = some (.cells ((L.map fun d => Value.int .u64 (d : Nat)) ++ R).toArray 45 (0, 0))
theorem RowT.row {w : World} {g : Nat} {L : List Nat} {R : List Value} (h : RowT w g L R) : Row w g L := ⟨R, h⟩
theorem RowT.set {w : World} {g : Nat} {L : List Nat} {R : List Value} (h : RowT w g L R) (k : Nat) (hk : k < L.length) (d : Nat) : RowT (w.setCell ⟨g, k, none⟩ (.int .u64 (d : Nat))) g (L.set k d) R := by
  unfold RowT at h ⊢
  rw [heap_setCell_same w g k _ _ _ h]
  congr 2
  rw [List.setIfInBounds_toArray, List.set_append_left _ _ (by simpa using hk), List.map_set]
def CRel (w : World) (g y more : Nat) (R : List Value) (Z : List Nat) (i a : Nat) (wr : World) : Prop :=
  ∃ Z', Z'.length = Z.length ∧ Dig Z' ∧ a < 18446744073709551616 ∧ RowT wr g Z' R ∧ w.grownBy wr (some g) ∧ val Z' + 18446744073709551616 ^ i * a = val Z + more + val (Z.take i) * y ∧ ∀ j, i ≤ j → dg Z' j = dg Z j
theorem CRel.next {w wr : World} {g y more : Nat} {R : List Value} {Z Z' : List Nat} {i a s k : Nat} (h0 : Z'.length = Z.length) (h1 : Dig Z') (h3 : RowT wr g Z' R) (h4 : w.grownBy wr (some g)) (h5 : val Z' + 18446744073709551616 ^ i * a = val Z + more + val (Z.take i) * y) (h6 : ∀ j, i ≤ j → dg Z' j = dg Z j)
    (hi : i < Z.length) (hs : s < 18446744073709551616) (hk : k < 18446744073709551616) (he : s + 18446744073709551616 * k = dg Z' i + dg Z' i * y + a) : CRel w g y more R Z (i + 1) k (wr.setCell ⟨g, i, none⟩ (.int .u64 (s : Nat))) :=
  ⟨Z'.set i s, by simpa using h0, h1.set hs, hk, h3.set _ (by omega) _, grown_trans h4 (grown_set _ _ _ _), by
    have e : dg Z' i = dg Z i := h6 i (Nat.le_refl _)
    rw [add_one (by omega) he h5, val_take_succ, Nat.add_mul, Nat.mul_assoc, e]; omega, fun j hj => by rw [dg_set_other (by omega)]; exact h6 j (by omega)⟩
set_option maxRecDepth 100000 in
set_option maxHeartbeats 1000000 in
theorem scale_own {B : Nat} (sv : Value) (z : List Nat) (y more : Nat) (w : World) (hO : w.ownsRow B 45 1 sv z.length (z.map fun d => Value.int .u64 (d : Nat))) (hdz : Dig z) (hy : y + 1 < 18446744073709551616) (hm : more < 18446744073709551616) (hn : z.length ≤ 4000000) :
    Calls Tryz.prog 119 #[sv, .int .u64 ((y : Int) + 1), .int .u64 (more : Nat)] w fun e w' => ∃ (z' : List Nat) (a : Nat), e = .returned (.int .u64 (a : Nat)) ∧ (z'.length = z.length ∧ Dig z' ∧ val z' + 18446744073709551616 ^ z.length * a = val z * (y + 1) + more ∧ a < 18446744073709551616 ∧ w'.ownsRow B 45 1 sv z'.length (z'.map fun d => Value.int .u64 (d : Nat))) ∧ w.grownBy w' sv.ownBlock := by
  have HO := Lib.hid hO
  rcases hO.2 with ⟨rfl, h0⟩ | ⟨g, cap, cur, rfl, hB, hh, hnc, hcm, hsz, htk⟩
  · obtain rfl := List.eq_nil_of_length_eq_zero h0
    clear hO hn h0
    go_enter Tryz.func119, Tryz.ntmps119
    go_wp2
    go_loopw [2, 14] (fun rv iv wr => iv = .int .i64 0 ∧ rv = .int .u64 (more : Nat) ∧ w = wr) (fun _ _ _ => 0)
    case atStart => exact ⟨rfl, rfl, rfl⟩
    case round =>
      obtain ⟨rfl, rfl, rfl⟩ := hrel
      go_wp2
      go_ret
      exact ⟨[], more, rfl, ⟨rfl, Dig.nil, by simp [val], hm, HO.out⟩, grown_refl _ _⟩
  · obtain ⟨n, hnl⟩ : ∃ n, z.length = n := ⟨_, rfl⟩
    have HN := Lib.hid hnl
    have hrow : RowT w g z (cur.toList.drop (z.length * 1)) := by
      unfold RowT
      rw [← htk, List.take_append_drop, Array.toArray_toList]
      exact hh
    have HR := Lib.hid (show n + (cur.toList.drop (z.length * 1)).length = cap by simp; omega)
    generalize cur.toList.drop (z.length * 1) = R at hrow HR
    have HS := Lib.hid (show CRel w g y more R z 0 more w from ⟨z, rfl, hdz, hm, hrow, grown_refl _ _, by simp [val], fun _ _ => rfl⟩)
    have hgl := hrow.row.lt
    unfold maxLen at hcm
    rw [hnl] at hnc hn ⊢
    clear hO hdz hrow hnl hh hsz htk cur
    go_enter Tryz.func119, Tryz.ntmps119
    go_wp2
    go_loopw [2, 14] (fun rv iv wr => ∃ i a : Nat, iv = .int .i64 i ∧ rv = .int .u64 a ∧ i ≤ n ∧ CRel w g y more R z i a wr) (fun _ iv _ => n - (intOf iv).toNat)
    case atStart => exact ⟨0, more, rfl, rfl, Nat.zero_le _, HS.out⟩
    case round =>
      obtain ⟨i, a, rfl, rfl, hi, hrel⟩ := hrel
      obtain ⟨Z', hl, hd, ha, hrow, hgr, hv, hup⟩ := hrel
      by_cases hlt : i < n
      · have c1 := hrow.row.cell i (by rw [hl, HN.out]; omega)
        have f1 := hrow.row.free i
        obtain ⟨h, l, s, k, r1, r2, hs, hk, he⟩ := sca_ex (dg Z' i) y a (dg_lt hd i) hy ha
        have HNX := Lib.hid (CRel.next hl hd hrow hgr hv hup (by rw [HN.out]; exact hlt) hs hk he)
        have R1 := Lib.hid r1
        generalize dg Z' i = d at c1 R1
        clear he hrow hgr hv hl hd HS r1 hup HO
        go_wp2_with (go_at_call 163; refine (R1.out _).mono ?_; rintro e w' ⟨rfl, rfl⟩)
        go_roundw
        case rel => exact ⟨i + 1, h + k, by go_num, by go_num, by omega, HNX.out⟩
        case measure => simp [intOf]; omega
      · obtain rfl : i = n := by omega
        have HV := Lib.hid hv
        clear hv HS hup
        go_wp2
        go_ret
        refine ⟨Z', a, rfl, ⟨by rw [hl, HN.out], hd, ?_, ha, ?_⟩, hgr⟩
        · have := HV.out
          rw [List.take_of_length_le (by rw [HN.out]; omega)] at this
          rw [this, Nat.mul_add]
          omega
        · have e : Z'.length = i := by rw [hl, HN.out]
          refine ⟨by simp, Or.inr ⟨g, cap, _, by rw [e], hB, hrow, by omega, by unfold maxLen; omega, ?_, ?_⟩⟩
          · have := HR.out
            simp
            omega
          · rw [Nat.mul_one]
            simp
end Go.Proofs.YtfpooimjjpamoaaGreatDoor.nat
namespace Go.Proofs.YtfpooimjjpamoaaGreatDoor.nat
open Go.RowKit
open Go.Proofs.YtfpooimjjpamoaaGreatDoor.ref (str str_size ch seg IsDig Numeral seg_lt seg_add)
theorem ch_part {l : List UInt8} {k m i : Nat} (h : i < m) : ch ((l.drop k).take m) i = ch l (k + i) := by
  unfold ch
  rw [List.getD_eq_getElem?_getD, List.getD_eq_getElem?_getD, List.getElem?_take_of_lt h, List.getElem?_drop]
theorem seg_part {l : List UInt8} {k m : Nat} : ∀ j, j ≤ m → seg ((l.drop k).take m) 0 j = seg l k j
  | 0, _ => rfl
  | j + 1, h => by rw [seg, seg, seg_part j (by omega), Nat.zero_add, ch_part (by omega)]
theorem str_extract (l : List UInt8) (m : Nat) : (str l).extract 0 m = str (l.take m) := by
  apply ByteArray.ext
  simp [str]
theorem str_from (l : List UInt8) (m : Nat) : (str l).extract m l.length = str (l.drop m) := by
  apply ByteArray.ext
  simp [str, List.take_of_length_le]
theorem scale_ten {B : Nat} (sv : Value) (z : List Nat) (more : Nat) (w : World) (hO : w.ownsRow B 45 1 sv z.length (z.map fun d => Value.int .u64 (d : Nat))) (hdz : Dig z) (hm : more < 18446744073709551616) (hn : z.length ≤ 4000000) :
    Calls Tryz.prog 119 #[sv, .int .u64 10000000000000000000, .int .u64 (more : Nat)] w fun e w' => ∃ (z' : List Nat) (a : Nat), e = .returned (.int .u64 (a : Nat)) ∧ (z'.length = z.length ∧ Dig z' ∧ val z' + 18446744073709551616 ^ z.length * a = val z * 10 ^ 19 + more ∧ a < 18446744073709551616 ∧ w'.ownsRow B 45 1 sv z'.length (z'.map fun d => Value.int .u64 (d : Nat))) ∧ w.grownBy w' sv.ownBlock := by
  have h := scale_own sv z 9999999999999999999 more w hO hdz (by omega) hm hn
  rw [show ((9999999999999999999 : Nat) : Int) + 1 = 10000000000000000000 from rfl, show 9999999999999999999 + 1 = 10 ^ 19 from rfl] at h
  exact h
def KRel (w : World) (l : List UInt8) (sv nv : Value) (wr : World) : Prop :=
  ∃ (k : Nat) (z : List Nat), sv = .string (str (l.drop k)) ∧ k ≤ l.length ∧ z.length ≤ k ∧ (k = 0 ∨ (l.length - k) % 19 = 0) ∧ wr.ownsRow w.heap.size 45 1 nv z.length (z.map fun d => Value.int .u64 (d : Nat)) ∧ Below w.heap.size w wr ∧ Dig z ∧ val z = seg l 0 k
theorem KRel.next {w wr : World} {l : List UInt8} {nv : Value} {k m n : Nat} {z z' : List Nat} {a : Nat} (hk : k + m ≤ l.length) (hm : 0 < m) (hz : z.length ≤ k) (hl : z'.length = z.length) (hd : Dig z') (ha : a < 18446744073709551616)
    (h1 : k = 0 ∨ m = 19) (h2 : (l.length - (k + m)) % 19 = 0) (hv : val z = seg l 0 k) (he : val z' + 18446744073709551616 ^ z.length * a = val z * 10 ^ 19 + seg l k m) (hn : n = z'.length + 1)
    (ho : wr.ownsRow w.heap.size 45 1 nv n ((z' ++ [a]).map fun d => Value.int .u64 (d : Nat))) (hb : Below w.heap.size w wr) : KRel w l (.string (str ((l.drop k).drop m))) nv wr := by
  refine ⟨k + m, z' ++ [a], by rw [List.drop_drop], hk, by simp; omega, Or.inr h2, by rw [show (z' ++ [a]).length = n by simp [hn]]; exact ho, hb, hd.append (Dig.nil.cons ha), ?_⟩
  rw [val_snoc, hl, he, seg_add, Nat.zero_add, hv]
  rcases h1 with rfl | rfl
  · simp [seg]
  · rfl
set_option maxRecDepth 100000 in
set_option maxHeartbeats 4000000 in
theorem Get_ok (l : List UInt8) (w : World) (h : Numeral l) :
    Calls Tryz.prog 44 #[.string (str l)] w fun e w' => ∃ v, e = .returned (.tuple #[v, .nilIface]) ∧ (IsN w' v (seg l 0 l.length) ∧ v ≠ .pointer none) ∧ Below w.heap.size w w' := by
  have hdec : (@decide (Numeral l) (Classical.propDecidable _)) = true := @decide_eq_true _ (Classical.propDecidable _) h
  have hNu := isNumber_any l w (by have := h.2.1; omega)
  rw [hdec] at hNu
  have HNu := Lib.hid hNu
  obtain ⟨h1, h2, h3, h4⟩ := h
  have HD := Lib.hid h4
  have hz : (str l).size = l.length := str_size l
  obtain ⟨n, hn⟩ : ∃ n, l.length = n := ⟨_, rfl⟩
  have HN := Lib.hid hn
  have HS := Lib.hid (show str l = str (l.drop 0) from rfl)
  rw [hn] at hz h1 h2
  generalize hs : str l = s at hz HNu HS
  clear hNu hdec h3 h4 hn hs
  obtain ⟨i0, hi0, hz0, hz1, hz2⟩ := info_parts infoU64
  obtain ⟨w1, hmk, hown, hgr⟩ := run_make_own (P := Tryz.prog) w w.heap.size 24 45 i0 (.int .u64 0) 1 Tryz.underlying24 hi0 hz0 hz1 .i64 .i64 (n / 19 + 1) (by rw [hz2]; omega) (by unfold maxLen; omega) (Nat.le_refl _)
  rw [show (((n / 19 + 1 : Nat)) : Int) = (n : Int) / 19 + 1 by omega] at hmk
  generalize hc : n / 19 + 1 = C at hmk hown
  have HK := Lib.hid (show KRel w l (.string s) (.slice (some ⟨w.heap.size, 0, none⟩) 0 C) w1 from ⟨0, [], by rw [HS.out], Nat.zero_le _, Nat.le_refl _, Or.inl rfl, hown, (Below.refl _ _).grown hgr (Nat.le_refl _) (fun k hk => by cases hk), Dig.nil, rfl⟩)
  clear hown hgr i0 hi0 hz0 hz1 hz2 hc
  go_enter Tryz.func44, Tryz.ntmps44
  go_wp2_with (go_at_call 118; refine (HNu.out).mono ?_; rintro e w1 ⟨rfl, rfl⟩)
  go_loopw [0, 4] (fun sv nv wr => KRel w l sv nv wr) (fun sv _ _ => match sv with | .string b => b.size | _ => 0)
  case atStart => exact HK.out
  case round =>
    obtain ⟨k, z, rfl, hk, hz1, h19, hown, hbe, hdz, hv⟩ := hrel
    have hsz : (str (l.drop k)).size = n - k := by rw [str_size, List.length_drop, HN.out]
    rw [HN.out] at hk h19
    by_cases hlt : k < n
    · obtain ⟨r, hr⟩ : ∃ r, r = n - k := ⟨_, rfl⟩
      obtain ⟨m, hm⟩ : ∃ m, m = (r - 1) % 19 + 1 := ⟨_, rfl⟩
      have hmi : ((r : Int) - 1) % 19 + 1 = (m : Int) := by omega
      have hkl : (l.drop k).length = r := by rw [List.length_drop, HN.out]; omega
      have hml : ((l.drop k).take m).length = m := by rw [List.length_take, hkl]; omega
      have hval := value_any ((l.drop k).take m) wr (by rw [hml]; omega) (fun i hi => by
        rw [hml] at hi
        unfold IsDig
        rw [ch_part hi]
        exact HD.out (k + i) (by rw [HN.out]; omega))
      rw [hml, seg_part m (Nat.le_refl _), ← str_extract] at hval
      have hvl := seg_lt (l := l) (st := k) (m := m) fun i h1 h2 => HD.out i (by rw [HN.out]; omega)
      have hp : 10 ^ m ≤ 10 ^ 19 := Nat.pow_le_pow_right (by omega) (by omega)
      have hvb : seg l k m < 18446744073709551616 := by omega
      have hfrom := str_from (l.drop k) m
      rw [hkl] at hfrom
      have HSc := Lib.hid (scale_ten u4 z (seg l k m) wr hown hdz hvb (by omega))
      have HNX := Lib.hid (fun nv n z' a wr' hl hd ha he hn ho hb => KRel.next (w := w) (wr := wr') (l := l) (nv := nv) (k := k) (m := m) (n := n) (z := z) (z' := z') (a := a) (by rw [HN.out]; omega) (by omega) hz1 hl hd ha (by omega) (by rw [HN.out]; omega) hv he hn ho hb)
      have HB := Lib.hid hbe
      have HZ := Lib.hid hz1
      have HVal := Lib.hid hval
      have HFrom := Lib.hid hfrom
      have hts : (str (l.drop k)).size = r := by rw [hsz, hr]
      have hr0 : (0 : Int) < (r : Int) := by omega
      have hmr : m ≤ r := by omega
      have hr4 : r ≤ 4000 := by omega
      have hr1 : (0 : Int) ≤ (r : Int) - 1 := by omega
      have hm19 : m ≤ 19 := by omega
      have hm0 : 0 < m := by omega
      generalize str (l.drop k) = t at *
      generalize seg l k m = v at *
      have HM := Lib.hid hm
      have HRr := Lib.hid hr
      clear hval hfrom hkl hml hv hown hbe hdz hvl hp hvb hsz hz1 h19 hm HK hmk HS hr
      have hwb := HB.out.size
      go_wp2_with (first
        | (go_at_call 120; with_reducible refine (HVal.out).mono ?_; rintro e w2 ⟨rfl, rfl⟩)
        | (go_at_call 119; with_reducible refine (HSc.out).mono ?_; rintro e w2 ⟨z', a, rfl, ⟨hl, hd, he, ha, ho⟩, hg⟩
           have HHg := Lib.hid hg
           have HL := Lib.hid hl
           have HD' := Lib.hid hd
           have HE := Lib.hid he
           have HA := Lib.hid ha
           have HO := Lib.hid ho
           have hb2 := HB.out.grown hg hwb (fun b hb => (World.ownsRow.lt ho b hb).1)
           have HB2 := Lib.hid hb2
           have hwb2 := hb2.size
           have HO2 := Lib.hid (ho.alloc (.cells #[Value.int .u64 (a : Nat)] 45))
           have HLit := Lib.hid (word_own (w := w2) (d := a) (B := w2.heap.size) (Nat.le_refl _)).rd
           clear hg hl hd he ha ho hb2 HSc)
        | (at_builtin; refine wpList_append_rd rfl _ _ rfl w.heap.size _ _ z' [a] rfl HO2.out rfl HLit.out ?c1 ?c2 ?_))
      case c1 => rw [HL.out]; have := HZ.out; simp; omega
      case c2 => simp; omega
      intro v' w3 hown hg3
      have hb3 := (HB2.out.alloc hwb2 (.cells #[Value.int .u64 (a : Nat)] 45)).grown hg3 (by simp; omega) (fun b hb => (World.ownsRow.lt HO2.out b hb).1)
      have HK3 := Lib.hid (HNX.out v' (z'.length + 1) z' a w3 HL.out HD'.out HA.out HE.out rfl (by simpa using hown) hb3)
      clear hown hg3 hb3 HLit HO2 HO HHg
      go_wp2
      refine ⟨?_, ?_⟩
      · have := HK3.out
        rw [← HFrom.out] at this
        exact this
      · simp [ByteArray.size_extract]
        omega
    · obtain rfl : k = n := by omega
      have HT := Lib.hid (own_any u4 z wr (Own.of_owns hown).rd hdz (by omega))
      have HV := Lib.hid hv
      have HB := Lib.hid hbe
      clear hv hbe hown hdz HK hmk h19
      have hts : (str (l.drop k)).size = 0 := by omega
      generalize str (l.drop k) = t at *
      clear hsz
      go_wp2_with (go_at_call 104; with_reducible refine (HT.out).mono ?_; rintro e w2 ⟨v, rfl, ⟨hi, hnv⟩, hb⟩; have HI := Lib.hid hi; have HNv := Lib.hid hnv; have HB2 := Lib.hid (below_trans' HB.out HB.out.size hb); clear hi hb hnv)
      go_ret2
      refine ⟨_, rfl, ⟨?_, HNv.out⟩, HB2.out⟩
      have := HI.out
      rw [HV.out] at this
      rw [HN.out]
      exact this
end Go.Proofs.YtfpooimjjpamoaaGreatDoor.nat
