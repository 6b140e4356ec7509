/-
  The steps of the walks, part 7: RefPow, RefText.
-/
import Derived.Laws.IdiomStrings
import Derived.Test.YtfpooimjjpamoaaGreatDoorF06
import Derived.Test.YtfpooimjjpamoaaGreatDoorS15
namespace Go.Proofs.YtfpooimjjpamoaaGreatDoor.ref
open Go.RowKit
open Classical in
noncomputable def numOf (w : World) (sv : Value) : Nat := if h : ∃ x, IsN w sv x then h.choose else 0
theorem numOf_eq {w : World} {sv : Value} {x : Nat} (h : IsN w sv x) : numOf w sv = x := by
  have hx : ∃ x, IsN w sv x := ⟨x, h⟩
  unfold numOf
  rw [dif_pos hx]
  exact IsN.inj hx.choose_spec h
theorem digs_nil {x : Nat} : digs x = [] ↔ x = 0 := by
  constructor
  · intro h
    have := congrArg val h
    rwa [val_digs] at this
  · rintro rfl
    exact digs_zero
def GcdRel (w : World) (x y : Nat) (av bv : Value) (wr : World) : Prop :=
  ∃ p q, IsN wr av p ∧ IsN wr bv q ∧ Nat.gcd p q = Nat.gcd x y ∧ (digs p).length ≤ 90000 ∧ (digs q).length ≤ 90000 ∧ Below w.heap.size w wr
set_option maxRecDepth 100000 in
set_option maxHeartbeats 4000000 in
theorem Gcd_any (a b : Value) (x y : Nat) (w : World) (ha : IsN w a x) (hb : IsN w b y) (hx : (digs x).length ≤ 90000) (hy : (digs y).length ≤ 90000) :
    Calls Tryz.prog 41 #[a, b] w fun e w' => ∃ sv, e = .returned sv ∧ IsN w' sv (Nat.gcd x y) ∧ Below w.heap.size w w' := by
  have HA := Lib.hid ha
  have HB := Lib.hid hb
  have HX := Lib.hid hx
  have HY := Lib.hid hy
  clear ha hb hx hy
  go_enter Tryz.func41, Tryz.ntmps41
  go_wp2
  go_loopw [0, 1] (fun av bv wr => GcdRel w x y av bv wr) (fun _ bv wr => numOf wr bv)
  case atStart => exact ⟨x, y, HA.out, HB.out, rfl, HX.out, HY.out, Below.refl _ _⟩
  case round =>
    obtain ⟨p, q, hp, hq, hg, hlp, hlq, hbe⟩ := hrel
    have HP := Lib.hid hp
    have HQ := Lib.hid hq
    have HG := Lib.hid hg
    have HLp := Lib.hid hlp
    have HLq := Lib.hid hlq
    have HBe := Lib.hid hbe
    obtain ⟨bo, bcap, rfl, ⟨b1, -⟩, b2, -⟩ := hq
    unfold maxLen at b2
    clear hp hg hlp hlq hbe
    by_cases h0 : q = 0
    · subst h0
      rw [show (digs 0).length = 0 from by rw [digs_zero]; rfl] at *
      go_wp2
      go_ret
      refine ⟨_, rfl, ?_, HBe.out⟩
      rw [← HG.out, Nat.gcd_zero_right]
      exact HP.out
    · have hqp : 0 < q := by omega
      have hl0 : 0 < (digs q).length := List.length_pos_iff.2 (fun h => h0 (digs_nil.1 h))
      have HDv := Lib.hid (Div_any _ _ p q _ HP.out HQ.out HLp.out HLq.out hqp)
      have hm : (digs (p % q)).length ≤ 90000 := Nat.le_trans (digs_mono (Nat.le_of_lt (Nat.mod_lt p hqp))) HLq.out
      have HMd := Lib.hid hm
      have HLt := Lib.hid (Nat.mod_lt p hqp)
      have HN := Lib.hid (numOf_eq HQ.out)
      clear hm
      generalize hnq : (digs q).length = nq at *
      have HNq := Lib.hid hnq
      clear hnq
      go_wp2_with (go_at_call 34; refine (HDv.out).mono ?_; rintro e' w1 ⟨qv, rv, rfl, -, hr, hb1⟩; have HR := Lib.hid hr; have HB1 := Lib.hid hb1; clear hr hb1 HDv)
      go_roundw
      case rel => exact ⟨q, p % q, HQ.out.below HB1.out, HR.out, by rw [← HG.out, Nat.gcd_comm p q, Nat.gcd_rec q p, Nat.gcd_comm], by rw [HNq.out]; exact HLq.out, HMd.out, HBe.out.trans (HB1.out.mono HBe.out.size)⟩
      case measure =>
        show numOf w1 rv < numOf _ _
        rw [numOf_eq HR.out, HN.out]
        exact HLt.out
def PowRel (w : World) (x K : Nat) (ov iv : Value) (wr : World) : Prop :=
  ∃ i : Nat, i ≤ K ∧ iv = .int .i64 i ∧ IsN wr ov (x ^ i) ∧ Below w.heap.size w wr
set_option maxRecDepth 100000 in
set_option maxHeartbeats 4000000 in
theorem Pow_any (a : Value) (x : Nat) (k : Int) (hk : k ≤ 1000000) (w : World) (ha : IsN w a x) (hx : (digs x).length ≤ 100000) (hl : ∀ i, i ≤ k.toNat → (digs (x ^ i)).length ≤ 100000) :
    Calls Tryz.prog 87 #[a, .int .i64 k] w fun e w' => ∃ sv, e = .returned sv ∧ IsN w' sv (x ^ k.toNat) ∧ Below w.heap.size w w' := by
  have HA := Lib.hid ha
  have HX := Lib.hid hx
  have HL := Lib.hid hl
  have HO := Lib.hid (OfU_int 1 1 rfl (by decide) w)
  clear ha hx hl
  go_enter Tryz.func87, Tryz.ntmps87
  go_wp2_with (go_at_call 48; refine (HO.out).mono ?_; rintro e' w1 ⟨sv, rfl, hs, hb1⟩; have HS := Lib.hid hs; have HB1 := Lib.hid hb1; clear hs hb1 HO)
  go_loopw [5, 6] (fun ov iv wr => PowRel w x k.toNat ov iv wr) (fun _ iv _ => k.toNat - (intOf iv).toNat)
  case atStart => exact ⟨0, Nat.zero_le _, rfl, HS.out, HB1.out⟩
  case round =>
    obtain ⟨i, hi, rfl, ho, hbe⟩ := hrel
    have HOo := Lib.hid ho
    have HBe := Lib.hid hbe
    clear ho hbe
    by_cases h0 : (i : Int) < k
    · have HM := Lib.hid (Mul_any _ a (x ^ i) x _ HOo.out (HA.out.below HBe.out) (HL.out i (by omega)) HX.out)
      go_wp2_with (go_at_call 38; refine (HM.out).mono ?_; rintro e' w2 ⟨pv, rfl, hp, hb2⟩; have HP := Lib.hid hp; have HB2 := Lib.hid hb2; clear hp hb2 HM)
      go_roundw
      case rel => exact ⟨i + 1, by omega, by go_num, by rw [Nat.pow_succ]; exact HP.out, HBe.out.trans (HB2.out.mono HBe.out.size)⟩
      case measure => simp [intOf]; omega
    · go_wp2
      go_ret
      refine ⟨_, rfl, ?_, HBe.out⟩
      rw [show k.toNat = i from by omega]
      exact HOo.out
end Go.Proofs.YtfpooimjjpamoaaGreatDoor.ref
namespace Go.Proofs.YtfpooimjjpamoaaGreatDoor.ref
open Go.RowKit
theorem conv_one (w : World) (z : Int) (n : Nat) (hz : z = (n : Nat)) (hn : n < 256) :
    (convert 119 9 (.slice (some ⟨w.heap.size, 0, none⟩) 1 1)).run Tryz.prog (w.alloc (.cells #[.int .u8 z] 5)) = .ok (.string (str [UInt8.ofNat n])) (w.alloc (.cells #[.int .u8 z] 5)) := by
  have h := run_convert_bytes_back (P := Tryz.prog) (w.alloc (.cells #[.int .u8 z] 5)) 119 9 5 ⟨w.heap.size, 0, none⟩ 1 [UInt8.ofNat n] Tryz.underlying119 Tryz.underlying5 Tryz.underlying9 (fun j hj => by
    obtain rfl : j = 0 := by simpa using hj
    have h2 : (⟨w.heap.size, 0, none⟩ : Addr).add 0 = ⟨w.heap.size, 0, none⟩ := rfl
    rw [h2, cell_of_row _ w.heap.size 0 #[.int .u8 z] 5 (0, 0) (heap_alloc_new w _)]
    subst hz
    simp [Nat.mod_eq_of_lt hn])
  exact h
def TRel (w : World) (x n : Nat) (sv iv : Value) (wr : World) : Prop :=
  ∃ i : Nat, i ≤ n ∧ iv = .int .i64 i ∧ sv = .string (str (pad (9 * i) (val ((digs x).take i)))) ∧ Below w.heap.size w wr
def TIn (w : World) (d : Nat) (l : List UInt8) (sv dv kv : Value) (wr : World) : Prop :=
  ∃ k : Nat, k ≤ 9 ∧ kv = .int .i64 k ∧ dv = .int .u64 (d / 10 ^ k : Nat) ∧ sv = .string (str (pad k d ++ l)) ∧ Below w.heap.size w wr
def T3 (w : World) (x n : Nat) (sv : Value) (wr : World) : Prop :=
  ∃ m : Nat, m ≤ 9 * n ∧ x < 10 ^ m ∧ sv = .string (str (pad m x)) ∧ Below w.heap.size w wr
def sizeOf' : Value → Nat
  | .string s => s.size
  | _ => 0
set_option maxRecDepth 100000 in
set_option maxHeartbeats 8000000 in
theorem Text_any (a : Value) (x : Nat) (w : World) (ha : IsN w a x) (hx : (digs x).length ≤ 100000) :
    Calls Tryz.prog 32 #[a] w fun e w' => e = .returned (.string (str (Lib.decDigits x))) ∧ Below w.heap.size w w' := by
  have HA := Lib.hid ha
  obtain ⟨ao, acap, rfl, ⟨a1, -⟩, a2, a3⟩ := ha
  unfold maxLen at a2
  have HA3 := Lib.hid a3
  generalize hna : (digs x).length = na at *
  have HNa := Lib.hid hna
  clear hna a3
  go_enter Tryz.func32, Tryz.ntmps32
  go_wp2
  go_loopw [3, 4] (fun sv iv wr => TRel w x na sv iv wr) (fun _ iv _ => na - (intOf iv).toNat)
  case atStart => exact ⟨0, Nat.zero_le _, rfl, rfl, Below.refl _ _⟩
  case round =>
    obtain ⟨i, hi, rfl, rfl, hbe⟩ := hrel
    have HBe := Lib.hid hbe
    clear hbe
    by_cases hlt : i < na
    · obtain ⟨ga, rfl, ca⟩ := HA3.out.resolve_left (fun h => by have := HNa.out; rw [h] at this; simp at this; omega)
      have c1 := (HBe.out.cell (p := ⟨ga, i, none⟩) (cell_lt (ca i hlt))).trans (ca i hlt)
      have d1 := dg_lt (norm_digs x).1 i
      clear ca
      generalize hdd : dg (digs x) i = d at c1 d1
      have HDD := Lib.hid hdd
      clear hdd
      generalize hll : pad (9 * i) (val ((digs x).take i)) = l at *
      have HLl := Lib.hid hll
      clear hll
      go_wp2
      go_loopw [3, 5, 6] (fun sv dv kv wi => TIn w d l sv dv kv wi) (fun _ _ kv _ => 9 - (intOf kv).toNat)
      case atStart => exact ⟨0, Nat.zero_le _, rfl, by simp, rfl, HBe.out⟩
      case round =>
        obtain ⟨k, hk, rfl, rfl, rfl, hb2⟩ := hrel
        have HB2 := Lib.hid hb2
        clear hb2
        by_cases h9 : k < 9
        · have heb : d / 10 ^ k < 1000000000 := Nat.lt_of_le_of_lt (Nat.div_le_self _ _) d1
          have hd2 : d / 10 ^ (k + 1) = d / 10 ^ k / 10 := by rw [Nat.pow_succ, Nat.div_div_eq_div_mul]
          have hs2 : str [UInt8.ofNat (48 + d / 10 ^ k % 10)] ++ str (pad k d ++ l) = str (pad (k + 1) d ++ l) := by rw [str_append, pad_cons]; rfl
          have hz0 : (str (pad k d ++ l)).size = k + 9 * i := by rw [str_size, List.length_append, pad_length, ← HLl.out, pad_length]
          generalize he : d / 10 ^ k = e at *
          have HC := Lib.hid (conv_one wr (48 + (e : Int) % 10) (48 + e % 10) (by omega) (by omega))
          have hz1 : (str [UInt8.ofNat (48 + e % 10)]).size = 1 := rfl
          generalize str [UInt8.ofNat (48 + e % 10)] = s1 at *
          generalize str (pad k d ++ l) = s0 at *
          have hz : ¬ 9223372036854775807 < s1.size + s0.size := by omega
          have HS2 := Lib.hid hs2
          have HD2 := Lib.hid hd2
          have hc := HC.out
          clear he hd2 hs2 HC hz0 hz1
          go_wp2
          go_roundw
          case rel => exact ⟨k + 1, by omega, by go_num, by rw [HD2.out]; go_num, by rw [HS2.out], HB2.out.alloc HB2.out.size _⟩
          case measure => simp [intOf]; omega
        · obtain rfl : k = 9 := by omega
          go_wp2
          go_roundw
          case rel =>
            refine ⟨i + 1, by omega, by go_num, ?_, HB2.out⟩
            rw [val_take_succ, HDD.out, pow_nine, show 9 * (i + 1) = 9 + 9 * i by omega, pad_append (9 * i) 9 _ _ (by
              have h1 := val_lt ((norm_digs x).1.take i)
              rw [List.length_take, HNa.out, Nat.min_eq_left (by omega), pow_nine] at h1
              exact h1), HLl.out]
          case measure => simp [intOf]; omega
    · obtain rfl : i = na := by omega
      go_wp2
      go_loopw [3] (fun sv wi => T3 w x i sv wi) (fun sv wi => sizeOf' sv)
      case atStart =>
        refine ⟨9 * i, by omega, ?_, ?_, HBe.out⟩
        · have h1 := val_lt (norm_digs x).1
          rw [val_digs, HNa.out, pow_nine] at h1
          exact h1
        · rw [List.take_of_length_le (by rw [HNa.out]; exact Nat.le_refl _), val_digs]
      case round =>
        obtain ⟨m, hm, hxm, rfl, hb3⟩ := hrel
        have HB3 := Lib.hid hb3
        clear hb3
        rcases m with _ | m
        · obtain rfl : x = 0 := by simpa using hxm
          have hs : str (pad 0 0) = ⟨#[]⟩ := rfl
          rw [hs]
          go_wp2
          go_ret
          exact ⟨by rw [Lib.decDigits_one (by omega)]; rfl, HB3.out⟩
        · have hz : (str (pad (m + 1) x)).size = m + 1 := by rw [str_size, pad_length]
          have hem : (str (pad (m + 1) x)).toList.isEmpty = false := by
            rw [ByteArray.toList_eq, pad_cons]
            rfl
          by_cases hm0 : m = 0
          · subst hm0
            have he := Lib.hid (congrArg str (pad_dec 0 x hxm (Or.inl rfl)))
            generalize str (pad (0 + 1) x) = s at *
            go_wp2
            go_ret
            exact ⟨by rw [he.out]; rfl, HB3.out⟩
          · obtain ⟨m', rfl⟩ : ∃ m', m = m' + 1 := ⟨m - 1, by omega⟩
            have ht := str_tail (UInt8.ofNat (48 + x / 10 ^ (m' + 1) % 10)) (pad (m' + 1) x)
            have hg : ∀ h : 0 < (str (pad (m' + 1 + 1) x)).size, ((str (pad (m' + 1 + 1) x))[0]'h).toNat = (UInt8.ofNat (48 + x / 10 ^ (m' + 1) % 10)).toNat := by
              rw [pad_cons (m' + 1)]
              intro h
              rfl
            rw [← pad_cons] at ht
            by_cases hh : x < 10 ^ (m' + 1)
            · rw [Nat.div_eq_of_lt hh] at hg
              have HT := Lib.hid ht
              have HH := Lib.hid hh
              generalize hss : str (pad (m' + 1 + 1) x) = s at *
              have HSs := Lib.hid hss
              have hg' : ∀ h : 0 < s.size, (s[0]'h).toNat = 48 := hg
              clear ht hh hg hxm hss hm0
              go_wp2
              go_roundw
              case rel => exact ⟨m' + 1, by omega, HH.out, by rw [← hz, HT.out], HB3.out⟩
              case measure => simp [sizeOf']; omega
            · have he := Lib.hid (congrArg str (pad_dec (m' + 1) x hxm (Or.inr (by omega))))
              have hne := pad_head hxm (by omega)
              generalize (UInt8.ofNat (48 + x / 10 ^ (m' + 1) % 10)).toNat = c at *
              have hcb : ((c : Int) == 48) = false := by simp; omega
              generalize str (pad (m' + 1 + 1) x) = s at *
              clear ht hh hxm hm0
              go_wp2
              go_ret
              exact ⟨by rw [he.out]; rfl, HB3.out⟩
end Go.Proofs.YtfpooimjjpamoaaGreatDoor.ref
