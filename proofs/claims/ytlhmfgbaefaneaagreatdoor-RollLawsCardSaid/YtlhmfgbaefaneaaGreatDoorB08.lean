/-
  The steps of the walks, part 8: Len, Core, Loops, SubFrom, Make, Sum, Prod1, Short.
-/
import Derived.Laws.CopyOwn
import Derived.Laws.AppendOwnNone
import Derived.Lib.SliceRun
import Derived.Test.YtlhmfgbaefaneaaGreatDoorB02
import Derived.Test.YtlhmfgbaefaneaaGreatDoorB07
namespace Go.Proofs.YtlhmfgbaefaneaaGreatDoor.nat
open Go.RowKit Go.Lib
theorem bits_le (x : Nat) (h : x < 18446744073709551616) : Lib.bitLen x ≤ 64 := Lib.bitLen_le x 64 (by omega) h
theorem bits_lt : ∀ (n x : Nat), x < 18446744073709551616 → Lib.bitLen x = n → x < 2 ^ n ∧ (x ≠ 0 → 0 < n ∧ 2 ^ n ≤ 2 * x)
  | n, x, h, hn => by
    by_cases h0 : x = 0
    · subst h0
      exact ⟨Nat.pow_pos (by omega), fun h => absurd rfl h⟩
    · have hb := Lib.bitLen_half x h0 h
      rw [hn] at hb
      obtain ⟨m, rfl⟩ : ∃ m, n = m + 1 := ⟨n - 1, by omega⟩
      have ih := bits_lt m (x / 2) (by omega) (by omega)
      have e : 2 ^ (m + 1) = 2 * 2 ^ m := by rw [Nat.pow_succ]; omega
      rw [e]
      refine ⟨by omega, fun _ => ⟨by omega, ?_⟩⟩
      by_cases h1 : x / 2 = 0
      · have hz : Lib.bitLen (x / 2) = 0 := by rw [h1]; rfl
        have : m = 0 := by omega
        subst this
        simp
        omega
      · have := (ih.2 h1).2
        omega
termination_by n => n
theorem Lead64_any (x : Nat) (w : World) (h : x < 18446744073709551616) (h0 : x ≠ 0) :
    Calls Tryz.prog 258 #[.int .u64 (x : Int)] w fun e w' => ∃ s : Nat, e = .returned (.int .i64 (s : Int)) ∧ (s ≤ 63 ∧ x * 2 ^ s < 18446744073709551616 ∧ 9223372036854775808 ≤ x * 2 ^ s) ∧ w = w' := by
  have l := bits_le x h
  obtain ⟨b1, b2⟩ := bits_lt _ x h rfl
  obtain ⟨b3, b4⟩ := b2 h0
  have key : x * 2 ^ (64 - Lib.bitLen x) < 18446744073709551616 ∧ 9223372036854775808 ≤ x * 2 ^ (64 - Lib.bitLen x) := by
    have e : 2 ^ Lib.bitLen x * 2 ^ (64 - Lib.bitLen x) = 18446744073709551616 := by rw [← Nat.pow_add, Nat.add_sub_cancel' l]
    constructor
    · rw [← e]; exact Nat.mul_lt_mul_of_pos_right b1 (Nat.pow_pos (by omega))
    · have := Nat.mul_le_mul_right (2 ^ (64 - Lib.bitLen x)) b4
      rw [e, Nat.mul_assoc] at this
      omega
  have HK := Lib.hid key
  have HL := Lib.hid l
  have H3 := Lib.hid b3
  obtain ⟨n, hn⟩ : ∃ n, Lib.bitLen x = n := ⟨_, rfl⟩
  have e8 : (Lib.bitLen ((x : Int).toNat) : Int) = n := by simp [hn]
  rw [hn] at l b3
  clear key b1 b2 b4
  go_enter Tryz.func258, Tryz.ntmps258
  go_wp2_with (go_at_call 268; refine (Len64_any x _ (by omega) (by omega)).mono ?_; rintro e w' ⟨rfl, rfl⟩)
  go_ret
  refine ⟨64 - n, ?_, ⟨by omega, ?_⟩, rfl⟩
  · show Ending.returned (Value.int .i64 (64 - (n : Int))) = _
    rw [show ((64 - n : Nat) : Int) = 64 - (n : Int) by omega]
  · rw [← hn]
    exact HK.out
theorem Lead64_ex (x : Nat) (h : x < 18446744073709551616) (h0 : x ≠ 0) : ∃ s : Nat, (s ≤ 63 ∧ x * 2 ^ s < 18446744073709551616 ∧ 9223372036854775808 ≤ x * 2 ^ s) ∧
    ∀ w, Calls Tryz.prog 258 #[.int .u64 (x : Int)] w fun e w' => e = .returned (.int .i64 (s : Int)) ∧ w' = w := by
  have uniq : ∀ a b : Nat, 9223372036854775808 ≤ x * 2 ^ a → x * 2 ^ b < 18446744073709551616 → b ≤ a := by
    intro a b h1 h2
    rcases Nat.lt_or_ge a b with h | h
    · have h3 : 2 * 2 ^ a ≤ 2 ^ b := by
        have : 2 ^ (a + 1) ≤ 2 ^ b := Nat.pow_le_pow_right (by omega) h
        rw [Nat.pow_succ] at this
        omega
      have h4 := Nat.mul_le_mul_left x h3
      rw [Nat.mul_left_comm] at h4
      omega
    · exact h
  obtain ⟨b1, b2⟩ := bits_lt _ x h rfl
  obtain ⟨b3, b4⟩ := b2 h0
  have l := bits_le x h
  have e : 2 ^ Lib.bitLen x * 2 ^ (64 - Lib.bitLen x) = 18446744073709551616 := by rw [← Nat.pow_add, Nat.add_sub_cancel' l]
  have k1 : x * 2 ^ (64 - Lib.bitLen x) < 18446744073709551616 := by
    rw [← e]; exact Nat.mul_lt_mul_of_pos_right b1 (Nat.pow_pos (by omega))
  have k2 : 9223372036854775808 ≤ x * 2 ^ (64 - Lib.bitLen x) := by
    have := Nat.mul_le_mul_right (2 ^ (64 - Lib.bitLen x)) b4
    rw [e, Nat.mul_assoc] at this
    omega
  refine ⟨64 - Lib.bitLen x, ⟨by omega, k1, k2⟩, fun w => (Lead64_any x w h h0).mono ?_⟩
  rintro e' w' ⟨s, rfl, ⟨_, h5, h6⟩, rfl⟩
  have := uniq s (64 - Lib.bitLen x) h6 k1
  have := uniq (64 - Lib.bitLen x) s k2 h5
  obtain rfl : s = 64 - Lib.bitLen x := by omega
  exact ⟨rfl, rfl⟩
theorem Len_any (x : Nat) (w : World) (h : x < 18446744073709551616) :
    Calls Tryz.prog 237 #[.int .u64 (x : Int)] w fun e w' => ∃ n : Nat, e = .returned (.int .i64 (n : Int)) ∧ (n ≤ 64 ∧ x < 2 ^ n ∧ (x ≠ 0 → 0 < n ∧ 2 ^ n ≤ 2 * x)) ∧ w = w' := by
  go_enter Tryz.func237, Tryz.ntmps237
  go_wp2_with (go_at_call 268; refine (Len64_any x _ (by omega) (by omega)).mono ?_; rintro e w' ⟨rfl, rfl⟩)
  go_ret
  exact ⟨Lib.bitLen x, by simp, ⟨bits_le x h, bits_lt _ x h rfl⟩, rfl⟩
theorem Len64_ex (x : Nat) (w : World) (h : x < 18446744073709551616) :
    Calls Tryz.prog 268 #[.int .u64 (x : Int)] w fun e w' => ∃ n : Nat, e = .returned (.int .i64 (n : Int)) ∧ (n ≤ 64 ∧ x < 2 ^ n ∧ (x ≠ 0 → 0 < n ∧ 2 ^ n ≤ 2 * x)) ∧ w = w' :=
  (Len64_any x w (by omega) (by omega)).mono fun _ _ ⟨he, hw⟩ => ⟨Lib.bitLen x, by rw [he]; simp, ⟨bits_le x h, bits_lt _ x h rfl⟩, hw.symm⟩
end Go.Proofs.YtlhmfgbaefaneaaGreatDoor.nat
namespace Go.Proofs.YtlhmfgbaefaneaaGreatDoor.nat
open Go.RowKit
set_option maxRecDepth 100000 in
set_option maxHeartbeats 1000000 in
theorem trim_at (ao : Option Addr) (cap : Nat) (l : List Nat) (w : World) (h : Rd w (.slice ao l.length cap) l) (hs : l.length ≤ 4000000) :
    Calls Tryz.prog 209 #[.slice ao l.length cap] w fun e w' => ∃ k, e = .returned (.slice ao k cap) ∧ (k ≤ l.length ∧ val (l.take k) = val l ∧ (Dig l → Norm (l.take k))) ∧ w = w' := by
  have H := Lib.hid h
  obtain ⟨ao', cap', he, ⟨h1, h4⟩, h2, h3⟩ := h
  simp only [Value.slice.injEq, true_and] at he
  obtain ⟨rfl, rfl⟩ := he
  unfold maxLen at h2
  obtain ⟨N, hN⟩ : ∃ N, l.length = N := ⟨_, rfl⟩
  have HN := Lib.hid hN
  rw [hN] at h1 hs ⊢
  rw [hN] at h3
  have HH := Lib.hid h3
  have H4 := Lib.hid h4
  clear h3 h4 hN
  go_enter Tryz.func209, Tryz.ntmps209
  go_wp2
  go_loopw [3] (fun n wr => w = wr ∧ ∃ k : Nat, n = .int .i64 k ∧ k ≤ N ∧ val (l.take k) = val l) (fun n _ => (intOf n).toNat)
  case atStart => exact ⟨rfl, N, rfl, Nat.le_refl _, by rw [← HN.out, List.take_length]⟩
  case round =>
    obtain ⟨rfl, k, rfl, hk, hv⟩ := hrel
    have HV := Lib.hid hv
    clear hv
    by_cases hk0 : k = 0
    · subst hk0
      rcases ao with _ | ⟨g, off, sp⟩
      · obtain rfl := H4.out rfl
        go_wp2
        go_ret
        exact ⟨0, rfl, ⟨Nat.zero_le _, HV.out, fun _ => by simpa using Norm.nil⟩, rfl⟩
      · go_wp2
        all_goals go_ret
        all_goals exact ⟨0, rfl, ⟨Nat.zero_le _, HV.out, fun _ => by simpa using Norm.nil⟩, rfl⟩
    · have hk1 : 0 < k := by omega
      obtain ⟨g, off, rfl, hc⟩ := HH.out.resolve_left (by rintro rfl; have := HN.out; simp at this; omega)
      have HC := Lib.hid hc
      have c1 := hc (k - 1) (by omega)
      clear hc
      obtain ⟨d, hd⟩ : ∃ d, dg l (k - 1) = d := ⟨_, rfl⟩
      rw [hd] at c1
      have e1 : ((off : Int) + ((k : Int) - 1)).toNat = off + (k - 1) := by omega
      have e2 : ((k : Int) - 1).toNat = k - 1 := by omega
      have HD := Lib.hid hd
      clear hd
      by_cases h0 : d = 0
      · subst h0
        go_wp2
        go_roundw
        case rel =>
          refine ⟨trivial, k - 1, by go_num, by omega, ?_⟩
          rw [← HV.out, show l.take k = l.take (k - 1 + 1) by congr 1; omega, take_dg l (k - 1) (by rw [HN.out]; omega), val_snoc, HD.out]
          omega
        case measure => simp [intOf]; omega
      · have hb : ((d : Int) == 0) = false := by simp; omega
        go_wp2
        all_goals go_ret
        all_goals exact ⟨k, rfl, ⟨hk, HV.out, fun hdg => norm_of_top (hdg.take _) (fun _ => by
          rw [List.length_take, HN.out, Nat.min_eq_left hk, dg_take (by omega), HD.out]; exact h0)⟩, rfl⟩
theorem trim_rd (sv : Value) (l : List Nat) (w : World) (h : Rd w sv l) (hs : l.length ≤ 4000000) (hd : Dig l) :
    Calls Tryz.prog 209 #[sv] w fun e w' => ∃ sv', e = .returned sv' ∧ (Rd w sv' (digs (val l)) ∧ (∀ B, Own w B sv l → Own w B sv' (digs (val l))) ∧ (digs (val l)).length ≤ l.length) ∧ w = w' := by
  have h' := h
  obtain ⟨ao, cap, rfl, ⟨h1, h4⟩, h2, h3⟩ := h'
  refine (trim_at ao cap l w h hs).mono ?_
  rintro e w' ⟨k, rfl, ⟨hk, hv, hn⟩, rfl⟩
  have hn := hn hd
  have he : l.take k = digs (val l) := by rw [← hv]; exact hn.eq_digs
  have hkl : (digs (val l)).length = k := by rw [← he, List.length_take, Nat.min_eq_left hk]
  refine ⟨_, rfl, ⟨⟨ao, cap, by rw [hkl], ⟨by omega, h4⟩, h2, ?_⟩, fun B hO => ?_, by omega⟩, rfl⟩
  · rcases h3 with rfl | ⟨g, off, hg, hc⟩
    · left; rw [← he]; simp
    · right
      refine ⟨g, off, hg, fun j hj => ?_⟩
      rw [hc j (by omega), ← he, dg_take (by omega)]
  · obtain ⟨ao', cap', he', h5, h6, h7⟩ := hO
    simp only [Value.slice.injEq, true_and] at he'
    obtain ⟨rfl, rfl⟩ := he'
    refine ⟨ao, cap, by rw [hkl], ⟨by omega, h4⟩, h2, ?_⟩
    rcases h7 with rfl | ⟨g, hg, hB, hr⟩
    · left; rw [← he]; simp
    · right
      refine ⟨g, hg, hB, ?_⟩
      rw [← he]
      exact hr.take _
theorem trim_own {B : Nat} (sv : Value) (l : List Nat) (w : World) (h : Own w B sv l) (hs : l.length ≤ 4000000) (hd : Dig l) :
    Calls Tryz.prog 209 #[sv] w fun e w' => ∃ sv', e = .returned sv' ∧ Own w' B sv' (digs (val l)) ∧ w = w' := by
  refine (trim_rd sv l w h.rd hs hd).mono ?_
  rintro e w' ⟨sv', rfl, ⟨-, h2, -⟩, rfl⟩
  exact ⟨sv', rfl, h2 B h, rfl⟩
theorem cmp3_lt {x y : Int} (h : x < y) : cmp3 x y = -1 := by simp [cmp3, h]
theorem cmp3_gt {x y : Int} (h : y < x) : cmp3 x y = 1 := by simp only [cmp3]; rw [if_neg (by omega), if_pos h]
theorem cmp3_eq (x : Int) : cmp3 x x = 0 := by simp [cmp3]
set_option maxRecDepth 100000 in
set_option maxHeartbeats 1000000 in
theorem compare_any (a b : Value) (x y : List Nat) (w : World) (ha : Rd w a x) (hb : Rd w b y) (hx : Norm x) (hy : Norm y) (hs : x.length ≤ 4000000) (ht : y.length ≤ 4000000) :
    Calls Tryz.prog 170 #[a, b] w fun e w' => e = .returned (.int .i64 (cmp3 (val x : Nat) (val y : Nat))) ∧ ∃ m, w' = w.drewN m := by
  obtain ⟨ao, cap, rfl, ⟨h1, h4⟩, h2, h3⟩ := ha
  obtain ⟨bo, bcap, rfl, ⟨k1, k4⟩, k2, k3⟩ := hb
  obtain ⟨N, hN⟩ : ∃ N, x.length = N := ⟨_, rfl⟩
  obtain ⟨M, hM⟩ : ∃ M, y.length = M := ⟨_, rfl⟩
  have HN := Lib.hid hN
  have HM := Lib.hid hM
  have HX := Lib.hid hx
  have HY := Lib.hid hy
  have H3 := Lib.hid h3
  have K3 := Lib.hid k3
  unfold maxLen at h2 k2
  rw [hN] at h1 hs ⊢
  rw [hM] at k1 ht ⊢
  clear h3 k3 hx hy hN hM h4 k4
  rcases (show N < M ∨ M < N ∨ N = M by omega) with h | h | h
  · have hv := HX.out.short HY.out (by rw [HN.out, HM.out]; exact h)
    have HV := Lib.hid hv
    clear hv
    have hb : ((N : Int) == M) = false := by simp; omega
    have hc := Lib.hid (cmp3_lt (show (N : Int) < M by omega))
    go_enter Tryz.func170, Tryz.ntmps170
    go_wp2_with (go_at_call 132; refine (CmpI_any _ _ _).mono ?_; rintro e w' ⟨rfl, rfl⟩)
    go_ret
    refine ⟨?_, 0, rfl⟩
    rw [cmp3_lt (show ((val x : Nat) : Int) < (val y : Nat) by have := HV.out; omega)]
    show Ending.returned (Value.int .i64 (cmp3 N M)) = _
    rw [hc.out]
  · have hv := HY.out.short HX.out (by rw [HN.out, HM.out]; exact h)
    have HV := Lib.hid hv
    clear hv
    have hb : ((N : Int) == M) = false := by simp; omega
    have hc := Lib.hid (cmp3_gt (show (M : Int) < N by omega))
    go_enter Tryz.func170, Tryz.ntmps170
    go_wp2_with (go_at_call 132; refine (CmpI_any _ _ _).mono ?_; rintro e w' ⟨rfl, rfl⟩)
    go_ret
    refine ⟨?_, 0, rfl⟩
    rw [cmp3_gt (show ((val y : Nat) : Int) < (val x : Nat) by have := HV.out; omega)]
    show Ending.returned (Value.int .i64 (cmp3 N M)) = _
    rw [hc.out]
  · subst h
    go_enter Tryz.func170, Tryz.ntmps170
    go_wp2
    go_loopw [5] (fun n wr => (∃ m, wr = w.drewN m) ∧ ∃ k : Nat, n = .int .i64 ((k : Int) - 1) ∧ k ≤ N ∧ x.drop k = y.drop k) (fun n _ => (intOf n + 1).toNat)
    case atStart => exact ⟨⟨0, rfl⟩, N, rfl, Nat.le_refl _, by rw [List.drop_eq_nil_of_le (by rw [HN.out]; omega), List.drop_eq_nil_of_le (by rw [HM.out]; omega)]⟩
    case round =>
      obtain ⟨⟨m, rfl⟩, k, rfl, hk, hdr⟩ := hrel
      have HD := Lib.hid hdr
      clear hdr
      by_cases hk0 : k = 0
      · subst hk0
        go_wp2
        go_ret
        have : x = y := by simpa using HD.out
        rw [this, cmp3_eq]
        exact ⟨rfl, m, rfl⟩
      · have hk1 : 0 < k := by omega
        obtain ⟨g, off, rfl, hc⟩ := H3.out.resolve_left (by rintro rfl; have := HN.out; simp at this; omega)
        obtain ⟨g', off', rfl, hc'⟩ := K3.out.resolve_left (by rintro rfl; have := HM.out; simp at this; omega)
        have c1 := hc (k - 1) (by rw [HN.out]; omega)
        have c2 := hc' (k - 1) (by rw [HM.out]; omega)
        have D1 := dg_lt HX.out.1 (k - 1)
        have D2 := dg_lt HY.out.1 (k - 1)
        clear hc hc'
        obtain ⟨d, hd⟩ : ∃ d, dg x (k - 1) = d := ⟨_, rfl⟩
        obtain ⟨d', hd'⟩ : ∃ d, dg y (k - 1) = d := ⟨_, rfl⟩
        rw [hd] at c1 D1
        rw [hd'] at c2 D2
        have e1 : ((off : Int) + ((k : Int) - 1)).toNat = off + (k - 1) := by omega
        have e1' : ((off' : Int) + ((k : Int) - 1)).toNat = off' + (k - 1) := by omega
        have e2 : ((k : Int) - 1).toNat = k - 1 := by omega
        have e3 : (k : Int) - 1 < (N : Int) := by omega
        have e4 : (0 : Int) ≤ (k : Int) - 1 := by omega
        have HDd := Lib.hid hd
        have HDd' := Lib.hid hd'
        have HE : RowKit.Hid (x.drop (k - 1 + 1) = y.drop (k - 1 + 1)) := by rw [show k - 1 + 1 = k by omega]; exact HD
        clear hd hd'
        by_cases h0 : d = d'
        · subst h0
          go_wp2
          go_quiet (fail)
          go_wp2
          go_roundw
          case rel =>
            refine ⟨⟨m + _, rfl⟩, k - 1, by go_num, by omega, ?_⟩
            rw [drop_dg x (k - 1) (by rw [HN.out]; omega), drop_dg y (k - 1) (by rw [HM.out]; omega), HDd.out, HDd'.out, HE.out]
          case measure => simp [intOf]; omega
        · have hb : ((d : Int) == d') = false := by simp; omega
          have hv : RowKit.Hid (cmp3 (val x : Nat) (val y : Nat) = cmp3 d d') := by
            show cmp3 (val x : Nat) (val y : Nat) = cmp3 d d'
            rcases (show d < d' ∨ d' < d by omega) with hl | hl
            · have := val_less HX.out.1 (k - 1) (by rw [HN.out]; omega) (by rw [HM.out]; omega) HE.out (by rw [← dg_get, ← dg_get, HDd.out, HDd'.out]; exact hl)
              rw [cmp3_lt (by omega), cmp3_lt (by omega)]
            · have := val_less HY.out.1 (k - 1) (by rw [HM.out]; omega) (by rw [HN.out]; omega) HE.out.symm (by rw [← dg_get, ← dg_get, HDd.out, HDd'.out]; exact hl)
              rw [cmp3_gt (by omega), cmp3_gt (by omega)]
          go_wp2
          go_quiet (fail)
          go_wp2
          go_quiet (first | (go_at_call 213; exact quiet_same2 (CmpU_any _ _ _)))
          go_wp2
          go_ret
          rw [hv.out]
          refine ⟨rfl, ?_⟩
          simp only [World.drewN_drewN]
          exact ⟨_, rfl⟩
end Go.Proofs.YtlhmfgbaefaneaaGreatDoor.nat
namespace Go.Proofs.YtlhmfgbaefaneaaGreatDoor.nat
open Go.RowKit
theorem dg_mid {A Z C : List Nat} {i : Nat} (hi : i < Z.length) : dg (A ++ (Z ++ C)) (A.length + i) = dg Z i := by
  simp [dg, List.getD_eq_getElem?_getD, List.getElem?_append_right, List.getElem?_append_left hi]
theorem set_mid {A Z C : List Nat} {i d : Nat} (hi : i < Z.length) : (A ++ (Z ++ C)).set (A.length + i) d = A ++ (Z.set i d ++ C) := by
  rw [List.set_append_right _ _ (by omega), Nat.add_sub_cancel_left, List.set_append_left _ _ hi]
theorem Row.zcell {w : World} {g off : Nat} {A Z C : List Nat} (h : Row w g (A ++ (Z ++ C))) (hA : A.length = off) (i : Nat) (hi : i < Z.length) : w.cell? ⟨g, off + i, none⟩ = some (.int .u64 (dg Z i : Nat)) := by
  subst hA
  rw [h.cell _ (by simp; omega), dg_mid hi]
theorem Row.zset {w : World} {g off : Nat} {A Z C : List Nat} (h : Row w g (A ++ (Z ++ C))) (hA : A.length = off) (i : Nat) (hi : i < Z.length) {u : Int} {d : Nat} (hu : u = (d : Nat)) : Row (w.setCell ⟨g, off + i, none⟩ (.int .u64 u)) g (A ++ (Z.set i d ++ C)) := by
  subst hA
  rw [← set_mid hi]
  exact h.set _ (by simp; omega) hu
theorem Rd.cellAt {w : World} {b off n cap : Nat} {l : List Nat} (h : Rd w (.slice (some ⟨b, off, none⟩) n cap) l) (k : Nat) (hk : k < n) : w.cell? ⟨b, off + k, none⟩ = some (.int .u64 (dg l k : Nat)) := by
  obtain ⟨b', off', he, hc⟩ := lenpos h (by omega)
  simp only [Option.some.injEq, Addr.mk.injEq, and_true] at he
  obtain ⟨rfl, rfl⟩ := he
  exact hc k hk
theorem add_one {Z : List Nat} {i c s k x V : Nat} (hi : i < Z.length) (hs : s + 18446744073709551616 * k = dg Z i + x + c) (h : val Z + 18446744073709551616 ^ i * c = V) : val (Z.set i s) + 18446744073709551616 ^ (i + 1) * k = V + 18446744073709551616 ^ i * x := by
  have h1 := val_set (d := s) hi
  have h2 : 18446744073709551616 ^ i * s + 18446744073709551616 ^ (i + 1) * k = 18446744073709551616 ^ i * dg Z i + 18446744073709551616 ^ i * x + 18446744073709551616 ^ i * c := by
    rw [Nat.pow_succ, Nat.mul_assoc, ← Nat.mul_add, hs, Nat.mul_add, Nat.mul_add]
  omega
theorem sub_one {Z : List Nat} {i b s k x V X : Nat} (hi : i < Z.length) (hs : s + x + b = dg Z i + 18446744073709551616 * k) (h : val Z + X = V + 18446744073709551616 ^ i * b) : val (Z.set i s) + (X + 18446744073709551616 ^ i * x) = V + 18446744073709551616 ^ (i + 1) * k := by
  have h1 := val_set (d := s) hi
  have h2 : 18446744073709551616 ^ i * s + 18446744073709551616 ^ i * x + 18446744073709551616 ^ i * b = 18446744073709551616 ^ i * dg Z i + 18446744073709551616 ^ (i + 1) * k := by
    rw [Nat.pow_succ, Nat.mul_assoc, ← Nat.mul_add, ← Nat.mul_add, ← Nat.mul_add, hs]
  omega
def ARel (w : World) (g : Nat) (A Z C x : List Nat) (i c : Nat) (wr : World) : Prop :=
  ∃ Z', Z'.length = Z.length ∧ Dig Z' ∧ c ≤ 1 ∧ Row wr g (A ++ (Z' ++ C)) ∧ w.grownBy wr (some g) ∧ val Z' + 18446744073709551616 ^ i * c = val Z + val (x.take i)
theorem ARel.next {w wr : World} {g off : Nat} {A Z C x Z' : List Nat} {i c s k : Nat} (h0 : Z'.length = Z.length) (h1 : Dig Z') (h3 : Row wr g (A ++ (Z' ++ C))) (h4 : w.grownBy wr (some g)) (h5 : val Z' + 18446744073709551616 ^ i * c = val Z + val (x.take i))
    (hA : A.length = off) (hi : i < Z.length) (hs : s < 18446744073709551616) (hk : k ≤ 1) (he : s + 18446744073709551616 * k = dg Z' i + dg x i + c) : ARel w g A Z C x (i + 1) k (wr.setCell ⟨g, off + i, none⟩ (.int .u64 (s : Nat))) :=
  ⟨Z'.set i s, by simpa using h0, h1.set hs, hk, h3.zset hA i (by omega) rfl, grown_trans h4 (grown_set _ _ _ _), by rw [add_one (by omega) he h5, val_take_succ]; omega⟩
set_option maxRecDepth 100000 in
set_option maxHeartbeats 4000000 in
theorem addInto_any (g off n cap : Nat) (sx : Value) (A Z C x : List Nat) (w : World) (hA : A.length = off) (hZ : Z.length = n) (hr : Row w g (A ++ (Z ++ C))) (hdz : Dig Z) (hx : Rd w sx x) (hap : Apart g sx) (hdx : Dig x) (hle : x.length ≤ n) (hn : n ≤ 4000000) (hcap : n ≤ cap) (hcm : cap ≤ maxLen) :
    Calls Tryz.prog 211 #[.slice (some ⟨g, off, none⟩) n cap, sx] w fun e w' => ∃ Z' c, e = .returned (.int .u64 (c : Nat)) ∧ (Z'.length = n ∧ Dig Z' ∧ c ≤ 1 ∧ val Z' + 18446744073709551616 ^ n * c = val Z + val x ∧ Row w' g (A ++ (Z' ++ C))) ∧ w.grownBy w' (some g) := by
  have hx' := hx
  obtain ⟨ao, xcap, rfl, ⟨h1, h4⟩, h2, h3⟩ := hx'
  obtain ⟨m, hm⟩ : ∃ m, x.length = m := ⟨_, rfl⟩
  have HM := Lib.hid hm
  have HX := Lib.hid hx
  have HAP := Lib.hid hap
  have HDX := Lib.hid hdx
  have HA := Lib.hid hA
  have HZ := Lib.hid hZ
  unfold maxLen at h2 hcm
  rw [hm] at h1 hle HX HAP ⊢
  have HS := Lib.hid (show ARel w g A Z C x 0 0 w from ⟨Z, rfl, hdz, by omega, hr, grown_refl _ _, by simp [val]⟩)
  clear hx hap hdx hA hZ hm hr hdz h3 h4
  go_enter Tryz.func211, Tryz.ntmps211
  go_wp2
  go_loopw [5, 11] (fun cv iv wr => ∃ i c : Nat, iv = .int .i64 i ∧ cv = .int .u64 c ∧ i ≤ m ∧ ARel w g A Z C x i c wr) (fun _ iv _ => m - (intOf iv).toNat)
  case atStart => exact ⟨0, 0, rfl, rfl, Nat.zero_le _, HS.out⟩
  case round =>
    obtain ⟨i, c, rfl, rfl, him, hrel⟩ := hrel
    by_cases hlt : i < m
    · obtain ⟨Z', hl, hd, hc, hrow, hgr, hv⟩ := hrel
      obtain ⟨gx, ox, rfl, hcx⟩ := lenpos HX.out (by omega)
      have c1 := hrow.zcell HA.out i (by rw [hl, HZ.out]; omega)
      have f1 := hrow.free (off + i)
      have c2 := (HX.out.kept hgr HAP.out).cellAt i hlt
      obtain ⟨s, k, hs, hk, he, hrun⟩ := add64_ex (dg Z' i) (dg x i) c (dg_lt hd i) (dg_lt HDX.out i) hc
      have HN := Lib.hid (ARel.next hl hd hrow hgr hv HA.out (by rw [HZ.out]; omega) hs hk he)
      generalize dg Z' i = d1 at c1 hrun
      generalize dg x i = d2 at c2 hrun
      clear he hcx hrow hgr hv hl hd HS
      go_wp2_with (simp only [hrun])
      go_roundw
      case rel => exact ⟨i + 1, k, by go_num, rfl, by omega, HN.out⟩
      case measure => simp [intOf]; omega
    · have : i = m := by omega
      subst this
      have HR := Lib.hid hrel
      clear hrel HS
      go_wp2
      go_loopw [5, 8] (fun cv iv wr => ∃ j c : Nat, iv = .int .i64 j ∧ cv = .int .u64 c ∧ i ≤ j ∧ j ≤ n ∧ ARel w g A Z C x j c wr) (fun _ iv _ => n - (intOf iv).toNat)
      case atStart => exact ⟨i, c, rfl, rfl, by omega, by omega, HR.out⟩
      case round =>
        obtain ⟨j, c, rfl, rfl, hij, hjn, hrel⟩ := hrel
        obtain ⟨Z', hl, hd, hc, hrow, hgr, hv⟩ := hrel
        by_cases hc0 : c = 0
        · subst hc0
          go_wp2
          go_ret
          refine ⟨Z', 0, rfl, ⟨by rw [hl, HZ.out], hd, by omega, ?_, hrow⟩, hgr⟩
          rw [List.take_of_length_le (by rw [HM.out]; omega)] at hv
          simpa using hv
        · have hb : ((c : Int) == 0) = false := by simp; omega
          by_cases hjn' : j < n
          · have c1 := hrow.zcell HA.out j (by rw [hl, HZ.out]; omega)
            have f1 := hrow.free (off + j)
            have hx0 : dg x j = 0 := dg_out (by rw [HM.out]; omega)
            obtain ⟨s, k, hs, hk, he, hrun⟩ := add64_ex (dg Z' j) 0 c (dg_lt hd j) (by omega) hc
            have HN := Lib.hid (ARel.next hl hd hrow hgr hv HA.out (by rw [HZ.out]; omega) hs hk (by rw [hx0]; exact he))
            generalize dg Z' j = d1 at c1 hrun
            simp only [Int.natCast_zero] at hrun
            clear he hrow hgr hv hl hd hx0
            go_wp2_with (simp only [hrun])
            go_roundw
            case rel => exact ⟨j + 1, k, by go_num, rfl, by omega, by omega, HN.out⟩
            case measure => simp [intOf]; omega
          · have hj : j = n := by omega
            subst hj
            have HV := Lib.hid hv
            clear hv
            go_wp2
            go_ret
            refine ⟨Z', c, rfl, ⟨by rw [hl, HZ.out], hd, hc, ?_, hrow⟩, hgr⟩
            rw [HV.out, List.take_of_length_le (by rw [HM.out]; omega)]
end Go.Proofs.YtlhmfgbaefaneaaGreatDoor.nat
namespace Go.Proofs.YtlhmfgbaefaneaaGreatDoor.nat
open Go.RowKit
def BRel (w : World) (g : Nat) (A Z C x : List Nat) (i c : Nat) (wr : World) : Prop :=
  ∃ Z', Z'.length = Z.length ∧ Dig Z' ∧ c ≤ 1 ∧ Row wr g (A ++ (Z' ++ C)) ∧ w.grownBy wr (some g) ∧ val Z' + val (x.take i) = val Z + 18446744073709551616 ^ i * c
theorem BRel.next {w wr : World} {g off : Nat} {A Z C x Z' : List Nat} {i c s k : Nat} (h0 : Z'.length = Z.length) (h1 : Dig Z') (h3 : Row wr g (A ++ (Z' ++ C))) (h4 : w.grownBy wr (some g)) (h5 : val Z' + val (x.take i) = val Z + 18446744073709551616 ^ i * c)
    (hA : A.length = off) (hi : i < Z.length) (hs : s < 18446744073709551616) (hk : k ≤ 1) (he : s + dg x i + c = dg Z' i + 18446744073709551616 * k) : BRel w g A Z C x (i + 1) k (wr.setCell ⟨g, off + i, none⟩ (.int .u64 (s : Nat))) :=
  ⟨Z'.set i s, by simpa using h0, h1.set hs, hk, h3.zset hA i (by omega) rfl, grown_trans h4 (grown_set _ _ _ _), by rw [val_take_succ]; exact sub_one (by omega) he h5⟩
set_option maxRecDepth 100000 in
set_option maxHeartbeats 4000000 in
theorem subFrom_any (g off n cap : Nat) (sx : Value) (A Z C x : List Nat) (w : World) (hA : A.length = off) (hZ : Z.length = n) (hr : Row w g (A ++ (Z ++ C))) (hdz : Dig Z) (hx : Rd w sx x) (hap : Apart g sx) (hdx : Dig x) (hle : x.length ≤ n) (hv : val x ≤ val Z) (hn : n ≤ 4000000) (hcap : n ≤ cap) (hcm : cap ≤ maxLen) :
    Calls Tryz.prog 224 #[.slice (some ⟨g, off, none⟩) n cap, sx] w fun e w' => ∃ Z', e = .returned (.tuple #[]) ∧ (Z'.length = n ∧ Dig Z' ∧ val Z' + val x = val Z ∧ Row w' g (A ++ (Z' ++ C))) ∧ w.grownBy w' (some g) := by
  have hx' := hx
  obtain ⟨ao, xcap, rfl, ⟨h1, h4⟩, h2, h3⟩ := hx'
  obtain ⟨m, hm⟩ : ∃ m, x.length = m := ⟨_, rfl⟩
  have HM := Lib.hid hm
  have HX := Lib.hid hx
  have HAP := Lib.hid hap
  have HDX := Lib.hid hdx
  have HA := Lib.hid hA
  have HZ := Lib.hid hZ
  unfold maxLen at h2 hcm
  rw [hm] at h1 hle HX HAP ⊢
  have HV := Lib.hid hv
  have HS := Lib.hid (show BRel w g A Z C x 0 0 w from ⟨Z, rfl, hdz, by omega, hr, grown_refl _ _, by simp [val]⟩)
  clear hx hap hdx hA hZ hm hr hdz h3 h4 hv
  go_enter Tryz.func224, Tryz.ntmps224
  go_wp2
  go_loopw [4, 10] (fun cv iv wr => ∃ i c : Nat, iv = .int .i64 i ∧ cv = .int .u64 c ∧ i ≤ m ∧ BRel w g A Z C x i c wr) (fun _ iv _ => m - (intOf iv).toNat)
  case atStart => exact ⟨0, 0, rfl, rfl, Nat.zero_le _, HS.out⟩
  case round =>
    obtain ⟨i, c, rfl, rfl, him, hrel⟩ := hrel
    by_cases hlt : i < m
    · obtain ⟨Z', hl, hd, hc, hrow, hgr, hv⟩ := hrel
      obtain ⟨gx, ox, rfl, hcx⟩ := lenpos HX.out (by omega)
      have c1 := hrow.zcell HA.out i (by rw [hl, HZ.out]; omega)
      have f1 := hrow.free (off + i)
      have c2 := (HX.out.kept hgr HAP.out).cellAt i hlt
      obtain ⟨s, k, hs, hk, he, hrun⟩ := sub64_ex (dg Z' i) (dg x i) c (dg_lt hd i) (dg_lt HDX.out i) hc
      have HN := Lib.hid (BRel.next hl hd hrow hgr hv HA.out (by rw [HZ.out]; omega) hs hk he)
      generalize dg Z' i = d1 at c1 hrun
      generalize dg x i = d2 at c2 hrun
      clear he hcx hrow hgr hv hl hd HS
      go_wp2_with (simp only [hrun])
      go_roundw
      case rel => exact ⟨i + 1, k, by go_num, rfl, by omega, HN.out⟩
      case measure => simp [intOf]; omega
    · have : i = m := by omega
      subst this
      have HR := Lib.hid hrel
      clear hrel HS
      go_wp2
      go_loopw [4, 7] (fun cv iv wr => ∃ j c : Nat, iv = .int .i64 j ∧ cv = .int .u64 c ∧ i ≤ j ∧ BRel w g A Z C x j c wr) (fun _ iv _ => n + 1 - (intOf iv).toNat)
      case atStart => exact ⟨i, c, rfl, rfl, by omega, HR.out⟩
      case round =>
        obtain ⟨j, c, rfl, rfl, hij, hrel⟩ := hrel
        obtain ⟨Z', hl, hd, hc, hrow, hgr, hv⟩ := hrel
        by_cases hc0 : c = 0
        · subst hc0
          go_wp2
          refine bodyPost_end (results_none rfl _ _ _) rfl ?_
          refine ⟨Z', rfl, ⟨by rw [hl, HZ.out], hd, ?_, hrow⟩, hgr⟩
          rw [List.take_of_length_le (by rw [HM.out]; omega)] at hv
          simpa using hv
        · have hb : ((c : Int) == 0) = false := by simp; omega
          have hc1 : c = 1 := by omega
          have hjn' : j < n := by
            have h0 := hv
            rw [List.take_of_length_le (by rw [HM.out]; omega), hc1, Nat.mul_one] at h0
            have h1 := sub_within (D := val x) hd h0 HV.out
            rw [hl, HZ.out] at h1
            exact h1
          have c1 := hrow.zcell HA.out j (by rw [hl, HZ.out]; omega)
          have f1 := hrow.free (off + j)
          have hx0 : dg x j = 0 := dg_out (by rw [HM.out]; omega)
          obtain ⟨s, k, hs, hk, he, hrun⟩ := sub64_ex (dg Z' j) 0 c (dg_lt hd j) (by omega) hc
          have HN := Lib.hid (BRel.next hl hd hrow hgr hv HA.out (by rw [HZ.out]; omega) hs hk (by rw [hx0]; exact he))
          generalize dg Z' j = d1 at c1 hrun
          simp only [Int.natCast_zero] at hrun
          clear he hrow hgr hv hl hd hx0 hc1
          go_wp2_with (simp only [hrun])
          go_roundw
          case rel => exact ⟨j + 1, k, by go_num, rfl, by omega, HN.out⟩
          case measure => simp [intOf]; omega
end Go.Proofs.YtlhmfgbaefaneaaGreatDoor.nat
namespace Go.Proofs.YtlhmfgbaefaneaaGreatDoor.nat
open Go.RowKit
theorem make_ex (w : World) (n : Nat) (hn : n ≤ 8000000) : ∃ W1, (Instr.makeSlice 78 (.int .i64 (n : Int)) (.int .i64 (n : Int))).run Tryz.prog w = .ok (.slice (some ⟨w.heap.size, 0, none⟩) n n) W1 ∧
    Row W1 w.heap.size (List.replicate n 0) ∧ Below w.heap.size w W1 ∧ W1.heap[w.heap.size]? = some (.cells ((List.replicate n 0).map fun d => Value.int .u64 (d : Nat)).toArray 104 (0, 0)) := by
  obtain ⟨i0, hi0, hz0, hz1, hz2⟩ := info_parts infoU64
  have h := run_make (P := Tryz.prog) w 78 104 i0 (.int .u64 0) Tryz.underlying78 hi0 hz0 .i64 .i64 (n : Int) (n : Int) (by omega) (by omega) (by rw [hz2]; omega) (by omega)
  rw [hz1] at h
  have hc : madeCells (Value.int .u64 0).cells (((n : Int)).toNat * 1) = ((List.replicate n 0).map fun d => Value.int .u64 (d : Nat)).toArray := by
    have := made_zeros n
    rw [show ((n : Int)).toNat = n by omega, ← this, Array.toArray_toList]
  rw [hc, show ((n : Int)).toNat = n by omega] at h
  have hh : (w.alloc (.cells ((List.replicate n 0).map fun d => Value.int .u64 (d : Nat)).toArray 104)).heap[w.heap.size]? = some (.cells ((List.replicate n 0).map fun d => Value.int .u64 (d : Nat)).toArray 104 (0, 0)) := heap_alloc_new w _
  exact ⟨_, h, ⟨[], by rw [List.append_nil]; exact hh⟩, (Below.refl _ _).alloc (Nat.le_refl _) _, hh⟩
theorem wpList_append_rd {w : World} {ops : Array Oper} {rest : List Oper} {o : Oper} {a : Act} {Q : Exit → Act → World → Prop} (hgd : o.guard = none) (s x : Operand)
    (ho : o.op = .call { callee := .builtin .append, args := #[s, x], argTypes := #[78, 78] })
    (base : Nat) (v sv : Value) (l1 l2 : List Nat) (hs : a.eval s = v) (hown : w.ownsRow base 104 1 v l1.length (l1.map fun d => Value.int .u64 (d : Nat))) (hx : a.eval x = sv) (hr : Rd w sv l2)
    (hlen : l1.length + l2.length ≤ 8000000) (hbase : base ≤ w.heap.size)
    (h : ∀ v' w', w'.ownsRow base 104 1 v' (l1.length + l2.length) ((l1 ++ l2).map fun d => Value.int .u64 (d : Nat)) → w.grownBy w' v.ownBlock → wpList Tryz.prog ops Q rest (a.put o.dst v') w') :
    wpList Tryz.prog ops Q (o :: rest) a w := by
  obtain ⟨i0, hi0, hz0, hz1, hz2⟩ := info_parts infoU64
  obtain ⟨ao, cap, rfl, ⟨h1, h4⟩, h2, h3⟩ := hr
  rcases ao with _ | ad
  · obtain rfl := h4 rfl
    have hl : l2 = [] := List.eq_nil_of_length_eq_zero (by omega)
    subst hl
    refine wpList_append_own_none hgd s x 78 ho base 104 i0 1 Tryz.underlying78 hi0 v l1.length _ hs hown hx ?_
    have := h v w (by simpa using hown) ⟨rfl, rfl, rfl, Nat.le_refl _, fun _ _ _ => rfl⟩
    exact this
  · refine wpList_append_own w hgd s x 78 ho base 104 i0 (.int .u64 0) 1 8 Tryz.underlying78 hi0 hz0 hz1 hz2 rfl (by decide) v l1.length _ hs hown ad l2.length cap (l2.map fun d => Value.int .u64 (d : Nat)) hx (by simp) ?_ ?_ (by unfold maxLen; omega) (by omega) hbase ?_
    · intro j u hj
      have hjn : j < l2.length := by
        rw [List.getElem?_map] at hj
        exact (List.getElem?_eq_some_iff.1 (Option.map_eq_some_iff.1 hj).choose_spec.1).choose
      rcases h3 with rfl | ⟨g, off, hg, hc⟩
      · simp at hjn
      · obtain rfl : ad = ⟨g, off, none⟩ := by simpa using hg
        rw [dg_map hjn] at hj
        have := hc j hjn
        simp only [Option.some.injEq] at hj
        subst hj
        have h2 : (⟨g, off, none⟩ : Addr).add j = ⟨g, off + j, none⟩ := by unfold Addr.add; split <;> simp_all
        rw [h2]
        exact this
    · intro u hu
      obtain ⟨d, _, rfl⟩ := List.mem_map.1 hu
      rfl
    · intro v' w' ho hg _
      exact h v' w' (by rw [List.map_append]; exact ho) hg
set_option maxRecDepth 100000 in
set_option maxHeartbeats 1000000 in
theorem room_any (sx : Value) (x : List Nat) (n : Nat) (w : World) (hx : Rd w sx x) (hle : x.length ≤ n) (hn : n ≤ 8000000) :
    Calls Tryz.prog 223 #[sx, .int .i64 (n : Int)] w fun e w' => e = .returned (.slice (some ⟨w.heap.size, 0, none⟩) n n) ∧ Row w' w.heap.size (x ++ List.replicate (n - x.length) 0) ∧ Below w.heap.size w w' := by
  obtain ⟨W1, hmk, hrow, hB, hh⟩ := make_ex w n hn
  have hx1 := hx.below hB
  have HX := Lib.hid hx1
  obtain ⟨ao, xcap, rfl, ⟨h1, h4⟩, h2, h3⟩ := hx
  have HB := Lib.hid hB
  have HH := Lib.hid hh
  obtain ⟨m, hm⟩ : ∃ m, x.length = m := ⟨_, rfl⟩
  have HM := Lib.hid hm
  obtain ⟨zs, hzs⟩ : ∃ zs, zs = (List.replicate n 0).map fun d => Value.int .u64 (d : Nat) := ⟨_, rfl⟩
  obtain ⟨cs, hcs⟩ : ∃ cs, cs = x.map fun d => Value.int .u64 (d : Nat) := ⟨_, rfl⟩
  rw [← hzs] at HH
  have HZ := Lib.hid hzs
  have HC := Lib.hid hcs
  have hzl : zs.length = n := by rw [hzs]; simp
  have hcl : cs.length = m := by rw [hcs]; simp [hm]
  have h1c : ∀ v ∈ cs, v.oneCell' = true := by
    intro u hu
    rw [hcs] at hu
    obtain ⟨d, _, rfl⟩ := List.mem_map.1 hu
    rfl
  have hpos : 0 < cs.length → some (⟨w.heap.size, 0, none⟩ : Addr) = some ⟨w.heap.size, 0, none⟩ ∧ ∃ ad, ao = some ad ∧ ∀ j v, cs[j]? = some v → W1.cell? (ad.add j) = some v := by
    intro hp
    refine ⟨rfl, ?_⟩
    obtain ⟨g, off, rfl, hc⟩ := lenpos HX.out (by omega)
    refine ⟨_, rfl, fun j v hj => ?_⟩
    have hjl : j < x.length := by
      have := (List.getElem?_eq_some_iff.1 hj).choose
      omega
    rw [hcs, dg_map hjl] at hj
    simp only [Option.some.injEq] at hj
    have h2 : (⟨g, off, none⟩ : Addr).add j = ⟨g, off + j, none⟩ := by unfold Addr.add; split <;> simp_all
    rw [h2, hc j hjl, hj]
  have HP := Lib.hid hpos
  have H1 := Lib.hid h1c
  have HZL := Lib.hid hzl
  have HCL := Lib.hid hcl
  have hsz : (Tryz.prog.info? 104).map (·.size) = some 1 := by kernel_rfl
  have HSZ := Lib.hid hsz
  rw [hm] at hle ⊢
  clear hx1 h3 hm hzs hcs h1c hpos hB hh hrow hzl hcl hsz h4
  go_enter Tryz.func223, Tryz.ntmps223
  go_wp2_with (with_reducible refine wpList_copy_splice rfl _ _ 78 78 rfl 104 Tryz.underlying78 HSZ.out (some ⟨w.heap.size, 0, none⟩) ao n n m xcap rfl rfl w.heap.size 0 zs 104 HH.out cs (by rw [HCL.out]; exact (Nat.min_eq_left hle).symm) HP.out (by rw [HCL.out, HZL.out]; omega) H1.out w.heap.size w HB.out (Nat.le_refl _) ?_; intro w2 HG2 hB2)
  go_ret
  refine ⟨rfl, ⟨[], ?_⟩, hB2⟩
  rw [HG2.out, HC.out, HZ.out, List.append_nil]
  congr 2
  simp only [splice, List.take_zero, List.nil_append, Nat.zero_add, List.length_map, List.map_append, HM.out]
  rw [← List.map_drop, List.drop_replicate]
set_option maxRecDepth 100000 in
set_option maxHeartbeats 1000000 in
theorem Clone_any (sx : Value) (x : List Nat) (w : World) (hx : Rd w sx x) (hn : x.length ≤ 4000000) :
    Calls Tryz.prog 195 #[sx] w fun e w' => ∃ sv, e = .returned sv ∧ Own w' w.heap.size sv x ∧ Below w.heap.size w w' := by
  have q44 : ∀ (w : World) (a : Option Addr) (n c n' c' : Nat), (binOp .eql 78 (.slice a n c) (.slice none n' c')).run Tryz.prog w = .ok (.bool a.isNone) w := fun w a n c n' c' => Lib.run_eql_slice_nil w _ _ a n c n' c' Tryz.underlying78
  have HX := Lib.hid hx
  obtain ⟨ao, xcap, rfl, ⟨h1, h4⟩, h2, h3⟩ := hx
  rcases ao with _ | ad
  · obtain rfl := h4 rfl
    obtain rfl : x = [] := List.eq_nil_of_length_eq_zero (by omega)
    rw [List.length_nil]
    go_enter Tryz.func195, Tryz.ntmps195
    go_wp2
    go_ret
    exact ⟨_, rfl, Own.nil _ _, Below.refl _ _⟩
  · clear h3 h4
    have HO := Lib.hid (show (w.alloc (.cells #[] 104)).ownsRow w.heap.size 104 1 (.slice (some ⟨w.heap.size, 0, none⟩) 0 0) ([] : List Nat).length (([] : List Nat).map fun d => Value.int .u64 (d : Nat)) from World.ownsRow_lit w #[] 0 (Nat.le_refl _) (by unfold maxLen; omega) rfl)
    have HX2 := Lib.hid (HX.out.below (w' := w.alloc (.cells #[] 104)) ((Below.refl _ _).alloc (Nat.le_refl _) _))
    go_enter Tryz.func195, Tryz.ntmps195
    go_wp2_with (at_builtin; refine wpList_append_rd rfl _ _ rfl w.heap.size _ _ [] x rfl HO.out rfl HX2.out ?c1 ?c2 ?_)
    case c1 => simp; omega
    case c2 => simp
    intro v' w3 hown hg3
    have hB3 : Below w.heap.size w w3 := ((Below.refl _ _).alloc (Nat.le_refl _) _).grown hg3 (by simp) (fun k hk => by simp [Value.ownBlock] at hk; omega)
    have HO3 := Lib.hid (Own.of_owns (l := x) (by simpa using hown))
    have HB3 := Lib.hid hB3
    clear hown hg3 hB3 HO HX2
    go_wp2
    go_ret
    exact ⟨_, rfl, HO3.out, HB3.out⟩
end Go.Proofs.YtlhmfgbaefaneaaGreatDoor.nat
namespace Go.Proofs.YtlhmfgbaefaneaaGreatDoor.nat
open Go.RowKit
theorem dig_room {x : List Nat} (h : Dig x) (n : Nat) : Dig (x ++ List.replicate n 0) := h.append (dig_zeros n)
theorem val_room (x : List Nat) (n : Nat) : val (x ++ List.replicate n 0) = val x := by rw [val_append, val_zeros]; omega
theorem len_room {x : List Nat} {n : Nat} (h : x.length ≤ n) : (x ++ List.replicate (n - x.length) 0).length = n := by simp; omega
theorem Row.whole {w : World} {g : Nat} {Z : List Nat} (h : Row w g Z) : Row w g ([] ++ (Z ++ [])) := by simpa using h
theorem Row.unwhole {w : World} {g : Nat} {Z : List Nat} (h : Row w g ([] ++ (Z ++ []))) : Row w g Z := by simpa using h
theorem pow_le {a b : Nat} (h : a ≤ b) : 18446744073709551616 ^ a ≤ 18446744073709551616 ^ b := Nat.pow_le_pow_right (by omega) h
theorem val_lt' {l : List Nat} {n : Nat} (h : Dig l) (hl : l.length ≤ n) : val l < 18446744073709551616 ^ n := Nat.lt_of_lt_of_le (val_lt h) (pow_le hl)
theorem digs_len {x n : Nat} (h : x < 18446744073709551616 ^ n) : (digs x).length ≤ n := by
  by_cases hne : digs x = []
  · rw [hne]; simp
  · have h1 := (norm_digs x).low hne
    rw [val_digs] at h1
    have : 18446744073709551616 ^ ((digs x).length - 1) < 18446744073709551616 ^ n := Nat.lt_of_le_of_lt h1 h
    have := (Nat.pow_lt_pow_iff_right (a := 18446744073709551616) (by omega)).1 this
    omega
theorem digs_len_val {l : List Nat} (h : Dig l) : (digs (val l)).length ≤ l.length := digs_len (val_lt h)
theorem sum_carry {V X Y c S : Nat} (h : V + 18446744073709551616 ^ (S + 1) * c = X + Y) (hx : X < 18446744073709551616 ^ S) (hy : Y < 18446744073709551616 ^ S) : V = X + Y := by
  rcases Nat.eq_zero_or_pos c with rfl | hc
  · rw [Nat.mul_zero] at h
    exact h
  · have h1 := Nat.le_mul_of_pos_right (18446744073709551616 ^ (S + 1)) hc
    have h2 : 18446744073709551616 ^ (S + 1) = 18446744073709551616 * 18446744073709551616 ^ S := by rw [Nat.pow_succ, Nat.mul_comm]
    have h3 : 18446744073709551616 * 18446744073709551616 ^ S ≤ 18446744073709551616 ^ (S + 1) * c := by rw [← h2]; exact h1
    clear h1 h2
    generalize 18446744073709551616 ^ (S + 1) * c = T at *
    generalize 18446744073709551616 ^ S = P at *
    omega
theorem room_int (sx : Value) (x : List Nat) (i : Int) (n : Nat) (w : World) (hi : i = n) (hx : Rd w sx x) (hle : x.length ≤ n) (hn : n ≤ 8000000) :
    Calls Tryz.prog 223 #[sx, .int .i64 i] w fun e w' => e = .returned (.slice (some ⟨w.heap.size, 0, none⟩) n n) ∧ Row w' w.heap.size (x ++ List.replicate (n - x.length) 0) ∧ Below w.heap.size w w' := by
  subst hi
  exact room_any sx x n w hx hle hn
set_option maxRecDepth 100000 in
set_option maxHeartbeats 1000000 in
theorem sum_any (sx sy : Value) (x y : List Nat) (w : World) (hx : Rd w sx x) (hy : Rd w sy y) (hdx : Dig x) (hdy : Dig y) (hn : x.length ≤ 2000000) (hm : y.length ≤ 2000000) :
    Calls Tryz.prog 179 #[sx, sy] w fun e w' => ∃ sv, e = .returned sv ∧ Own w' w.heap.size sv (digs (val x + val y)) ∧ Below w.heap.size w w' := by
  have HX := Lib.hid hx
  have HY := Lib.hid hy
  have HDX := Lib.hid hdx
  have HDY := Lib.hid hdy
  obtain ⟨ao, xcap, rfl, ⟨h1, -⟩, h2, -⟩ := hx
  obtain ⟨bo, ycap, rfl, ⟨k1, -⟩, k2, -⟩ := hy
  obtain ⟨N, hN⟩ : ∃ N, x.length = N := ⟨_, rfl⟩
  obtain ⟨M, hM⟩ : ∃ M, y.length = M := ⟨_, rfl⟩
  obtain ⟨S, hS, hS1, hS2⟩ : ∃ S : Nat, max (N : Int) (M : Int) = (S : Int) ∧ N ≤ S ∧ M ≤ S ∧ S ≤ 2000000 := ⟨max N M, by omega, by omega, by omega, by omega⟩
  obtain ⟨hS2, hS3⟩ := hS2
  have HN := Lib.hid hN
  have HM := Lib.hid hM
  have HS := Lib.hid hS
  rw [hN] at h1 hn HX ⊢
  rw [hM] at k1 hm HY ⊢
  clear hdx hdy hN hM hS
  go_enter Tryz.func179, Tryz.ntmps179
  go_wp2_with (go_at_call 223; refine (room_int _ x _ (S + 1) w (by rw [HS.out]; omega) HX.out (by rw [HN.out]; omega) (by omega)).mono ?_; rintro e w1 ⟨rfl, hr1, hb1⟩)
  have HB1 := Lib.hid hb1
  have hadd := addInto_any w.heap.size 0 (S + 1) (S + 1) (.slice bo M ycap) [] (x ++ List.replicate (S + 1 - x.length) 0) [] y w1 rfl (len_room (by rw [HN.out]; omega)) hr1.whole (dig_room HDX.out _) (HY.out.below hb1) (HY.out.apart (Nat.le_refl _)) HDY.out (by rw [HM.out]; omega) (by omega) (Nat.le_refl _) (by unfold maxLen; omega)
  have HAD := Lib.hid hadd
  clear hadd hr1 hb1
  go_wp2_with (go_at_call 211; refine (HAD.out).mono ?_; rintro e w2 ⟨Z', c, rfl, ⟨hl, hd, hc, hv, hrow⟩, hgr⟩)
  have hc0 : val Z' = val x + val y := by
    rw [val_room] at hv
    exact sum_carry hv (val_lt' HDX.out (by rw [HN.out]; exact hS1)) (val_lt' HDY.out (by rw [HM.out]; exact hS2))
  have hO : Own w2 w.heap.size (.slice (some ⟨w.heap.size, 0, none⟩) (S + 1) (S + 1)) Z' := by
    have := Own.of_row (cap := S + 1) hrow.unwhole (Nat.le_refl _) (by omega) (by unfold maxLen; omega)
    rwa [hl] at this
  have HT := Lib.hid (trim_own _ Z' w2 hO (by omega) hd)
  have HB2 := Lib.hid (below_grown HB1.out hgr HB1.out.size (Nat.le_refl _))
  rw [hc0] at HT
  clear hl hd hc hv hrow hgr hO hc0
  go_wp2_with (go_at_call 209; refine (HT.out).mono ?_; rintro e w3 ⟨sv, rfl, hO3, rfl⟩; have HO3 := Lib.hid hO3; clear hO3)
  go_ret
  exact ⟨sv, rfl, HO3.out, HB2.out⟩
set_option maxRecDepth 100000 in
set_option maxHeartbeats 1000000 in
theorem subFrom_own {B : Nat} (sv sx : Value) (z x : List Nat) (w : World) (hO : Own w B sv z) (hx : Rd w sx x) (hdz : Dig z) (hnx : Norm x) (hl : x.length ≤ z.length) (hv : val x ≤ val z) (hn : z.length ≤ 4000000) (hap : ∀ g, B ≤ g → Apart g sx) :
    Calls Tryz.prog 224 #[sv, sx] w fun e w' => ∃ z', e = .returned (.tuple #[]) ∧ (z'.length = z.length ∧ Dig z' ∧ val z' + val x = val z ∧ Own w' B sv z') ∧ Below B w w' := by
  have hO' := hO
  obtain ⟨ao, cap, rfl, ⟨h1, h4⟩, h2, h3⟩ := hO'
  rcases h3 with rfl | ⟨g, rfl, hB, hrow⟩
  · obtain rfl : x = [] := List.eq_nil_of_length_eq_zero (by simpa using hl)
    obtain ⟨bo, xcap, rfl, -⟩ := hx
    have HO := Lib.hid hO
    simp only [List.length_nil]
    clear hO hap h4 hdz hnx hl hv hn
    go_enter Tryz.func224, Tryz.ntmps224
    go_wp2
    go_loopw [4, 10] (fun cv iv wr => iv = .int .i64 0 ∧ cv = .int .u64 0 ∧ w = wr) (fun _ _ _ => 0)
    case atStart => exact ⟨rfl, rfl, rfl⟩
    case round =>
      obtain ⟨rfl, rfl, rfl⟩ := hrel
      go_wp2
      go_loopw [4, 7] (fun cv iv wr => iv = .int .i64 0 ∧ cv = .int .u64 0 ∧ w = wr) (fun _ _ _ => 0)
      case atStart => exact ⟨rfl, rfl, rfl⟩
      case round =>
        obtain ⟨rfl, rfl, rfl⟩ := hrel
        go_wp2
        refine bodyPost_end (results_none rfl _ _ _) rfl ?_
        exact ⟨[], rfl, ⟨rfl, Dig.nil, rfl, HO.out⟩, Below.refl _ _⟩
  · refine (subFrom_any g 0 z.length cap sx [] z [] x w rfl rfl hrow.whole hdz hx (hap g hB) hnx.1 hl hv hn h1 h2).mono ?_
    rintro e w' ⟨Z', rfl, ⟨hl', hd', hv', hr'⟩, hgr⟩
    refine ⟨Z', rfl, ⟨hl', hd', hv', ?_⟩, ?_⟩
    · have := Own.of_row (cap := cap) hr'.unwhole hB (by omega) h2
      rwa [hl'] at this
    · exact ⟨hgr.os, hgr.tape, hgr.output, hgr.size, fun k hk => by
        by_cases hkw : k < w.heap.size
        · exact hgr.block k hkw (by simp; omega)
        · have := hrow.lt
          omega⟩
set_option maxRecDepth 100000 in
set_option maxHeartbeats 1000000 in
theorem difference_any (sx sy : Value) (x y : List Nat) (w : World) (hx : Rd w sx x) (hy : Rd w sy y) (hdx : Dig x) (hdy : Norm y) (hle : val y ≤ val x) (hn : x.length ≤ 2000000) :
    Calls Tryz.prog 180 #[sx, sy] w fun e w' => ∃ sv, e = .returned sv ∧ Own w' w.heap.size sv (digs (val x - val y)) ∧ Below w.heap.size w w' := by
  have HX := Lib.hid hx
  have HY := Lib.hid hy
  have HDX := Lib.hid hdx
  have HDY := Lib.hid hdy
  have HLE := Lib.hid hle
  have hlen : y.length ≤ x.length := by
    rw [hdy.eq_digs]
    exact digs_len (Nat.lt_of_le_of_lt hle (val_lt hdx))
  have HL := Lib.hid hlen
  clear hx hy hdx hdy hle hlen
  go_enter Tryz.func180, Tryz.ntmps180
  go_wp2_with (go_at_call 195; refine (Clone_any _ x w HX.out (by omega)).mono ?_; rintro e w1 ⟨sv, rfl, hO, hb1⟩)
  have HO := Lib.hid hO
  have HB1 := Lib.hid hb1
  have HSF := Lib.hid (subFrom_own sv sy x y w1 hO (HY.out.below hb1) HDX.out HDY.out HL.out HLE.out (by omega) (fun g hg => HY.out.apart hg))
  clear hO hb1
  go_wp2_with (go_at_call 224; refine (HSF.out).mono ?_; rintro e w2 ⟨Z', rfl, ⟨hl, hd, hv, hO2⟩, hb2⟩)
  have HT := Lib.hid (trim_own _ Z' w2 hO2 (by omega) hd)
  have HB2 := Lib.hid (HB1.out.trans hb2)
  rw [show val Z' = val x - val y by omega] at HT
  clear hl hd hv hO2 hb2 HSF
  go_wp2_with (go_at_call 209; refine (HT.out).mono ?_; rintro e w3 ⟨sv', rfl, hO3, rfl⟩; have HO3 := Lib.hid hO3; clear hO3)
  go_ret
  exact ⟨sv', rfl, HO3.out, HB2.out⟩
end Go.Proofs.YtlhmfgbaefaneaaGreatDoor.nat
namespace Go.Proofs.YtlhmfgbaefaneaaGreatDoor.nat
open Go.RowKit
theorem mul64_ex (x y : Nat) (hx : x < 18446744073709551616) (hy : y < 18446744073709551616) : ∃ h l : Nat, h < 18446744073709551616 ∧ l < 18446744073709551616 ∧ l + 18446744073709551616 * h = x * y ∧
    ∀ w, Calls Tryz.prog 201 #[.int .u64 (x : Int), .int .u64 (y : Int)] w fun e w' => e = .returned (.tuple #[.int .u64 (h : Int), .int .u64 (l : Int)]) ∧ w' = w :=
  ⟨x * y / 18446744073709551616, x * y % 18446744073709551616, Nat.div_lt_of_lt_mul (Nat.mul_lt_mul'' hx hy), Nat.mod_lt _ (by omega), Nat.mod_add_div _ _, fun w => Mul64_any x y hx hy w⟩
theorem mac_ex (z x y a : Nat) (hz : z < 18446744073709551616) (hx : x < 18446744073709551616) (hy : y < 18446744073709551616) (ha : a < 18446744073709551616) : ∃ h l s1 k1 s k2 : Nat,
    (∀ w, Calls Tryz.prog 201 #[.int .u64 (x : Int), .int .u64 (y : Int)] w fun e w' => e = .returned (.tuple #[.int .u64 (h : Int), .int .u64 (l : Int)]) ∧ w' = w) ∧
    (∀ w, (callFunc 225 #[.int .u64 (l : Int), .int .u64 (a : Int), .int .u64 0]).run Tryz.prog w = .ok (.value (.tuple #[.int .u64 (s1 : Int), .int .u64 (k1 : Int)])) w) ∧
    (∀ w, (callFunc 225 #[.int .u64 (z : Int), .int .u64 (s1 : Int), .int .u64 0]).run Tryz.prog w = .ok (.value (.tuple #[.int .u64 (s : Int), .int .u64 (k2 : Int)])) w) ∧
    s < 18446744073709551616 ∧ h + k1 < 18446744073709551616 ∧ h + k1 + k2 < 18446744073709551616 ∧ s + 18446744073709551616 * (h + k1 + k2) = z + x * y + a := by
  obtain ⟨h, l, b1, b2, e1, r1⟩ := mul64_ex x y hx hy
  obtain ⟨s1, k1, b3, b4, e2, r2⟩ := add64_ex l a 0 b2 ha (by omega)
  obtain ⟨s, k2, b5, b6, e3, r3⟩ := add64_ex z s1 0 hz b3 (by omega)
  have hp : x * y ≤ 18446744073709551615 * 18446744073709551615 := Nat.mul_le_mul (by omega) (by omega)
  exact ⟨h, l, s1, k1, s, k2, r1, r2, r3, b5, by omega, by omega, by omega⟩
theorem msc_ex (z x y a : Nat) (hz : z < 18446744073709551616) (hx : x < 18446744073709551616) (hy : y < 18446744073709551616) (ha : a < 18446744073709551616) : ∃ h l s1 k1 s k2 : Nat,
    (∀ w, Calls Tryz.prog 201 #[.int .u64 (x : Int), .int .u64 (y : Int)] w fun e w' => e = .returned (.tuple #[.int .u64 (h : Int), .int .u64 (l : Int)]) ∧ w' = w) ∧
    (∀ w, (callFunc 225 #[.int .u64 (l : Int), .int .u64 (a : Int), .int .u64 0]).run Tryz.prog w = .ok (.value (.tuple #[.int .u64 (s1 : Int), .int .u64 (k1 : Int)])) w) ∧
    (∀ w, (callFunc 261 #[.int .u64 (z : Int), .int .u64 (s1 : Int), .int .u64 0]).run Tryz.prog w = .ok (.value (.tuple #[.int .u64 (s : Int), .int .u64 (k2 : Int)])) w) ∧
    s < 18446744073709551616 ∧ h + k1 < 18446744073709551616 ∧ h + k1 + k2 < 18446744073709551616 ∧ s + x * y + a = z + 18446744073709551616 * (h + k1 + k2) := by
  obtain ⟨h, l, b1, b2, e1, r1⟩ := mul64_ex x y hx hy
  obtain ⟨s1, k1, b3, b4, e2, r2⟩ := add64_ex l a 0 b2 ha (by omega)
  obtain ⟨s, k2, b5, b6, e3, r3⟩ := sub64_ex z s1 0 hz b3 (by omega)
  have hp : x * y ≤ 18446744073709551615 * 18446744073709551615 := Nat.mul_le_mul (by omega) (by omega)
  exact ⟨h, l, s1, k1, s, k2, r1, r2, r3, b5, by omega, by omega, by omega⟩
def MRel (w : World) (g y : Nat) (A Z C x : List Nat) (i a : Nat) (wr : World) : Prop :=
  ∃ Z', Z'.length = Z.length ∧ Dig Z' ∧ a < 18446744073709551616 ∧ Row wr g (A ++ (Z' ++ C)) ∧ w.grownBy wr (some g) ∧ val Z' + 18446744073709551616 ^ i * a = val Z + val (x.take i) * y ∧ ∀ j, i ≤ j → dg Z' j = dg Z j
theorem MRel.next {w wr : World} {g y off : Nat} {A Z C x Z' : List Nat} {i a s k : Nat} (h0 : Z'.length = Z.length) (h1 : Dig Z') (h3 : Row wr g (A ++ (Z' ++ C))) (h4 : w.grownBy wr (some g)) (h5 : val Z' + 18446744073709551616 ^ i * a = val Z + val (x.take i) * y) (h6 : ∀ j, i ≤ j → dg Z' j = dg Z j)
    (hA : A.length = off) (hi : i < Z.length) (hs : s < 18446744073709551616) (hk : k < 18446744073709551616) (he : s + 18446744073709551616 * k = dg Z' i + dg x i * y + a) : MRel w g y A Z C x (i + 1) k (wr.setCell ⟨g, off + i, none⟩ (.int .u64 (s : Nat))) :=
  ⟨Z'.set i s, by simpa using h0, h1.set hs, hk, h3.zset hA i (by omega) rfl, grown_trans h4 (grown_set _ _ _ _), by rw [add_one (by omega) he h5, val_take_succ, Nat.add_mul, Nat.mul_assoc]; omega, fun j hj => by rw [dg_set_other (by omega)]; exact h6 j (by omega)⟩
set_option maxRecDepth 100000 in
set_option maxHeartbeats 4000000 in
theorem addProduct_any (g off n cap y : Nat) (sx : Value) (A Z C x : List Nat) (w : World) (hA : A.length = off) (hZ : Z.length = n) (hr : Row w g (A ++ (Z ++ C))) (hdz : Dig Z) (hx : Rd w sx x) (hap : Apart g sx) (hdx : Dig x) (hle : x.length ≤ n) (hy : y < 18446744073709551616) (hn : n ≤ 4000000) :
    Calls Tryz.prog 253 #[.slice (some ⟨g, off, none⟩) n cap, sx, .int .u64 (y : Nat)] w fun e w' => ∃ Z' a, e = .returned (.int .u64 (a : Nat)) ∧ (Z'.length = n ∧ Dig Z' ∧ a < 18446744073709551616 ∧ val Z' + 18446744073709551616 ^ x.length * a = val Z + val x * y ∧ (∀ j, x.length ≤ j → dg Z' j = dg Z j) ∧ Row w' g (A ++ (Z' ++ C))) ∧ w.grownBy w' (some g) := by
  have hx' := hx
  obtain ⟨ao, xcap, rfl, ⟨h1, h4⟩, h2, h3⟩ := hx'
  obtain ⟨m, hm⟩ : ∃ m, x.length = m := ⟨_, rfl⟩
  have HM := Lib.hid hm
  have HX := Lib.hid hx
  have HAP := Lib.hid hap
  have HDX := Lib.hid hdx
  have HA := Lib.hid hA
  have HZ := Lib.hid hZ
  unfold maxLen at h2
  rw [hm] at h1 hle HX HAP ⊢
  have HS := Lib.hid (show MRel w g y A Z C x 0 0 w from ⟨Z, rfl, hdz, by omega, hr, grown_refl _ _, by simp [val], fun _ _ => rfl⟩)
  clear hx hap hdx hA hZ hm hr hdz h3 h4
  go_enter Tryz.func253, Tryz.ntmps253
  go_wp2
  go_loopw [7, 15] (fun cv iv wr => ∃ i a : Nat, iv = .int .i64 i ∧ cv = .int .u64 a ∧ i ≤ m ∧ MRel w g y A Z C x i a wr) (fun _ iv _ => m - (intOf iv).toNat)
  case atStart => exact ⟨0, 0, rfl, rfl, Nat.zero_le _, HS.out⟩
  case round =>
    obtain ⟨i, a, rfl, rfl, him, hrel⟩ := hrel
    obtain ⟨Z', hl, hd, ha, hrow, hgr, hv, hup⟩ := hrel
    by_cases hlt : i < m
    · obtain ⟨gx, ox, rfl, hcx⟩ := lenpos HX.out (by omega)
      have c1 := hrow.zcell HA.out i (by rw [hl, HZ.out]; omega)
      have f1 := hrow.free (off + i)
      have c2 := (HX.out.kept hgr HAP.out).cellAt i hlt
      obtain ⟨h, l, s1, k1, s, k2, r1, r2, r3, hs, b1, b2, he⟩ := mac_ex (dg Z' i) (dg x i) y a (dg_lt hd i) (dg_lt HDX.out i) hy ha
      have HN := Lib.hid (MRel.next hl hd hrow hgr hv hup HA.out (by rw [HZ.out]; omega) hs b2 he)
      have R1 := Lib.hid r1
      generalize dg Z' i = d1 at c1 r3
      generalize dg x i = d2 at c2 r1 R1
      clear he hcx hrow hgr hv hl hd HS r1 hup
      go_wp2_with (go_at_call 201; refine (R1.out _).mono ?_; rintro e w' ⟨rfl, rfl⟩)
      go_roundw
      case rel => exact ⟨i + 1, h + k1 + k2, by go_num, by go_num, by omega, HN.out⟩
      case measure => simp [intOf]; omega
    · have : i = m := by omega
      subst this
      have HV := Lib.hid hv
      have HU := Lib.hid hup
      clear hv HS hup
      go_wp2
      go_ret
      refine ⟨Z', a, rfl, ⟨by rw [hl, HZ.out], hd, ha, ?_, HU.out, hrow⟩, hgr⟩
      have := HV.out
      rw [List.take_of_length_le (by rw [HM.out]; omega)] at this
      exact this
def SRel (w : World) (g y : Nat) (A Z C x : List Nat) (i a : Nat) (wr : World) : Prop :=
  ∃ Z', Z'.length = Z.length ∧ Dig Z' ∧ a < 18446744073709551616 ∧ Row wr g (A ++ (Z' ++ C)) ∧ w.grownBy wr (some g) ∧ val Z' + val (x.take i) * y = val Z + 18446744073709551616 ^ i * a ∧ ∀ j, i ≤ j → dg Z' j = dg Z j
theorem SRel.next {w wr : World} {g y off : Nat} {A Z C x Z' : List Nat} {i a s k : Nat} (h0 : Z'.length = Z.length) (h1 : Dig Z') (h3 : Row wr g (A ++ (Z' ++ C))) (h4 : w.grownBy wr (some g)) (h5 : val Z' + val (x.take i) * y = val Z + 18446744073709551616 ^ i * a) (h6 : ∀ j, i ≤ j → dg Z' j = dg Z j)
    (hA : A.length = off) (hi : i < Z.length) (hs : s < 18446744073709551616) (hk : k < 18446744073709551616) (he : s + dg x i * y + a = dg Z' i + 18446744073709551616 * k) : SRel w g y A Z C x (i + 1) k (wr.setCell ⟨g, off + i, none⟩ (.int .u64 (s : Nat))) :=
  ⟨Z'.set i s, by simpa using h0, h1.set hs, hk, h3.zset hA i (by omega) rfl, grown_trans h4 (grown_set _ _ _ _), by rw [val_take_succ, Nat.add_mul, Nat.mul_assoc]; exact sub_one (by omega) he h5, fun j hj => by rw [dg_set_other (by omega)]; exact h6 j (by omega)⟩
set_option maxRecDepth 100000 in
set_option maxHeartbeats 4000000 in
theorem subProduct_any (g off n cap y : Nat) (sx : Value) (A Z C x : List Nat) (w : World) (hA : A.length = off) (hZ : Z.length = n) (hr : Row w g (A ++ (Z ++ C))) (hdz : Dig Z) (hx : Rd w sx x) (hap : Apart g sx) (hdx : Dig x) (hle : x.length ≤ n) (hy : y < 18446744073709551616) (hn : n ≤ 4000000) :
    Calls Tryz.prog 275 #[.slice (some ⟨g, off, none⟩) n cap, sx, .int .u64 (y : Nat)] w fun e w' => ∃ Z' a, e = .returned (.int .u64 (a : Nat)) ∧ (Z'.length = n ∧ Dig Z' ∧ a < 18446744073709551616 ∧ val Z' + val x * y = val Z + 18446744073709551616 ^ x.length * a ∧ (∀ j, x.length ≤ j → dg Z' j = dg Z j) ∧ Row w' g (A ++ (Z' ++ C))) ∧ w.grownBy w' (some g) := by
  have hx' := hx
  obtain ⟨ao, xcap, rfl, ⟨h1, h4⟩, h2, h3⟩ := hx'
  obtain ⟨m, hm⟩ : ∃ m, x.length = m := ⟨_, rfl⟩
  have HM := Lib.hid hm
  have HX := Lib.hid hx
  have HAP := Lib.hid hap
  have HDX := Lib.hid hdx
  have HA := Lib.hid hA
  have HZ := Lib.hid hZ
  unfold maxLen at h2
  rw [hm] at h1 hle HX HAP ⊢
  have HS := Lib.hid (show SRel w g y A Z C x 0 0 w from ⟨Z, rfl, hdz, by omega, hr, grown_refl _ _, by simp [val], fun _ _ => rfl⟩)
  clear hx hap hdx hA hZ hm hr hdz h3 h4
  go_enter Tryz.func275, Tryz.ntmps275
  go_wp2
  go_loopw [7, 15] (fun cv iv wr => ∃ i a : Nat, iv = .int .i64 i ∧ cv = .int .u64 a ∧ i ≤ m ∧ SRel w g y A Z C x i a wr) (fun _ iv _ => m - (intOf iv).toNat)
  case atStart => exact ⟨0, 0, rfl, rfl, Nat.zero_le _, HS.out⟩
  case round =>
    obtain ⟨i, a, rfl, rfl, him, hrel⟩ := hrel
    obtain ⟨Z', hl, hd, ha, hrow, hgr, hv, hup⟩ := hrel
    by_cases hlt : i < m
    · obtain ⟨gx, ox, rfl, hcx⟩ := lenpos HX.out (by omega)
      have c1 := hrow.zcell HA.out i (by rw [hl, HZ.out]; omega)
      have f1 := hrow.free (off + i)
      have c2 := (HX.out.kept hgr HAP.out).cellAt i hlt
      obtain ⟨h, l, s1, k1, s, k2, r1, r2, r3, hs, b1, b2, he⟩ := msc_ex (dg Z' i) (dg x i) y a (dg_lt hd i) (dg_lt HDX.out i) hy ha
      have HN := Lib.hid (SRel.next hl hd hrow hgr hv hup HA.out (by rw [HZ.out]; omega) hs b2 he)
      have R1 := Lib.hid r1
      generalize dg Z' i = d1 at c1 r3
      generalize dg x i = d2 at c2 r1 R1
      clear he hcx hrow hgr hv hl hd HS r1 hup
      go_wp2_with (go_at_call 201; refine (R1.out _).mono ?_; rintro e w' ⟨rfl, rfl⟩)
      go_roundw
      case rel => exact ⟨i + 1, h + k1 + k2, by go_num, by go_num, by omega, HN.out⟩
      case measure => simp [intOf]; omega
    · have : i = m := by omega
      subst this
      have HV := Lib.hid hv
      have HU := Lib.hid hup
      clear hv HS hup
      go_wp2
      go_ret
      refine ⟨Z', a, rfl, ⟨by rw [hl, HZ.out], hd, ha, ?_, HU.out, hrow⟩, hgr⟩
      have := HV.out
      rw [List.take_of_length_le (by rw [HM.out]; omega)] at this
      exact this
end Go.Proofs.YtlhmfgbaefaneaaGreatDoor.nat
namespace Go.Proofs.YtlhmfgbaefaneaaGreatDoor.nat
open Go.RowKit
theorem make_int (w : World) (i : Int) (n : Nat) (hi : i = n) (hn : n ≤ 8000000) : ∃ W1, (Instr.makeSlice 78 (.int .i64 i) (.int .i64 i)).run Tryz.prog w = .ok (.slice (some ⟨w.heap.size, 0, none⟩) n n) W1 ∧
    Row W1 w.heap.size (List.replicate n 0) ∧ Below w.heap.size w W1 := by
  subst hi
  obtain ⟨W1, h1, h2, h3, _⟩ := make_ex w n hn
  exact ⟨W1, h1, h2, h3⟩
theorem dg_app (A Z : List Nat) (j : Nat) : dg (A ++ Z) (A.length + j) = dg Z j := by
  simp only [dg, List.getD_eq_getElem?_getD]
  rw [List.getElem?_append_right (by omega), Nat.add_sub_cancel_left]
theorem dg_drop (Z : List Nat) (i j : Nat) : dg (Z.drop i) j = dg Z (i + j) := by simp [dg]
def PRel (w : World) (x y : List Nat) (g T i : Nat) (wr : World) : Prop :=
  ∃ Z, Z.length = T ∧ Dig Z ∧ Row wr g Z ∧ Below w.heap.size w wr ∧ val Z = val x * val (y.take i) ∧ ∀ j, x.length + i ≤ j → dg Z j = 0
theorem PRel.next {w wr w2 : World} {x y Z Z' : List Nat} {g T i a : Nat} (hl : Z.length = T) (hv : val Z = val x * val (y.take i)) (hz : ∀ j, x.length + i ≤ j → dg Z j = 0) (hb : Below w.heap.size w wr) (hg : w.heap.size ≤ g) (hT : x.length + i < T)
    (hl' : Z'.length = T - i) (hd' : Dig (Z.take i ++ Z')) (hv' : val Z' + 18446744073709551616 ^ x.length * a = val (Z.drop i) + val x * dg y i) (hu : ∀ j, x.length ≤ j → dg Z' j = dg (Z.drop i) j) (hr : Row w2 g (Z.take i ++ (Z' ++ []))) (hgr : wr.grownBy w2 (some g)) (ha : a < 18446744073709551616)
    {u : Int} (hu' : u = (a : Nat)) : PRel w x y g T (i + 1) (w2.setCell ⟨g, i + x.length, none⟩ (.int .u64 u)) := by
  have hlt : (Z.take i).length = i := by rw [List.length_take]; omega
  have hL : (Z.take i ++ Z').length = T := by rw [List.length_append, hlt, hl']; omega
  have hr2 : Row w2 g (Z.take i ++ Z') := by simpa using hr
  have e0 : dg Z' x.length = 0 := by
    rw [hu _ (Nat.le_refl _), dg_drop]
    exact hz (i + x.length) (by omega)
  have e1 : dg (Z.take i ++ Z') (i + x.length) = 0 := by
    have := dg_app (Z.take i) Z' x.length
    rw [hlt] at this
    rw [this, e0]
  refine ⟨(Z.take i ++ Z').set (i + x.length) a, by rw [List.length_set, hL], hd'.set ha, hr2.set _ (by omega) hu', below_grown (below_grown hb hgr hb.size hg) (grown_set _ _ _ _) ?_ hg, ?_, ?_⟩
  · have := hb.size; have := hgr.size; omega
  · have h1 := val_set (l := Z.take i ++ Z') (j := i + x.length) (d := a) (by omega)
    rw [e1, Nat.mul_zero, Nat.add_zero] at h1
    rw [h1, val_append, hlt, Nat.pow_add, Nat.mul_assoc, Nat.add_assoc, ← Nat.mul_add, hv', val_take_succ, Nat.mul_add, Nat.mul_add, ← hv]
    have h2 : val Z = val (Z.take i) + 18446744073709551616 ^ i * val (Z.drop i) := by
      have := val_append (Z.take i) (Z.drop i)
      rwa [List.take_append_drop, hlt] at this
    rw [h2, Nat.add_assoc]
    congr 2
    rw [Nat.mul_left_comm]
  · intro j hj
    rw [dg_set_other (by omega)]
    have := dg_app (Z.take i) Z' (j - i)
    rw [hlt, show i + (j - i) = j by omega] at this
    rw [this, hu _ (by omega), dg_drop, show i + (j - i) = j by omega]
    exact hz j (by omega)
set_option maxRecDepth 100000 in
set_option maxHeartbeats 2000000 in
theorem shortProduct_any (sx sy : Value) (x y : List Nat) (w : World) (hx : Rd w sx x) (hy : Rd w sy y) (hdx : Dig x) (hdy : Dig y) (hn : x.length ≤ 2000000) (hm : y.length ≤ 2000000) :
    Calls Tryz.prog 210 #[sx, sy] w fun e w' => ∃ sv, e = .returned sv ∧ Own w' w.heap.size sv (digs (val x * val y)) ∧ Below w.heap.size w w' := by
  have HX := Lib.hid hx
  have HY := Lib.hid hy
  have HDX := Lib.hid hdx
  have HDY := Lib.hid hdy
  obtain ⟨ao, xcap, rfl, ⟨h1, -⟩, h2, -⟩ := hx
  obtain ⟨bo, ycap, rfl, ⟨k1, -⟩, k2, -⟩ := hy
  obtain ⟨N, hN⟩ : ∃ N, x.length = N := ⟨_, rfl⟩
  obtain ⟨M, hM⟩ : ∃ M, y.length = M := ⟨_, rfl⟩
  have HN := Lib.hid hN
  have HM := Lib.hid hM
  obtain ⟨W1, hmk, hrow, hb⟩ := make_int w ((N : Int) + M) (N + M) (by omega) (by omega)
  have HS := Lib.hid (show PRel w x y w.heap.size (N + M) 0 W1 from ⟨_, by simp, dig_zeros _, hrow, hb, by rw [val_zeros]; simp [val], fun j _ => dg_zeros _ _⟩)
  rw [hN] at h1 hn HX ⊢
  rw [hM] at k1 hm HY ⊢
  clear hdx hdy hN hM hrow hb
  go_enter Tryz.func210, Tryz.ntmps210
  go_wp2
  go_loopw [16] (fun iv wr => ∃ i : Nat, i ≤ M ∧ iv = .int .i64 i ∧ PRel w x y w.heap.size (N + M) i wr) (fun iv _ => M - (intOf iv).toNat)
  case atStart => exact ⟨0, Nat.zero_le _, rfl, HS.out⟩
  case round =>
    obtain ⟨i, him, rfl, hrel⟩ := hrel
    obtain ⟨Z, hl, hd, hrow, hb, hv, hz⟩ := hrel
    by_cases hlt : i < M
    · obtain ⟨gy, oy, rfl, hcy⟩ := lenpos HY.out (by omega)
      have c2 := (HY.out.below hb).cellAt i hlt
      have D2 := dg_lt HDY.out i
      have HAP := Lib.hid (addProduct_any w.heap.size i (N + M - i) (N + M - i) (dg y i) (.slice ao N xcap) (Z.take i) (Z.drop i) [] x wr (by rw [List.length_take]; omega) (by rw [List.length_drop]; omega) (by simpa using hrow) (hd.drop _) (HX.out.below hb) (HX.out.apart (Nat.le_refl _)) HDX.out (by rw [HN.out]; omega) D2 (by omega))
      have HL := Lib.hid hl
      have HD := Lib.hid hd
      have HB := Lib.hid hb
      have HV := Lib.hid hv
      have HZ := Lib.hid hz
      have HDy := Lib.hid (show ∃ d, d = dg y i from ⟨_, rfl⟩)
      obtain ⟨d, hdd⟩ := HDy.out
      rw [← hdd] at c2 HAP D2
      have HDd := Lib.hid hdd
      clear hl hd hb hv hz hrow hcy hmk HS hdd HDy
      have e1 : ((i : Int) + (N : Int)).toNat = i + N := by omega
      go_wp2_with (go_at_call 253; refine (HAP.out).mono ?_; rintro e w2 ⟨Z', a, rfl, ⟨hl', hd', ha, hv', hu, hr⟩, hgr⟩; have f1 := hr.free (i + N); have c3 := hr.cell (i + N) (by rw [List.length_append, List.length_append, List.length_take, hl', HL.out, List.length_nil]; omega); have HP := Lib.hid (PRel.next (u := (a : Int)) HL.out HV.out HZ.out HB.out (Nat.le_refl _) (by rw [HN.out]; omega) hl' ((HD.out.take _).append hd') (by rw [← HDd.out]; exact hv') hu hr hgr ha rfl); clear hl' hd' ha hv' hu hr hgr HAP)
      go_roundw
      case rel => exact ⟨i + 1, by omega, by go_num, by have := HP.out; rw [HN.out] at this; exact this⟩
      case measure => simp [intOf]; omega
    · have : i = M := by omega
      subst this
      have hv2 : val Z = val x * val y := by rw [hv, List.take_of_length_le (by rw [HM.out]; omega)]
      have hO : Own wr w.heap.size (.slice (some ⟨w.heap.size, 0, none⟩) (N + i) (N + i)) Z := by
        have := Own.of_row (cap := N + i) hrow (Nat.le_refl _) (by omega) (by unfold maxLen; omega)
        rwa [hl] at this
      have HT := Lib.hid (trim_own _ Z wr hO (by omega) hd)
      rw [hv2] at HT
      have HB := Lib.hid hb
      clear hl hd hrow hb hv hz hv2 hO HS hmk
      go_wp2_with (go_at_call 209; refine (HT.out).mono ?_; rintro e w3 ⟨sv, rfl, hO3, rfl⟩; have HO3 := Lib.hid hO3; clear hO3)
      go_ret
      exact ⟨sv, rfl, HO3.out, HB.out⟩
end Go.Proofs.YtlhmfgbaefaneaaGreatDoor.nat
