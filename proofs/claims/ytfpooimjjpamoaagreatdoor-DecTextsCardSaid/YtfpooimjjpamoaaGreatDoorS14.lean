/-
  The steps of the walks, part 14: RootS, Root, Meth2, Int.
-/
import Derived.Test.YtfpooimjjpamoaaGreatDoorS13
namespace Go.Proofs.YtfpooimjjpamoaaGreatDoor.nat
open Go.RowKit
theorem digs_two_pow {n m : Nat} (h : n < 64 * m) : (digs (2 ^ n)).length ≤ m := by
  refine digs_len ?_
  have h1 : (18446744073709551616 : Nat) = 2 ^ 64 := by omega
  rw [h1, ← Nat.pow_mul]
  exact Nat.pow_lt_pow_right (by omega) h
set_option maxRecDepth 100000 in
set_option maxHeartbeats 4000000 in
theorem shortRoot_any (sx : Value) (x : List Nat) (k size : Nat) (w : World) (hx : Rd w sx x) (hnx : Norm x) (hs : x.length ≤ 800000) (hk : 1 ≤ k) (hkb : k < 9223372036854775808) (hsz : size ≤ 1000) (hab : val x < (2 ^ size) ^ k) (hb : (digs ((2 ^ size) ^ k)).length ≤ 400000) :
    Calls Tryz.prog 174 #[sx, .int .i64 (k : Int), .int .i64 (size : Int)] w fun e w' => ∃ sv r, e = .returned sv ∧ (RootIs (val x) k r ∧ Own w' w.heap.size sv (digs r)) ∧ Below w.heap.size w w' := by
  obtain ⟨ao, xcap, rfl, -⟩ := id hx
  obtain ⟨X, hXe⟩ : ∃ X, X = val x := ⟨_, rfl⟩
  rw [← hXe] at hab ⊢
  have HX := Lib.hid hx
  have HNX := Lib.hid hnx
  have HXe := Lib.hid hXe
  have HS := Lib.hid hs
  have HBo := Lib.hid hb
  have HAB := Lib.hid hab
  have HA1 := Lib.hid ((Below.refl w.heap.size w).alloc (Nat.le_refl _) (.cells #[] 45))
  have HO1 := Lib.hid (show Own (w.alloc (.cells #[] 45)) w.heap.size (.slice (some ⟨w.heap.size, 0, none⟩) 0 0) (digs 0) from by
    rw [digs_zero]
    exact ⟨_, 0, rfl, ⟨Nat.le_refl _, fun _ => rfl⟩, Nat.zero_le _, Or.inl rfl⟩)
  clear hx hnx hs hXe hab hb
  go_enter Tryz.func174, Tryz.ntmps174
  go_wp2
  go_loopw [7, 8] (fun zv pv wr => ∃ p r : Nat, pv = .int .i64 ((p : Int) - 1) ∧ p ≤ size ∧ Own wr w.heap.size zv (digs r) ∧ r ^ k ≤ X ∧ X < (r + 2 ^ p) ^ k ∧ r + 2 ^ p ≤ 2 ^ size ∧ Below w.heap.size w wr) (fun _ pv _ => (intOf pv + 1).toNat)
  case atStart => exact ⟨size, 0, rfl, Nat.le_refl _, HO1.out, by rw [Nat.zero_pow hk]; exact Nat.zero_le _, by rw [Nat.zero_add]; exact HAB.out, by omega, HA1.out⟩
  case round =>
    obtain ⟨p, r, rfl, hp, hO, hr1, hr2, hr3, hbl⟩ := hrel
    clear HO1
    by_cases hp0 : p = 0
    · subst hp0
      have HF := Lib.hid (show RootIs X k r from ⟨hr1, by simpa using hr2⟩)
      have HO := Lib.hid hO
      have HB := Lib.hid hbl
      clear hr1 hr2 hr3 hO hbl
      go_wp2
      go_ret
      exact ⟨_, r, rfl, ⟨HF.out, HO.out⟩, HB.out⟩
    · obtain ⟨q, hq⟩ : ∃ q, p = q + 1 := ⟨p - 1, by omega⟩
      subst hq
      have g1 : ((q + 1 : Nat) : Int) - 1 = (q : Int) := by omega
      have hpow : 2 ^ (q + 1) = 2 ^ q + 2 ^ q := by rw [Nat.pow_succ]; omega
      have hpq : 0 < 2 ^ q := Nat.pow_pos (by omega)
      have hle : r + 2 ^ q ≤ 2 ^ size := by omega
      have lt' : (digs ((r + 2 ^ q) ^ k)).length ≤ 400000 := digs_le_len (Nat.pow_le_pow_left hle k) HBo.out
      have lb : (digs (2 ^ size)).length ≤ 16 := digs_two_pow (by omega)
      have lr : (digs r).length ≤ 16 := digs_le_len (by omega) lb
      have lq : (digs (2 ^ q)).length ≤ 16 := digs_le_len (by omega) lb
      have lt2 : (digs (r + 2 ^ q)).length ≤ 16 := digs_le_len hle lb
      have hal : Below wr.heap.size wr (wr.alloc (.cells #[Value.int .u64 1] 45)) := (Below.refl _ _).alloc (Nat.le_refl _) _
      have hone : Rd (wr.alloc (.cells #[Value.int .u64 1] 45)) (.slice (some ⟨wr.heap.size, 0, none⟩) 1 1) [1] := word_rd (w := wr) (d := 1)
      have SU := Lib.hid (shiftUp_any _ [1] q _ hone (Dig.cons (by omega) Dig.nil) (by simp) (by omega))
      have hv1 : val [1] = 1 := by simp [val]
      rw [hv1, Nat.one_mul] at SU
      have HO := Lib.hid hO
      have HB := Lib.hid hbl
      have HAL := Lib.hid hal
      have HR := Lib.hid (And.intro hr1 (And.intro hr2 hr3))
      have HL := Lib.hid (And.intro lr (And.intro lq (And.intro lt2 lt')))
      have HP := Lib.hid hpow
      have HLE := Lib.hid hle
      rw [g1]
      clear hpq hO hbl hal hone hr1 hr2 hr3 hpow hle lt' lb lr lq lt2 hv1 hp0
      go_wp2_with (first
        | (go_at_call 177; with_reducible refine (SU.out).mono ?_; rintro e w2 ⟨s1, rfl, ho, hb⟩
           have hb2 := HAL.out.trans (hb.mono HAL.out.size)
           have HB2 := Lib.hid (HB.out.trans (hb2.mono HB.out.size))
           have HO2 := Lib.hid (HO.out.below hb2)
           have SM := Lib.hid (sum_any _ _ (digs r) (digs (2 ^ q)) w2 (HO.out.below hb2).rd ho.rd (norm_digs _).1 (norm_digs _).1 (by have := HL.out.1; omega) (by have := HL.out.2.1; omega))
           rw [val_digs, val_digs] at SM
           clear SU ho hb hb2)
        | (go_at_call 114; with_reducible refine (SM.out).mono ?_; rintro e w3 ⟨s2, rfl, ho, hb⟩
           have HB3 := Lib.hid (HB2.out.trans (hb.mono HB2.out.size))
           have HO3 := Lib.hid (HO2.out.below hb)
           have HT3 := Lib.hid (ho.mono (B' := w.heap.size) HB2.out.size)
           have PW := Lib.hid (power_v (X := r + 2 ^ q) (K := k) (i := (k : Int)) (val_digs _) ho.rd (norm_digs _) (by have := HL.out.2.2.1; omega) hkb (by have := HL.out.2.2.2; omega) rfl)
           clear SM ho hb)
        | (go_at_call 140; with_reducible refine (PW.out).mono ?_; rintro e w4 ⟨s3, rfl, ho, hb⟩
           have HB4 := Lib.hid (HB3.out.trans (hb.mono HB3.out.size))
           have HO4 := Lib.hid (HO3.out.below hb)
           have HT4 := Lib.hid (HT3.out.below hb)
           have CM := Lib.hid (compare_any _ _ (digs ((r + 2 ^ q) ^ k)) x w4 ho.rd (HX.out.below HB4.out) (norm_digs _) HNX.out (by have := HL.out.2.2.2; omega) (by have := HS.out; omega))
           rw [val_digs, ← HXe.out] at CM
           obtain ⟨c, hc⟩ : ∃ c, c = cmp3 (((r + 2 ^ q) ^ k : Nat) : Int) (X : Nat) := ⟨_, rfl⟩
           rw [← hc] at CM
           have HC := Lib.hid hc
           clear PW ho hb hc
           by_cases hcmp : c ≤ (0 : Int)))
      · go_wp2_with (go_at_call 116; with_reducible refine (CM.out).mono ?_; rintro e w6 ⟨rfl, m, rfl⟩; clear CM)
        have hin : (r + 2 ^ q) ^ k ≤ X := by
          rcases Nat.lt_or_ge X ((r + 2 ^ q) ^ k) with h | h
          · exfalso
            have := HC.out
            rw [cmp3_gt (by omega)] at this
            omega
          · exact h
        go_roundw
        case rel => exact ⟨q, r + 2 ^ q, by go_num, by omega, HT4.out.below (drew_below w4 m), hin, by rw [Nat.add_assoc, ← HP.out]; exact HR.out.2.1, by rw [Nat.add_assoc, ← HP.out]; exact HR.out.2.2, drewN_below HB4.out m⟩
        case measure => simp [intOf]
      · go_wp2_with (go_at_call 116; with_reducible refine (CM.out).mono ?_; rintro e w6 ⟨rfl, m, rfl⟩; clear CM)
        have hout : X < (r + 2 ^ q) ^ k := by
          rcases Nat.lt_or_ge X ((r + 2 ^ q) ^ k) with h | h
          · exact h
          · exfalso
            have := HC.out
            unfold cmp3 at this
            split at this
            · omega
            · rw [if_neg (by omega)] at this
              omega
        go_roundw
        case rel => exact ⟨q, r, by go_num, by omega, HO4.out.below (drew_below w4 m), HR.out.1, hout, HLE.out, drewN_below HB4.out m⟩
        case measure => simp [intOf]
end Go.Proofs.YtfpooimjjpamoaaGreatDoor.nat
namespace Go.Proofs.YtfpooimjjpamoaaGreatDoor.nat
open Go.RowKit
theorem lowerRoot_k (sx ss : Value) (x s : List Nat) (k : Nat) (w : World) (hx : Rd w sx x) (hst : Rd w ss s) (hnx : Norm x) (hns : Norm s) (hs : x.length ≤ 800000) (hk : 2 ≤ k) (hkb : k < 9223372036854775808) (hX : 1 ≤ val x) (hab : val x < val s ^ k) (hb : (digs (val s ^ k)).length ≤ 400000) :
    Calls Tryz.prog 176 #[sx, .int .i64 (k : Int), ss] w fun e w' => ∃ sv r, e = .returned sv ∧ (RootIs (val x) k r ∧ Own w' w.heap.size sv (digs r)) ∧ Below w.heap.size w w' := by
  obtain ⟨j, rfl⟩ : ∃ j, k = j + 1 := ⟨k - 1, by omega⟩
  have hv0 : 0 < val s := by
    rcases Nat.eq_zero_or_pos (val s) with h | h
    · rw [h, Nat.zero_pow (by omega)] at hab; omega
    · exact h
  have h1 : val s ^ j ≤ val s ^ (j + 1) := Nat.pow_le_pow_right hv0 (by omega)
  have h2 : val s ≤ val s ^ (j + 1) := by
    have := Nat.pow_le_pow_right hv0 (show 1 ≤ j + 1 by omega)
    rwa [Nat.pow_one] at this
  have := lowerRoot_any sx ss x s j w hx hst hnx hns hs (by omega) hkb hX hab (digs_le_len h1 hb) (digs_le_len h2 hb)
  rwa [show ((j + 1 : Nat) : Int) = (j : Int) + 1 by omega]
theorem root_sizes {L k d : Nat} (hk : 2 ≤ k) (hL : k < L) (hd : d = (L - 1) / k) : L ≤ (d + 1) * k ∧ (d + 1) * k < 2 * L ∧ d * k ≤ L - 1 := by
  have h1 := Nat.div_add_mod (L - 1) k
  have h2 := Nat.mod_lt (L - 1) (show 0 < k by omega)
  rw [← hd, Nat.mul_comm] at h1
  rw [Nat.add_mul, Nat.one_mul]
  omega
theorem cut_sizes {L k d s c : Nat} (hk : 2 ≤ k) (hL : k < L) (hd : d = (L - 1) / k) (hs : 2 * s + 4 < d + 1) (hc : c = (d + 1 - s) / 2 - 1) : 1 ≤ c ∧ c * k < L - 1 ∧ c * k < 2 * L := by
  obtain ⟨h1, h2, h3⟩ := root_sizes hk hL hd
  have hc1 : 1 ≤ c := by omega
  have hc2 : c ≤ d := by omega
  have hc3 : c + 1 ≤ d := by omega
  have h4 := Nat.mul_le_mul_right k hc3
  rw [Nat.add_mul, Nat.one_mul] at h4
  exact ⟨hc1, by omega, by omega⟩
def RootC (X : Nat) : Prop := ∀ (sx : Value) (x : List Nat) (k : Nat) (w : World), val x = X → Rd w sx x → Norm x → x.length ≤ 100000 → 2 ≤ k → k < 9223372036854775808 →
  Calls Tryz.prog 142 #[sx, .int .i64 (k : Int)] w fun e w' => ∃ sv r, e = .returned sv ∧ (RootIs X k r ∧ Own w' w.heap.size sv (digs r)) ∧ Below w.heap.size w w'
set_option maxRecDepth 100000 in
set_option maxHeartbeats 8000000 in
theorem root_step (X : Nat) (IH : ∀ Y, Y < X → RootC Y) : RootC X := by
  intro sx x k w hXe hx hnx hs hk2 hkb
  obtain ⟨ao, xcap, rfl, -⟩ := id hx
  have BL := Lib.hid (bitLength_any _ x w hx hnx (by omega))
  rw [hXe] at BL
  have HX := Lib.hid hx
  have HNX := Lib.hid hnx
  have HXe := Lib.hid hXe
  have HS := Lib.hid hs
  have HI := Lib.hid IH
  clear hx hnx hXe hs IH
  by_cases hX0 : X = 0
  · have hxn : x = [] := by
      have := HNX.out.zero
      rw [HXe.out] at this
      exact this.1 hX0
    have hal : Below w.heap.size w (w.alloc (.cells #[Value.int .u64 0] 45)) := (Below.refl _ _).alloc (Nat.le_refl _) _
    have TR := Lib.hid (trim_own (B := w.heap.size) _ [0] _ (word_own (w := w) (d := 0) (B := w.heap.size) (Nat.le_refl _)) (by simp) (Dig.cons (by omega) Dig.nil))
    have hv1 : val [0] = 0 := by simp [val]
    rw [hv1] at TR
    have HAL := Lib.hid hal
    have HXN := Lib.hid hxn
    have HR := Lib.hid (show RootIs X k 0 from ⟨by rw [Nat.zero_pow (by omega)]; omega, by rw [hX0, Nat.zero_add, Nat.one_pow]; omega⟩)
    clear hal hv1 hxn
    go_enter Tryz.func142, Tryz.ntmps142
    go_wp2_with (first
      | (go_at_call 173; refine (BL.out).mono ?_; rintro e w1 ⟨L, rfl, ⟨hL1, hL2, hL3, hL4⟩, rfl⟩
         obtain rfl := hL4 HXN.out
         clear BL hL1 hL2 hL3 hL4)
      | (go_at_call 145; refine (TR.out).mono ?_; rintro e w2 ⟨sv, rfl, ho, rfl⟩; have HO := Lib.hid ho; clear TR ho))
    go_ret
    exact ⟨_, 0, rfl, ⟨HR.out, HO.out⟩, HAL.out⟩
  · have hX1 : 1 ≤ X := by omega
    go_enter Tryz.func142, Tryz.ntmps142
    go_wp2_with (first
      | (go_at_call 173; refine (BL.out).mono ?_; rintro e w1 ⟨L, rfl, ⟨hL1, hL2, hL3, -⟩, rfl⟩
         have hLb : L ≤ 6400000 := by have := HS.out; omega
         have hL0 : 0 < L := (hL3 (by omega)).1
         have HL := Lib.hid (And.intro hL2 (hL3 (by omega)).2)
         have hmin : min (1 : Int) (L : Int) = 1 := by omega
         obtain ⟨d, hd⟩ : ∃ d, d = (L - 1) / k := ⟨_, rfl⟩
         have hdb : d ≤ 6400000 := by rw [hd]; exact Nat.le_trans (Nat.div_le_self _ _) (by omega)
         have Fd : ((L : Int) - 1) / (k : Int) = (d : Int) := by
           rw [hd, Int.natCast_ediv]
           congr 1
           omega
         have HD := Lib.hid hd
         have hal : Below w.heap.size w (w.alloc (.cells #[Value.int .u64 1] 45)) := (Below.refl _ _).alloc (Nat.le_refl _) _
         have TR := Lib.hid (trim_own (B := w.heap.size) _ [1] _ (word_own (w := w) (d := 1) (B := w.heap.size) (Nat.le_refl _)) (by simp) (Dig.cons (by omega) Dig.nil))
         have hv1 : val [1] = 1 := by simp [val]
         rw [hv1] at TR
         have HAL := Lib.hid hal
         clear BL hL1 hL2 hL3 hal hv1 hd
         by_cases hkL : (L : Int) ≤ (k : Int))
      | (go_at_call 145; refine (TR.out).mono ?_; rintro e w2 ⟨sv, rfl, ho, rfl⟩; have HO := Lib.hid ho; clear TR ho)
      | (go_at_call 172; refine (Len_any k _ (by omega)).mono ?_; rintro e w2 ⟨s, rfl, ⟨hs64, -, -⟩, rfl⟩
         by_cases hB : (d : Int) + 1 ≤ 2 * (s : Int) + 4
         all_goals (first
           | (have hB2 : 2 * s + 4 < d + 1 := by omega
              obtain ⟨c, hc⟩ : ∃ c, c = (d + 1 - s) / 2 - 1 := ⟨_, rfl⟩
              obtain ⟨z1, z2, z3⟩ := cut_sizes hk2 (by omega) HD.out hB2 hc
              obtain ⟨ck, hck⟩ : ∃ ck, ck = c * k := ⟨_, rfl⟩
              rw [← hck] at z2 z3
              have Fc : ((d : Int) + 1 - (s : Int)) / 2 - 1 = (c : Int) := by omega
              have Fck : (c : Int) * (k : Int) = (ck : Int) := by rw [hck, Int.natCast_mul]
              have hcb : c ≤ 6400000 := by omega
              have SD := Lib.hid (shiftDown_any _ x ck w HX.out HNX.out.1 (by have := HS.out; omega) (by omega))
              rw [HXe.out] at SD
              have HCK := Lib.hid hck
              clear hc hck)
           | (have hB2 : (d : Int) + 1 ≤ 1000 := by omega
              obtain ⟨z1, z2, z3⟩ := root_sizes hk2 (show k < L by omega) HD.out
              have SR := Lib.hid (shortRoot_any _ x k (d + 1) w HX.out HNX.out (by have := HS.out; omega) (by omega) hkb (by omega) (by rw [HXe.out, ← Nat.pow_mul]; exact Nat.lt_of_lt_of_le HL.out.1 (Nat.pow_le_pow_right (by omega) z1)) (by rw [← Nat.pow_mul]; exact digs_two_pow (by omega)))
              rw [HXe.out, show ((d + 1 : Nat) : Int) = (d : Int) + 1 by omega] at SR
              clear z1 z2 z3)))
      | (go_at_call 174; with_reducible refine (SR.out).mono ?_; rintro e w3 ⟨sv, r, rfl, ⟨hr, ho⟩, hb⟩; have HR := Lib.hid hr; have HO := Lib.hid ho; have HBs := Lib.hid hb; clear SR hr ho hb))
    · go_ret
      refine ⟨_, 1, rfl, ⟨⟨by rw [Nat.one_pow]; exact hX1, Nat.lt_of_lt_of_le HL.out.1 (Nat.pow_le_pow_right (by omega) (by omega))⟩, HO.out⟩, HAL.out⟩
    · go_ret
      exact ⟨_, r, rfl, ⟨HR.out, HO.out⟩, HBs.out⟩
    · obtain ⟨Y, hY⟩ : ∃ Y, Y = X / 2 ^ ck := ⟨_, rfl⟩
      rw [← hY] at SD
      have h2X : 2 ^ L ≤ 2 * X := HL.out.2
      have hck0 : 0 < ck := by
        rw [HCK.out]
        exact Nat.mul_pos (by omega) (by omega)
      have hYX : Y < X := by
        rw [hY]
        exact Nat.div_lt_self (by omega) (Nat.one_lt_two_pow (by omega))
      have hY1 : 1 ≤ Y := by
        rw [hY, Nat.le_div_iff_mul_le (Nat.pow_pos (by omega)), Nat.one_mul]
        have h5 : 2 ^ (ck + 1) ≤ 2 ^ L := Nat.pow_le_pow_right (by omega) (by omega)
        rw [Nat.pow_succ] at h5
        omega
      have lX : (digs X).length ≤ 100000 := by
        have := HS.out
        rw [HNX.out.eq_digs, HXe.out] at this
        exact this
      have HY := Lib.hid hY
      have HYX := Lib.hid hYX
      have HY1 := Lib.hid hY1
      have lY : (digs Y).length ≤ 100000 := digs_le_len (Nat.le_of_lt hYX) lX
      have HLY := Lib.hid lY
      clear hY h2X hYX hY1 lX lY
      go_wp2_with (first
        | (go_at_call 175; with_reducible refine (SD.out).mono ?_; rintro e w3 ⟨s3, rfl, ho, hb⟩
           have HB3 := Lib.hid hb
           have RC := Lib.hid (HI.out Y HYX.out s3 (digs Y) k w3 (val_digs Y) ho.rd (norm_digs Y) HLY.out hk2 hkb)
           clear SD ho hb)
        | (go_at_call 142; with_reducible refine (RC.out).mono ?_; rintro e w4 ⟨s4, r, rfl, ⟨hr, ho⟩, hb⟩
           have HB4 := Lib.hid (HB3.out.trans (hb.mono HB3.out.size))
           have HR := Lib.hid hr
           have hrY : r ≤ Y := by
             rcases Nat.eq_zero_or_pos r with h | h
             · omega
             · refine Nat.le_trans ?_ hr.1
               have := Nat.pow_le_pow_right h (show 1 ≤ k by omega)
               rwa [Nat.pow_one] at this
           have lr : (digs r).length ≤ 100000 := digs_le_len hrY HLY.out
           have hal : Below w4.heap.size w4 (w4.alloc (.cells #[Value.int .u64 1] 45)) := (Below.refl _ _).alloc (Nat.le_refl _) _
           have hone : Rd (w4.alloc (.cells #[Value.int .u64 1] 45)) (.slice (some ⟨w4.heap.size, 0, none⟩) 1 1) [1] := word_rd (w := w4) (d := 1)
           have SM := Lib.hid (sum_any _ _ (digs r) [1] _ (ho.rd.below hal) hone (norm_digs _).1 (Dig.cons (by omega) Dig.nil) (by omega) (by simp))
           have hv1 : val [1] = 1 := by simp [val]
           rw [val_digs, hv1] at SM
           have HAL4 := Lib.hid hal
           have HLR := Lib.hid (digs_add_len (X := r) (Y := 1) lr (Nat.le_trans (digs_small (by omega)) (by omega)))
           clear RC hr ho hb hrY lr hal hone hv1)
        | (go_at_call 114; refine (SM.out).mono ?_; rintro e w5 ⟨s5, rfl, ho, hb⟩
           have HB5 := Lib.hid (HB4.out.trans ((HAL4.out.trans (hb.mono HAL4.out.size)).mono HB4.out.size))
           have SU := Lib.hid (shiftUp_any _ (digs (r + 1)) c w5 ho.rd (norm_digs _).1 (by have := HLR.out; omega) (by omega))
           rw [val_digs] at SU
           clear SM ho hb)
        | (go_at_call 177; with_reducible refine (SU.out).mono ?_; rintro e w6 ⟨s6, rfl, ho, hb⟩
           have HB6 := Lib.hid (HB5.out.trans (hb.mono HB5.out.size))
           have hRI : RootIs (X / 2 ^ (c * k)) k r := by rw [← HCK.out, ← HY.out]; exact HR.out
           have hr1 : 1 ≤ r := by
             rcases Nat.eq_zero_or_pos r with h | h
             · exfalso
               have := HR.out.2
               rw [h, Nat.zero_add, Nat.one_pow] at this
               have := HY1.out
               omega
             · exact h
           have hst := root_start hRI
           have hbd := root_bound hRI hr1
           have hb2 : 2 ^ k * X ≤ 2 ^ (k + L) := by
             rw [Nat.pow_add]
             exact Nat.mul_le_mul_left _ (Nat.le_of_lt HL.out.1)
           have hv : val (digs ((r + 1) * 2 ^ c)) = (r + 1) * 2 ^ c := val_digs _
           have LR := Lib.hid (lowerRoot_k _ _ x (digs ((r + 1) * 2 ^ c)) k w6 (HX.out.below HB6.out) ho.rd HNX.out (norm_digs _) (by have := HS.out; omega) hk2 hkb (by rw [HXe.out]; exact hX1) (by rw [HXe.out, hv]; exact hst) (by rw [hv]; exact digs_le_len (Nat.le_trans hbd hb2) (digs_two_pow (by omega))))
           rw [HXe.out] at LR
           clear SU ho hb hRI hr1 hst hbd hb2 hv)
        | (go_at_call 176; with_reducible refine (LR.out).mono ?_; rintro e w7 ⟨s7, r7, rfl, ⟨hr, ho⟩, hb⟩
           have HR7 := Lib.hid hr
           have HO7 := Lib.hid (ho.mono (B' := w.heap.size) HB6.out.size)
           have HB7 := Lib.hid (HB6.out.trans (hb.mono HB6.out.size))
           clear LR hr ho hb))
      go_ret
      exact ⟨_, r7, rfl, ⟨HR7.out, HO7.out⟩, HB7.out⟩
theorem root_any : ∀ X, RootC X := fun X => by
  induction X using Nat.strongRecOn with
  | _ X ih => exact root_step X ih
end Go.Proofs.YtfpooimjjpamoaaGreatDoor.nat
namespace Go.Proofs.YtfpooimjjpamoaaGreatDoor.nat
open Go.RowKit
theorem digs_gcd_len {X Y n : Nat} (hx : (digs X).length ≤ n) (hy : (digs Y).length ≤ n) : (digs (Nat.gcd X Y)).length ≤ n := by
  rcases Nat.eq_zero_or_pos X with rfl | h
  · rw [Nat.gcd_zero_left]; exact hy
  · exact digs_le_len (Nat.le_of_dvd h (Nat.gcd_dvd_left _ _)) hx
set_option maxRecDepth 100000 in
theorem Len_zero (w : World) : Calls Tryz.prog 172 #[.int .u64 0] w fun e w' => e = .returned (.int .i64 0) ∧ w = w' := by
  go_enter Tryz.func172, Tryz.ntmps172
  go_wp2_with (go_at_call 204; refine (Len64_any 0 _ (by omega) (by omega)).mono ?_; rintro e w' ⟨rfl, rfl⟩)
  go_ret
  exact ⟨rfl, rfl⟩
set_option maxRecDepth 100000 in
set_option maxHeartbeats 1000000 in
theorem power_neg (sx : Value) (k : Int) (w : World) (hk : k ≤ 0) (hx : ∃ ao n cap, sx = .slice ao n cap) :
    Calls Tryz.prog 140 #[sx, .int .i64 k] w fun e w' => ∃ sv, e = .returned sv ∧ Own w' w.heap.size sv (digs 1) ∧ Below w.heap.size w w' := by
  obtain ⟨ao, n, cap, rfl⟩ := hx
  have hmax : max k 0 = 0 := by omega
  have HO1 := Lib.hid (show Own (w.alloc (.cells #[Value.int .u64 1] 45)) w.heap.size (.slice (some ⟨w.heap.size, 0, none⟩) 1 1) (digs 1) from by
    have := word_own (w := w) (d := 1) (B := w.heap.size) (Nat.le_refl _)
    have e : digs 1 = [1] := by rw [digs_pos (by omega), show 1 % 18446744073709551616 = 1 by omega, show 1 / 18446744073709551616 = 0 by omega, digs_zero]
    rw [e]
    exact this)
  have HB1 := Lib.hid ((Below.refl w.heap.size w).alloc (Nat.le_refl _) (.cells #[Value.int .u64 1] 45))
  go_enter Tryz.func140, Tryz.ntmps140
  go_wp2_with (go_at_call 172; refine (Len_zero _).mono ?_; rintro e w1 ⟨rfl, rfl⟩)
  go_loopw [5, 6] (fun zv pv wr => pv = .int .i64 (-1) ∧ zv = .slice (some ⟨w.heap.size, 0, none⟩) 1 1 ∧ w.alloc (.cells #[Value.int .u64 1] 45) = wr) (fun _ _ _ => 0)
  case atStart => exact ⟨rfl, rfl, rfl⟩
  case round =>
    obtain ⟨rfl, rfl, rfl⟩ := hrel
    go_wp2
    go_ret
    exact ⟨_, rfl, HO1.out, HB1.out⟩
theorem root_len {X k r n : Nat} (h : RootIs X k r) (hx : (digs X).length ≤ n) (hk : 1 ≤ k) : (digs r).length ≤ n := by
  rcases Nat.eq_zero_or_pos r with rfl | h0
  · rw [digs_zero]; simp
  · refine digs_le_len (Nat.le_trans ?_ h.1) hx
    have := Nat.pow_le_pow_right h0 hk
    rwa [Nat.pow_one] at this
theorem power_int (sx : Value) (x : List Nat) (k : Int) (w : World) (hx : Rd w sx x) (hnx : Norm x) (hs : x.length ≤ 900000) (hk : k < 9223372036854775808) (hb : (digs (val x ^ k.toNat)).length ≤ 900000) :
    Calls Tryz.prog 140 #[sx, .int .i64 k] w fun e w' => ∃ sv, e = .returned sv ∧ Own w' w.heap.size sv (digs (val x ^ k.toNat)) ∧ Below w.heap.size w w' := by
  rcases Int.le_total k 0 with h | h
  · rw [show k.toNat = 0 by omega, Nat.pow_zero]
    obtain ⟨ao, cap, rfl, -⟩ := hx
    exact power_neg _ k w h ⟨_, _, _, rfl⟩
  · obtain ⟨K, rfl⟩ := Int.eq_ofNat_of_zero_le h
    rw [Int.toNat_natCast] at hb ⊢
    exact power_pos sx x K w hx hnx hs (by omega) hb
set_option maxRecDepth 100000 in
theorem Gcd_any (a b : Value) (X Y : Nat) (w : World) (ha : IsN w a X) (hb : IsN w b Y) (hx : (digs X).length ≤ 900000) (hy : (digs Y).length ≤ 900000) :
    Calls Tryz.prog 40 #[a, b] w fun e w' => ∃ v, e = .returned v ∧ (IsN w' v (Nat.gcd X Y) ∧ v ≠ .pointer none) ∧ Below w.heap.size w w' := by
  have L1 := Lib.hid (list_any a X w ha)
  have L2 := Lib.hid (list_any b Y w hb)
  clear ha hb
  go_enter Tryz.func40, Tryz.ntmps40
  go_wp2_with (first
    | (go_at_call 106; refine (L1.out).mono ?_; rintro e w1 ⟨sa, rfl, ha, rfl⟩; have HA := Lib.hid ha; clear L1 ha)
    | (go_at_call 106; refine (L2.out).mono ?_; rintro e w1 ⟨sb, rfl, hb, rfl⟩
       have C := Lib.hid (divisor_any sa sb _ _ w HA.out hb (norm_digs X) (norm_digs Y) (by omega) (by omega))
       rw [val_digs, val_digs] at C
       clear L2 hb)
    | (go_at_call 117; refine (C.out).mono ?_; rintro e w2 ⟨sv, rfl, ho, hb2⟩
       have O := Lib.hid (own_any sv _ w2 ho.rd (norm_digs _).1 (by have := digs_gcd_len hx hy; omega))
       rw [val_digs] at O
       have HB2 := Lib.hid hb2
       clear C ho hb2)
    | (go_at_call 104; refine (O.out).mono ?_; rintro e w3 ⟨v, rfl, hi, hb3⟩; have HI := Lib.hid hi; have HB3 := Lib.hid (HB2.out.trans (hb3.mono HB2.out.size)); clear O hi hb3))
  go_ret
  exact ⟨v, rfl, HI.out, HB3.out⟩
set_option maxRecDepth 100000 in
theorem Pow_any (a : Value) (X : Nat) (k : Int) (w : World) (ha : IsN w a X) (hx : (digs X).length ≤ 900000) (hk : k < 9223372036854775808) (hb : (digs (X ^ k.toNat)).length ≤ 900000) :
    Calls Tryz.prog 94 #[a, .int .i64 k] w fun e w' => ∃ v, e = .returned v ∧ (IsN w' v (X ^ k.toNat) ∧ v ≠ .pointer none) ∧ Below w.heap.size w w' := by
  have L1 := Lib.hid (list_any a X w ha)
  clear ha
  go_enter Tryz.func94, Tryz.ntmps94
  go_wp2_with (first
    | (go_at_call 106; refine (L1.out).mono ?_; rintro e w1 ⟨sa, rfl, ha, rfl⟩
       have C := Lib.hid (power_int sa (digs X) k w ha (norm_digs X) hx hk (by rw [val_digs]; exact hb))
       clear L1 ha)
    | (go_at_call 140; refine (C.out).mono ?_; rintro e w2 ⟨sv, rfl, ho, hb2⟩
       have O := Lib.hid (own_any sv _ w2 ho.rd (norm_digs _).1 (by rw [val_digs]; omega))
       rw [val_digs, val_digs] at O
       have HB2 := Lib.hid hb2
       clear C ho hb2)
    | (go_at_call 104; refine (O.out).mono ?_; rintro e w3 ⟨v, rfl, hi, hb3⟩; have HI := Lib.hid hi; have HB3 := Lib.hid (HB2.out.trans (hb3.mono HB2.out.size)); clear O hi hb3))
  go_ret
  exact ⟨v, rfl, HI.out, HB3.out⟩
set_option maxRecDepth 100000 in
theorem Root_high (a : Value) (X : Nat) (k : Int) (w : World) (ha : IsN w a X) (hx : (digs X).length ≤ 100000) (hk : 2 ≤ k) (hkb : k < 9223372036854775808) :
    Calls Tryz.prog 96 #[a, .int .i64 k] w fun e w' => ∃ v, e = .returned v ∧ (∃ r, RootIs X k.toNat r ∧ IsN w' v r ∧ v ≠ .pointer none) ∧ Below w.heap.size w w' := by
  have L1 := Lib.hid (list_any a X w ha)
  clear ha
  obtain ⟨K, rfl⟩ := Int.eq_ofNat_of_zero_le (show 0 ≤ k by omega)
  have hk1 : ¬ (K : Int) ≤ 1 := by omega
  go_enter Tryz.func96, Tryz.ntmps96
  go_wp2_with (first
    | (go_at_call 106; refine (L1.out).mono ?_; rintro e w1 ⟨sa, rfl, ha, rfl⟩
       have C := Lib.hid (root_any X sa (digs X) K w (val_digs X) ha (norm_digs X) hx (by omega) (by omega))
       clear L1 ha)
    | (go_at_call 142; refine (C.out).mono ?_; rintro e w2 ⟨sv, r, rfl, ⟨hr, ho⟩, hb2⟩
       have HR := Lib.hid hr
       clear hr
       have O := Lib.hid (own_any sv _ w2 ho.rd (norm_digs _).1 (by have := root_len HR.out hx (by omega); omega))
       rw [val_digs] at O
       have HB2 := Lib.hid hb2
       clear C ho hb2)
    | (go_at_call 104; refine (O.out).mono ?_; rintro e w3 ⟨v, rfl, hi, hb3⟩; have HI := Lib.hid hi; have HB3 := Lib.hid (HB2.out.trans (hb3.mono HB2.out.size)); clear O hi hb3))
  go_ret
  exact ⟨v, rfl, ⟨r, by rw [Int.toNat_natCast]; exact HR.out, HI.out.1, HI.out.2⟩, HB3.out⟩
set_option maxRecDepth 100000 in
theorem Small_any (a : Value) (X : Nat) (w : World) (ha : IsN w a X) :
    Calls Tryz.prog 47 #[a] w fun e w' => e = .returned (.tuple #[.int .u64 ((if X < 18446744073709551616 then X else 0 : Nat) : Int), .bool (decide (X < 18446744073709551616))]) ∧ w = w' := by
  have L1 := Lib.hid (list_any a X w ha)
  clear ha
  rcases (show (digs X).length = 0 ∨ (digs X).length = 1 ∨ 2 ≤ (digs X).length by omega) with h | h | h
  · have hX : X = 0 := by rw [← val_digs X, List.eq_nil_of_length_eq_zero h]; rfl
    subst hX
    have HH := Lib.hid h
    clear h
    go_enter Tryz.func47, Tryz.ntmps47
    go_wp2_with (go_at_call 106; refine (L1.out).mono ?_; rintro e w1 ⟨sa, rfl, ha, rfl⟩; obtain ⟨ao, cap, rfl, -⟩ := id ha; rw [HH.out]; clear L1 ha)
    go_ret2
    exact ⟨by simp, rfl⟩
  · obtain ⟨d1, d2, d3⟩ := digs_one h
    have HH := Lib.hid h
    have H1 := Lib.hid d1
    have hif : (if X < 18446744073709551616 then X else 0) = X := if_pos d2
    rw [hif, decide_eq_true d2]
    clear h d1 hif
    go_enter Tryz.func47, Tryz.ntmps47
    go_wp2_with (go_at_call 106; refine (L1.out).mono ?_; rintro e w1 ⟨sa, rfl, ha, rfl⟩
                 rw [H1.out] at ha
                 obtain ⟨ao, cap, rfl, -⟩ := id ha
                 obtain ⟨g, off, rfl, -⟩ := lenpos ha (by simp)
                 have c0 := ha.cellAt 0 (by simp)
                 simp only [Nat.add_zero, dg, List.getD_cons_zero] at c0
                 simp only [List.length_cons, List.length_nil, Nat.zero_add]
                 clear L1 ha)
    go_ret2
    exact ⟨rfl, rfl⟩
  · have hX : ¬ X < 18446744073709551616 := by
      intro hlt
      have := digs_small hlt
      omega
    rw [if_neg hX, decide_eq_false hX]
    have h0 : (((digs X).length : Int) == 0) = false := by simp only [beq_eq_false_iff_ne, ne_eq]; omega
    have h1 : (((digs X).length : Int) == 1) = false := by simp only [beq_eq_false_iff_ne, ne_eq]; omega
    obtain ⟨n, hn⟩ : ∃ n, n = (digs X).length := ⟨_, rfl⟩
    rw [← hn] at h0 h1
    have HN := Lib.hid hn
    clear h hX hn
    go_enter Tryz.func47, Tryz.ntmps47
    go_wp2_with (go_at_call 106; refine (L1.out).mono ?_; rintro e w1 ⟨sa, rfl, ha, rfl⟩; obtain ⟨ao, cap, rfl, -⟩ := id ha; rw [← HN.out]; clear L1 ha)
    go_ret2
    exact ⟨rfl, rfl⟩
set_option maxRecDepth 100000 in
theorem Sub_ok (a b : Value) (X Y : Nat) (w : World) (ha : IsN w a X) (hb : IsN w b Y) (hle : Y ≤ X) (hx : (digs X).length ≤ 900000) :
    Calls Tryz.prog 27 #[a, b] w fun e w' => ∃ v, e = .returned (.tuple #[v, .nilIface]) ∧ (IsN w' v (X - Y) ∧ v ≠ .pointer none) ∧ Below w.heap.size w w' := by
  have hy : (digs Y).length ≤ 900000 := digs_le_len hle hx
  have CM := Lib.hid (Cmp_any a b X Y w ha hb (by omega) (by omega))
  obtain ⟨c, hc⟩ : ∃ c, c = cmp3 (X : Nat) (Y : Nat) := ⟨_, rfl⟩
  have hc0 : ¬ c < 0 := by
    rw [hc]
    unfold cmp3
    rw [if_neg (by omega)]
    split <;> omega
  rw [← hc] at CM
  have L1 := Lib.hid (fun m => list_any a X (w.drewN m) (ha.below (drew_below w m)))
  have L2 := Lib.hid (fun m => list_any b Y (w.drewN m) (hb.below (drew_below w m)))
  clear ha hb hc
  go_enter Tryz.func27, Tryz.ntmps27
  go_wp2_with (first
    | (go_at_call 39; refine (CM.out).mono ?_; rintro e w1 ⟨rfl, m, rfl⟩; clear CM)
    | (go_at_call 106; refine (L1.out _).mono ?_; rintro e w1 ⟨sa, rfl, ha, rfl⟩; have HA := Lib.hid ha; clear L1 ha)
    | (go_at_call 106; refine (L2.out _).mono ?_; rintro e w1 ⟨sb, rfl, hb, rfl⟩
       have C := Lib.hid (difference_any sa sb _ _ _ HA.out hb (norm_digs X).1 (norm_digs Y) (by rw [val_digs, val_digs]; exact hle) (by omega))
       rw [val_digs, val_digs] at C
       clear L2 hb)
    | (go_at_call 105; refine (C.out).mono ?_; rintro e w2 ⟨sv, rfl, ho, hb2⟩
       have O := Lib.hid (own_any sv _ w2 ho.rd (norm_digs _).1 (by have := digs_le_len (Nat.sub_le X Y) hx; omega))
       rw [val_digs] at O
       have HB2 := Lib.hid ((drew_below w m).trans hb2)
       clear C ho hb2)
    | (go_at_call 104; refine (O.out).mono ?_; rintro e w3 ⟨v, rfl, hi, hb3⟩; have HI := Lib.hid hi; have HB3 := Lib.hid (HB2.out.trans (hb3.mono HB2.out.size)); clear O hi hb3))
  go_ret2
  exact ⟨_, rfl, HI.out, HB3.out⟩
end Go.Proofs.YtfpooimjjpamoaaGreatDoor.nat
namespace Go.Proofs.YtfpooimjjpamoaaGreatDoor.num
open Go.RowKit Go.Proofs.YtfpooimjjpamoaaGreatDoor.nat
def sgn (neg : Bool) (X : Nat) : Int := if neg then -(X : Int) else X
theorem sgn_neg (z : Int) : sgn (!decide (z < 0)) z.natAbs = -z := by
  unfold sgn
  split <;> simp_all <;> omega
def IsZ (w : World) (v : Value) (z : Int) : Prop :=
  (v = .pointer none ∧ z = 0) ∨ ∃ b o neg sv X, v = .pointer (some ⟨b, o, none⟩) ∧ w.cell? ⟨b, o, none⟩ = some (.bool neg) ∧ w.cell? ⟨b, o + 1, none⟩ = some sv ∧ Rd w sv (digs X) ∧ z = sgn neg X ∧ (neg = true → 0 < X)
theorem IsZ.below {w w' : World} {v : Value} {z : Int} (h : IsZ w v z) (hb : Below w.heap.size w w') : IsZ w' v z := by
  rcases h with h | ⟨b, o, neg, sv, X, h1, h2, h3, h4, h5⟩
  · exact Or.inl h
  · exact Or.inr ⟨b, o, neg, sv, X, h1, (hb.cell (p := ⟨b, o, none⟩) (cell_lt h2)).trans h2, (hb.cell (p := ⟨b, o + 1, none⟩) (cell_lt h3)).trans h3, h4.below hb, h5⟩
theorem IsZ.inj {w : World} {v : Value} {z y : Int} (h : IsZ w v z) (h' : IsZ w v y) : z = y := by
  rcases h with ⟨rfl, rfl⟩ | ⟨b, o, neg, sv, X, rfl, h2, h3, h4, rfl, -⟩
  · rcases h' with ⟨_, rfl⟩ | ⟨b', o', neg', sv', X', he, _⟩
    · rfl
    · simp at he
  · rcases h' with ⟨he, _⟩ | ⟨b', o', neg', sv', X', he, k2, k3, k4, rfl, -⟩
    · simp at he
    · simp only [Value.pointer.injEq, Option.some.injEq, Addr.mk.injEq, and_true] at he
      obtain ⟨rfl, rfl⟩ := he
      rw [h2] at k2
      rw [h3] at k3
      simp only [Option.some.injEq, Value.bool.injEq] at k2 k3
      subst k2 k3
      rw [← val_digs X, ← val_digs X', h4.inj k4]
set_option maxRecDepth 100000 in
theorem isBelow_any (v : Value) (z : Int) (w : World) (h : IsZ w v z) :
    Calls Tryz.prog 123 #[v] w fun e w' => e = .returned (.bool (decide (z < 0))) ∧ w = w' := by
  rcases h with ⟨rfl, rfl⟩ | ⟨b, o, neg, sv, X, rfl, h2, h3, h4, h5, h6⟩
  · go_enter Tryz.func123, Tryz.ntmps123
    go_wp2
    go_ret
    exact ⟨rfl, rfl⟩
  · have hd : decide (z < 0) = neg := by
      subst h5
      unfold sgn
      cases neg
      · simp
      · have := h6 rfl
        simp
        omega
    rw [hd]
    clear h3 h4 h5 h6 hd
    go_enter Tryz.func123, Tryz.ntmps123
    go_wp2
    go_ret
    exact ⟨rfl, rfl⟩
set_option maxRecDepth 100000 in
theorem amount_any (v : Value) (z : Int) (w : World) (h : IsZ w v z) :
    Calls Tryz.prog 122 #[v] w fun e w' => ∃ v', e = .returned v' ∧ IsN w v' z.natAbs ∧ w = w' := by
  rcases h with ⟨rfl, rfl⟩ | ⟨b, o, neg, sv, X, rfl, h2, h3, h4, h5, h6⟩
  · go_enter Tryz.func122, Tryz.ntmps122
    go_wp2
    go_ret
    exact ⟨_, rfl, Or.inl ⟨rfl, rfl⟩, rfl⟩
  · have hN := Lib.hid (show IsN w (.pointer (some ⟨b, o + 1, none⟩)) z.natAbs from by
      have : z.natAbs = X := by subst h5; unfold sgn; split <;> omega
      rw [this]
      exact Or.inr ⟨b, o + 1, sv, rfl, h3, h4⟩)
    clear h3 h4 h5 h6
    go_enter Tryz.func122, Tryz.ntmps122
    go_wp2
    go_ret
    exact ⟨_, rfl, hN.out, rfl⟩
set_option maxRecDepth 100000 in
theorem New_at (neg : Bool) (nv : Value) (X : Nat) (w : World) (h : IsN w nv X) :
    Calls Tryz.prog 97 #[.bool neg, nv] w fun e w' => e = .returned (.pointer (some ⟨w.heap.size, 0, none⟩)) ∧ IsZ w' (.pointer (some ⟨w.heap.size, 0, none⟩)) (sgn neg X) ∧ Below w.heap.size w w' := by
  have Z := Lib.hid (Zero_any nv X w h)
  by_cases h0 : X = 0
  · subst h0
    rw [decide_eq_true rfl] at Z
    have hs : sgn neg 0 = 0 := by unfold sgn; split <;> rfl
    rw [hs]
    have hb : Below w.heap.size w (w.alloc (.cells #[.bool false, .slice none 0 0] 133)) := (Below.refl _ _).alloc (Nat.le_refl _) _
    have hz := Lib.hid (show IsZ (w.alloc (.cells #[.bool false, .slice none 0 0] 133)) (.pointer (some ⟨w.heap.size, 0, none⟩)) 0 from Or.inr ⟨_, 0, false, .slice none 0 0, 0, rfl, cell_of_row _ w.heap.size 0 #[.bool false, .slice none 0 0] _ (0, 0) (heap_alloc_new w _), cell_of_row _ w.heap.size 1 #[.bool false, .slice none 0 0] _ (0, 0) (heap_alloc_new w _), by rw [digs_zero]; exact Rd.nil _, rfl, fun h => by cases h⟩)
    have HB := Lib.hid hb
    clear h hb
    go_enter Tryz.func97, Tryz.ntmps97
    go_wp2_with (go_at_call 42; refine (Z.out).mono ?_; rintro e w1 ⟨rfl, rfl⟩; clear Z)
    go_ret
    exact ⟨rfl, hz.out, HB.out⟩
  · rw [decide_eq_false h0] at Z
    rcases h with ⟨rfl, rfl⟩ | ⟨b, o, sv, rfl, h2, h3⟩
    · exact absurd rfl h0
    · have hb : Below w.heap.size w (w.alloc (.cells #[.bool neg, sv] 133)) := (Below.refl _ _).alloc (Nat.le_refl _) _
      have hz := Lib.hid (show IsZ (w.alloc (.cells #[.bool neg, sv] 133)) (.pointer (some ⟨w.heap.size, 0, none⟩)) (sgn neg X) from Or.inr ⟨_, 0, neg, sv, X, rfl, cell_of_row _ w.heap.size 0 #[.bool neg, sv] _ (0, 0) (heap_alloc_new w _), cell_of_row _ w.heap.size 1 #[.bool neg, sv] _ (0, 0) (heap_alloc_new w _), h3.below hb, rfl, fun _ => by omega⟩)
      have HB := Lib.hid hb
      obtain ⟨ao, cap, rfl, -⟩ := id h3
      clear h3 hb
      go_enter Tryz.func97, Tryz.ntmps97
      go_wp2_with (go_at_call 42; refine (Z.out).mono ?_; rintro e w1 ⟨rfl, rfl⟩; clear Z)
      go_ret
      exact ⟨rfl, hz.out, HB.out⟩
theorem New_any (neg : Bool) (nv : Value) (X : Nat) (w : World) (h : IsN w nv X) :
    Calls Tryz.prog 97 #[.bool neg, nv] w fun e w' => ∃ v, e = .returned v ∧ (IsZ w' v (sgn neg X) ∧ v ≠ .pointer none) ∧ Below w.heap.size w w' := by
  refine (New_at neg nv X w h).mono ?_
  rintro e w' ⟨rfl, hz, hb⟩
  exact ⟨_, rfl, ⟨hz, by simp⟩, hb⟩
end Go.Proofs.YtfpooimjjpamoaaGreatDoor.num
