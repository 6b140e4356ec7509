/-
  The steps of the walks, part 5: RefDiv.
-/
import Derived.Test.YtfpooimjjpamoaaGreatDoorF04
namespace Go.Proofs.YtfpooimjjpamoaaGreatDoor.ref
open Go.RowKit
theorem digs_mono {x y : Nat} (h : x ≤ y) : (digs x).length ≤ (digs y).length := by
  by_cases h1 : (digs y).length < (digs x).length
  · have := digs_len_lt h1
    omega
  · omega
theorem digs_len_of_lt {x n : Nat} (h : x < 1000000000 ^ n) : (digs x).length ≤ n := by
  by_cases h0 : digs x = []
  · rw [h0]; exact Nat.zero_le _
  · have h1 := (norm_digs x).low h0
    rw [val_digs] at h1
    by_cases h2 : (digs x).length ≤ n
    · exact h2
    · have : 1000000000 ^ n ≤ 1000000000 ^ ((digs x).length - 1) := Nat.pow_le_pow_right (by omega) (by omega)
      omega
theorem digs_small {x : Nat} (h : x ≤ 1000000000) : (digs x).length ≤ 2 := digs_len_of_lt (by omega)
theorem cmp_le {x y : Nat} : cmpN x y ≤ 0 ↔ x ≤ y := by
  unfold cmpN
  split
  · constructor <;> intro <;> omega
  · split <;> constructor <;> intro <;> omega
theorem OfU_int (z : Int) (x : Nat) (hz : z = x) (hx : x ≤ 18446744073709551615) (w : World) :
    Calls Tryz.prog 48 #[.int .u64 z] w fun e w' => ∃ sv, e = .returned sv ∧ IsN w' sv x ∧ Below w.heap.size w w' := by
  subst hz
  exact OfU_any x hx w
theorem guess {x y : Nat} (hl : (digs x).length = (digs y).length) (k : Nat) (hk : k + 1 = (digs y).length) : x / y < dg (digs x) k / dg (digs y) k + 1 := by
  have hx1 := val_dg (digs x) k (by omega)
  have hy1 := val_dg (digs y) k (by omega)
  rw [val_digs, List.drop_eq_nil_of_le (by omega)] at hx1
  rw [val_digs, List.drop_eq_nil_of_le (by omega)] at hy1
  simp only [val, Nat.mul_zero, Nat.add_zero] at hx1 hy1
  have hxl := val_lt ((norm_digs x).1.take k)
  rw [List.length_take, Nat.min_eq_left (by omega)] at hxl
  have ht := norm_top (norm_digs y) (by omega)
  rw [show (digs y).length - 1 = k by omega] at ht
  have hq : x / y * y ≤ x := Nat.div_mul_le_self x y
  have h1 : x / y * (1000000000 ^ k * dg (digs y) k) ≤ x / y * y := Nat.mul_le_mul_left _ (by omega)
  have h2 : 1000000000 ^ k * (x / y * dg (digs y) k) < 1000000000 ^ k * (dg (digs x) k + 1) := by
    rw [Nat.mul_left_comm, Nat.mul_add, Nat.mul_one]
    omega
  have h3 : x / y * dg (digs y) k < dg (digs x) k + 1 := Nat.lt_of_mul_lt_mul_left h2
  exact Nat.lt_succ_of_le ((Nat.le_div_iff_mul_le (Nat.pos_of_ne_zero ht)).2 (by omega))
def MostRel (w : World) (x y : Nat) (lv hv : Value) (wr : World) : Prop :=
  ∃ lo hi : Nat, lv = .int .u64 lo ∧ hv = .int .u64 hi ∧ hi ≤ 1000000000 ∧ lo ≤ x / y ∧ x / y < hi ∧ Below w.heap.size w wr
set_option maxRecDepth 100000 in
set_option maxHeartbeats 8000000 in
theorem most_any (a b : Value) (x y : Nat) (w : World) (ha : IsN w a x) (hb : IsN w b y) (hy : (digs y).length ≤ 100000) (hy0 : digs y ≠ []) (hq : x / y < 1000000000) :
    Calls Tryz.prog 113 #[a, b] w fun e w' => e = .returned (.int .u64 (x / y : Nat)) ∧ Below w.heap.size w w' := by
  have HA := Lib.hid ha
  have HB := Lib.hid hb
  have HY := Lib.hid hy
  have HQ := Lib.hid hq
  have hypos : 0 < y := by
    by_cases h : y = 0
    · subst h; exact absurd digs_zero hy0
    · omega
  obtain ⟨ao, acap, rfl, ⟨a1, -⟩, a2, a3⟩ := ha
  obtain ⟨bo, bcap, rfl, ⟨b1, -⟩, b2, b3⟩ := hb
  unfold maxLen at a2 b2
  obtain ⟨gb, rfl, cb⟩ := b3.resolve_left hy0
  have hnb0 : 0 < (digs y).length := List.length_pos_iff.2 hy0
  have HGu := Lib.hid (guess (x := x) (y := y))
  have HY0 := Lib.hid hy0
  clear hy hq hy0 b3
  generalize hN : (digs x).length = na at *
  generalize hM : (digs y).length = nb at *
  have HN := Lib.hid hN
  have HM := Lib.hid hM
  have HCB := Lib.hid cb
  clear hN hM cb
  -- the loop, whatever the first guess
  by_cases hlt : na < nb
  · have hr := Lib.hid (show x / y = 0 from Nat.div_eq_of_lt (digs_len_lt (by rw [HN.out, HM.out]; exact hlt)))
    go_enter Tryz.func113, Tryz.ntmps113
    go_wp2
    go_ret
    exact ⟨by rw [hr.out]; rfl, Below.refl _ _⟩
  · by_cases heq : na = nb
    · subst heq
      have hx0 : digs x ≠ [] := by intro h; have := HN.out; rw [h] at this; simp at this; omega
      obtain ⟨ga, rfl, ca⟩ := a3.resolve_left hx0
      have c1 := ca (na - 1) (by omega)
      have c2 := HCB.out (na - 1) (by omega)
      have d1 := dg_lt (norm_digs x).1 (na - 1)
      have d2 := dg_lt (norm_digs y).1 (na - 1)
      have d3 : dg (digs y) (na - 1) ≠ 0 := by
        have := norm_top (norm_digs y) (by rw [HM.out]; exact hnb0)
        rwa [HM.out] at this
      have HG2 := Lib.hid (HGu.out rfl (na - 1) (by omega))
      generalize dg (digs x) (na - 1) = d at *
      generalize dg (digs y) (na - 1) = e at *
      have hdi : (d : Int) / (e : Int) ≤ 999999999 := by rw [← Int.natCast_ediv]; have := Nat.div_le_self d e; omega
      have hdi0 : 0 ≤ (d : Int) / (e : Int) := Int.ediv_nonneg (by omega) (by omega)
      have hdn := Lib.hid (show d / e ≤ 999999999 from by have := Nat.div_le_self d e; omega)
      go_enter Tryz.func113, Tryz.ntmps113
      go_wp2
      go_quiet (fail)
      go_wp2
      go_loopw [5, 6] (fun lv hv wr => MostRel w x y lv hv wr) (fun lv hv _ => (intOf hv).toNat - (intOf lv).toNat)
      case atStart => exact ⟨0, d / e + 1, rfl, by go_num, by have := hdn.out; omega, Nat.zero_le _, HG2.out, drewN_below (Below.refl _ _) _⟩
      case round =>
        obtain ⟨lo, hi, rfl, rfl, h1, h2, h3, hbel⟩ := hrel
        have hlh : lo < hi := by omega
        have H2 := Lib.hid h2
        have H3 := Lib.hid h3
        have HBl := Lib.hid hbel
        clear h2 h3 hbel
        by_cases hd : 1 < hi - lo
        · have HOf := Lib.hid (OfU_int (((lo : Int) + hi) / 2) ((lo + hi) / 2) (by omega) (by omega) wr)
          have hmid : (lo + hi) / 2 ≤ 1000000000 := by omega
          go_wp2_with (go_at_call 48; refine (HOf.out).mono ?_; rintro e' w1 ⟨sv, rfl, hs, hb1⟩; have HS := Lib.hid hs; have HB1 := Lib.hid hb1; clear hs hb1 HOf)
          have HMu := Lib.hid (Mul_any _ sv y ((lo + hi) / 2) w1 (HB.out.below (HBl.out.trans (HB1.out.mono HBl.out.size))) HS.out (by rw [HM.out]; exact HY.out) (by have := digs_small hmid; omega))
          go_wp2_with (go_at_call 38; refine (HMu.out).mono ?_; rintro e' w2 ⟨pv, rfl, hp, hb2⟩; have HP := Lib.hid hp; have HB2 := Lib.hid hb2; clear hp hb2 HMu)
          have HBa := Lib.hid (HBl.out.trans ((HB1.out.trans (HB2.out.mono HB1.out.size)).mono HBl.out.size))
          have HCm := Lib.hid (Cmp_any pv _ (y * ((lo + hi) / 2)) x w2 HP.out (HA.out.below HBa.out))
          by_cases hm : y * ((lo + hi) / 2) ≤ x
          · have hc := cmp_le.2 hm
            have HL := Lib.hid (show (lo + hi) / 2 ≤ x / y from (Nat.le_div_iff_mul_le hypos).2 (by rw [Nat.mul_comm]; exact hm))
            generalize cmpN (y * ((lo + hi) / 2)) x = cc at *
            clear hm
            go_wp2_with (go_at_call 28; refine (HCm.out).mono ?_; rintro e' w3 ⟨rfl, hb3⟩; have HB3 := Lib.hid hb3; clear hb3 HCm)
            go_roundw
            case rel => exact ⟨(lo + hi) / 2, hi, by go_num, rfl, h1, HL.out, H3.out, HBa.out.trans (HB3.out.mono HBa.out.size)⟩
            case measure => simp [intOf]; omega
          · have hc : ¬ cmpN (y * ((lo + hi) / 2)) x ≤ 0 := fun h => hm (cmp_le.1 h)
            have HL := Lib.hid (show x / y < (lo + hi) / 2 from (Nat.div_lt_iff_lt_mul hypos).2 (by rw [Nat.mul_comm]; omega))
            generalize cmpN (y * ((lo + hi) / 2)) x = cc at *
            clear hm
            go_wp2_with (go_at_call 28; refine (HCm.out).mono ?_; rintro e' w3 ⟨rfl, hb3⟩; have HB3 := Lib.hid hb3; clear hb3 HCm)
            go_roundw
            case rel => exact ⟨lo, (lo + hi) / 2, rfl, by go_num, by omega, H2.out, HL.out, HBa.out.trans (HB3.out.mono HBa.out.size)⟩
            case measure => simp [intOf]; omega
        · have hr := Lib.hid (show x / y = lo from by have := H2.out; have := H3.out; omega)
          go_wp2
          go_ret
          exact ⟨by rw [hr.out]; rfl, HBl.out⟩
    · have hb2 : ((na : Int) == (nb : Int)) = false := by simp; omega
      clear heq
      go_enter Tryz.func113, Tryz.ntmps113
      go_wp2
      go_loopw [5, 6] (fun lv hv wr => MostRel w x y lv hv wr) (fun lv hv _ => (intOf hv).toNat - (intOf lv).toNat)
      case atStart => exact ⟨0, 1000000000, rfl, by go_num, Nat.le_refl _, Nat.zero_le _, HQ.out, Below.refl _ _⟩
      case round =>
        obtain ⟨lo, hi, rfl, rfl, h1, h2, h3, hbel⟩ := hrel
        have hlh : lo < hi := by omega
        have H2 := Lib.hid h2
        have H3 := Lib.hid h3
        have HBl := Lib.hid hbel
        clear h2 h3 hbel
        by_cases hd : 1 < hi - lo
        · have HOf := Lib.hid (OfU_int (((lo : Int) + hi) / 2) ((lo + hi) / 2) (by omega) (by omega) wr)
          have hmid : (lo + hi) / 2 ≤ 1000000000 := by omega
          go_wp2_with (go_at_call 48; refine (HOf.out).mono ?_; rintro e' w1 ⟨sv, rfl, hs, hb1⟩; have HS := Lib.hid hs; have HB1 := Lib.hid hb1; clear hs hb1 HOf)
          have HMu := Lib.hid (Mul_any _ sv y ((lo + hi) / 2) w1 (HB.out.below (HBl.out.trans (HB1.out.mono HBl.out.size))) HS.out (by rw [HM.out]; exact HY.out) (by have := digs_small hmid; omega))
          go_wp2_with (go_at_call 38; refine (HMu.out).mono ?_; rintro e' w2 ⟨pv, rfl, hp, hb2⟩; have HP := Lib.hid hp; have HB2 := Lib.hid hb2; clear hp hb2 HMu)
          have HBa := Lib.hid (HBl.out.trans ((HB1.out.trans (HB2.out.mono HB1.out.size)).mono HBl.out.size))
          have HCm := Lib.hid (Cmp_any pv _ (y * ((lo + hi) / 2)) x w2 HP.out (HA.out.below HBa.out))
          by_cases hm : y * ((lo + hi) / 2) ≤ x
          · have hc := cmp_le.2 hm
            have HL := Lib.hid (show (lo + hi) / 2 ≤ x / y from (Nat.le_div_iff_mul_le hypos).2 (by rw [Nat.mul_comm]; exact hm))
            generalize cmpN (y * ((lo + hi) / 2)) x = cc at *
            clear hm
            go_wp2_with (go_at_call 28; refine (HCm.out).mono ?_; rintro e' w3 ⟨rfl, hb3⟩; have HB3 := Lib.hid hb3; clear hb3 HCm)
            go_roundw
            case rel => exact ⟨(lo + hi) / 2, hi, by go_num, rfl, h1, HL.out, H3.out, HBa.out.trans (HB3.out.mono HBa.out.size)⟩
            case measure => simp [intOf]; omega
          · have hc : ¬ cmpN (y * ((lo + hi) / 2)) x ≤ 0 := fun h => hm (cmp_le.1 h)
            have HL := Lib.hid (show x / y < (lo + hi) / 2 from (Nat.div_lt_iff_lt_mul hypos).2 (by rw [Nat.mul_comm]; omega))
            generalize cmpN (y * ((lo + hi) / 2)) x = cc at *
            clear hm
            go_wp2_with (go_at_call 28; refine (HCm.out).mono ?_; rintro e' w3 ⟨rfl, hb3⟩; have HB3 := Lib.hid hb3; clear hb3 HCm)
            go_roundw
            case rel => exact ⟨lo, (lo + hi) / 2, rfl, by go_num, by omega, H2.out, HL.out, HBa.out.trans (HB3.out.mono HBa.out.size)⟩
            case measure => simp [intOf]; omega
        · have hr := Lib.hid (show x / y = lo from by have := H2.out; have := H3.out; omega)
          go_wp2
          go_ret
          exact ⟨by rw [hr.out]; rfl, HBl.out⟩
end Go.Proofs.YtfpooimjjpamoaaGreatDoor.ref
