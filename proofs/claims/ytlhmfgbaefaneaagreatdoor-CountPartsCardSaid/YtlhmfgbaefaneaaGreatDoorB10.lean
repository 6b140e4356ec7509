/-
  The steps of the walks, part 10: Guess, Take, TakeW, Shift, ShiftD, Long.
-/
import Derived.BigRegion
import Derived.Test.YtlhmfgbaefaneaaGreatDoorB09
namespace Go.Proofs.YtlhmfgbaefaneaaGreatDoor.nat
open Go.RowKit
theorem div64_ex (hi lo y : Nat) (hh : hi < y) (hl : lo < 18446744073709551616) (hy : y < 18446744073709551616) : ∃ q r : Nat, q * y + r = hi * 18446744073709551616 + lo ∧ r < y ∧ q < 18446744073709551616 ∧
    ∀ w, Calls Tryz.prog 260 #[.int .u64 (hi : Int), .int .u64 (lo : Int), .int .u64 (y : Int)] w fun e w' => e = .returned (.tuple #[.int .u64 (q : Int), .int .u64 (r : Int)]) ∧ ∃ m, w' = w.drewN m := by
  have uniq : ∀ q r q' r' : Nat, q * y + r = q' * y + r' → r < y → r' < y → q = q' ∧ r = r' := by
    intro q r q' r' h h1 h2
    have e1 : (q * y + r) / y = q := by rw [Nat.mul_comm, Nat.mul_add_div (by omega), Nat.div_eq_of_lt h1, Nat.add_zero]
    have e2 : (q' * y + r') / y = q' := by rw [Nat.mul_comm, Nat.mul_add_div (by omega), Nat.div_eq_of_lt h2, Nat.add_zero]
    have : q = q' := by rw [← e1, ← e2, h]
    subst this
    exact ⟨rfl, by omega⟩
  have d1 := Nat.div_add_mod (hi * 18446744073709551616 + lo) y
  rw [Nat.mul_comm] at d1
  have d2 := Nat.mod_lt (hi * 18446744073709551616 + lo) (show 0 < y by omega)
  have d3 : (hi * 18446744073709551616 + lo) / y < 18446744073709551616 := by
    rw [Nat.div_lt_iff_lt_mul (by omega)]
    omega
  refine ⟨_, _, d1, d2, d3, fun w => (Div64_any hi lo y hh hl hy w).mono ?_⟩
  rintro e w' ⟨q, r, rfl, ⟨h1, h2, h3⟩, hm⟩
  obtain ⟨rfl, rfl⟩ := uniq q r _ _ (h1.trans d1.symm) h2 d2
  exact ⟨rfl, hm⟩
theorem quiet_draws2 {P : Program} {f : FuncId} {args : Array Value} {w : World} {c n : Nat} {v : Value}
    (h : Calls P f args (w.drewN (c + n)) fun e w' => e = .returned v ∧ ∃ m, w' = (w.drewN (c + n)).drewN m) : Calls P f args (w.drewN (c + n)) fun e w'' => e = .returned v ∧ ∃ m, w'' = w.drewN (c + m) :=
  h.mono fun _ _ ⟨he, m, hm⟩ => ⟨he, n + m, by rw [hm, World.drewN_drewN, Nat.add_assoc]⟩
def GRel (l0 l1 l2 y0 y1 : Nat) (dv rv ov : Value) : Prop := ∃ d r o : Nat, dv = .int .u64 d ∧ rv = .int .u64 r ∧ ov = .int .u64 o ∧ d < 18446744073709551616 ∧ r < 18446744073709551616 ∧ o ≤ 1 ∧
  d * y1 + r + 18446744073709551616 * o = l2 * 18446744073709551616 + l1 ∧ ∀ q, q < 18446744073709551616 → q * (y1 * 18446744073709551616 + y0) ≤ (l2 * 18446744073709551616 + l1) * 18446744073709551616 + l0 → q ≤ d
theorem guess_first {l0 l1 l2 y0 y1 d r : Nat} (h0 : l0 < 18446744073709551616) (h : d * y1 + r = l2 * 18446744073709551616 + l1) (hr : r < y1) : ∀ q, q < 18446744073709551616 → q * (y1 * 18446744073709551616 + y0) ≤ (l2 * 18446744073709551616 + l1) * 18446744073709551616 + l0 → q ≤ d := by
  intro q _ hq
  rcases Nat.lt_or_ge d q with hlt | hge
  · exfalso
    have h1 : (d + 1) * y1 ≤ q * y1 := Nat.mul_le_mul_right _ hlt
    rw [Nat.succ_mul] at h1
    have h2 : q * (y1 * 18446744073709551616 + y0) = q * y1 * 18446744073709551616 + q * y0 := by rw [Nat.mul_add, Nat.mul_assoc]
    rw [h2] at hq
    generalize hA : q * y1 = a at *
    generalize hB : q * y0 = b at *
    generalize hC : d * y1 = c at *
    clear hA hB hC h2
    omega
  · exact hge
theorem guess_less {l0 l1 l2 y0 y1 d r : Nat} (h : d * y1 + r = l2 * 18446744073709551616 + l1) (ht : r * 18446744073709551616 + l0 < d * y0) (hd : ∀ q, q < 18446744073709551616 → q * (y1 * 18446744073709551616 + y0) ≤ (l2 * 18446744073709551616 + l1) * 18446744073709551616 + l0 → q ≤ d) :
    0 < d ∧ ∀ q, q < 18446744073709551616 → q * (y1 * 18446744073709551616 + y0) ≤ (l2 * 18446744073709551616 + l1) * 18446744073709551616 + l0 → q ≤ d - 1 := by
  have h0 : 0 < d := by
    rcases Nat.eq_zero_or_pos d with rfl | h0
    · simp at ht
    · exact h0
  refine ⟨h0, fun q hq1 hq => ?_⟩
  have h1 := hd q hq1 hq
  rcases Nat.lt_or_ge q d with h2 | h2
  · exact Nat.le_sub_one_of_lt h2
  · exfalso
    obtain rfl : q = d := Nat.le_antisymm h1 h2
    have h3 : q * (y1 * 18446744073709551616 + y0) = q * y1 * 18446744073709551616 + q * y0 := by rw [Nat.mul_add, Nat.mul_assoc]
    rw [h3] at hq
    generalize hA : q * y1 = a at *
    generalize hB : q * y0 = b at *
    clear hA hB h3
    omega
theorem guess_step {l1 l2 y1 d r s k : Nat} (h : d * y1 + r + 18446744073709551616 * 0 = l2 * 18446744073709551616 + l1) (hd : 0 < d) (he : s + 18446744073709551616 * k = r + y1 + 0) : (d - 1) * y1 + s + 18446744073709551616 * k = l2 * 18446744073709551616 + l1 := by
  have : (d - 1) * y1 + y1 = d * y1 := by rw [← Nat.succ_mul]; congr 1; omega
  omega
set_option maxRecDepth 100000 in
set_option maxHeartbeats 2000000 in
theorem guess_any (sl sy : Value) (l0 l1 l2 y0 y1 : Nat) (w : World) (hl : Rd w sl [l0, l1, l2]) (hy : Rd w sy [y0, y1]) (bl0 : l0 < 18446744073709551616) (bl1 : l1 < 18446744073709551616) (bl2 : l2 ≤ y1) (by0 : y0 < 18446744073709551616) (by1 : y1 < 18446744073709551616) (hy0 : 0 < y1) :
    Calls Tryz.prog 276 #[sl, sy] w fun e w' => ∃ d : Nat, e = .returned (.int .u64 (d : Nat)) ∧ (d < 18446744073709551616 ∧ ∀ q, q < 18446744073709551616 → q * (y1 * 18446744073709551616 + y0) ≤ (l2 * 18446744073709551616 + l1) * 18446744073709551616 + l0 → q ≤ d) ∧ ∃ m, w' = w.drewN m := by
  obtain ⟨ao, lcap, rfl, ⟨h1, -⟩, h2, -⟩ := id hl
  obtain ⟨bo, ycap, rfl, ⟨k1, -⟩, k2, -⟩ := id hy
  obtain ⟨gl, ol, rfl, cl⟩ := lenpos hl (by simp)
  obtain ⟨gy, oy, rfl, cy⟩ := lenpos hy (by simp)
  have c0 := cl 0 (by simp)
  have c1 := cl 1 (by simp)
  have c2 := cl 2 (by simp)
  have d0 := cy 0 (by simp)
  have d1 := cy 1 (by simp)
  simp only [dg, List.getD_cons_zero, List.getD_cons_succ, Nat.add_zero] at c0 c1 c2 d0 d1
  simp only [List.length_cons, List.length_nil, Nat.zero_add] at h1 k1 ⊢
  have bl2' : l2 < 18446744073709551616 := by omega
  unfold maxLen at h2 k2
  clear hl hy cl cy
  have H2 := Lib.hid hy0
  by_cases hlt : (l2 : Int) < (y1 : Int)
  · obtain ⟨q, r, hq, hr, hqb, hrun⟩ := div64_ex l2 l1 y1 (by omega) bl1 by1
    have HS := Lib.hid (show GRel l0 l1 l2 y0 y1 (.int .u64 (q : Int)) (.int .u64 (r : Int)) (.int .u64 ((0 : Nat) : Int)) from ⟨q, r, 0, rfl, rfl, rfl, hqb, by omega, by omega, by omega, guess_first bl0 hq hr⟩)
    have HD := Lib.hid hrun
    clear hq hr hrun
    go_enter Tryz.func276, Tryz.ntmps276
    go_wp2
    go_quiet (fail)
    go_wp2
    go_quiet (first | (go_at_call 260; with_reducible exact quiet_draws2 (HD.out _)))
    go_wp2
    go_loopw [5, 6, 7] (fun dv rv ov wr => (∃ m, wr = w.drewN m) ∧ GRel l0 l1 l2 y0 y1 dv rv ov) (fun dv _ _ _ => (intOf dv).toNat)
    case atStart =>
      refine ⟨?_, HS.out⟩
      simp only [World.drewN_drewN]
      exact ⟨_, rfl⟩
    case round =>
      obtain ⟨⟨m, rfl⟩, d, r, o, rfl, rfl, rfl, hdb, hrb, hob, hde, hq⟩ := hrel
      have HDE := Lib.hid hde
      have HQ := Lib.hid hq
      clear hde hq HS
      by_cases ho : o = 0
      · subst ho
        obtain ⟨h, l, hh, hll, hhl, hmul⟩ := mul64_ex d y0 hdb by0
        have HM := Lib.hid hmul
        have HHL := Lib.hid hhl
        clear hmul hhl
        by_cases t1 : (h : Int) < (r : Int)
        · go_wp2_with (go_at_call 201; refine (HM.out _).mono ?_; rintro e w' ⟨rfl, rfl⟩)
          go_ret
          exact ⟨d, rfl, ⟨hdb, HQ.out⟩, m, rfl⟩
        · by_cases t2 : (h : Int) = (r : Int)
          · have t2' : h = r := by omega
            subst t2'
            by_cases t3 : (l : Int) ≤ (l0 : Int)
            · go_wp2_with (go_at_call 201; refine (HM.out _).mono ?_; rintro e w' ⟨rfl, rfl⟩)
              go_ret
              exact ⟨d, rfl, ⟨hdb, HQ.out⟩, m, rfl⟩
            · have hls := guess_less (l0 := l0) HDE.out (by rw [← HHL.out]; omega) HQ.out
              obtain ⟨s, k, hs, hk, he, hrun⟩ := add64_ex h y1 0 hrb by1 (by omega)
              have hd0 := hls.1
              have HNX := Lib.hid (show GRel l0 l1 l2 y0 y1 (.int .u64 ((d - 1 : Nat) : Int)) (.int .u64 (s : Int)) (.int .u64 (k : Int)) from ⟨d - 1, s, k, rfl, rfl, rfl, by omega, hs, hk, guess_step HDE.out hd0 he, hls.2⟩)
              simp only [Int.natCast_zero] at hrun
              clear hls he
              go_wp2_with (go_at_call 201; refine (HM.out _).mono ?_; rintro e w' ⟨rfl, rfl⟩)
              go_roundw
              case rel => exact ⟨⟨m, rfl⟩, by have := HNX.out; rwa [show ((d - 1 : Nat) : Int) = (d : Int) - 1 by omega] at this⟩
              case measure => simp [intOf]; omega
          · have hls := guess_less (l0 := l0) HDE.out (by rw [← HHL.out]; omega) HQ.out
            obtain ⟨s, k, hs, hk, he, hrun⟩ := add64_ex r y1 0 hrb by1 (by omega)
            have hd0 := hls.1
            have HNX := Lib.hid (show GRel l0 l1 l2 y0 y1 (.int .u64 ((d - 1 : Nat) : Int)) (.int .u64 (s : Int)) (.int .u64 (k : Int)) from ⟨d - 1, s, k, rfl, rfl, rfl, by omega, hs, hk, guess_step HDE.out hd0 he, hls.2⟩)
            have t2' : ((h : Int) == (r : Int)) = false := by simp; omega
            simp only [Int.natCast_zero] at hrun
            clear hls he
            go_wp2_with (go_at_call 201; refine (HM.out _).mono ?_; rintro e w' ⟨rfl, rfl⟩)
            go_roundw
            case rel => exact ⟨⟨m, rfl⟩, by have := HNX.out; rwa [show ((d - 1 : Nat) : Int) = (d : Int) - 1 by omega] at this⟩
            case measure => simp [intOf]; omega
      · have hb : ((o : Int) == 0) = false := by simp; omega
        go_wp2
        go_ret
        exact ⟨d, rfl, ⟨hdb, HQ.out⟩, m, rfl⟩
  · have hl2 : l2 = y1 := by omega
    subst hl2
    obtain ⟨r, o, hr, ho, hro, hrun⟩ := add64_ex l1 l2 0 bl1 by1 (by omega)
    have HS := Lib.hid (show GRel l0 l1 l2 y0 l2 (.int .u64 ((18446744073709551615 : Nat) : Int)) (.int .u64 (r : Int)) (.int .u64 (o : Int)) from ⟨18446744073709551615, r, o, rfl, rfl, rfl, by omega, hr, ho, by omega, fun q hq _ => by omega⟩)
    simp only [Int.natCast_zero] at hrun
    have HD := Lib.hid hrun
    clear hro
    go_enter Tryz.func276, Tryz.ntmps276
    go_wp2
    go_quiet (fail)
    go_wp2
    go_quiet (fail)
    go_wp2
    go_loopw [5, 6, 7] (fun dv rv ov wr => (∃ m, wr = w.drewN m) ∧ GRel l0 l1 l2 y0 l2 dv rv ov) (fun dv _ _ _ => (intOf dv).toNat)
    case atStart =>
      refine ⟨?_, HS.out⟩
      simp only [World.drewN_drewN]
      exact ⟨_, rfl⟩
    case round =>
      obtain ⟨⟨m, rfl⟩, d, r, o, rfl, rfl, rfl, hdb, hrb, hob, hde, hq⟩ := hrel
      have HDE := Lib.hid hde
      have HQ := Lib.hid hq
      clear hde hq HS
      by_cases ho : o = 0
      · subst ho
        obtain ⟨h, l, hh, hll, hhl, hmul⟩ := mul64_ex d y0 hdb by0
        have HM := Lib.hid hmul
        have HHL := Lib.hid hhl
        clear hmul hhl
        by_cases t1 : (h : Int) < (r : Int)
        · go_wp2_with (go_at_call 201; refine (HM.out _).mono ?_; rintro e w' ⟨rfl, rfl⟩)
          go_ret
          exact ⟨d, rfl, ⟨hdb, HQ.out⟩, m, rfl⟩
        · by_cases t2 : (h : Int) = (r : Int)
          · have t2' : h = r := by omega
            subst t2'
            by_cases t3 : (l : Int) ≤ (l0 : Int)
            · go_wp2_with (go_at_call 201; refine (HM.out _).mono ?_; rintro e w' ⟨rfl, rfl⟩)
              go_ret
              exact ⟨d, rfl, ⟨hdb, HQ.out⟩, m, rfl⟩
            · have hls := guess_less (l0 := l0) HDE.out (by rw [← HHL.out]; omega) HQ.out
              obtain ⟨s, k, hs, hk, he, hrun⟩ := add64_ex h l2 0 hrb by1 (by omega)
              have hd0 := hls.1
              have HNX := Lib.hid (show GRel l0 l1 l2 y0 l2 (.int .u64 ((d - 1 : Nat) : Int)) (.int .u64 (s : Int)) (.int .u64 (k : Int)) from ⟨d - 1, s, k, rfl, rfl, rfl, by omega, hs, hk, guess_step HDE.out hd0 he, hls.2⟩)
              simp only [Int.natCast_zero] at hrun
              clear hls he
              go_wp2_with (go_at_call 201; refine (HM.out _).mono ?_; rintro e w' ⟨rfl, rfl⟩)
              go_roundw
              case rel => exact ⟨⟨m, rfl⟩, by have := HNX.out; rwa [show ((d - 1 : Nat) : Int) = (d : Int) - 1 by omega] at this⟩
              case measure => simp [intOf]; omega
          · have hls := guess_less (l0 := l0) HDE.out (by rw [← HHL.out]; omega) HQ.out
            obtain ⟨s, k, hs, hk, he, hrun⟩ := add64_ex r l2 0 hrb by1 (by omega)
            have hd0 := hls.1
            have HNX := Lib.hid (show GRel l0 l1 l2 y0 l2 (.int .u64 ((d - 1 : Nat) : Int)) (.int .u64 (s : Int)) (.int .u64 (k : Int)) from ⟨d - 1, s, k, rfl, rfl, rfl, by omega, hs, hk, guess_step HDE.out hd0 he, hls.2⟩)
            have t2' : ((h : Int) == (r : Int)) = false := by simp; omega
            simp only [Int.natCast_zero] at hrun
            clear hls he
            go_wp2_with (go_at_call 201; refine (HM.out _).mono ?_; rintro e w' ⟨rfl, rfl⟩)
            go_roundw
            case rel => exact ⟨⟨m, rfl⟩, by have := HNX.out; rwa [show ((d - 1 : Nat) : Int) = (d : Int) - 1 by omega] at this⟩
            case measure => simp [intOf]; omega
      · have hb : ((o : Int) == 0) = false := by simp; omega
        go_wp2
        go_ret
        exact ⟨d, rfl, ⟨hdb, HQ.out⟩, m, rfl⟩
end Go.Proofs.YtlhmfgbaefaneaaGreatDoor.nat
namespace Go.Proofs.YtlhmfgbaefaneaaGreatDoor.nat
open Go.RowKit
def TRel (w : World) (g n q Y X old : Nat) (A C : List Nat) (dv tv uv : Value) (wr : World) : Prop :=
  ∃ (lo : List Nat) (d t u : Nat), dv = .int .u64 d ∧ tv = .int .u64 t ∧ uv = .int .u64 u ∧ lo.length = n ∧ Dig lo ∧ t < 18446744073709551616 ∧ u ≤ 1 ∧ d < 18446744073709551616 ∧ q ≤ d ∧
    val lo + 18446744073709551616 ^ n * t + Y * d = X + 18446744073709551616 ^ (n + 1) * u ∧ Row wr g (A ++ (lo ++ ([old] ++ C))) ∧ w.grownBy wr (some g)
theorem take_owed {lo : List Nat} {n t Y X d : Nat} (hl : lo.length = n) (hd : Dig lo) (ht : t < 18446744073709551616) (h : val lo + 18446744073709551616 ^ n * t + Y * d = X + 18446744073709551616 ^ (n + 1) * 1) : X < Y * d := by
  have h1 := val_lt' hd (Nat.le_of_eq hl)
  have h2 : 18446744073709551616 ^ n * t + 18446744073709551616 ^ n ≤ 18446744073709551616 ^ (n + 1) := by
    rw [Nat.pow_succ, ← Nat.mul_succ]
    exact Nat.mul_le_mul_left _ ht
  rw [Nat.mul_one] at h
  generalize 18446744073709551616 ^ n * t = a at *
  generalize 18446744073709551616 ^ n = b at *
  generalize 18446744073709551616 ^ (n + 1) = c at *
  generalize Y * d = e at *
  omega
theorem take_next {lo lo' : List Nat} {n t t' c o Y X d : Nat} (h : val lo + 18446744073709551616 ^ n * t + Y * d = X + 18446744073709551616 ^ (n + 1) * 1) (hd : 0 < d) (hv : val lo' + 18446744073709551616 ^ n * c = val lo + Y) (he : t' + 18446744073709551616 * o = t + c) (ho : o ≤ 1) :
    val lo' + 18446744073709551616 ^ n * t' + Y * (d - 1) = X + 18446744073709551616 ^ (n + 1) * (1 - o) := by
  have h1 : Y * (d - 1) + Y = Y * d := by rw [← Nat.mul_succ]; congr 1; omega
  have h2 : 18446744073709551616 ^ n * t' + 18446744073709551616 ^ (n + 1) * o = 18446744073709551616 ^ n * t + 18446744073709551616 ^ n * c := by
    rw [Nat.pow_succ, Nat.mul_assoc, ← Nat.mul_add, he, Nat.mul_add]
  have h3 : 18446744073709551616 ^ (n + 1) * (1 - o) + 18446744073709551616 ^ (n + 1) * o = 18446744073709551616 ^ (n + 1) * 1 := by rw [← Nat.mul_add]; congr 1; omega
  generalize 18446744073709551616 ^ n * t = a1 at *
  generalize 18446744073709551616 ^ n * c = a2 at *
  generalize 18446744073709551616 ^ n * t' = a3 at *
  generalize 18446744073709551616 ^ (n + 1) * o = a4 at *
  generalize 18446744073709551616 ^ (n + 1) * (1 - o) = a5 at *
  generalize 18446744073709551616 ^ (n + 1) * 1 = a6 at *
  generalize Y * (d - 1) = b1 at *
  generalize Y * d = b2 at *
  omega
theorem take_done {lo : List Nat} {n t Y X d : Nat} (hY : 0 < Y) (h : val lo + 18446744073709551616 ^ n * t + Y * d = X + 18446744073709551616 ^ (n + 1) * 0) (hq : X / Y ≤ d) : d = X / Y ∧ val lo + 18446744073709551616 ^ n * t = X % Y := by
  rw [Nat.mul_zero, Nat.add_zero] at h
  have h1 : d ≤ X / Y := by
    rw [Nat.le_div_iff_mul_le hY, Nat.mul_comm]
    omega
  have h2 : d = X / Y := Nat.le_antisymm h1 hq
  refine ⟨h2, ?_⟩
  have h3 := Nat.div_add_mod X Y
  rw [← h2] at h3
  omega
theorem take_first {Z1 : List Nat} {n d owed t u Y X : Nat} (hl : Z1.length = n + 1) (hv : val Z1 + Y * d = X + 18446744073709551616 ^ n * owed) (he : t + owed = dg Z1 n + 18446744073709551616 * u) : val (Z1.take n) + 18446744073709551616 ^ n * t + Y * d = X + 18446744073709551616 ^ (n + 1) * u := by
  have h1 : val Z1 = val (Z1.take n) + 18446744073709551616 ^ n * dg Z1 n := by
    rw [← val_take_succ, List.take_of_length_le (by omega)]
  have h2 : 18446744073709551616 ^ n * t + 18446744073709551616 ^ n * owed = 18446744073709551616 ^ n * dg Z1 n + 18446744073709551616 ^ (n + 1) * u := by
    rw [Nat.pow_succ, Nat.mul_assoc, ← Nat.mul_add, he, Nat.mul_add]
  rw [h1] at hv
  generalize 18446744073709551616 ^ n * t = a1 at *
  generalize 18446744073709551616 ^ n * owed = a2 at *
  generalize 18446744073709551616 ^ n * dg Z1 n = a3 at *
  generalize 18446744073709551616 ^ (n + 1) * u = a4 at *
  omega
theorem take_high {Z y : List Nat} {n q : Nat} (hZ : Z.length = n + 1) (hy : y.length = n) (hn : 2 ≤ n) (hdz : Dig Z) (hq : q * val y ≤ val Z) :
    q * (dg y (n - 1) * 18446744073709551616 + dg y (n - 2)) ≤ (dg Z n * 18446744073709551616 + dg Z (n - 1)) * 18446744073709551616 + dg Z (n - 2) := by
  obtain ⟨k, rfl⟩ : ∃ k, n = k + 2 := ⟨n - 2, by omega⟩
  simp only [show k + 2 - 1 = k + 1 by omega, show k + 2 - 2 = k by omega]
  have eZ : val Z = val (Z.take k) + 18446744073709551616 ^ k * ((dg Z (k + 2) * 18446744073709551616 + dg Z (k + 1)) * 18446744073709551616 + dg Z k) := by
    have h0 : val Z = val (Z.take (k + 1 + 1 + 1)) := by rw [List.take_of_length_le (by omega)]
    have p1 : 18446744073709551616 ^ (k + 1) = 18446744073709551616 ^ k * 18446744073709551616 := by rw [Nat.pow_succ]
    have p2 : 18446744073709551616 ^ (k + 1 + 1) = 18446744073709551616 ^ k * 18446744073709551616 * 18446744073709551616 := by rw [Nat.pow_succ, Nat.pow_succ]
    rw [h0, val_take_succ, val_take_succ, val_take_succ, p1, p2, Nat.mul_assoc, Nat.mul_assoc, Nat.mul_assoc, Nat.add_assoc, Nat.add_assoc, ← Nat.mul_add, ← Nat.mul_add]
    congr 2
    rw [show dg Z (k + 1 + 1) = dg Z (k + 2) from rfl]
    omega
  have ey : val y = val (y.take k) + 18446744073709551616 ^ k * (dg y (k + 1) * 18446744073709551616 + dg y k) := by
    have h0 : val y = val (y.take (k + 1 + 1)) := by rw [List.take_of_length_le (by omega)]
    have p1 : 18446744073709551616 ^ (k + 1) = 18446744073709551616 ^ k * 18446744073709551616 := by rw [Nat.pow_succ]
    rw [h0, val_take_succ, val_take_succ, p1, Nat.mul_assoc, Nat.add_assoc, ← Nat.mul_add]
    congr 2
    omega
  have hb := val_lt' (hdz.take k) (show (Z.take k).length ≤ k by rw [List.length_take]; omega)
  rw [eZ, ey] at hq
  obtain ⟨N, hN⟩ : ∃ N, N = (dg Z (k + 2) * 18446744073709551616 + dg Z (k + 1)) * 18446744073709551616 + dg Z k := ⟨_, rfl⟩
  obtain ⟨V, hV⟩ : ∃ V, V = dg y (k + 1) * 18446744073709551616 + dg y k := ⟨_, rfl⟩
  rw [← hN, ← hV] at hq
  rw [← hN, ← hV]
  clear hN hV eZ ey
  generalize 18446744073709551616 ^ k = P at *
  rcases Nat.lt_or_ge N (q * V) with h | h
  · exfalso
    have h1 : P * (N + 1) ≤ P * (q * V) := Nat.mul_le_mul_left _ h
    have h2 : q * (val (y.take k) + P * V) = q * val (y.take k) + P * (q * V) := by rw [Nat.mul_add, Nat.mul_left_comm]
    rw [h2] at hq
    rw [Nat.mul_succ] at h1
    generalize q * val (y.take k) = a at *
    generalize P * (q * V) = b at *
    generalize P * N = c at *
    omega
  · exact h
end Go.Proofs.YtlhmfgbaefaneaaGreatDoor.nat
namespace Go.Proofs.YtlhmfgbaefaneaaGreatDoor.nat
open Go.RowKit
theorem three_of {Z : List Nat} {n : Nat} (hZ : Z.length = n + 1) (hn : 2 ≤ n) : (Z.drop (n - 2)).take 3 = [dg Z (n - 2), dg Z (n - 1), dg Z n] := by
  rw [List.take_of_length_le (by rw [List.length_drop]; omega), drop_dg Z (n - 2) (by omega), drop_dg Z (n - 2 + 1) (by omega), drop_dg Z (n - 2 + 1 + 1) (by omega), List.drop_eq_nil_of_le (by omega), show n - 2 + 1 = n - 1 by omega, show n - 1 + 1 = n by omega]
theorem two_of {y : List Nat} {n : Nat} (hy : y.length = n) (hn : 2 ≤ n) : (y.drop (n - 2)).take 2 = [dg y (n - 2), dg y (n - 1)] := by
  rw [List.take_of_length_le (by rw [List.length_drop]; omega), drop_dg y (n - 2) (by omega), drop_dg y (n - 2 + 1) (by omega), List.drop_eq_nil_of_le (by omega), show n - 2 + 1 = n - 1 by omega]
set_option maxRecDepth 100000 in
set_option maxHeartbeats 4000000 in
theorem takeDigit_any (g off n cap : Nat) (sy : Value) (A Z C y : List Nat) (w : World) (hA : A.length = off) (hZ : Z.length = n + 1) (hr : Row w g (A ++ (Z ++ C))) (hdz : Dig Z) (hy : Rd w sy y) (hap : Apart g sy) (hny : Norm y) (hyl : y.length = n) (hn2 : 2 ≤ n) (hlt : val Z < val y * 18446744073709551616) (hn : n ≤ 2000000) (hcap : n + 1 ≤ cap) (hcm : cap ≤ maxLen) :
    Calls Tryz.prog 262 #[.slice (some ⟨g, off, none⟩) (n + 1) cap, sy] w fun e w' => ∃ Z' : List Nat, e = .returned (.int .u64 ((val Z / val y : Nat) : Int)) ∧ (Z'.length = n + 1 ∧ Dig Z' ∧ val Z' = val Z % val y ∧ Row w' g (A ++ (Z' ++ C))) ∧ w.grownBy w' (some g) := by
  obtain ⟨bo, ycap, rfl, ⟨k1, -⟩, k2, -⟩ := id hy
  rw [hyl] at k1 hy hap ⊢
  obtain ⟨gy, oy, rfl, -⟩ := lenpos hy (by omega)
  unfold maxLen at hcm k2
  -- the numbers
  obtain ⟨X, hX⟩ : ∃ X, X = val Z := ⟨_, rfl⟩
  obtain ⟨Y, hYe⟩ : ∃ Y, Y = val y := ⟨_, rfl⟩
  have htop := norm_top hny (by omega)
  rw [hyl] at htop
  have hY0 : 0 < Y := by
    rw [hYe]
    have := hny.low (by rintro rfl; simp at hyl; omega)
    have := pow_pos (y.length - 1)
    omega
  have hq : X / Y < 18446744073709551616 := by rw [hX, hYe, Nat.div_lt_iff_lt_mul (by rw [← hYe]; exact hY0), Nat.mul_comm]; exact hlt
  have hhigh := take_high hZ hyl hn2 hdz (q := X / Y) (by rw [hX, hYe]; exact Nat.div_mul_le_self _ _)
  -- the highest word of the part is not above the divisor's
  have hl2 : dg Z n ≤ dg y (n - 1) := by
    rcases Nat.lt_or_ge (dg y (n - 1)) (dg Z n) with h | h
    · exfalso
      have h1 : val Z = val (Z.take n) + 18446744073709551616 ^ n * dg Z n := by rw [← val_take_succ, List.take_of_length_le (by omega)]
      have h2 : val y = val (y.take (n - 1)) + 18446744073709551616 ^ (n - 1) * dg y (n - 1) := by
        rw [← val_take_succ, List.take_of_length_le (by omega)]
      have h3 := val_lt' (hny.1.take (n - 1)) (show (y.take (n - 1)).length ≤ n - 1 by rw [List.length_take]; omega)
      have h4 : val y < 18446744073709551616 ^ (n - 1) * (dg y (n - 1) + 1) := by rw [h2, Nat.mul_succ]; omega
      have h5 : 18446744073709551616 ^ (n - 1) * 18446744073709551616 = 18446744073709551616 ^ n := by rw [← Nat.pow_succ]; congr 1; omega
      have h6 : val y * 18446744073709551616 < 18446744073709551616 ^ n * (dg y (n - 1) + 1) := by
        rw [← h5, Nat.mul_right_comm]
        exact Nat.mul_lt_mul_of_pos_right h4 (by omega)
      have h7 : 18446744073709551616 ^ n * (dg y (n - 1) + 1) ≤ 18446744073709551616 ^ n * dg Z n := Nat.mul_le_mul_left _ h
      omega
    · exact h
  have rZ : Rd w (.slice (some ⟨g, off, none⟩) (n + 1) cap) Z := by
    have := hr.rd off (n + 1) cap (by simp; omega) (by omega) (by unfold maxLen; omega)
    rwa [List.drop_append_of_le_length (by omega), List.drop_of_length_le (by omega), List.nil_append, List.take_append_of_le_length (by omega), List.take_of_length_le (by omega)] at this
  have rZ3 := rZ.part (n - 2) 3 (cap - (n - 2)) (by omega) (by omega) (by omega)
  have ry2 := hy.part (n - 2) 2 (ycap - (n - 2)) (by omega) (by omega) (by omega)
  rw [three_of hZ hn2] at rZ3
  rw [two_of hyl hn2] at ry2
  have GU := Lib.hid (fun (w' : World) (hb : Below w.heap.size w w') => guess_any _ _ (dg Z (n - 2)) (dg Z (n - 1)) (dg Z n) (dg y (n - 2)) (dg y (n - 1)) w' (rZ3.below hb) (ry2.below hb) (dg_lt hdz _) (dg_lt hdz _) hl2 (dg_lt hny.1 _) (dg_lt hny.1 _) (by omega))
  have HHI := Lib.hid hhigh
  have HR := Lib.hid hr
  have HY := Lib.hid hy
  have HAP := Lib.hid hap
  have HNY := Lib.hid hny
  have HYL := Lib.hid hyl
  have HZ := Lib.hid hZ
  have HDZ := Lib.hid hdz
  have HA := Lib.hid hA
  have HYe := Lib.hid hYe
  have HX := Lib.hid hX
  have HQ := Lib.hid hq
  rw [← hX, ← hYe]
  clear hlt hhigh rZ rZ3 ry2 hl2 htop hq hX hYe hZ hdz hr hy hap hny hyl hA
  obtain ⟨k, hk⟩ : ∃ k, k = n - 2 := ⟨_, rfl⟩
  have hw : IntKind.i64.wrap ((n : Int) - 2) = (k : Int) := by rw [IntKind.wrap_i64]; omega
  rw [← hk] at GU
  have e1 : (k : Int) ≤ (n : Int) + 1 := by omega
  have e4 : ¬ (cap = k) := by omega
  have e5 : ¬ (ycap = k) := by omega
  have e6 : n + 1 - k = 3 := by omega
  have e7 : n - k = 2 := by omega
  have e8 : (k : Int) ≤ (n : Int) := by omega
  have HK := Lib.hid hk
  clear hk
  go_enter Tryz.func262, Tryz.ntmps262
  go_wp2
  go_region_held3 (fun _ => True) (trivial)
    (first
      | (go_at_call 276; refine (GU.out _ (Below.refl _ _).drew).mono ?_; rintro e' w2 ⟨d, rfl, ⟨hdb, hdq⟩, m, rfl⟩))
  have hqd := hdq (X / Y) HQ.out (by rw [HK.out]; exact HHI.out)
  have HB := Lib.hid (drew_below w (1 + m))
  revert HB
  generalize w.drewN (1 + m) = w2
  intro HB
  have SP := Lib.hid (subProduct_any g off (n + 1) cap d (.slice (some ⟨gy, oy, none⟩) n ycap) A Z C y w2 HA.out HZ.out (HR.out.below HB.out HR.out.lt) HDZ.out (HY.out.below HB.out) HAP.out HNY.out.1 (by rw [HYL.out]; omega) hdb (by omega))
  have HQD := Lib.hid hqd
  clear hdq hqd GU
  go_wp2_with (first
    | (go_at_call 275; refine (SP.out).mono ?_; rintro e' w3 ⟨Z1, owed, rfl, ⟨hl1, hd1, hob, hv1, hu1, hr1⟩, hg1⟩
       rw [HYL.out, ← HYe.out, ← HX.out] at hv1
       rw [HYL.out] at hu1
       obtain ⟨t, u, htb, hub, hte, hrun⟩ := sub64_ex (dg Z1 n) owed 0 (dg_lt hd1 n) hob (by omega)
       simp only [Int.natCast_zero] at hrun
       have c1 := hr1.zcell HA.out n (by rw [hl1]; omega)
       have hZ1 : Z1 = Z1.take n ++ [dg Z1 n] := by rw [← take_dg Z1 n (by omega), List.take_of_length_le (by omega)]
       have hr1' : Row w3 g (A ++ (Z1.take n ++ ([dg Z1 n] ++ C))) := by
         rw [← List.append_assoc (Z1.take n), ← hZ1]; exact hr1
       have HT := Lib.hid (show TRel w g n (X / Y) Y X (dg Z1 n) A C (.int .u64 (d : Int)) (.int .u64 (t : Int)) (.int .u64 (u : Int)) w3 from
         ⟨Z1.take n, d, t, u, rfl, rfl, rfl, by rw [List.length_take]; omega, hd1.take n, htb, hub, hdb, HQD.out, take_first hl1 (by rw [Nat.mul_comm Y, Nat.mul_comm Y] at *; omega) (by omega), hr1', grown_trans (grown_of_below HB.out _) hg1⟩)
       have f0 := hr1.free (off + n)
       generalize hold : dg Z1 n = old at *
       clear SP hl1 hd1 hob hv1 hu1 hr1 hg1 hte hZ1 hr1'))
  have i1 : ¬ (cap = n) := by omega
  have i2 : (n : Int) ≤ (n : Int) + 1 := by omega
  go_loopw [6, 8, 9] (fun dv tv uv wr => TRel w g n (X / Y) Y X old A C dv tv uv wr) (fun dv _ _ _ => (intOf dv).toNat)
  case atStart => exact HT.out
  case round =>
    obtain ⟨lo, d, t, u, rfl, rfl, rfl, hl, hd, ht, hu, hdb, hqd, he, hr, hg⟩ := hrel
    clear HT
    by_cases hu0 : u = 0
    · subst hu0
      obtain ⟨q1, q2⟩ := take_done hY0 he hqd
      have hr2 : Row wr g (A ++ ((lo ++ [old]) ++ C)) := by rw [List.append_assoc]; exact hr
      have c2 := hr2.zcell HA.out n (by rw [List.length_append, hl]; simp)
      have f2 := hr2.free (off + n)
      have HF := Lib.hid (hr2.zset HA.out n (by rw [List.length_append, hl]; simp) (u := (t : Int)) (d := t) rfl)
      have HG := Lib.hid (grown_trans hg (grown_set wr g (off + n) (.int .u64 (t : Int))))
      have hset : (lo ++ [old]).set n t = lo ++ [t] := by
        rw [List.set_append_right _ _ (by omega), hl, Nat.sub_self]; rfl
      rw [hset] at HF
      generalize dg (lo ++ [old]) n = dd at c2
      have HQ1 := Lib.hid q1
      have HQ2 := Lib.hid q2
      clear hr hg he hr2 hset q1 q2 hqd
      go_wp2
      go_ret
      refine ⟨lo ++ [t], ?_, ⟨by rw [List.length_append, hl]; rfl, hd.append (Dig.cons ht Dig.nil), ?_, HF.out⟩, HG.out⟩
      · rw [← HQ1.out]; rfl
      · rw [val_snoc, hl, HQ2.out]
    · have hu1 : u = 1 := by omega
      have hb : ((u : Int) == 0) = false := by simp; omega
      have HU := Lib.hid hu1
      rw [hu1] at he
      have how := take_owed hl hd ht he
      have hd0 : 0 < d := by
        rcases Nat.eq_zero_or_pos d with rfl | h
        · rw [Nat.mul_zero] at how; omega
        · exact h
      have hqd1 : X / Y ≤ d - 1 := by
        have : X / Y < d := by rw [Nat.div_lt_iff_lt_mul hY0, Nat.mul_comm]; exact how
        omega
      have AI := Lib.hid (addInto_any g off n cap (.slice (some ⟨gy, oy, none⟩) n ycap) A lo ([old] ++ C) y wr HA.out hl hr hd (HY.out.kept hg HAP.out) HAP.out HNY.out.1 (by rw [HYL.out]; omega) (by omega) (by omega) (by unfold maxLen; omega))
      have HE := Lib.hid he
      have HG := Lib.hid hg
      have HQD1 := Lib.hid hqd1
      have hd0' : (1 : Int) ≤ (d : Int) := by omega
      clear how he hr hg hqd hqd1 hu1 hd hl
      go_wp2_with (go_at_call 211; refine (AI.out).mono ?_; rintro e' w4 ⟨lo', c, rfl, ⟨hl', hd', hc, hv', hr'⟩, hg'⟩
                   obtain ⟨t', o, htb', hob', hte', hrun'⟩ := add64_ex t c 0 ht (by omega) (by omega)
                   simp only [Int.natCast_zero] at hrun'
                   have hou : (o : Int) ≤ (u : Int) := by omega
                   have HN := Lib.hid (show TRel w g n (X / Y) Y X old A C (.int .u64 ((d - 1 : Nat) : Int)) (.int .u64 (t' : Int)) (.int .u64 ((1 - o : Nat) : Int)) w4 from
                     ⟨lo', d - 1, t', 1 - o, rfl, rfl, rfl, hl', hd', htb', by omega, by omega, HQD1.out, take_next HE.out hd0 (by rw [hv', HYe.out]) (by omega) hob', hr', grown_trans HG.out hg'⟩)
                   have HO1 := Lib.hid hob'
                   clear AI hl' hd' hv' hr' hg' hte' hc hob')
      go_roundw
      case rel =>
        have := HN.out
        rw [show ((d - 1 : Nat) : Int) = (d : Int) - 1 by omega, show ((1 - o : Nat) : Int) = (u : Int) - (o : Int) by have := HU.out; have := HO1.out; omega] at this
        exact this
      case measure => simp [intOf]; omega
end Go.Proofs.YtlhmfgbaefaneaaGreatDoor.nat
namespace Go.Proofs.YtlhmfgbaefaneaaGreatDoor.nat
open Go.RowKit
theorem or_add {a b T m : Nat} (hb : b < 2 ^ T) (hm : m = a * 2 ^ T) : b ||| m = b + m := by
  rw [hm, ← Nat.shiftLeft_eq, Nat.or_comm, ← Nat.shiftLeft_add_eq_or_of_lt hb, Nat.add_comm]
theorem shl_mod {x T : Nat} (hT : T ≤ 64) : x * 2 ^ T % 18446744073709551616 = x % 2 ^ (64 - T) * 2 ^ T := by
  have e : (18446744073709551616 : Nat) = 2 ^ (64 - T) * 2 ^ T := by rw [← Nat.pow_add, show 64 - T + T = 64 by omega]
  rw [e, Nat.mul_mod_mul_right]
theorem shl_parts (x T : Nat) (hT : T ≤ 64) : x % 2 ^ (64 - T) * 2 ^ T + 18446744073709551616 * (x / 2 ^ (64 - T)) = x * 2 ^ T := by
  have e : (18446744073709551616 : Nat) = 2 ^ (64 - T) * 2 ^ T := by rw [← Nat.pow_add, show 64 - T + T = 64 by omega]
  rw [e, Nat.mul_right_comm, ← Nat.add_mul, Nat.mod_add_div]
def URel (w : World) (x : List Nat) (g L S T i : Nat) (wr : World) : Prop :=
  ∃ Z, Z.length = L ∧ Dig Z ∧ Row wr g Z ∧ Below w.heap.size w wr ∧ val Z = val (x.take i) * 2 ^ T * 18446744073709551616 ^ S ∧ dg Z (i + S) < 2 ^ T ∧ ∀ j, i + S < j → dg Z j = 0
theorem URel.next {w wr : World} {x Z : List Nat} {g L S T i m h n : Nat} (hl : Z.length = L) (hd : Dig Z) (hr : Row wr g Z) (hb : Below w.heap.size w wr) (hg : w.heap.size ≤ g) (hv : val Z = val (x.take i) * 2 ^ T * 18446744073709551616 ^ S) (hz : ∀ j, i + S < j → dg Z j = 0)
    (hi : i + S + 1 < L) (hT : T ≤ 63) (hm : m = dg x i % 2 ^ (64 - T) * 2 ^ T) (hh : h = dg x i / 2 ^ (64 - T)) (hx : dg x i < 18446744073709551616) (hs : dg Z (i + S) + m < 18446744073709551616) :
    URel w x g L S T (i + 1) (((wr.drewN n).setCell ⟨g, i + S, none⟩ (.int .u64 ((dg Z (i + S) + m : Nat) : Int))).setCell ⟨g, i + S + 1, none⟩ (.int .u64 (h : Nat))) := by
  have hhT : h < 2 ^ T := by
    rw [hh, Nat.div_lt_iff_lt_mul (Nat.pow_pos (by omega)), ← Nat.pow_add, show T + (64 - T) = 64 by omega]
    exact hx
  have hhb : h < 18446744073709551616 := Nat.lt_of_le_of_lt (by rw [hh]; exact Nat.div_le_self _ _) hx
  refine ⟨(Z.set (i + S) (dg Z (i + S) + m)).set (i + S + 1) h, by simpa using hl, (hd.set hs).set hhb, ((hr.drew n).set _ (by omega) rfl).set _ (by rw [List.length_set]; omega) rfl, ((drewN_below hb n).setCell hg _).setCell hg _, ?_, ?_, ?_⟩
  · have h1 := val_set (l := Z) (j := i + S) (d := dg Z (i + S) + m) (by omega)
    have h2 := val_set (l := Z.set (i + S) (dg Z (i + S) + m)) (j := i + S + 1) (d := h) (by rw [List.length_set]; omega)
    have hz1 := hz (i + S + 1) (by omega)
    rw [dg_set_other (by omega), hz1, Nat.mul_zero, Nat.add_zero] at h2
    rw [Nat.mul_add] at h1
    have h3 : 18446744073709551616 ^ (i + S) * m + 18446744073709551616 ^ (i + S + 1) * h = 18446744073709551616 ^ (i + S) * (dg x i * 2 ^ T) := by
      rw [Nat.pow_succ, Nat.mul_assoc, ← Nat.mul_add, hm, hh, shl_parts _ _ (by omega)]
    have h4 : val (x.take (i + 1)) * 2 ^ T * 18446744073709551616 ^ S = val Z + 18446744073709551616 ^ (i + S) * (dg x i * 2 ^ T) := by
      rw [hv, val_take_succ, Nat.add_mul, Nat.add_mul, Nat.pow_add]
      congr 1
      rw [Nat.mul_assoc, Nat.mul_assoc, Nat.mul_assoc, Nat.mul_comm (18446744073709551616 ^ S)]
      congr 1
      rw [Nat.mul_assoc]
    rw [h4, ← h3]
    omega
  · rw [show i + 1 + S = i + S + 1 by omega, dg_set_same (by rw [List.length_set]; omega)]
    exact hhT
  · intro j hj
    rw [dg_set_other (by omega), dg_set_other (by omega)]
    exact hz j (by omega)
set_option maxRecDepth 100000 in
set_option maxHeartbeats 2000000 in
theorem shiftUp_any (sx : Value) (x : List Nat) (c : Nat) (w : World) (hx : Rd w sx x) (hdx : Dig x) (hn : x.length ≤ 1000000) (hc : c ≤ 64000000) :
    Calls Tryz.prog 242 #[sx, .int .i64 (c : Int)] w fun e w' => ∃ sv, e = .returned sv ∧ Own w' w.heap.size sv (digs (val x * 2 ^ c)) ∧ Below w.heap.size w w' := by
  obtain ⟨ao, xcap, rfl, ⟨h1, -⟩, h2, -⟩ := id hx
  obtain ⟨N, hN⟩ : ∃ N, x.length = N := ⟨_, rfl⟩
  have HN := Lib.hid hN
  rw [hN] at h1 hn hx ⊢
  by_cases hN0 : N = 0
  · subst hN0
    obtain rfl := List.eq_nil_of_length_eq_zero hN
    clear hx hdx
    go_enter Tryz.func242, Tryz.ntmps242
    go_wp2
    go_ret
    refine ⟨_, rfl, ?_, Below.refl _ _⟩
    rw [show val ([] : List Nat) = 0 from rfl, Nat.zero_mul, digs_zero]
    exact Own.nil _ _
  · obtain ⟨S, hS⟩ : ∃ S, S = c / 64 := ⟨_, rfl⟩
    obtain ⟨T, hT⟩ : ∃ T, T = c % 64 := ⟨_, rfl⟩
    have s1 : (c : Int) / 64 = (S : Int) := by omega
    have s2 : (c : Int) % 64 = (T : Int) := by omega
    have hTb : T ≤ 63 := by omega
    have hSb : S ≤ 1000000 := by omega
    have hce : 2 ^ c = 2 ^ T * 18446744073709551616 ^ S := by
      rw [show c = T + 64 * S by omega, Nat.pow_add, Nat.pow_mul]
    obtain ⟨W1, hmk, hrow, hb⟩ := make_int w ((N : Int) + S + 1) (N + S + 1) (by omega) (by omega)
    have HS := Lib.hid (show URel w x w.heap.size (N + S + 1) S T 0 W1 from ⟨_, by simp, dig_zeros _, hrow, hb, by rw [val_zeros]; simp [val], by rw [dg_zeros]; exact Nat.pow_pos (by omega), fun j _ => dg_zeros _ _⟩)
    have hN0' : ((N : Int) == 0) = false := by simp; omega
    have HX := Lib.hid hx
    have HDX := Lib.hid hdx
    have HCE := Lib.hid hce
    clear hx hdx hrow hb hS hT hce hN
    go_enter Tryz.func242, Tryz.ntmps242
    go_wp2
    go_loopw [25] (fun iv wr => ∃ i : Nat, i ≤ N ∧ iv = .int .i64 i ∧ URel w x w.heap.size (N + S + 1) S T i wr) (fun iv _ => N - (intOf iv).toNat)
    case atStart => exact ⟨0, Nat.zero_le _, rfl, HS.out⟩
    case round =>
      obtain ⟨i, hi, rfl, hrel⟩ := hrel
      obtain ⟨Z, hl, hd, hrow, hb, hv, ht, hz⟩ := hrel
      clear HS hmk
      by_cases hlt : i < N
      · obtain ⟨gx, ox, rfl, -⟩ := lenpos HX.out (by omega)
        have c1 := (HX.out.below hb).cellAt i hlt
        have c2 := hrow.cell (i + S) (by omega)
        have c3 := hrow.cell (i + S + 1) (by omega)
        have f1 := hrow.free (i + S)
        have f2 := hrow.free (i + S + 1)
        have hxb := dg_lt HDX.out i
        obtain ⟨m, hm⟩ : ∃ m, m = dg x i % 2 ^ (64 - T) * 2 ^ T := ⟨_, rfl⟩
        obtain ⟨h, hh⟩ : ∃ h, h = dg x i / 2 ^ (64 - T) := ⟨_, rfl⟩
        have hmb : m < 18446744073709551616 := by rw [hm, ← shl_mod (by omega)]; exact Nat.mod_lt _ (by omega)
        have hor := or_add ht hm
        have hsum : dg Z (i + S) + m < 18446744073709551616 := by
          rw [← hor]
          exact Nat.or_lt_two_pow (n := 64) (dg_lt hd _) hmb
        have HNX := Lib.hid (fun n => URel.next (n := n) hl hd hrow hb (Nat.le_refl _) hv hz (by omega) hTb hm hh hxb hsum)
        have g1 : IntKind.u64.wrap ((dg x i : Nat) * 2 ^ T) = (m : Int) := by rw [wrapShl, shl_mod (by omega), ← hm]
        have g2 : ((dg x i : Nat) : Int) / 2 ^ (64 - T) = (h : Int) := by rw [divShr, ← hh]
        have g3 : bits .or .u64 ((dg Z (i + S) : Nat) : Int) (m : Int) = ((dg Z (i + S) + m : Nat) : Int) := by rw [bits_or_u64_nat _ _ (dg_lt hd _) hmb, hor]
        have g4 : IntKind.i64.wrap ((i : Int) + (S : Int)) = ((i + S : Nat) : Int) := by rw [IntKind.wrap_i64]; omega
        generalize dg x i = d at *
        generalize dg Z (i + S) = z0 at *
        generalize dg Z (i + S + 1) = z1 at *
        obtain ⟨sm, hsm⟩ : ∃ sm, sm = z0 + m := ⟨_, rfl⟩
        rw [← hsm] at g3 HNX
        obtain ⟨p, hp⟩ : ∃ p, p = i + S := ⟨_, rfl⟩
        rw [← hp] at g4 c2 c3 f1 f2 HNX
        have hpb : (p : Int) < (N : Int) + S + 1 := by omega
        have hpb2 : (p : Int) + 1 < (N : Int) + S + 1 := by omega
        have g5 : (i : Int) + (S : Int) = (p : Int) := by omega
        clear hl hd hrow hb hv ht hz hm hh hor hsum hsm hp
        go_wp2
        go_region
        go_wp2
        go_roundw
        case rel => exact ⟨i + 1, by omega, by go_num, by have := HNX.out 1; exact this⟩
        case measure => simp [intOf]; omega
      · have : i = N := by omega
        subst this
        have hv2 : val Z = val x * 2 ^ c := by rw [hv, List.take_of_length_le (by rw [HN.out]; omega), HCE.out, Nat.mul_assoc]
        have hO : Own wr w.heap.size (.slice (some ⟨w.heap.size, 0, none⟩) (i + S + 1) (i + S + 1)) Z := by
          have := Own.of_row (cap := i + S + 1) hrow (Nat.le_refl _) (by omega) (by unfold maxLen; omega)
          rwa [hl] at this
        have HT := Lib.hid (trim_own _ Z wr hO (by omega) hd)
        rw [hv2] at HT
        have HB := Lib.hid hb
        clear hl hd hrow hb hv hv2 hO ht hz
        go_wp2_with (go_at_call 209; refine (HT.out).mono ?_; rintro e w3 ⟨sv, rfl, hO3, rfl⟩; have HO3 := Lib.hid hO3; clear hO3)
        go_ret
        exact ⟨sv, rfl, HO3.out, HB.out⟩
end Go.Proofs.YtlhmfgbaefaneaaGreatDoor.nat
namespace Go.Proofs.YtlhmfgbaefaneaaGreatDoor.nat
open Go.RowKit
def SDRel (w : World) (B : Nat) (D : List Nat) (g T i : Nat) (wr : World) : Prop :=
  ∃ Z, Z.length = D.length ∧ Dig Z ∧ Row wr g Z ∧ Below B w wr ∧ Z.drop i = D.drop i ∧ val (Z.take i) * 2 ^ T + dg D 0 % 2 ^ T = val (D.take i) + 18446744073709551616 ^ i * (dg D i % 2 ^ T)
theorem sd_word {d e T : Nat} (hT : T ≤ 63) : (d / 2 ^ T + e * 2 ^ (64 - T) % 18446744073709551616) * 2 ^ T + d % 2 ^ T = d + 18446744073709551616 * (e % 2 ^ T) := by
  have h1 := shl_mod (x := e) (T := 64 - T) (by omega)
  rw [show 64 - (64 - T) = T by omega] at h1
  have e0 : (18446744073709551616 : Nat) = 2 ^ (64 - T) * 2 ^ T := by rw [← Nat.pow_add, show 64 - T + T = 64 by omega]
  have h2 := Nat.div_add_mod d (2 ^ T)
  rw [Nat.mul_comm] at h2
  rw [h1, Nat.add_mul, Nat.mul_assoc, ← e0, Nat.mul_comm (e % 2 ^ T)]
  omega
theorem SDRel.next {w wr2 : World} {B g T i p : Nat} {D Z : List Nat} (hl : Z.length = D.length) (hd : Dig Z) (hdr : Z.drop i = D.drop i) (hv : val (Z.take i) * 2 ^ T + dg D 0 % 2 ^ T = val (D.take i) + 18446744073709551616 ^ i * (dg D i % 2 ^ T))
    (hT : T ≤ 63) (hi : i < D.length) (hp : p = dg D i / 2 ^ T + dg D (i + 1) * 2 ^ (64 - T) % 18446744073709551616) (hpb : p < 18446744073709551616) (hr2 : Row wr2 g (Z.set i p)) (hb2 : Below B w wr2) : SDRel w B D g T (i + 1) wr2 := by
  refine ⟨Z.set i p, by simpa using hl, hd.set hpb, hr2, hb2, ?_, ?_⟩
  · rw [List.drop_set_of_lt (by omega)]
    have := congrArg (List.drop 1) hdr
    simpa [List.drop_drop, Nat.add_comm] using this
  · have e1 : (Z.set i p).take (i + 1) = Z.take i ++ [p] := by
      rw [take_dg _ i (by rw [List.length_set]; omega), dg_set_same (by omega), List.take_set, List.set_eq_of_length_le (by rw [List.length_take]; omega)]
    have hlt : (Z.take i).length = i := by rw [List.length_take]; omega
    rw [e1, val_snoc, hlt, val_take_succ, Nat.pow_succ]
    have h1 := sd_word (d := dg D i) (e := dg D (i + 1)) hT
    rw [← hp] at h1
    have h2 : 18446744073709551616 ^ i * p * 2 ^ T + 18446744073709551616 ^ i * (dg D i % 2 ^ T) = 18446744073709551616 ^ i * dg D i + 18446744073709551616 ^ i * 18446744073709551616 * (dg D (i + 1) % 2 ^ T) := by
      rw [Nat.mul_assoc, ← Nat.mul_add, h1, Nat.mul_add, Nat.mul_assoc]
    rw [Nat.add_mul]
    generalize 18446744073709551616 ^ i * p * 2 ^ T = a1 at *
    generalize 18446744073709551616 ^ i * (dg D i % 2 ^ T) = a2 at *
    generalize 18446744073709551616 ^ i * dg D i = a3 at *
    generalize 18446744073709551616 ^ i * 18446744073709551616 * (dg D (i + 1) % 2 ^ T) = a4 at *
    generalize val (Z.take i) * 2 ^ T = a5 at *
    generalize dg D 0 % 2 ^ T = a6 at *
    omega
set_option maxRecDepth 100000 in
set_option maxHeartbeats 2000000 in
theorem shiftDown_any (sx : Value) (x : List Nat) (c : Nat) (w : World) (hx : Rd w sx x) (hdx : Dig x) (hn : x.length ≤ 1000000) (hc : c ≤ 64000000) :
    Calls Tryz.prog 240 #[sx, .int .i64 (c : Int)] w fun e w' => ∃ sv, e = .returned sv ∧ Own w' w.heap.size sv (digs (val x / 2 ^ c)) ∧ Below w.heap.size w w' := by
  obtain ⟨ao, xcap, rfl, ⟨h1, -⟩, h2, -⟩ := id hx
  obtain ⟨N, hN⟩ : ∃ N, x.length = N := ⟨_, rfl⟩
  have HN := Lib.hid hN
  obtain ⟨S, hS⟩ : ∃ S, S = c / 64 := ⟨_, rfl⟩
  obtain ⟨T, hT⟩ : ∃ T, T = c % 64 := ⟨_, rfl⟩
  have s1 : (c : Int) / 64 = (S : Int) := by omega
  have s2 : (c : Int) % 64 = (T : Int) := by omega
  have hTb : T ≤ 63 := by omega
  have hSb : S ≤ 1000000 := by omega
  have hce : 2 ^ c = 18446744073709551616 ^ S * 2 ^ T := by
    rw [show c = 64 * S + T by omega, Nat.pow_add, Nat.pow_mul]
  rw [hN] at h1 hn hx ⊢
  by_cases hSN : (N : Int) ≤ (S : Int)
  · have hz : val x / 2 ^ c = 0 := by
      rw [Nat.div_eq_of_lt]
      refine Nat.lt_of_lt_of_le (val_lt' hdx (show x.length ≤ S by omega)) ?_
      rw [hce]
      exact Nat.le_mul_of_pos_right _ (Nat.pow_pos (by omega))
    rw [hz]
    have HF := Lib.hid (show Own w w.heap.size (.slice none 0 0) (digs 0) by rw [digs_zero]; exact Own.nil _ _)
    clear hx hdx hce hS hT hz
    go_enter Tryz.func240, Tryz.ntmps240
    go_wp2
    go_ret
    exact ⟨_, rfl, HF.out, Below.refl _ _⟩
  · obtain ⟨gx, ox, rfl, -⟩ := lenpos hx (by omega)
    have hD := hx.part S (N - S) (xcap - S) (by omega) (by omega) (by omega)
    rw [List.take_of_length_le (by rw [List.length_drop]; omega)] at hD
    have lD : (x.drop S).length = N - S := by rw [List.length_drop]; omega
    have hval : val x / 2 ^ c = val (x.drop S) / 2 ^ T := by
      have h3 := val_parts x S (by omega)
      have h4 := val_lt' (hdx.take S) (show (x.take S).length ≤ S by rw [List.length_take]; omega)
      rw [hce, ← Nat.div_div_eq_div_mul, h3, Nat.add_mul_div_left _ _ (pow_pos S), Nat.div_eq_of_lt h4, Nat.zero_add]
    have CL := Lib.hid (Clone_any _ (x.drop S) w hD (by omega))
    have HV := Lib.hid hval
    have HLD := Lib.hid lD
    have HX := Lib.hid hx
    have HDD := Lib.hid (hdx.drop S)
    have hdg := Lib.hid (show ∀ j, dg (x.drop S) j = dg x (S + j) from fun j => dg_drop x S j)
    obtain ⟨D, hDe⟩ : ∃ D, D = x.drop S := ⟨_, rfl⟩
    rw [← hDe] at CL HV HLD HDD hdg
    rw [HV.out]
    have t1 : (S : Int) ≤ (N : Int) := by omega
    have t2 : ¬ (xcap = S) := by omega
    have t3 : ¬ ((N : Int) ≤ (S : Int)) := by omega
    obtain ⟨M, hM⟩ : ∃ M, M = N - S := ⟨_, rfl⟩
    rw [← hM] at CL HLD
    obtain ⟨R, hR⟩ : ∃ R, R = 64 - T := ⟨_, rfl⟩
    have r1 : (64 : Int) - (T : Int) = (R : Int) := by omega
    have r2 : IntKind.i64.wrap (64 - (T : Int)) = (R : Int) := by rw [IntKind.wrap_i64]; omega
    have HRR := Lib.hid hR
    have HMM := Lib.hid hM
    have hM0 : 0 < M := by omega
    have hMb : M ≤ 1000000 := by omega
    have m1 : N - S = M := by omega
    clear hx hdx hce hS hT hD lD hval hDe hN hR hM
    go_enter Tryz.func240, Tryz.ntmps240
    go_wp2_with (go_at_call 195; refine (CL.out).mono ?_; rintro e w1 ⟨svz, rfl, hO, hb1⟩
                 obtain ⟨ao2, zcap, rfl, ⟨z1, -⟩, z2, z3⟩ := hO
                 obtain ⟨g, rfl, hBg, hrow⟩ := z3.resolve_left (by rintro rfl; have := HLD.out; simp at this; omega)
                 rw [HLD.out] at z1
                 rw [HLD.out]
                 have HS := Lib.hid (show SDRel w w.heap.size D g T 0 w1 from ⟨D, rfl, HDD.out, hrow, hb1, rfl, by simp [val]⟩)
                 clear CL hrow hb1 z3)
    go_loopw [23] (fun iv wr => ∃ i : Nat, i ≤ M ∧ iv = .int .i64 i ∧ SDRel w w.heap.size D g T i wr) (fun iv _ => M - (intOf iv).toNat)
    case atStart => exact ⟨0, Nat.zero_le _, rfl, HS.out⟩
    case round =>
      obtain ⟨i, hi, rfl, hrel⟩ := hrel
      obtain ⟨Z, hl, hd, hrow, hb, hdr, hv⟩ := hrel
      clear HS
      rw [HLD.out] at hl
      by_cases hlt : i < M
      · have c1 := hrow.cell i (by omega)
        have f1 := hrow.free i
        have hz0 : dg Z i = dg D i := by
          have := congrArg (fun l => dg l 0) hdr
          simpa [dg_drop] using this
        rw [hz0] at c1
        have hdb := dg_lt HDD.out i
        obtain ⟨a, ha⟩ : ∃ a, a = dg D i / 2 ^ T := ⟨_, rfl⟩
        have g2 : ((dg D i : Nat) : Int) / 2 ^ T = (a : Int) := by rw [divShr, ← ha]
        have HB := Lib.hid hb
        have HA := Lib.hid ha
        have hrow1 := hrow.set i (by omega) (u := (a : Int)) (d := a) rfl
        have hb1' := hb.setCell (p := ⟨g, i, none⟩) hBg (.int .u64 (a : Int))
        by_cases hin : (i : Int) + 1 < (M : Int)
        · obtain ⟨m, hm⟩ : ∃ m, m = dg D (i + 1) * 2 ^ R % 18446744073709551616 := ⟨_, rfl⟩
          have hmb : m < 18446744073709551616 := by rw [hm]; exact Nat.mod_lt _ (by omega)
          have hm2 : m = dg D (i + 1) % 2 ^ (64 - R) * 2 ^ R := by rw [hm, shl_mod (by have := HRR.out; omega)]
          have ha2 : a < 2 ^ R := by
            rw [ha, Nat.div_lt_iff_lt_mul (Nat.pow_pos (by omega)), ← Nat.pow_add, show R + T = 64 by have := HRR.out; omega]
            exact hdb
          have hor := or_add ha2 hm2
          have hab : a < 18446744073709551616 := Nat.lt_of_le_of_lt (by rw [ha]; exact Nat.div_le_self _ _) hdb
          have hsum : a + m < 18446744073709551616 := by
            rw [← hor]
            exact Nat.or_lt_two_pow (n := 64) hab hmb
          obtain ⟨sm, hsm⟩ : ∃ sm, sm = a + m := ⟨_, rfl⟩
          have HNX := Lib.hid (fun wr2 hr2 hb2 => SDRel.next (B := w.heap.size) (w := w) (wr2 := wr2) (g := g) (p := sm) (by rw [hl, HLD.out]) hd hdr hv hTb (by rw [HLD.out]; exact hlt) (by rw [hsm, ha, hm, HRR.out]) (by omega) hr2 hb2)
          have g3 : IntKind.u64.wrap ((dg D (i + 1) : Nat) * 2 ^ R) = (m : Int) := by rw [wrapShl, hm]
          have g4 : bits .or .u64 (a : Int) (m : Int) = (sm : Int) := by rw [bits_or_u64_nat _ _ hab hmb, hor, hsm]
          obtain ⟨p1, hp1⟩ : ∃ p, p = S + i := ⟨_, rfl⟩
          have g5 : IntKind.i64.wrap ((S : Int) + (i : Int)) = (p1 : Int) := by rw [IntKind.wrap_i64]; omega
          have g6 : IntKind.i64.wrap ((p1 : Int) + 1) = ((p1 + 1 : Nat) : Int) := by rw [IntKind.wrap_i64]; omega
          have c3 := ((HX.out.below hb).below (Below.refl _ _)).cellAt (p1 + 1) (by have := HMM.out; omega)
          rw [show dg x (p1 + 1) = dg D (i + 1) by rw [hdg.out]; congr 1; omega] at c3
          have c4 : (wr.setCell ⟨g, i, none⟩ (.int .u64 (a : Int))).cell? ⟨gx, ox + (p1 + 1), none⟩ = some (.int .u64 (dg D (i + 1) : Nat)) := by
            have hne : gx ≠ g := by
              have := (HX.out.apart hBg) _ _ _ rfl (by omega)
              exact this
            exact (grown_set wr g i _).cell c3 (by simpa using hne)
          have c5 := hrow1.cell i (by rw [List.length_set]; omega)
          rw [dg_set_same (by omega)] at c5
          have f5 := hrow1.free i
          have hp2 : (p1 : Int) + 1 < (N : Int) := by have := HMM.out; omega
          have HLZ := Lib.hid hl
          have HR1 := Lib.hid hrow1
          have HB1' := Lib.hid hb1'
          generalize dg D (i + 1) = ee at *
          generalize dg D i = d at *
          clear hl hd hrow hb hdr hv ha hm hm2 hor hsm hrow1 hb1' hz0 hp1 c3
          go_wp2
          go_region
          go_wp2
          go_roundw
          case rel =>
            refine ⟨i + 1, by omega, by go_num, HNX.out _ ?_ (((HB1'.out).drew).setCell hBg _)⟩
            have := (HR1.out.drew 1).set i (by rw [List.length_set, HLZ.out]; omega) (u := (sm : Int)) (d := sm) rfl
            rw [List.set_set] at this
            exact this
          case measure => simp [intOf]; omega
        · have hab : a < 18446744073709551616 := Nat.lt_of_le_of_lt (by rw [ha]; exact Nat.div_le_self _ _) hdb
          have he0 : dg D (i + 1) = 0 := dg_out (by rw [HLD.out]; omega)
          have HNX := Lib.hid (SDRel.next (B := w.heap.size) (w := w) (g := g) (p := a) (by rw [hl, HLD.out]) hd hdr hv hTb (by rw [HLD.out]; exact hlt) (by rw [ha, he0]; simp) hab hrow1 hb1')
          generalize dg D i = d at *
          clear hl hd hrow hb hdr hv ha hrow1 hb1' hz0 he0
          go_wp2
          go_roundw
          case rel => exact ⟨i + 1, by omega, by go_num, HNX.out⟩
          case measure => simp [intOf]; omega
      · have : i = M := by omega
        subst this
        have hv2 : val Z = val D / 2 ^ T := by
          rw [List.take_of_length_le (by omega), List.take_of_length_le (by rw [HLD.out]; omega), dg_out (l := D) (k := i) (by rw [HLD.out]; omega), Nat.zero_mod, Nat.mul_zero, Nat.add_zero] at hv
          rw [← hv, Nat.mul_comm, Nat.mul_add_div (Nat.pow_pos (by omega)), Nat.div_eq_of_lt (Nat.mod_lt _ (Nat.pow_pos (by omega))), Nat.add_zero]
        have hO : Own wr w.heap.size (.slice (some ⟨g, 0, none⟩) i zcap) Z := by
          have := Own.of_row (cap := zcap) hrow hBg (by omega) z2
          rwa [hl] at this
        have HT := Lib.hid (trim_own _ Z wr hO (by omega) hd)
        rw [hv2] at HT
        have HB := Lib.hid hb
        clear hl hd hrow hb hv hv2 hO hdr
        go_wp2_with (go_at_call 209; refine (HT.out).mono ?_; rintro e w3 ⟨sv, rfl, hO3, rfl⟩; have HO3 := Lib.hid hO3; clear hO3)
        go_ret
        exact ⟨sv, rfl, HO3.out, HB.out⟩
end Go.Proofs.YtlhmfgbaefaneaaGreatDoor.nat
namespace Go.Proofs.YtlhmfgbaefaneaaGreatDoor.nat
open Go.RowKit
def LRel (w2 : World) (gL gQ N n X' Y' k : Nat) (wr : World) : Prop :=
  ∃ L Q : List Nat, L.length = N + 1 ∧ Q.length = N - n + 1 ∧ Dig L ∧ Dig Q ∧ Row wr gL L ∧ Row wr gQ Q ∧ Below w2.heap.size w2 wr ∧ val Q * Y' + val L = X' ∧ val L < Y' * 18446744073709551616 ^ k ∧ ∀ j, j < k → dg Q j = 0
theorem ld_part {L : List Nat} {N n i Y' : Nat} (hl : L.length = N + 1) (hi : i + n + 1 ≤ N + 1) (hY : Y' < 18446744073709551616 ^ n) (h : val L < Y' * 18446744073709551616 ^ (i + 1)) :
    val ((L.drop i).take (n + 1)) < Y' * 18446744073709551616 ∧ val L = val (L.take i) + 18446744073709551616 ^ i * val ((L.drop i).take (n + 1)) ∧ val (L.drop (i + n + 1)) = 0 ∧ L = L.take i ++ ((L.drop i).take (n + 1) ++ L.drop (i + n + 1)) := by
  have e : L = L.take i ++ ((L.drop i).take (n + 1) ++ L.drop (i + n + 1)) := by
    have h1 : (L.drop i).take (n + 1) ++ L.drop (i + n + 1) = L.drop i := by
      rw [show i + n + 1 = i + (n + 1) by omega, ← List.drop_drop, List.take_append_drop]
    rw [h1, List.take_append_drop]
  have l1 : (L.take i).length = i := by rw [List.length_take]; omega
  have l2 : ((L.drop i).take (n + 1)).length = n + 1 := by rw [List.length_take, List.length_drop]; omega
  have v : val L = val (L.take i) + 18446744073709551616 ^ i * (val ((L.drop i).take (n + 1)) + 18446744073709551616 ^ (n + 1) * val (L.drop (i + n + 1))) := by
    have := congrArg val e
    rwa [val_append, val_append, l1, l2] at this
  have hC : val (L.drop (i + n + 1)) = 0 := by
    rcases Nat.eq_zero_or_pos (val (L.drop (i + n + 1))) with h0 | h0
    · exact h0
    · exfalso
      have h1 : 18446744073709551616 ^ i * 18446744073709551616 ^ (n + 1) ≤ val L := by
        rw [v, Nat.mul_add, ← Nat.mul_assoc]
        have := Nat.le_mul_of_pos_right (18446744073709551616 ^ i * 18446744073709551616 ^ (n + 1)) h0
        omega
      have h2 : Y' * 18446744073709551616 ^ (i + 1) ≤ 18446744073709551616 ^ n * 18446744073709551616 ^ (i + 1) := Nat.mul_le_mul_right _ (Nat.le_of_lt hY)
      rw [← Nat.pow_add] at h1 h2
      rw [show n + (i + 1) = i + (n + 1) by omega] at h2
      omega
  rw [hC, Nat.mul_zero, Nat.add_zero] at v
  refine ⟨?_, v, hC, e⟩
  have h3 : 18446744073709551616 ^ i * val ((L.drop i).take (n + 1)) < 18446744073709551616 ^ i * (Y' * 18446744073709551616) := by
    have : Y' * 18446744073709551616 ^ (i + 1) = 18446744073709551616 ^ i * (Y' * 18446744073709551616) := by
      rw [Nat.pow_succ, Nat.mul_left_comm]
    rw [← this]
    omega
  exact Nat.lt_of_mul_lt_mul_left h3
theorem LRel.next {w2 wr w4 : World} {gL gQ N n X' Y' i : Nat} {L Q Z' : List Nat} (hlL : L.length = N + 1) (hlQ : Q.length = N - n + 1) (hdL : Dig L) (hdQ : Dig Q) (hrQ : Row wr gQ Q) (hb : Below w2.heap.size w2 wr) (hv : val Q * Y' + val L = X') (hz : ∀ j, j < i + 1 → dg Q j = 0)
    (hsz : val L = val (L.take i) + 18446744073709551616 ^ i * val ((L.drop i).take (n + 1))) (hC : val (L.drop (i + n + 1)) = 0) (hi : i + n + 1 ≤ N + 1) (hY0 : 0 < Y') (hgL : w2.heap.size ≤ gL) (hgQ : gL < gQ)
    (hl' : Z'.length = n + 1) (hd' : Dig Z') (hv' : val Z' = val ((L.drop i).take (n + 1)) % Y') (hr' : Row w4 gL (L.take i ++ (Z' ++ L.drop (i + n + 1)))) (hg' : wr.grownBy w4 (some gL)) (hdb : val ((L.drop i).take (n + 1)) / Y' < 18446744073709551616) :
    LRel w2 gL gQ N n X' Y' i (w4.setCell ⟨gQ, i, none⟩ (.int .u64 ((val ((L.drop i).take (n + 1)) / Y' : Nat) : Int))) := by
  have l1 : (L.take i).length = i := by rw [List.length_take]; omega
  have vL' : val (L.take i ++ (Z' ++ L.drop (i + n + 1))) = val (L.take i) + 18446744073709551616 ^ i * (val ((L.drop i).take (n + 1)) % Y') := by
    rw [val_append, val_append, l1, hC, Nat.mul_zero, Nat.add_zero, hv']
  have b1 := val_lt' (hdL.take i) (Nat.le_of_eq l1)
  obtain ⟨V, hV⟩ : ∃ V, V = val ((L.drop i).take (n + 1)) := ⟨_, rfl⟩
  rw [← hV] at hsz hv' hdb vL' ⊢
  refine ⟨L.take i ++ (Z' ++ L.drop (i + n + 1)), Q.set i (V / Y'), by rw [List.length_append, List.length_append, l1, hl', List.length_drop]; omega, by simpa using hlQ, (hdL.take i).append (hd'.append (hdL.drop _)), hdQ.set hdb,
    hr'.kept (grown_set _ _ _ _) (by simp; omega), (hrQ.kept hg' (by simp; omega)).set i (by omega) rfl, ?_, ?_, ?_, ?_⟩
  · exact below_grown (below_grown hb hg' hb.size hgL) (grown_set _ _ _ _) (Nat.le_trans hb.size hg'.size) (by omega)
  · have h1 := val_set (l := Q) (j := i) (d := V / Y') (by omega)
    have hz1 := hz i (by omega)
    rw [hz1, Nat.mul_zero, Nat.add_zero] at h1
    rw [h1, vL', Nat.add_mul, ← hv, hsz]
    have h2 := Nat.div_add_mod V Y'
    have h3 : 18446744073709551616 ^ i * (V / Y') * Y' + 18446744073709551616 ^ i * (V % Y') = 18446744073709551616 ^ i * V := by
      rw [Nat.mul_assoc, ← Nat.mul_add, Nat.mul_comm (V / Y'), h2]
    omega
  · rw [vL']
    have h2 : V % Y' + 1 ≤ Y' := Nat.mod_lt _ hY0
    have h3 := Nat.mul_le_mul_left (18446744073709551616 ^ i) h2
    rw [Nat.mul_succ, Nat.mul_comm _ Y'] at h3
    omega
  · intro j hj
    rw [dg_set_other (by omega)]
    exact hz j (by omega)
theorem ld_end {X Y q r s : Nat} (hY : 0 < Y) (h : q * (Y * 2 ^ s) + r = X * 2 ^ s) (hr : r < Y * 2 ^ s) : q = X / Y ∧ r / 2 ^ s = X % Y := by
  have hp : 0 < 2 ^ s := Nat.pow_pos (by omega)
  have h1 : q = X * 2 ^ s / (Y * 2 ^ s) := by
    rw [← h, Nat.mul_comm q, Nat.mul_add_div (Nat.mul_pos hY hp), Nat.div_eq_of_lt hr, Nat.add_zero]
  have h2 : r = X * 2 ^ s % (Y * 2 ^ s) := by
    rw [← h, Nat.mul_comm q, Nat.mul_add_mod, Nat.mod_eq_of_lt hr]
  rw [Nat.mul_div_mul_right _ _ hp] at h1
  rw [Nat.mul_mod_mul_right] at h2
  exact ⟨h1, by rw [h2, Nat.mul_div_cancel _ hp]⟩
theorem ld_first {x y : List Nat} {N n s : Nat} (hx : x.length = N) (hy : y.length = n) (hnN : n ≤ N) (hn : 0 < n) (hdx : Dig x) (hny : Norm y) (hs : s ≤ 63) (h1 : dg y (n - 1) * 2 ^ s < 18446744073709551616) (h2 : 9223372036854775808 ≤ dg y (n - 1) * 2 ^ s) :
    val y * 2 ^ s < 18446744073709551616 ^ n ∧ (digs (val y * 2 ^ s)).length = n ∧ val x * 2 ^ s < val y * 2 ^ s * 18446744073709551616 ^ (N - n + 1) ∧ val x * 2 ^ s < 18446744073709551616 ^ (N + 1) := by
  have e1 : val y = val (y.take (n - 1)) + 18446744073709551616 ^ (n - 1) * dg y (n - 1) := by
    rw [← val_take_succ, List.take_of_length_le (by omega)]
  have b1 := val_lt' (hny.1.take (n - 1)) (show (y.take (n - 1)).length ≤ n - 1 by rw [List.length_take]; omega)
  have e2 : 18446744073709551616 ^ n = 18446744073709551616 ^ (n - 1) * 18446744073709551616 := by rw [← Nat.pow_succ]; congr 1; omega
  have e4 : (18446744073709551616 : Nat) = 2 ^ (64 - s) * 2 ^ s := by rw [← Nat.pow_add, show 64 - s + s = 64 by omega]
  have c1 : val y * 2 ^ s < 18446744073709551616 ^ n := by
    have h3 : dg y (n - 1) + 1 ≤ 2 ^ (64 - s) := by
      have : dg y (n - 1) * 2 ^ s < 2 ^ (64 - s) * 2 ^ s := by rw [← e4]; exact h1
      exact Nat.lt_of_mul_lt_mul_right this
    have h4 : val y < 18446744073709551616 ^ (n - 1) * (dg y (n - 1) + 1) := by rw [e1, Nat.mul_succ]; omega
    have h5 : 18446744073709551616 ^ (n - 1) * (dg y (n - 1) + 1) * 2 ^ s ≤ 18446744073709551616 ^ (n - 1) * 2 ^ (64 - s) * 2 ^ s := Nat.mul_le_mul_right _ (Nat.mul_le_mul_left _ h3)
    have h6 : 18446744073709551616 ^ (n - 1) * 2 ^ (64 - s) * 2 ^ s = 18446744073709551616 ^ n := by rw [Nat.mul_assoc, ← e4, e2]
    have h7 : val y * 2 ^ s < 18446744073709551616 ^ (n - 1) * (dg y (n - 1) + 1) * 2 ^ s := Nat.mul_lt_mul_of_pos_right h4 (Nat.pow_pos (by omega))
    omega
  have c2 : 18446744073709551616 ^ (n - 1) * 9223372036854775808 ≤ val y * 2 ^ s := by
    rw [e1, Nat.add_mul, Nat.mul_assoc]
    have := Nat.mul_le_mul_left (18446744073709551616 ^ (n - 1)) h2
    omega
  have c3 : val x * 2 ^ s < 18446744073709551616 ^ N * 9223372036854775808 := by
    have h3 := val_lt' hdx (Nat.le_of_eq hx)
    have h4 : 2 ^ s ≤ 9223372036854775808 := by
      have : 2 ^ s ≤ 2 ^ 63 := Nat.pow_le_pow_right (by omega) hs
      omega
    have h5 : val x * 2 ^ s < 18446744073709551616 ^ N * 2 ^ s := Nat.mul_lt_mul_of_pos_right h3 (Nat.pow_pos (by omega))
    have h6 := Nat.mul_le_mul_left (18446744073709551616 ^ N) h4
    omega
  refine ⟨c1, Nat.le_antisymm (digs_len c1) ?_, ?_, ?_⟩
  · rcases Nat.lt_or_ge (digs (val y * 2 ^ s)).length n with h | h
    · exfalso
      have h3 := val_lt' (norm_digs (val y * 2 ^ s)).1 (show _ ≤ n - 1 by omega)
      rw [val_digs] at h3
      have h4 := Nat.le_mul_of_pos_right (18446744073709551616 ^ (n - 1)) (show 0 < 9223372036854775808 by omega)
      omega
    · exact h
  · refine Nat.lt_of_lt_of_le c3 ?_
    have h3 := Nat.mul_le_mul_right (18446744073709551616 ^ (N - n + 1)) c2
    rw [Nat.mul_right_comm, ← Nat.pow_add, show n - 1 + (N - n + 1) = N by omega] at h3
    exact h3
  · refine Nat.lt_of_lt_of_le c3 ?_
    rw [Nat.pow_succ]
    exact Nat.mul_le_mul_left _ (by omega)
end Go.Proofs.YtlhmfgbaefaneaaGreatDoor.nat
