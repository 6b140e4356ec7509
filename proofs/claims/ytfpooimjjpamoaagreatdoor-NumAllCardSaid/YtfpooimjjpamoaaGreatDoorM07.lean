/-
  The steps of the walks, part 7: DivW, Guess, Take.
-/
import Derived.Test.YtfpooimjjpamoaaGreatDoorM06
namespace Go.Proofs.YtfpooimjjpamoaaGreatDoor.nat
open Go.RowKit
set_option maxRecDepth 100000 in
set_option maxHeartbeats 1000000 in
theorem Div64_any (hi lo y : Nat) (hh : hi < y) (hl : lo < 18446744073709551616) (hy : y < 18446744073709551616) (w : World) :
    Calls Tryz.prog 188 #[.int .u64 (hi : Int), .int .u64 (lo : Int), .int .u64 (y : Int)] w fun e w' => ∃ q r : Nat, e = .returned (.tuple #[.int .u64 (q : Int), .int .u64 (r : Int)]) ∧ (q * y + r = hi * 18446744073709551616 + lo ∧ r < y ∧ q < 18446744073709551616) ∧ ∃ m, w' = w.drewN m := by
  rcases Nat.eq_zero_or_pos hi with rfl | h0
  · obtain ⟨Q, hQ⟩ : ∃ Q, Q = lo / y := ⟨_, rfl⟩
    obtain ⟨R, hR⟩ : ∃ R, R = lo % y := ⟨_, rfl⟩
    have hy0 : ((y : Int) == 0) = false := by simp; omega
    have hy1 : ¬ (y : Int) = 0 := by omega
    have hy2 : ¬ (y : Int) ≤ 0 := by omega
    have F1 : (lo : Int) / (y : Int) = (Q : Int) := by rw [hQ, divNat]
    have F2 : (lo : Int) % (y : Int) = (R : Int) := by rw [hR, Int.natCast_emod]
    have hRy : R < y := by rw [hR]; exact Nat.mod_lt _ hh
    have hQl : Q ≤ lo := by rw [hQ]; exact Nat.div_le_self _ _
    have hQb : Q < 18446744073709551616 := by omega
    have hRb : R < 18446744073709551616 := by omega
    have HE := Lib.hid (show Q * y + R = lo by rw [hQ, hR, Nat.mul_comm]; exact Nat.div_add_mod _ _)
    clear hQ hR
    go_enter Tryz.func188, Tryz.ntmps188
    go_wp2
    go_quiet (fail)
    go_wp2
    go_ret2
    refine ⟨Q, R, ?_, ⟨by rw [HE.out]; omega, hRy, hQb⟩, _, rfl⟩
    show Ending.returned (.tuple #[.int .u64 (Q : Int), .int .u64 ((lo : Int) % (y : Int))]) = _
    rw [F2]
  · refine (Div64_pos hi lo y hh hl hy h0 w).mono ?_
    rintro e w' ⟨q, r, rfl, h, rfl⟩
    exact ⟨q, r, rfl, h, 0, rfl⟩
theorem Row.drew {w : World} {g : Nat} {L : List Nat} (h : Row w g L) (n : Nat) : Row (w.drewN n) g L := h
def WRel (w : World) (g y : Nat) (Z : List Nat) (k r : Nat) (wr : World) : Prop :=
  ∃ Z', Z'.length = Z.length ∧ Dig Z' ∧ Z'.take k = Z.take k ∧ val (Z'.drop k) * y + r = val (Z.drop k) ∧ r < y ∧ Row wr g Z' ∧ w.grownBy wr (some g)
theorem WRel.next {w wr : World} {g y k r q r' m : Nat} {Z Z' : List Nat} (h0 : Z'.length = Z.length) (h1 : Dig Z') (h2 : Z'.take k = Z.take k) (h3 : val (Z'.drop k) * y + r = val (Z.drop k)) (h5 : Row wr g Z') (h6 : w.grownBy wr (some g)) (hk : 0 < k) (hkl : k ≤ Z.length)
    (hq : q * y + r' = r * 18446744073709551616 + dg Z' (k - 1)) (hr : r' < y) (hqb : q < 18446744073709551616) : WRel w g y Z (k - 1) r' ((wr.drewN m).setCell ⟨g, k - 1, none⟩ (.int .u64 (q : Nat))) := by
  have e1 : dg Z' (k - 1) = dg Z (k - 1) := by
    rw [← dg_take (n := k) (by omega), h2, dg_take (by omega)]
  refine ⟨Z'.set (k - 1) q, by simpa using h0, h1.set hqb, ?_, ?_, hr, (h5.drew m).set _ (by omega) rfl, grown_trans h6 (grown_trans (grown_of_below (drew_below wr m) _) (grown_set _ _ _ _))⟩
  · rw [List.take_set, List.set_eq_of_length_le (by rw [List.length_take]; omega)]
    have := congrArg (List.take (k - 1)) h2
    rwa [List.take_take, List.take_take, Nat.min_eq_left (by omega)] at this
  · have e2 : (Z'.set (k - 1) q).drop (k - 1) = q :: Z'.drop k := by
      rw [drop_dg _ (k - 1) (by rw [List.length_set]; omega), dg_set_same (by omega), List.drop_set_of_lt (by omega), show k - 1 + 1 = k by omega]
    rw [e2, drop_dg Z (k - 1) (by omega), show k - 1 + 1 = k by omega, val, val, ← h3, ← e1]
    have : (q + 18446744073709551616 * val (Z'.drop k)) * y = q * y + 18446744073709551616 * (val (Z'.drop k) * y) := by rw [Nat.add_mul, Nat.mul_assoc]
    rw [this]
    omega
set_option maxRecDepth 100000 in
set_option maxHeartbeats 1000000 in
theorem divideByWord_own {B : Nat} (sv : Value) (z : List Nat) (y : Nat) (w : World) (hO : Own w B sv z) (hdz : Dig z) (hy : y < 18446744073709551616) (hy0 : 0 < y) (hn : z.length ≤ 4000000) :
    Calls Tryz.prog 153 #[sv, .int .u64 (y : Nat)] w fun e w' => ∃ (z' : List Nat) (r : Nat), e = .returned (.int .u64 (r : Nat)) ∧ (z'.length = z.length ∧ Dig z' ∧ val z' * y + r = val z ∧ r < y ∧ Own w' B sv z') ∧ Below B w w' := by
  obtain ⟨ao, cap, rfl, ⟨h1, h4⟩, h2, h3⟩ := id hO
  have HO := Lib.hid hO
  rcases h3 with rfl | ⟨g, rfl, hB, hrow⟩
  · simp only [List.length_nil]
    clear hO h4 hn h1
    go_enter Tryz.func153, Tryz.ntmps153
    go_wp2
    go_loopw [5, 6] (fun rv iv wr => iv = .int .i64 (-1) ∧ rv = .int .u64 0 ∧ w = wr) (fun _ _ _ => 0)
    case atStart => exact ⟨rfl, rfl, rfl⟩
    case round =>
      obtain ⟨rfl, rfl, rfl⟩ := hrel
      go_wp2
      go_ret
      exact ⟨[], 0, rfl, ⟨rfl, Dig.nil, by simp [val], hy0, HO.out⟩, Below.refl _ _⟩
  · obtain ⟨n, hnl⟩ : ∃ n, z.length = n := ⟨_, rfl⟩
    have HN := Lib.hid hnl
    have HS := Lib.hid (show WRel w g y z n 0 w from ⟨z, rfl, hdz, rfl, by rw [List.drop_eq_nil_of_le (by omega)]; simp [val], hy0, hrow, grown_refl _ _⟩)
    have hgl := hrow.lt
    unfold maxLen at h2
    rw [hnl] at h1 hn ⊢
    clear hO hdz hrow hnl h4
    go_enter Tryz.func153, Tryz.ntmps153
    go_wp2
    go_loopw [5, 6] (fun rv iv wr => ∃ k r : Nat, iv = .int .i64 ((k : Int) - 1) ∧ rv = .int .u64 r ∧ k ≤ n ∧ WRel w g y z k r wr) (fun _ iv _ => (intOf iv + 1).toNat)
    case atStart => exact ⟨n, 0, rfl, rfl, Nat.le_refl _, HS.out⟩
    case round =>
      obtain ⟨k, r, rfl, rfl, hk, hrel⟩ := hrel
      obtain ⟨Z', hl, hd, htk, hv, hr, hrow, hgr⟩ := hrel
      by_cases hk0 : k = 0
      · subst hk0
        have HV := Lib.hid hv
        clear hv htk
        go_wp2
        go_ret
        refine ⟨Z', r, rfl, ⟨by rw [hl, HN.out], hd, by simpa using HV.out, hr, ?_⟩, ?_⟩
        · have := Own.of_row (cap := cap) hrow hB (by rw [hl, HN.out]; exact h1) (by unfold maxLen; omega)
          rwa [hl, HN.out] at this
        · exact ⟨hgr.os, hgr.tape, hgr.output, hgr.size, fun k hk => hgr.block k (by omega) (by simp; omega)⟩
      · have hk1 : 0 < k := by omega
        have c1 := hrow.cell (k - 1) (by rw [hl, HN.out]; omega)
        have f1 := hrow.free (k - 1)
        have hzd := dg_lt hd (k - 1)
        have HNX := Lib.hid (fun q r' m => WRel.next (q := q) (r' := r') (m := m) hl hd htk hv hrow hgr hk1 (by rw [HN.out]; exact hk))
        have e2 : ((k : Int) - 1).toNat = k - 1 := by omega
        have e3 : (k : Int) - 1 < (n : Int) := by omega
        have e4 : (0 : Int) ≤ (k : Int) - 1 := by omega
        generalize dg Z' (k - 1) = d at *
        clear hl hd htk hv hrow hgr HS HO
        go_wp2_with (go_at_call 188; refine (Div64_any r d y hr hzd hy _).mono ?_; rintro e w2 ⟨q, r', rfl, ⟨q1, q2, q3⟩, m, rfl⟩; have HR := Lib.hid (HNX.out q r' m q1 q2 q3); clear q1)
        go_roundw
        case rel => exact ⟨k - 1, r', by go_num, rfl, by omega, HR.out⟩
        case measure => simp [intOf]; omega
end Go.Proofs.YtfpooimjjpamoaaGreatDoor.nat
namespace Go.Proofs.YtfpooimjjpamoaaGreatDoor.nat
open Go.RowKit
theorem div64_ex (hi lo y : Nat) (hh : hi < y) (hl : lo < 18446744073709551616) (hy : y < 18446744073709551616) : ∃ q r : Nat, q * y + r = hi * 18446744073709551616 + lo ∧ r < y ∧ q < 18446744073709551616 ∧
    ∀ w, Calls Tryz.prog 188 #[.int .u64 (hi : Int), .int .u64 (lo : Int), .int .u64 (y : Int)] w fun e w' => e = .returned (.tuple #[.int .u64 (q : Int), .int .u64 (r : Int)]) ∧ ∃ m, w' = w.drewN m := by
  have uniq : ∀ q r q' r' : Nat, q * y + r = q' * y + r' → r < y → r' < y → q = q' ∧ r = r' := by
    intro q r q' r' h h1 h2
    have e1 : (q * y + r) / y = q := by rw [Nat.mul_comm, Nat.mul_add_div (by omega), Nat.div_eq_of_lt h1, Nat.add_zero]
    have e2 : (q' * y + r') / y = q' := by rw [Nat.mul_comm, Nat.mul_add_div (by omega), Nat.div_eq_of_lt h2, Nat.add_zero]
    have : q = q' := by rw [← e1, ← e2, h]
    subst this
    exact ⟨rfl, by omega⟩
  have d1 := Nat.div_add_mod (hi * 18446744073709551616 + lo) y
  rw [Nat.mul_comm] at d1
  have d2 := Nat.mod_lt (hi * 18446744073709551616 + lo) (show 0 < y by omega)
  have d3 : (hi * 18446744073709551616 + lo) / y < 18446744073709551616 := by
    rw [Nat.div_lt_iff_lt_mul (by omega)]
    omega
  refine ⟨_, _, d1, d2, d3, fun w => (Div64_any hi lo y hh hl hy w).mono ?_⟩
  rintro e w' ⟨q, r, rfl, ⟨h1, h2, h3⟩, hm⟩
  obtain ⟨rfl, rfl⟩ := uniq q r _ _ (h1.trans d1.symm) h2 d2
  exact ⟨rfl, hm⟩
theorem quiet_draws2 {P : Program} {f : FuncId} {args : Array Value} {w : World} {c n : Nat} {v : Value}
    (h : Calls P f args (w.drewN (c + n)) fun e w' => e = .returned v ∧ ∃ m, w' = (w.drewN (c + n)).drewN m) : Calls P f args (w.drewN (c + n)) fun e w'' => e = .returned v ∧ ∃ m, w'' = w.drewN (c + m) :=
  h.mono fun _ _ ⟨he, m, hm⟩ => ⟨he, n + m, by rw [hm, World.drewN_drewN, Nat.add_assoc]⟩
def GRel (l0 l1 l2 y0 y1 : Nat) (dv rv ov : Value) : Prop := ∃ d r o : Nat, dv = .int .u64 d ∧ rv = .int .u64 r ∧ ov = .int .u64 o ∧ d < 18446744073709551616 ∧ r < 18446744073709551616 ∧ o ≤ 1 ∧
  d * y1 + r + 18446744073709551616 * o = l2 * 18446744073709551616 + l1 ∧ ∀ q, q < 18446744073709551616 → q * (y1 * 18446744073709551616 + y0) ≤ (l2 * 18446744073709551616 + l1) * 18446744073709551616 + l0 → q ≤ d
theorem guess_first {l0 l1 l2 y0 y1 d r : Nat} (h0 : l0 < 18446744073709551616) (h : d * y1 + r = l2 * 18446744073709551616 + l1) (hr : r < y1) : ∀ q, q < 18446744073709551616 → q * (y1 * 18446744073709551616 + y0) ≤ (l2 * 18446744073709551616 + l1) * 18446744073709551616 + l0 → q ≤ d := by
  intro q _ hq
  rcases Nat.lt_or_ge d q with hlt | hge
  · exfalso
    have h1 : (d + 1) * y1 ≤ q * y1 := Nat.mul_le_mul_right _ hlt
    rw [Nat.succ_mul] at h1
    have h2 : q * (y1 * 18446744073709551616 + y0) = q * y1 * 18446744073709551616 + q * y0 := by rw [Nat.mul_add, Nat.mul_assoc]
    rw [h2] at hq
    generalize hA : q * y1 = a at *
    generalize hB : q * y0 = b at *
    generalize hC : d * y1 = c at *
    clear hA hB hC h2
    omega
  · exact hge
theorem guess_less {l0 l1 l2 y0 y1 d r : Nat} (h : d * y1 + r = l2 * 18446744073709551616 + l1) (ht : r * 18446744073709551616 + l0 < d * y0) (hd : ∀ q, q < 18446744073709551616 → q * (y1 * 18446744073709551616 + y0) ≤ (l2 * 18446744073709551616 + l1) * 18446744073709551616 + l0 → q ≤ d) :
    0 < d ∧ ∀ q, q < 18446744073709551616 → q * (y1 * 18446744073709551616 + y0) ≤ (l2 * 18446744073709551616 + l1) * 18446744073709551616 + l0 → q ≤ d - 1 := by
  have h0 : 0 < d := by
    rcases Nat.eq_zero_or_pos d with rfl | h0
    · simp at ht
    · exact h0
  refine ⟨h0, fun q hq1 hq => ?_⟩
  have h1 := hd q hq1 hq
  rcases Nat.lt_or_ge q d with h2 | h2
  · exact Nat.le_sub_one_of_lt h2
  · exfalso
    obtain rfl : q = d := Nat.le_antisymm h1 h2
    have h3 : q * (y1 * 18446744073709551616 + y0) = q * y1 * 18446744073709551616 + q * y0 := by rw [Nat.mul_add, Nat.mul_assoc]
    rw [h3] at hq
    generalize hA : q * y1 = a at *
    generalize hB : q * y0 = b at *
    clear hA hB h3
    omega
theorem guess_step {l1 l2 y1 d r s k : Nat} (h : d * y1 + r + 18446744073709551616 * 0 = l2 * 18446744073709551616 + l1) (hd : 0 < d) (he : s + 18446744073709551616 * k = r + y1 + 0) : (d - 1) * y1 + s + 18446744073709551616 * k = l2 * 18446744073709551616 + l1 := by
  have : (d - 1) * y1 + y1 = d * y1 := by rw [← Nat.succ_mul]; congr 1; omega
  omega
set_option maxRecDepth 100000 in
set_option maxHeartbeats 2000000 in
theorem guess_any (sl sy : Value) (l0 l1 l2 y0 y1 : Nat) (w : World) (hl : Rd w sl [l0, l1, l2]) (hy : Rd w sy [y0, y1]) (bl0 : l0 < 18446744073709551616) (bl1 : l1 < 18446744073709551616) (bl2 : l2 ≤ y1) (by0 : y0 < 18446744073709551616) (by1 : y1 < 18446744073709551616) (hy0 : 0 < y1) :
    Calls Tryz.prog 214 #[sl, sy] w fun e w' => ∃ d : Nat, e = .returned (.int .u64 (d : Nat)) ∧ (d < 18446744073709551616 ∧ ∀ q, q < 18446744073709551616 → q * (y1 * 18446744073709551616 + y0) ≤ (l2 * 18446744073709551616 + l1) * 18446744073709551616 + l0 → q ≤ d) ∧ ∃ m, w' = w.drewN m := by
  obtain ⟨ao, lcap, rfl, ⟨h1, -⟩, h2, -⟩ := id hl
  obtain ⟨bo, ycap, rfl, ⟨k1, -⟩, k2, -⟩ := id hy
  obtain ⟨gl, ol, rfl, cl⟩ := lenpos hl (by simp)
  obtain ⟨gy, oy, rfl, cy⟩ := lenpos hy (by simp)
  have c0 := cl 0 (by simp)
  have c1 := cl 1 (by simp)
  have c2 := cl 2 (by simp)
  have d0 := cy 0 (by simp)
  have d1 := cy 1 (by simp)
  simp only [dg, List.getD_cons_zero, List.getD_cons_succ, Nat.add_zero] at c0 c1 c2 d0 d1
  simp only [List.length_cons, List.length_nil, Nat.zero_add] at h1 k1 ⊢
  have bl2' : l2 < 18446744073709551616 := by omega
  unfold maxLen at h2 k2
  clear hl hy cl cy
  have H2 := Lib.hid hy0
  by_cases hlt : (l2 : Int) < (y1 : Int)
  · obtain ⟨q, r, hq, hr, hqb, hrun⟩ := div64_ex l2 l1 y1 (by omega) bl1 by1
    have HS := Lib.hid (show GRel l0 l1 l2 y0 y1 (.int .u64 (q : Int)) (.int .u64 (r : Int)) (.int .u64 ((0 : Nat) : Int)) from ⟨q, r, 0, rfl, rfl, rfl, hqb, by omega, by omega, by omega, guess_first bl0 hq hr⟩)
    have HD := Lib.hid hrun
    clear hq hr hrun
    go_enter Tryz.func214, Tryz.ntmps214
    go_wp2
    go_quiet (fail)
    go_wp2
    go_quiet (first | (go_at_call 188; with_reducible exact quiet_draws2 (HD.out _)))
    go_wp2
    go_loopw [5, 6, 7] (fun dv rv ov wr => (∃ m, wr = w.drewN m) ∧ GRel l0 l1 l2 y0 y1 dv rv ov) (fun dv _ _ _ => (intOf dv).toNat)
    case atStart =>
      refine ⟨?_, HS.out⟩
      simp only [World.drewN_drewN]
      exact ⟨_, rfl⟩
    case round =>
      obtain ⟨⟨m, rfl⟩, d, r, o, rfl, rfl, rfl, hdb, hrb, hob, hde, hq⟩ := hrel
      have HDE := Lib.hid hde
      have HQ := Lib.hid hq
      clear hde hq HS
      by_cases ho : o = 0
      · subst ho
        obtain ⟨h, l, hh, hll, hhl, hmul⟩ := mul64_ex d y0 hdb by0
        have HM := Lib.hid hmul
        have HHL := Lib.hid hhl
        clear hmul hhl
        by_cases t1 : (h : Int) < (r : Int)
        · go_wp2_with (go_at_call 163; refine (HM.out _).mono ?_; rintro e w' ⟨rfl, rfl⟩)
          go_ret
          exact ⟨d, rfl, ⟨hdb, HQ.out⟩, m, rfl⟩
        · by_cases t2 : (h : Int) = (r : Int)
          · have t2' : h = r := by omega
            subst t2'
            by_cases t3 : (l : Int) ≤ (l0 : Int)
            · go_wp2_with (go_at_call 163; refine (HM.out _).mono ?_; rintro e w' ⟨rfl, rfl⟩)
              go_ret
              exact ⟨d, rfl, ⟨hdb, HQ.out⟩, m, rfl⟩
            · have hls := guess_less (l0 := l0) HDE.out (by rw [← HHL.out]; omega) HQ.out
              obtain ⟨s, k, hs, hk, he, hrun⟩ := add64_ex h y1 0 hrb by1 (by omega)
              have hd0 := hls.1
              have HNX := Lib.hid (show GRel l0 l1 l2 y0 y1 (.int .u64 ((d - 1 : Nat) : Int)) (.int .u64 (s : Int)) (.int .u64 (k : Int)) from ⟨d - 1, s, k, rfl, rfl, rfl, by omega, hs, hk, guess_step HDE.out hd0 he, hls.2⟩)
              simp only [Int.natCast_zero] at hrun
              clear hls he
              go_wp2_with (go_at_call 163; refine (HM.out _).mono ?_; rintro e w' ⟨rfl, rfl⟩)
              go_roundw
              case rel => exact ⟨⟨m, rfl⟩, by have := HNX.out; rwa [show ((d - 1 : Nat) : Int) = (d : Int) - 1 by omega] at this⟩
              case measure => simp [intOf]; omega
          · have hls := guess_less (l0 := l0) HDE.out (by rw [← HHL.out]; omega) HQ.out
            obtain ⟨s, k, hs, hk, he, hrun⟩ := add64_ex r y1 0 hrb by1 (by omega)
            have hd0 := hls.1
            have HNX := Lib.hid (show GRel l0 l1 l2 y0 y1 (.int .u64 ((d - 1 : Nat) : Int)) (.int .u64 (s : Int)) (.int .u64 (k : Int)) from ⟨d - 1, s, k, rfl, rfl, rfl, by omega, hs, hk, guess_step HDE.out hd0 he, hls.2⟩)
            have t2' : ((h : Int) == (r : Int)) = false := by simp; omega
            simp only [Int.natCast_zero] at hrun
            clear hls he
            go_wp2_with (go_at_call 163; refine (HM.out _).mono ?_; rintro e w' ⟨rfl, rfl⟩)
            go_roundw
            case rel => exact ⟨⟨m, rfl⟩, by have := HNX.out; rwa [show ((d - 1 : Nat) : Int) = (d : Int) - 1 by omega] at this⟩
            case measure => simp [intOf]; omega
      · have hb : ((o : Int) == 0) = false := by simp; omega
        go_wp2
        go_ret
        exact ⟨d, rfl, ⟨hdb, HQ.out⟩, m, rfl⟩
  · have hl2 : l2 = y1 := by omega
    subst hl2
    obtain ⟨r, o, hr, ho, hro, hrun⟩ := add64_ex l1 l2 0 bl1 by1 (by omega)
    have HS := Lib.hid (show GRel l0 l1 l2 y0 l2 (.int .u64 ((18446744073709551615 : Nat) : Int)) (.int .u64 (r : Int)) (.int .u64 (o : Int)) from ⟨18446744073709551615, r, o, rfl, rfl, rfl, by omega, hr, ho, by omega, fun q hq _ => by omega⟩)
    simp only [Int.natCast_zero] at hrun
    have HD := Lib.hid hrun
    clear hro
    go_enter Tryz.func214, Tryz.ntmps214
    go_wp2
    go_quiet (fail)
    go_wp2
    go_quiet (fail)
    go_wp2
    go_loopw [5, 6, 7] (fun dv rv ov wr => (∃ m, wr = w.drewN m) ∧ GRel l0 l1 l2 y0 l2 dv rv ov) (fun dv _ _ _ => (intOf dv).toNat)
    case atStart =>
      refine ⟨?_, HS.out⟩
      simp only [World.drewN_drewN]
      exact ⟨_, rfl⟩
    case round =>
      obtain ⟨⟨m, rfl⟩, d, r, o, rfl, rfl, rfl, hdb, hrb, hob, hde, hq⟩ := hrel
      have HDE := Lib.hid hde
      have HQ := Lib.hid hq
      clear hde hq HS
      by_cases ho : o = 0
      · subst ho
        obtain ⟨h, l, hh, hll, hhl, hmul⟩ := mul64_ex d y0 hdb by0
        have HM := Lib.hid hmul
        have HHL := Lib.hid hhl
        clear hmul hhl
        by_cases t1 : (h : Int) < (r : Int)
        · go_wp2_with (go_at_call 163; refine (HM.out _).mono ?_; rintro e w' ⟨rfl, rfl⟩)
          go_ret
          exact ⟨d, rfl, ⟨hdb, HQ.out⟩, m, rfl⟩
        · by_cases t2 : (h : Int) = (r : Int)
          · have t2' : h = r := by omega
            subst t2'
            by_cases t3 : (l : Int) ≤ (l0 : Int)
            · go_wp2_with (go_at_call 163; refine (HM.out _).mono ?_; rintro e w' ⟨rfl, rfl⟩)
              go_ret
              exact ⟨d, rfl, ⟨hdb, HQ.out⟩, m, rfl⟩
            · have hls := guess_less (l0 := l0) HDE.out (by rw [← HHL.out]; omega) HQ.out
              obtain ⟨s, k, hs, hk, he, hrun⟩ := add64_ex h l2 0 hrb by1 (by omega)
              have hd0 := hls.1
              have HNX := Lib.hid (show GRel l0 l1 l2 y0 l2 (.int .u64 ((d - 1 : Nat) : Int)) (.int .u64 (s : Int)) (.int .u64 (k : Int)) from ⟨d - 1, s, k, rfl, rfl, rfl, by omega, hs, hk, guess_step HDE.out hd0 he, hls.2⟩)
              simp only [Int.natCast_zero] at hrun
              clear hls he
              go_wp2_with (go_at_call 163; refine (HM.out _).mono ?_; rintro e w' ⟨rfl, rfl⟩)
              go_roundw
              case rel => exact ⟨⟨m, rfl⟩, by have := HNX.out; rwa [show ((d - 1 : Nat) : Int) = (d : Int) - 1 by omega] at this⟩
              case measure => simp [intOf]; omega
          · have hls := guess_less (l0 := l0) HDE.out (by rw [← HHL.out]; omega) HQ.out
            obtain ⟨s, k, hs, hk, he, hrun⟩ := add64_ex r l2 0 hrb by1 (by omega)
            have hd0 := hls.1
            have HNX := Lib.hid (show GRel l0 l1 l2 y0 l2 (.int .u64 ((d - 1 : Nat) : Int)) (.int .u64 (s : Int)) (.int .u64 (k : Int)) from ⟨d - 1, s, k, rfl, rfl, rfl, by omega, hs, hk, guess_step HDE.out hd0 he, hls.2⟩)
            have t2' : ((h : Int) == (r : Int)) = false := by simp; omega
            simp only [Int.natCast_zero] at hrun
            clear hls he
            go_wp2_with (go_at_call 163; refine (HM.out _).mono ?_; rintro e w' ⟨rfl, rfl⟩)
            go_roundw
            case rel => exact ⟨⟨m, rfl⟩, by have := HNX.out; rwa [show ((d - 1 : Nat) : Int) = (d : Int) - 1 by omega] at this⟩
            case measure => simp [intOf]; omega
      · have hb : ((o : Int) == 0) = false := by simp; omega
        go_wp2
        go_ret
        exact ⟨d, rfl, ⟨hdb, HQ.out⟩, m, rfl⟩
end Go.Proofs.YtfpooimjjpamoaaGreatDoor.nat
namespace Go.Proofs.YtfpooimjjpamoaaGreatDoor.nat
open Go.RowKit
def TRel (w : World) (g n q Y X old : Nat) (A C : List Nat) (dv tv uv : Value) (wr : World) : Prop :=
  ∃ (lo : List Nat) (d t u : Nat), dv = .int .u64 d ∧ tv = .int .u64 t ∧ uv = .int .u64 u ∧ lo.length = n ∧ Dig lo ∧ t < 18446744073709551616 ∧ u ≤ 1 ∧ d < 18446744073709551616 ∧ q ≤ d ∧
    val lo + 18446744073709551616 ^ n * t + Y * d = X + 18446744073709551616 ^ (n + 1) * u ∧ Row wr g (A ++ (lo ++ ([old] ++ C))) ∧ w.grownBy wr (some g)
theorem take_owed {lo : List Nat} {n t Y X d : Nat} (hl : lo.length = n) (hd : Dig lo) (ht : t < 18446744073709551616) (h : val lo + 18446744073709551616 ^ n * t + Y * d = X + 18446744073709551616 ^ (n + 1) * 1) : X < Y * d := by
  have h1 := val_lt' hd (Nat.le_of_eq hl)
  have h2 : 18446744073709551616 ^ n * t + 18446744073709551616 ^ n ≤ 18446744073709551616 ^ (n + 1) := by
    rw [Nat.pow_succ, ← Nat.mul_succ]
    exact Nat.mul_le_mul_left _ ht
  rw [Nat.mul_one] at h
  generalize 18446744073709551616 ^ n * t = a at *
  generalize 18446744073709551616 ^ n = b at *
  generalize 18446744073709551616 ^ (n + 1) = c at *
  generalize Y * d = e at *
  omega
theorem take_next {lo lo' : List Nat} {n t t' c o Y X d : Nat} (h : val lo + 18446744073709551616 ^ n * t + Y * d = X + 18446744073709551616 ^ (n + 1) * 1) (hd : 0 < d) (hv : val lo' + 18446744073709551616 ^ n * c = val lo + Y) (he : t' + 18446744073709551616 * o = t + c) (ho : o ≤ 1) :
    val lo' + 18446744073709551616 ^ n * t' + Y * (d - 1) = X + 18446744073709551616 ^ (n + 1) * (1 - o) := by
  have h1 : Y * (d - 1) + Y = Y * d := by rw [← Nat.mul_succ]; congr 1; omega
  have h2 : 18446744073709551616 ^ n * t' + 18446744073709551616 ^ (n + 1) * o = 18446744073709551616 ^ n * t + 18446744073709551616 ^ n * c := by
    rw [Nat.pow_succ, Nat.mul_assoc, ← Nat.mul_add, he, Nat.mul_add]
  have h3 : 18446744073709551616 ^ (n + 1) * (1 - o) + 18446744073709551616 ^ (n + 1) * o = 18446744073709551616 ^ (n + 1) * 1 := by rw [← Nat.mul_add]; congr 1; omega
  generalize 18446744073709551616 ^ n * t = a1 at *
  generalize 18446744073709551616 ^ n * c = a2 at *
  generalize 18446744073709551616 ^ n * t' = a3 at *
  generalize 18446744073709551616 ^ (n + 1) * o = a4 at *
  generalize 18446744073709551616 ^ (n + 1) * (1 - o) = a5 at *
  generalize 18446744073709551616 ^ (n + 1) * 1 = a6 at *
  generalize Y * (d - 1) = b1 at *
  generalize Y * d = b2 at *
  omega
theorem take_done {lo : List Nat} {n t Y X d : Nat} (hY : 0 < Y) (h : val lo + 18446744073709551616 ^ n * t + Y * d = X + 18446744073709551616 ^ (n + 1) * 0) (hq : X / Y ≤ d) : d = X / Y ∧ val lo + 18446744073709551616 ^ n * t = X % Y := by
  rw [Nat.mul_zero, Nat.add_zero] at h
  have h1 : d ≤ X / Y := by
    rw [Nat.le_div_iff_mul_le hY, Nat.mul_comm]
    omega
  have h2 : d = X / Y := Nat.le_antisymm h1 hq
  refine ⟨h2, ?_⟩
  have h3 := Nat.div_add_mod X Y
  rw [← h2] at h3
  omega
theorem take_first {Z1 : List Nat} {n d owed t u Y X : Nat} (hl : Z1.length = n + 1) (hv : val Z1 + Y * d = X + 18446744073709551616 ^ n * owed) (he : t + owed = dg Z1 n + 18446744073709551616 * u) : val (Z1.take n) + 18446744073709551616 ^ n * t + Y * d = X + 18446744073709551616 ^ (n + 1) * u := by
  have h1 : val Z1 = val (Z1.take n) + 18446744073709551616 ^ n * dg Z1 n := by
    rw [← val_take_succ, List.take_of_length_le (by omega)]
  have h2 : 18446744073709551616 ^ n * t + 18446744073709551616 ^ n * owed = 18446744073709551616 ^ n * dg Z1 n + 18446744073709551616 ^ (n + 1) * u := by
    rw [Nat.pow_succ, Nat.mul_assoc, ← Nat.mul_add, he, Nat.mul_add]
  rw [h1] at hv
  generalize 18446744073709551616 ^ n * t = a1 at *
  generalize 18446744073709551616 ^ n * owed = a2 at *
  generalize 18446744073709551616 ^ n * dg Z1 n = a3 at *
  generalize 18446744073709551616 ^ (n + 1) * u = a4 at *
  omega
theorem take_high {Z y : List Nat} {n q : Nat} (hZ : Z.length = n + 1) (hy : y.length = n) (hn : 2 ≤ n) (hdz : Dig Z) (hq : q * val y ≤ val Z) :
    q * (dg y (n - 1) * 18446744073709551616 + dg y (n - 2)) ≤ (dg Z n * 18446744073709551616 + dg Z (n - 1)) * 18446744073709551616 + dg Z (n - 2) := by
  obtain ⟨k, rfl⟩ : ∃ k, n = k + 2 := ⟨n - 2, by omega⟩
  simp only [show k + 2 - 1 = k + 1 by omega, show k + 2 - 2 = k by omega]
  have eZ : val Z = val (Z.take k) + 18446744073709551616 ^ k * ((dg Z (k + 2) * 18446744073709551616 + dg Z (k + 1)) * 18446744073709551616 + dg Z k) := by
    have h0 : val Z = val (Z.take (k + 1 + 1 + 1)) := by rw [List.take_of_length_le (by omega)]
    have p1 : 18446744073709551616 ^ (k + 1) = 18446744073709551616 ^ k * 18446744073709551616 := by rw [Nat.pow_succ]
    have p2 : 18446744073709551616 ^ (k + 1 + 1) = 18446744073709551616 ^ k * 18446744073709551616 * 18446744073709551616 := by rw [Nat.pow_succ, Nat.pow_succ]
    rw [h0, val_take_succ, val_take_succ, val_take_succ, p1, p2, Nat.mul_assoc, Nat.mul_assoc, Nat.mul_assoc, Nat.add_assoc, Nat.add_assoc, ← Nat.mul_add, ← Nat.mul_add]
    congr 2
    rw [show dg Z (k + 1 + 1) = dg Z (k + 2) from rfl]
    omega
  have ey : val y = val (y.take k) + 18446744073709551616 ^ k * (dg y (k + 1) * 18446744073709551616 + dg y k) := by
    have h0 : val y = val (y.take (k + 1 + 1)) := by rw [List.take_of_length_le (by omega)]
    have p1 : 18446744073709551616 ^ (k + 1) = 18446744073709551616 ^ k * 18446744073709551616 := by rw [Nat.pow_succ]
    rw [h0, val_take_succ, val_take_succ, p1, Nat.mul_assoc, Nat.add_assoc, ← Nat.mul_add]
    congr 2
    omega
  have hb := val_lt' (hdz.take k) (show (Z.take k).length ≤ k by rw [List.length_take]; omega)
  rw [eZ, ey] at hq
  obtain ⟨N, hN⟩ : ∃ N, N = (dg Z (k + 2) * 18446744073709551616 + dg Z (k + 1)) * 18446744073709551616 + dg Z k := ⟨_, rfl⟩
  obtain ⟨V, hV⟩ : ∃ V, V = dg y (k + 1) * 18446744073709551616 + dg y k := ⟨_, rfl⟩
  rw [← hN, ← hV] at hq
  rw [← hN, ← hV]
  clear hN hV eZ ey
  generalize 18446744073709551616 ^ k = P at *
  rcases Nat.lt_or_ge N (q * V) with h | h
  · exfalso
    have h1 : P * (N + 1) ≤ P * (q * V) := Nat.mul_le_mul_left _ h
    have h2 : q * (val (y.take k) + P * V) = q * val (y.take k) + P * (q * V) := by rw [Nat.mul_add, Nat.mul_left_comm]
    rw [h2] at hq
    rw [Nat.mul_succ] at h1
    generalize q * val (y.take k) = a at *
    generalize P * (q * V) = b at *
    generalize P * N = c at *
    omega
  · exact h
end Go.Proofs.YtfpooimjjpamoaaGreatDoor.nat
