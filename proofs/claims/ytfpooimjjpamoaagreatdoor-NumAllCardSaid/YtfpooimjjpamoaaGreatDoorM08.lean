/-
  The steps of the walks, part 8: TakeW, Shift.
-/
import Derived.BigRegion
import Derived.Test.YtfpooimjjpamoaaGreatDoorM07
namespace Go.Proofs.YtfpooimjjpamoaaGreatDoor.nat
open Go.RowKit
theorem three_of {Z : List Nat} {n : Nat} (hZ : Z.length = n + 1) (hn : 2 ≤ n) : (Z.drop (n - 2)).take 3 = [dg Z (n - 2), dg Z (n - 1), dg Z n] := by
  rw [List.take_of_length_le (by rw [List.length_drop]; omega), drop_dg Z (n - 2) (by omega), drop_dg Z (n - 2 + 1) (by omega), drop_dg Z (n - 2 + 1 + 1) (by omega), List.drop_eq_nil_of_le (by omega), show n - 2 + 1 = n - 1 by omega, show n - 1 + 1 = n by omega]
theorem two_of {y : List Nat} {n : Nat} (hy : y.length = n) (hn : 2 ≤ n) : (y.drop (n - 2)).take 2 = [dg y (n - 2), dg y (n - 1)] := by
  rw [List.take_of_length_le (by rw [List.length_drop]; omega), drop_dg y (n - 2) (by omega), drop_dg y (n - 2 + 1) (by omega), List.drop_eq_nil_of_le (by omega), show n - 2 + 1 = n - 1 by omega]
set_option maxRecDepth 100000 in
set_option maxHeartbeats 4000000 in
theorem takeDigit_any (g off n cap : Nat) (sy : Value) (A Z C y : List Nat) (w : World) (hA : A.length = off) (hZ : Z.length = n + 1) (hr : Row w g (A ++ (Z ++ C))) (hdz : Dig Z) (hy : Rd w sy y) (hap : Apart g sy) (hny : Norm y) (hyl : y.length = n) (hn2 : 2 ≤ n) (hlt : val Z < val y * 18446744073709551616) (hn : n ≤ 2000000) (hcap : n + 1 ≤ cap) (hcm : cap ≤ maxLen) :
    Calls Tryz.prog 190 #[.slice (some ⟨g, off, none⟩) (n + 1) cap, sy] w fun e w' => ∃ Z' : List Nat, e = .returned (.int .u64 ((val Z / val y : Nat) : Int)) ∧ (Z'.length = n + 1 ∧ Dig Z' ∧ val Z' = val Z % val y ∧ Row w' g (A ++ (Z' ++ C))) ∧ w.grownBy w' (some g) := by
  obtain ⟨bo, ycap, rfl, ⟨k1, -⟩, k2, -⟩ := id hy
  rw [hyl] at k1 hy hap ⊢
  obtain ⟨gy, oy, rfl, -⟩ := lenpos hy (by omega)
  unfold maxLen at hcm k2
  -- the numbers
  obtain ⟨X, hX⟩ : ∃ X, X = val Z := ⟨_, rfl⟩
  obtain ⟨Y, hYe⟩ : ∃ Y, Y = val y := ⟨_, rfl⟩
  have htop := norm_top hny (by omega)
  rw [hyl] at htop
  have hY0 : 0 < Y := by
    rw [hYe]
    have := hny.low (by rintro rfl; simp at hyl; omega)
    have := pow_pos (y.length - 1)
    omega
  have hq : X / Y < 18446744073709551616 := by rw [hX, hYe, Nat.div_lt_iff_lt_mul (by rw [← hYe]; exact hY0), Nat.mul_comm]; exact hlt
  have hhigh := take_high hZ hyl hn2 hdz (q := X / Y) (by rw [hX, hYe]; exact Nat.div_mul_le_self _ _)
  -- the highest word of the part is not above the divisor's
  have hl2 : dg Z n ≤ dg y (n - 1) := by
    rcases Nat.lt_or_ge (dg y (n - 1)) (dg Z n) with h | h
    · exfalso
      have h1 : val Z = val (Z.take n) + 18446744073709551616 ^ n * dg Z n := by rw [← val_take_succ, List.take_of_length_le (by omega)]
      have h2 : val y = val (y.take (n - 1)) + 18446744073709551616 ^ (n - 1) * dg y (n - 1) := by
        rw [← val_take_succ, List.take_of_length_le (by omega)]
      have h3 := val_lt' (hny.1.take (n - 1)) (show (y.take (n - 1)).length ≤ n - 1 by rw [List.length_take]; omega)
      have h4 : val y < 18446744073709551616 ^ (n - 1) * (dg y (n - 1) + 1) := by rw [h2, Nat.mul_succ]; omega
      have h5 : 18446744073709551616 ^ (n - 1) * 18446744073709551616 = 18446744073709551616 ^ n := by rw [← Nat.pow_succ]; congr 1; omega
      have h6 : val y * 18446744073709551616 < 18446744073709551616 ^ n * (dg y (n - 1) + 1) := by
        rw [← h5, Nat.mul_right_comm]
        exact Nat.mul_lt_mul_of_pos_right h4 (by omega)
      have h7 : 18446744073709551616 ^ n * (dg y (n - 1) + 1) ≤ 18446744073709551616 ^ n * dg Z n := Nat.mul_le_mul_left _ h
      omega
    · exact h
  have rZ : Rd w (.slice (some ⟨g, off, none⟩) (n + 1) cap) Z := by
    have := hr.rd off (n + 1) cap (by simp; omega) (by omega) (by unfold maxLen; omega)
    rwa [List.drop_append_of_le_length (by omega), List.drop_of_length_le (by omega), List.nil_append, List.take_append_of_le_length (by omega), List.take_of_length_le (by omega)] at this
  have rZ3 := rZ.part (n - 2) 3 (cap - (n - 2)) (by omega) (by omega) (by omega)
  have ry2 := hy.part (n - 2) 2 (ycap - (n - 2)) (by omega) (by omega) (by omega)
  rw [three_of hZ hn2] at rZ3
  rw [two_of hyl hn2] at ry2
  have GU := Lib.hid (fun (w' : World) (hb : Below w.heap.size w w') => guess_any _ _ (dg Z (n - 2)) (dg Z (n - 1)) (dg Z n) (dg y (n - 2)) (dg y (n - 1)) w' (rZ3.below hb) (ry2.below hb) (dg_lt hdz _) (dg_lt hdz _) hl2 (dg_lt hny.1 _) (dg_lt hny.1 _) (by omega))
  have HHI := Lib.hid hhigh
  have HR := Lib.hid hr
  have HY := Lib.hid hy
  have HAP := Lib.hid hap
  have HNY := Lib.hid hny
  have HYL := Lib.hid hyl
  have HZ := Lib.hid hZ
  have HDZ := Lib.hid hdz
  have HA := Lib.hid hA
  have HYe := Lib.hid hYe
  have HX := Lib.hid hX
  have HQ := Lib.hid hq
  rw [← hX, ← hYe]
  clear hlt hhigh rZ rZ3 ry2 hl2 htop hq hX hYe hZ hdz hr hy hap hny hyl hA
  obtain ⟨k, hk⟩ : ∃ k, k = n - 2 := ⟨_, rfl⟩
  have hw : IntKind.i64.wrap ((n : Int) - 2) = (k : Int) := by rw [IntKind.wrap_i64]; omega
  rw [← hk] at GU
  have e1 : (k : Int) ≤ (n : Int) + 1 := by omega
  have e4 : ¬ (cap = k) := by omega
  have e5 : ¬ (ycap = k) := by omega
  have e6 : n + 1 - k = 3 := by omega
  have e7 : n - k = 2 := by omega
  have e8 : (k : Int) ≤ (n : Int) := by omega
  have HK := Lib.hid hk
  clear hk
  go_enter Tryz.func190, Tryz.ntmps190
  go_wp2
  go_region_held3 (fun _ => True) (trivial)
    (first
      | (go_at_call 214; refine (GU.out _ (Below.refl _ _).drew).mono ?_; rintro e' w2 ⟨d, rfl, ⟨hdb, hdq⟩, m, rfl⟩))
  have hqd := hdq (X / Y) HQ.out (by rw [HK.out]; exact HHI.out)
  have HB := Lib.hid (drew_below w (1 + m))
  revert HB
  generalize w.drewN (1 + m) = w2
  intro HB
  have SP := Lib.hid (subProduct_any g off (n + 1) cap d (.slice (some ⟨gy, oy, none⟩) n ycap) A Z C y w2 HA.out HZ.out (HR.out.below HB.out HR.out.lt) HDZ.out (HY.out.below HB.out) HAP.out HNY.out.1 (by rw [HYL.out]; omega) hdb (by omega))
  have HQD := Lib.hid hqd
  clear hdq hqd GU
  go_wp2_with (first
    | (go_at_call 215; refine (SP.out).mono ?_; rintro e' w3 ⟨Z1, owed, rfl, ⟨hl1, hd1, hob, hv1, hu1, hr1⟩, hg1⟩
       rw [HYL.out, ← HYe.out, ← HX.out] at hv1
       rw [HYL.out] at hu1
       obtain ⟨t, u, htb, hub, hte, hrun⟩ := sub64_ex (dg Z1 n) owed 0 (dg_lt hd1 n) hob (by omega)
       simp only [Int.natCast_zero] at hrun
       have c1 := hr1.zcell HA.out n (by rw [hl1]; omega)
       have hZ1 : Z1 = Z1.take n ++ [dg Z1 n] := by rw [← take_dg Z1 n (by omega), List.take_of_length_le (by omega)]
       have hr1' : Row w3 g (A ++ (Z1.take n ++ ([dg Z1 n] ++ C))) := by
         rw [← List.append_assoc (Z1.take n), ← hZ1]; exact hr1
       have HT := Lib.hid (show TRel w g n (X / Y) Y X (dg Z1 n) A C (.int .u64 (d : Int)) (.int .u64 (t : Int)) (.int .u64 (u : Int)) w3 from
         ⟨Z1.take n, d, t, u, rfl, rfl, rfl, by rw [List.length_take]; omega, hd1.take n, htb, hub, hdb, HQD.out, take_first hl1 (by rw [Nat.mul_comm Y, Nat.mul_comm Y] at *; omega) (by omega), hr1', grown_trans (grown_of_below HB.out _) hg1⟩)
       have f0 := hr1.free (off + n)
       generalize hold : dg Z1 n = old at *
       clear SP hl1 hd1 hob hv1 hu1 hr1 hg1 hte hZ1 hr1'))
  have i1 : ¬ (cap = n) := by omega
  have i2 : (n : Int) ≤ (n : Int) + 1 := by omega
  go_loopw [6, 8, 9] (fun dv tv uv wr => TRel w g n (X / Y) Y X old A C dv tv uv wr) (fun dv _ _ _ => (intOf dv).toNat)
  case atStart => exact HT.out
  case round =>
    obtain ⟨lo, d, t, u, rfl, rfl, rfl, hl, hd, ht, hu, hdb, hqd, he, hr, hg⟩ := hrel
    clear HT
    by_cases hu0 : u = 0
    · subst hu0
      obtain ⟨q1, q2⟩ := take_done hY0 he hqd
      have hr2 : Row wr g (A ++ ((lo ++ [old]) ++ C)) := by rw [List.append_assoc]; exact hr
      have c2 := hr2.zcell HA.out n (by rw [List.length_append, hl]; simp)
      have f2 := hr2.free (off + n)
      have HF := Lib.hid (hr2.zset HA.out n (by rw [List.length_append, hl]; simp) (u := (t : Int)) (d := t) rfl)
      have HG := Lib.hid (grown_trans hg (grown_set wr g (off + n) (.int .u64 (t : Int))))
      have hset : (lo ++ [old]).set n t = lo ++ [t] := by
        rw [List.set_append_right _ _ (by omega), hl, Nat.sub_self]; rfl
      rw [hset] at HF
      generalize dg (lo ++ [old]) n = dd at c2
      have HQ1 := Lib.hid q1
      have HQ2 := Lib.hid q2
      clear hr hg he hr2 hset q1 q2 hqd
      go_wp2
      go_ret
      refine ⟨lo ++ [t], ?_, ⟨by rw [List.length_append, hl]; rfl, hd.append (Dig.cons ht Dig.nil), ?_, HF.out⟩, HG.out⟩
      · rw [← HQ1.out]; rfl
      · rw [val_snoc, hl, HQ2.out]
    · have hu1 : u = 1 := by omega
      have hb : ((u : Int) == 0) = false := by simp; omega
      have HU := Lib.hid hu1
      rw [hu1] at he
      have how := take_owed hl hd ht he
      have hd0 : 0 < d := by
        rcases Nat.eq_zero_or_pos d with rfl | h
        · rw [Nat.mul_zero] at how; omega
        · exact h
      have hqd1 : X / Y ≤ d - 1 := by
        have : X / Y < d := by rw [Nat.div_lt_iff_lt_mul hY0, Nat.mul_comm]; exact how
        omega
      have AI := Lib.hid (addInto_any g off n cap (.slice (some ⟨gy, oy, none⟩) n ycap) A lo ([old] ++ C) y wr HA.out hl hr hd (HY.out.kept hg HAP.out) HAP.out HNY.out.1 (by rw [HYL.out]; omega) (by omega) (by omega) (by unfold maxLen; omega))
      have HE := Lib.hid he
      have HG := Lib.hid hg
      have HQD1 := Lib.hid hqd1
      have hd0' : (1 : Int) ≤ (d : Int) := by omega
      clear how he hr hg hqd hqd1 hu1 hd hl
      go_wp2_with (go_at_call 156; refine (AI.out).mono ?_; rintro e' w4 ⟨lo', c, rfl, ⟨hl', hd', hc, hv', hr'⟩, hg'⟩
                   obtain ⟨t', o, htb', hob', hte', hrun'⟩ := add64_ex t c 0 ht (by omega) (by omega)
                   simp only [Int.natCast_zero] at hrun'
                   have hou : (o : Int) ≤ (u : Int) := by omega
                   have HN := Lib.hid (show TRel w g n (X / Y) Y X old A C (.int .u64 ((d - 1 : Nat) : Int)) (.int .u64 (t' : Int)) (.int .u64 ((1 - o : Nat) : Int)) w4 from
                     ⟨lo', d - 1, t', 1 - o, rfl, rfl, rfl, hl', hd', htb', by omega, by omega, HQD1.out, take_next HE.out hd0 (by rw [hv', HYe.out]) (by omega) hob', hr', grown_trans HG.out hg'⟩)
                   have HO1 := Lib.hid hob'
                   clear AI hl' hd' hv' hr' hg' hte' hc hob')
      go_roundw
      case rel =>
        have := HN.out
        rw [show ((d - 1 : Nat) : Int) = (d : Int) - 1 by omega, show ((1 - o : Nat) : Int) = (u : Int) - (o : Int) by have := HU.out; have := HO1.out; omega] at this
        exact this
      case measure => simp [intOf]; omega
end Go.Proofs.YtfpooimjjpamoaaGreatDoor.nat
namespace Go.Proofs.YtfpooimjjpamoaaGreatDoor.nat
open Go.RowKit
theorem or_add {a b T m : Nat} (hb : b < 2 ^ T) (hm : m = a * 2 ^ T) : b ||| m = b + m := by
  rw [hm, ← Nat.shiftLeft_eq, Nat.or_comm, ← Nat.shiftLeft_add_eq_or_of_lt hb, Nat.add_comm]
theorem shl_mod {x T : Nat} (hT : T ≤ 64) : x * 2 ^ T % 18446744073709551616 = x % 2 ^ (64 - T) * 2 ^ T := by
  have e : (18446744073709551616 : Nat) = 2 ^ (64 - T) * 2 ^ T := by rw [← Nat.pow_add, show 64 - T + T = 64 by omega]
  rw [e, Nat.mul_mod_mul_right]
theorem shl_parts (x T : Nat) (hT : T ≤ 64) : x % 2 ^ (64 - T) * 2 ^ T + 18446744073709551616 * (x / 2 ^ (64 - T)) = x * 2 ^ T := by
  have e : (18446744073709551616 : Nat) = 2 ^ (64 - T) * 2 ^ T := by rw [← Nat.pow_add, show 64 - T + T = 64 by omega]
  rw [e, Nat.mul_right_comm, ← Nat.add_mul, Nat.mod_add_div]
def URel (w : World) (x : List Nat) (g L S T i : Nat) (wr : World) : Prop :=
  ∃ Z, Z.length = L ∧ Dig Z ∧ Row wr g Z ∧ Below w.heap.size w wr ∧ val Z = val (x.take i) * 2 ^ T * 18446744073709551616 ^ S ∧ dg Z (i + S) < 2 ^ T ∧ ∀ j, i + S < j → dg Z j = 0
theorem URel.next {w wr : World} {x Z : List Nat} {g L S T i m h n : Nat} (hl : Z.length = L) (hd : Dig Z) (hr : Row wr g Z) (hb : Below w.heap.size w wr) (hg : w.heap.size ≤ g) (hv : val Z = val (x.take i) * 2 ^ T * 18446744073709551616 ^ S) (hz : ∀ j, i + S < j → dg Z j = 0)
    (hi : i + S + 1 < L) (hT : T ≤ 63) (hm : m = dg x i % 2 ^ (64 - T) * 2 ^ T) (hh : h = dg x i / 2 ^ (64 - T)) (hx : dg x i < 18446744073709551616) (hs : dg Z (i + S) + m < 18446744073709551616) :
    URel w x g L S T (i + 1) (((wr.drewN n).setCell ⟨g, i + S, none⟩ (.int .u64 ((dg Z (i + S) + m : Nat) : Int))).setCell ⟨g, i + S + 1, none⟩ (.int .u64 (h : Nat))) := by
  have hhT : h < 2 ^ T := by
    rw [hh, Nat.div_lt_iff_lt_mul (Nat.pow_pos (by omega)), ← Nat.pow_add, show T + (64 - T) = 64 by omega]
    exact hx
  have hhb : h < 18446744073709551616 := Nat.lt_of_le_of_lt (by rw [hh]; exact Nat.div_le_self _ _) hx
  refine ⟨(Z.set (i + S) (dg Z (i + S) + m)).set (i + S + 1) h, by simpa using hl, (hd.set hs).set hhb, ((hr.drew n).set _ (by omega) rfl).set _ (by rw [List.length_set]; omega) rfl, ((drewN_below hb n).setCell hg _).setCell hg _, ?_, ?_, ?_⟩
  · have h1 := val_set (l := Z) (j := i + S) (d := dg Z (i + S) + m) (by omega)
    have h2 := val_set (l := Z.set (i + S) (dg Z (i + S) + m)) (j := i + S + 1) (d := h) (by rw [List.length_set]; omega)
    have hz1 := hz (i + S + 1) (by omega)
    rw [dg_set_other (by omega), hz1, Nat.mul_zero, Nat.add_zero] at h2
    rw [Nat.mul_add] at h1
    have h3 : 18446744073709551616 ^ (i + S) * m + 18446744073709551616 ^ (i + S + 1) * h = 18446744073709551616 ^ (i + S) * (dg x i * 2 ^ T) := by
      rw [Nat.pow_succ, Nat.mul_assoc, ← Nat.mul_add, hm, hh, shl_parts _ _ (by omega)]
    have h4 : val (x.take (i + 1)) * 2 ^ T * 18446744073709551616 ^ S = val Z + 18446744073709551616 ^ (i + S) * (dg x i * 2 ^ T) := by
      rw [hv, val_take_succ, Nat.add_mul, Nat.add_mul, Nat.pow_add]
      congr 1
      rw [Nat.mul_assoc, Nat.mul_assoc, Nat.mul_assoc, Nat.mul_comm (18446744073709551616 ^ S)]
      congr 1
      rw [Nat.mul_assoc]
    rw [h4, ← h3]
    omega
  · rw [show i + 1 + S = i + S + 1 by omega, dg_set_same (by rw [List.length_set]; omega)]
    exact hhT
  · intro j hj
    rw [dg_set_other (by omega), dg_set_other (by omega)]
    exact hz j (by omega)
set_option maxRecDepth 100000 in
set_option maxHeartbeats 2000000 in
theorem shiftUp_any (sx : Value) (x : List Nat) (c : Nat) (w : World) (hx : Rd w sx x) (hdx : Dig x) (hn : x.length ≤ 1000000) (hc : c ≤ 64000000) :
    Calls Tryz.prog 177 #[sx, .int .i64 (c : Int)] w fun e w' => ∃ sv, e = .returned sv ∧ Own w' w.heap.size sv (digs (val x * 2 ^ c)) ∧ Below w.heap.size w w' := by
  obtain ⟨ao, xcap, rfl, ⟨h1, -⟩, h2, -⟩ := id hx
  obtain ⟨N, hN⟩ : ∃ N, x.length = N := ⟨_, rfl⟩
  have HN := Lib.hid hN
  rw [hN] at h1 hn hx ⊢
  by_cases hN0 : N = 0
  · subst hN0
    obtain rfl := List.eq_nil_of_length_eq_zero hN
    clear hx hdx
    go_enter Tryz.func177, Tryz.ntmps177
    go_wp2
    go_ret
    refine ⟨_, rfl, ?_, Below.refl _ _⟩
    rw [show val ([] : List Nat) = 0 from rfl, Nat.zero_mul, digs_zero]
    exact Own.nil _ _
  · obtain ⟨S, hS⟩ : ∃ S, S = c / 64 := ⟨_, rfl⟩
    obtain ⟨T, hT⟩ : ∃ T, T = c % 64 := ⟨_, rfl⟩
    have s1 : (c : Int) / 64 = (S : Int) := by omega
    have s2 : (c : Int) % 64 = (T : Int) := by omega
    have hTb : T ≤ 63 := by omega
    have hSb : S ≤ 1000000 := by omega
    have hce : 2 ^ c = 2 ^ T * 18446744073709551616 ^ S := by
      rw [show c = T + 64 * S by omega, Nat.pow_add, Nat.pow_mul]
    obtain ⟨W1, hmk, hrow, hb⟩ := make_int w ((N : Int) + S + 1) (N + S + 1) (by omega) (by omega)
    have HS := Lib.hid (show URel w x w.heap.size (N + S + 1) S T 0 W1 from ⟨_, by simp, dig_zeros _, hrow, hb, by rw [val_zeros]; simp [val], by rw [dg_zeros]; exact Nat.pow_pos (by omega), fun j _ => dg_zeros _ _⟩)
    have hN0' : ((N : Int) == 0) = false := by simp; omega
    have HX := Lib.hid hx
    have HDX := Lib.hid hdx
    have HCE := Lib.hid hce
    clear hx hdx hrow hb hS hT hce hN
    go_enter Tryz.func177, Tryz.ntmps177
    go_wp2
    go_loopw [25] (fun iv wr => ∃ i : Nat, i ≤ N ∧ iv = .int .i64 i ∧ URel w x w.heap.size (N + S + 1) S T i wr) (fun iv _ => N - (intOf iv).toNat)
    case atStart => exact ⟨0, Nat.zero_le _, rfl, HS.out⟩
    case round =>
      obtain ⟨i, hi, rfl, hrel⟩ := hrel
      obtain ⟨Z, hl, hd, hrow, hb, hv, ht, hz⟩ := hrel
      clear HS hmk
      by_cases hlt : i < N
      · obtain ⟨gx, ox, rfl, -⟩ := lenpos HX.out (by omega)
        have c1 := (HX.out.below hb).cellAt i hlt
        have c2 := hrow.cell (i + S) (by omega)
        have c3 := hrow.cell (i + S + 1) (by omega)
        have f1 := hrow.free (i + S)
        have f2 := hrow.free (i + S + 1)
        have hxb := dg_lt HDX.out i
        obtain ⟨m, hm⟩ : ∃ m, m = dg x i % 2 ^ (64 - T) * 2 ^ T := ⟨_, rfl⟩
        obtain ⟨h, hh⟩ : ∃ h, h = dg x i / 2 ^ (64 - T) := ⟨_, rfl⟩
        have hmb : m < 18446744073709551616 := by rw [hm, ← shl_mod (by omega)]; exact Nat.mod_lt _ (by omega)
        have hor := or_add ht hm
        have hsum : dg Z (i + S) + m < 18446744073709551616 := by
          rw [← hor]
          exact Nat.or_lt_two_pow (n := 64) (dg_lt hd _) hmb
        have HNX := Lib.hid (fun n => URel.next (n := n) hl hd hrow hb (Nat.le_refl _) hv hz (by omega) hTb hm hh hxb hsum)
        have g1 : IntKind.u64.wrap ((dg x i : Nat) * 2 ^ T) = (m : Int) := by rw [wrapShl, shl_mod (by omega), ← hm]
        have g2 : ((dg x i : Nat) : Int) / 2 ^ (64 - T) = (h : Int) := by rw [divShr, ← hh]
        have g3 : bits .or .u64 ((dg Z (i + S) : Nat) : Int) (m : Int) = ((dg Z (i + S) + m : Nat) : Int) := by rw [bits_or_u64_nat _ _ (dg_lt hd _) hmb, hor]
        have g4 : IntKind.i64.wrap ((i : Int) + (S : Int)) = ((i + S : Nat) : Int) := by rw [IntKind.wrap_i64]; omega
        generalize dg x i = d at *
        generalize dg Z (i + S) = z0 at *
        generalize dg Z (i + S + 1) = z1 at *
        obtain ⟨sm, hsm⟩ : ∃ sm, sm = z0 + m := ⟨_, rfl⟩
        rw [← hsm] at g3 HNX
        obtain ⟨p, hp⟩ : ∃ p, p = i + S := ⟨_, rfl⟩
        rw [← hp] at g4 c2 c3 f1 f2 HNX
        have hpb : (p : Int) < (N : Int) + S + 1 := by omega
        have hpb2 : (p : Int) + 1 < (N : Int) + S + 1 := by omega
        have g5 : (i : Int) + (S : Int) = (p : Int) := by omega
        clear hl hd hrow hb hv ht hz hm hh hor hsum hsm hp
        go_wp2
        go_region
        go_wp2
        go_roundw
        case rel => exact ⟨i + 1, by omega, by go_num, by have := HNX.out 1; exact this⟩
        case measure => simp [intOf]; omega
      · have : i = N := by omega
        subst this
        have hv2 : val Z = val x * 2 ^ c := by rw [hv, List.take_of_length_le (by rw [HN.out]; omega), HCE.out, Nat.mul_assoc]
        have hO : Own wr w.heap.size (.slice (some ⟨w.heap.size, 0, none⟩) (i + S + 1) (i + S + 1)) Z := by
          have := Own.of_row (cap := i + S + 1) hrow (Nat.le_refl _) (by omega) (by unfold maxLen; omega)
          rwa [hl] at this
        have HT := Lib.hid (trim_own _ Z wr hO (by omega) hd)
        rw [hv2] at HT
        have HB := Lib.hid hb
        clear hl hd hrow hb hv hv2 hO ht hz
        go_wp2_with (go_at_call 145; refine (HT.out).mono ?_; rintro e w3 ⟨sv, rfl, hO3, rfl⟩; have HO3 := Lib.hid hO3; clear hO3)
        go_ret
        exact ⟨sv, rfl, HO3.out, HB.out⟩
end Go.Proofs.YtfpooimjjpamoaaGreatDoor.nat
