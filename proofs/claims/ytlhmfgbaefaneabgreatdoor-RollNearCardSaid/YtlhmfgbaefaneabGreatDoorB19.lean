/-
  The steps of the walks, part 19: Shift, ShiftD, Long.
-/
import Derived.BigRegion
import Derived.Test.YtlhmfgbaefaneabGreatDoorB18
namespace Go.Proofs.YtlhmfgbaefaneabGreatDoor.nat
open Go.RowKit
theorem or_add {a b T m : Nat} (hb : b < 2 ^ T) (hm : m = a * 2 ^ T) : b ||| m = b + m := by
  rw [hm, ← Nat.shiftLeft_eq, Nat.or_comm, ← Nat.shiftLeft_add_eq_or_of_lt hb, Nat.add_comm]
theorem shl_mod {x T : Nat} (hT : T ≤ 64) : x * 2 ^ T % 18446744073709551616 = x % 2 ^ (64 - T) * 2 ^ T := by
  have e : (18446744073709551616 : Nat) = 2 ^ (64 - T) * 2 ^ T := by rw [← Nat.pow_add, show 64 - T + T = 64 by omega]
  rw [e, Nat.mul_mod_mul_right]
theorem shl_parts (x T : Nat) (hT : T ≤ 64) : x % 2 ^ (64 - T) * 2 ^ T + 18446744073709551616 * (x / 2 ^ (64 - T)) = x * 2 ^ T := by
  have e : (18446744073709551616 : Nat) = 2 ^ (64 - T) * 2 ^ T := by rw [← Nat.pow_add, show 64 - T + T = 64 by omega]
  rw [e, Nat.mul_right_comm, ← Nat.add_mul, Nat.mod_add_div]
def URel (w : World) (x : List Nat) (g L S T i : Nat) (wr : World) : Prop :=
  ∃ Z, Z.length = L ∧ Dig Z ∧ Row wr g Z ∧ Below w.heap.size w wr ∧ val Z = val (x.take i) * 2 ^ T * 18446744073709551616 ^ S ∧ dg Z (i + S) < 2 ^ T ∧ ∀ j, i + S < j → dg Z j = 0
theorem URel.next {w wr : World} {x Z : List Nat} {g L S T i m h n : Nat} (hl : Z.length = L) (hd : Dig Z) (hr : Row wr g Z) (hb : Below w.heap.size w wr) (hg : w.heap.size ≤ g) (hv : val Z = val (x.take i) * 2 ^ T * 18446744073709551616 ^ S) (hz : ∀ j, i + S < j → dg Z j = 0)
    (hi : i + S + 1 < L) (hT : T ≤ 63) (hm : m = dg x i % 2 ^ (64 - T) * 2 ^ T) (hh : h = dg x i / 2 ^ (64 - T)) (hx : dg x i < 18446744073709551616) (hs : dg Z (i + S) + m < 18446744073709551616) :
    URel w x g L S T (i + 1) (((wr.drewN n).setCell ⟨g, i + S, none⟩ (.int .u64 ((dg Z (i + S) + m : Nat) : Int))).setCell ⟨g, i + S + 1, none⟩ (.int .u64 (h : Nat))) := by
  have hhT : h < 2 ^ T := by
    rw [hh, Nat.div_lt_iff_lt_mul (Nat.pow_pos (by omega)), ← Nat.pow_add, show T + (64 - T) = 64 by omega]
    exact hx
  have hhb : h < 18446744073709551616 := Nat.lt_of_le_of_lt (by rw [hh]; exact Nat.div_le_self _ _) hx
  refine ⟨(Z.set (i + S) (dg Z (i + S) + m)).set (i + S + 1) h, by simpa using hl, (hd.set hs).set hhb, ((hr.drew n).set _ (by omega) rfl).set _ (by rw [List.length_set]; omega) rfl, ((drewN_below hb n).setCell hg _).setCell hg _, ?_, ?_, ?_⟩
  · have h1 := val_set (l := Z) (j := i + S) (d := dg Z (i + S) + m) (by omega)
    have h2 := val_set (l := Z.set (i + S) (dg Z (i + S) + m)) (j := i + S + 1) (d := h) (by rw [List.length_set]; omega)
    have hz1 := hz (i + S + 1) (by omega)
    rw [dg_set_other (by omega), hz1, Nat.mul_zero, Nat.add_zero] at h2
    rw [Nat.mul_add] at h1
    have h3 : 18446744073709551616 ^ (i + S) * m + 18446744073709551616 ^ (i + S + 1) * h = 18446744073709551616 ^ (i + S) * (dg x i * 2 ^ T) := by
      rw [Nat.pow_succ, Nat.mul_assoc, ← Nat.mul_add, hm, hh, shl_parts _ _ (by omega)]
    have h4 : val (x.take (i + 1)) * 2 ^ T * 18446744073709551616 ^ S = val Z + 18446744073709551616 ^ (i + S) * (dg x i * 2 ^ T) := by
      rw [hv, val_take_succ, Nat.add_mul, Nat.add_mul, Nat.pow_add]
      congr 1
      rw [Nat.mul_assoc, Nat.mul_assoc, Nat.mul_assoc, Nat.mul_comm (18446744073709551616 ^ S)]
      congr 1
      rw [Nat.mul_assoc]
    rw [h4, ← h3]
    omega
  · rw [show i + 1 + S = i + S + 1 by omega, dg_set_same (by rw [List.length_set]; omega)]
    exact hhT
  · intro j hj
    rw [dg_set_other (by omega), dg_set_other (by omega)]
    exact hz j (by omega)
set_option maxRecDepth 100000 in
set_option maxHeartbeats 2000000 in
theorem shiftUp_any (sx : Value) (x : List Nat) (c : Nat) (w : World) (hx : Rd w sx x) (hdx : Dig x) (hn : x.length ≤ 1000000) (hc : c ≤ 64000000) :
    Calls Tryz.prog 209 #[sx, .int .i64 (c : Int)] w fun e w' => ∃ sv, e = .returned sv ∧ Own w' w.heap.size sv (digs (val x * 2 ^ c)) ∧ Below w.heap.size w w' := by
  obtain ⟨ao, xcap, rfl, ⟨h1, -⟩, h2, -⟩ := id hx
  obtain ⟨N, hN⟩ : ∃ N, x.length = N := ⟨_, rfl⟩
  have HN := Lib.hid hN
  rw [hN] at h1 hn hx ⊢
  by_cases hN0 : N = 0
  · subst hN0
    obtain rfl := List.eq_nil_of_length_eq_zero hN
    clear hx hdx
    go_enter Tryz.func209, Tryz.ntmps209
    go_wp2
    go_ret
    refine ⟨_, rfl, ?_, Below.refl _ _⟩
    rw [show val ([] : List Nat) = 0 from rfl, Nat.zero_mul, digs_zero]
    exact Own.nil _ _
  · obtain ⟨S, hS⟩ : ∃ S, S = c / 64 := ⟨_, rfl⟩
    obtain ⟨T, hT⟩ : ∃ T, T = c % 64 := ⟨_, rfl⟩
    have s1 : (c : Int) / 64 = (S : Int) := by omega
    have s2 : (c : Int) % 64 = (T : Int) := by omega
    have hTb : T ≤ 63 := by omega
    have hSb : S ≤ 1000000 := by omega
    have hce : 2 ^ c = 2 ^ T * 18446744073709551616 ^ S := by
      rw [show c = T + 64 * S by omega, Nat.pow_add, Nat.pow_mul]
    obtain ⟨W1, hmk, hrow, hb⟩ := make_int w ((N : Int) + S + 1) (N + S + 1) (by omega) (by omega)
    have HS := Lib.hid (show URel w x w.heap.size (N + S + 1) S T 0 W1 from ⟨_, by simp, dig_zeros _, hrow, hb, by rw [val_zeros]; simp [val], by rw [dg_zeros]; exact Nat.pow_pos (by omega), fun j _ => dg_zeros _ _⟩)
    have hN0' : ((N : Int) == 0) = false := by simp; omega
    have HX := Lib.hid hx
    have HDX := Lib.hid hdx
    have HCE := Lib.hid hce
    clear hx hdx hrow hb hS hT hce hN
    go_enter Tryz.func209, Tryz.ntmps209
    go_wp2
    go_loopw [25] (fun iv wr => ∃ i : Nat, i ≤ N ∧ iv = .int .i64 i ∧ URel w x w.heap.size (N + S + 1) S T i wr) (fun iv _ => N - (intOf iv).toNat)
    case atStart => exact ⟨0, Nat.zero_le _, rfl, HS.out⟩
    case round =>
      obtain ⟨i, hi, rfl, hrel⟩ := hrel
      obtain ⟨Z, hl, hd, hrow, hb, hv, ht, hz⟩ := hrel
      clear HS hmk
      by_cases hlt : i < N
      · obtain ⟨gx, ox, rfl, -⟩ := lenpos HX.out (by omega)
        have c1 := (HX.out.below hb).cellAt i hlt
        have c2 := hrow.cell (i + S) (by omega)
        have c3 := hrow.cell (i + S + 1) (by omega)
        have f1 := hrow.free (i + S)
        have f2 := hrow.free (i + S + 1)
        have hxb := dg_lt HDX.out i
        obtain ⟨m, hm⟩ : ∃ m, m = dg x i % 2 ^ (64 - T) * 2 ^ T := ⟨_, rfl⟩
        obtain ⟨h, hh⟩ : ∃ h, h = dg x i / 2 ^ (64 - T) := ⟨_, rfl⟩
        have hmb : m < 18446744073709551616 := by rw [hm, ← shl_mod (by omega)]; exact Nat.mod_lt _ (by omega)
        have hor := or_add ht hm
        have hsum : dg Z (i + S) + m < 18446744073709551616 := by
          rw [← hor]
          exact Nat.or_lt_two_pow (n := 64) (dg_lt hd _) hmb
        have HNX := Lib.hid (fun n => URel.next (n := n) hl hd hrow hb (Nat.le_refl _) hv hz (by omega) hTb hm hh hxb hsum)
        have g1 : IntKind.u64.wrap ((dg x i : Nat) * 2 ^ T) = (m : Int) := by rw [wrapShl, shl_mod (by omega), ← hm]
        have g2 : ((dg x i : Nat) : Int) / 2 ^ (64 - T) = (h : Int) := by rw [divShr, ← hh]
        have g3 : bits .or .u64 ((dg Z (i + S) : Nat) : Int) (m : Int) = ((dg Z (i + S) + m : Nat) : Int) := by rw [bits_or_u64_nat _ _ (dg_lt hd _) hmb, hor]
        have g4 : IntKind.i64.wrap ((i : Int) + (S : Int)) = ((i + S : Nat) : Int) := by rw [IntKind.wrap_i64]; omega
        generalize dg x i = d at *
        generalize dg Z (i + S) = z0 at *
        generalize dg Z (i + S + 1) = z1 at *
        obtain ⟨sm, hsm⟩ : ∃ sm, sm = z0 + m := ⟨_, rfl⟩
        rw [← hsm] at g3 HNX
        obtain ⟨p, hp⟩ : ∃ p, p = i + S := ⟨_, rfl⟩
        rw [← hp] at g4 c2 c3 f1 f2 HNX
        have hpb : (p : Int) < (N : Int) + S + 1 := by omega
        have hpb2 : (p : Int) + 1 < (N : Int) + S + 1 := by omega
        have g5 : (i : Int) + (S : Int) = (p : Int) := by omega
        clear hl hd hrow hb hv ht hz hm hh hor hsum hsm hp
        go_wp2
        go_region
        go_wp2
        go_roundw
        case rel => exact ⟨i + 1, by omega, by go_num, by have := HNX.out 1; exact this⟩
        case measure => simp [intOf]; omega
      · have : i = N := by omega
        subst this
        have hv2 : val Z = val x * 2 ^ c := by rw [hv, List.take_of_length_le (by rw [HN.out]; omega), HCE.out, Nat.mul_assoc]
        have hO : Own wr w.heap.size (.slice (some ⟨w.heap.size, 0, none⟩) (i + S + 1) (i + S + 1)) Z := by
          have := Own.of_row (cap := i + S + 1) hrow (Nat.le_refl _) (by omega) (by unfold maxLen; omega)
          rwa [hl] at this
        have HT := Lib.hid (trim_own _ Z wr hO (by omega) hd)
        rw [hv2] at HT
        have HB := Lib.hid hb
        clear hl hd hrow hb hv hv2 hO ht hz
        go_wp2_with (go_at_call 144; refine (HT.out).mono ?_; rintro e w3 ⟨sv, rfl, hO3, rfl⟩; have HO3 := Lib.hid hO3; clear hO3)
        go_ret
        exact ⟨sv, rfl, HO3.out, HB.out⟩
end Go.Proofs.YtlhmfgbaefaneabGreatDoor.nat
namespace Go.Proofs.YtlhmfgbaefaneabGreatDoor.nat
open Go.RowKit
def SDRel (w : World) (B : Nat) (D : List Nat) (g T i : Nat) (wr : World) : Prop :=
  ∃ Z, Z.length = D.length ∧ Dig Z ∧ Row wr g Z ∧ Below B w wr ∧ Z.drop i = D.drop i ∧ val (Z.take i) * 2 ^ T + dg D 0 % 2 ^ T = val (D.take i) + 18446744073709551616 ^ i * (dg D i % 2 ^ T)
theorem sd_word {d e T : Nat} (hT : T ≤ 63) : (d / 2 ^ T + e * 2 ^ (64 - T) % 18446744073709551616) * 2 ^ T + d % 2 ^ T = d + 18446744073709551616 * (e % 2 ^ T) := by
  have h1 := shl_mod (x := e) (T := 64 - T) (by omega)
  rw [show 64 - (64 - T) = T by omega] at h1
  have e0 : (18446744073709551616 : Nat) = 2 ^ (64 - T) * 2 ^ T := by rw [← Nat.pow_add, show 64 - T + T = 64 by omega]
  have h2 := Nat.div_add_mod d (2 ^ T)
  rw [Nat.mul_comm] at h2
  rw [h1, Nat.add_mul, Nat.mul_assoc, ← e0, Nat.mul_comm (e % 2 ^ T)]
  omega
theorem SDRel.next {w wr2 : World} {B g T i p : Nat} {D Z : List Nat} (hl : Z.length = D.length) (hd : Dig Z) (hdr : Z.drop i = D.drop i) (hv : val (Z.take i) * 2 ^ T + dg D 0 % 2 ^ T = val (D.take i) + 18446744073709551616 ^ i * (dg D i % 2 ^ T))
    (hT : T ≤ 63) (hi : i < D.length) (hp : p = dg D i / 2 ^ T + dg D (i + 1) * 2 ^ (64 - T) % 18446744073709551616) (hpb : p < 18446744073709551616) (hr2 : Row wr2 g (Z.set i p)) (hb2 : Below B w wr2) : SDRel w B D g T (i + 1) wr2 := by
  refine ⟨Z.set i p, by simpa using hl, hd.set hpb, hr2, hb2, ?_, ?_⟩
  · rw [List.drop_set_of_lt (by omega)]
    have := congrArg (List.drop 1) hdr
    simpa [List.drop_drop, Nat.add_comm] using this
  · have e1 : (Z.set i p).take (i + 1) = Z.take i ++ [p] := by
      rw [take_dg _ i (by rw [List.length_set]; omega), dg_set_same (by omega), List.take_set, List.set_eq_of_length_le (by rw [List.length_take]; omega)]
    have hlt : (Z.take i).length = i := by rw [List.length_take]; omega
    rw [e1, val_snoc, hlt, val_take_succ, Nat.pow_succ]
    have h1 := sd_word (d := dg D i) (e := dg D (i + 1)) hT
    rw [← hp] at h1
    have h2 : 18446744073709551616 ^ i * p * 2 ^ T + 18446744073709551616 ^ i * (dg D i % 2 ^ T) = 18446744073709551616 ^ i * dg D i + 18446744073709551616 ^ i * 18446744073709551616 * (dg D (i + 1) % 2 ^ T) := by
      rw [Nat.mul_assoc, ← Nat.mul_add, h1, Nat.mul_add, Nat.mul_assoc]
    rw [Nat.add_mul]
    generalize 18446744073709551616 ^ i * p * 2 ^ T = a1 at *
    generalize 18446744073709551616 ^ i * (dg D i % 2 ^ T) = a2 at *
    generalize 18446744073709551616 ^ i * dg D i = a3 at *
    generalize 18446744073709551616 ^ i * 18446744073709551616 * (dg D (i + 1) % 2 ^ T) = a4 at *
    generalize val (Z.take i) * 2 ^ T = a5 at *
    generalize dg D 0 % 2 ^ T = a6 at *
    omega
set_option maxRecDepth 100000 in
set_option maxHeartbeats 2000000 in
theorem shiftDown_any (sx : Value) (x : List Nat) (c : Nat) (w : World) (hx : Rd w sx x) (hdx : Dig x) (hn : x.length ≤ 1000000) (hc : c ≤ 64000000) :
    Calls Tryz.prog 207 #[sx, .int .i64 (c : Int)] w fun e w' => ∃ sv, e = .returned sv ∧ Own w' w.heap.size sv (digs (val x / 2 ^ c)) ∧ Below w.heap.size w w' := by
  obtain ⟨ao, xcap, rfl, ⟨h1, -⟩, h2, -⟩ := id hx
  obtain ⟨N, hN⟩ : ∃ N, x.length = N := ⟨_, rfl⟩
  have HN := Lib.hid hN
  obtain ⟨S, hS⟩ : ∃ S, S = c / 64 := ⟨_, rfl⟩
  obtain ⟨T, hT⟩ : ∃ T, T = c % 64 := ⟨_, rfl⟩
  have s1 : (c : Int) / 64 = (S : Int) := by omega
  have s2 : (c : Int) % 64 = (T : Int) := by omega
  have hTb : T ≤ 63 := by omega
  have hSb : S ≤ 1000000 := by omega
  have hce : 2 ^ c = 18446744073709551616 ^ S * 2 ^ T := by
    rw [show c = 64 * S + T by omega, Nat.pow_add, Nat.pow_mul]
  rw [hN] at h1 hn hx ⊢
  by_cases hSN : (N : Int) ≤ (S : Int)
  · have hz : val x / 2 ^ c = 0 := by
      rw [Nat.div_eq_of_lt]
      refine Nat.lt_of_lt_of_le (val_lt' hdx (show x.length ≤ S by omega)) ?_
      rw [hce]
      exact Nat.le_mul_of_pos_right _ (Nat.pow_pos (by omega))
    rw [hz]
    have HF := Lib.hid (show Own w w.heap.size (.slice none 0 0) (digs 0) by rw [digs_zero]; exact Own.nil _ _)
    clear hx hdx hce hS hT hz
    go_enter Tryz.func207, Tryz.ntmps207
    go_wp2
    go_ret
    exact ⟨_, rfl, HF.out, Below.refl _ _⟩
  · obtain ⟨gx, ox, rfl, -⟩ := lenpos hx (by omega)
    have hD := hx.part S (N - S) (xcap - S) (by omega) (by omega) (by omega)
    rw [List.take_of_length_le (by rw [List.length_drop]; omega)] at hD
    have lD : (x.drop S).length = N - S := by rw [List.length_drop]; omega
    have hval : val x / 2 ^ c = val (x.drop S) / 2 ^ T := by
      have h3 := val_parts x S (by omega)
      have h4 := val_lt' (hdx.take S) (show (x.take S).length ≤ S by rw [List.length_take]; omega)
      rw [hce, ← Nat.div_div_eq_div_mul, h3, Nat.add_mul_div_left _ _ (pow_pos S), Nat.div_eq_of_lt h4, Nat.zero_add]
    have CL := Lib.hid (Clone_any _ (x.drop S) w hD (by omega))
    have HV := Lib.hid hval
    have HLD := Lib.hid lD
    have HX := Lib.hid hx
    have HDD := Lib.hid (hdx.drop S)
    have hdg := Lib.hid (show ∀ j, dg (x.drop S) j = dg x (S + j) from fun j => dg_drop x S j)
    obtain ⟨D, hDe⟩ : ∃ D, D = x.drop S := ⟨_, rfl⟩
    rw [← hDe] at CL HV HLD HDD hdg
    rw [HV.out]
    have t1 : (S : Int) ≤ (N : Int) := by omega
    have t2 : ¬ (xcap = S) := by omega
    have t3 : ¬ ((N : Int) ≤ (S : Int)) := by omega
    obtain ⟨M, hM⟩ : ∃ M, M = N - S := ⟨_, rfl⟩
    rw [← hM] at CL HLD
    obtain ⟨R, hR⟩ : ∃ R, R = 64 - T := ⟨_, rfl⟩
    have r1 : (64 : Int) - (T : Int) = (R : Int) := by omega
    have r2 : IntKind.i64.wrap (64 - (T : Int)) = (R : Int) := by rw [IntKind.wrap_i64]; omega
    have HRR := Lib.hid hR
    have HMM := Lib.hid hM
    have hM0 : 0 < M := by omega
    have hMb : M ≤ 1000000 := by omega
    have m1 : N - S = M := by omega
    clear hx hdx hce hS hT hD lD hval hDe hN hR hM
    go_enter Tryz.func207, Tryz.ntmps207
    go_wp2_with (go_at_call 166; refine (CL.out).mono ?_; rintro e w1 ⟨svz, rfl, hO, hb1⟩
                 obtain ⟨ao2, zcap, rfl, ⟨z1, -⟩, z2, z3⟩ := hO
                 obtain ⟨g, rfl, hBg, hrow⟩ := z3.resolve_left (by rintro rfl; have := HLD.out; simp at this; omega)
                 rw [HLD.out] at z1
                 rw [HLD.out]
                 have HS := Lib.hid (show SDRel w w.heap.size D g T 0 w1 from ⟨D, rfl, HDD.out, hrow, hb1, rfl, by simp [val]⟩)
                 clear CL hrow hb1 z3)
    go_loopw [23] (fun iv wr => ∃ i : Nat, i ≤ M ∧ iv = .int .i64 i ∧ SDRel w w.heap.size D g T i wr) (fun iv _ => M - (intOf iv).toNat)
    case atStart => exact ⟨0, Nat.zero_le _, rfl, HS.out⟩
    case round =>
      obtain ⟨i, hi, rfl, hrel⟩ := hrel
      obtain ⟨Z, hl, hd, hrow, hb, hdr, hv⟩ := hrel
      clear HS
      rw [HLD.out] at hl
      by_cases hlt : i < M
      · have c1 := hrow.cell i (by omega)
        have f1 := hrow.free i
        have hz0 : dg Z i = dg D i := by
          have := congrArg (fun l => dg l 0) hdr
          simpa [dg_drop] using this
        rw [hz0] at c1
        have hdb := dg_lt HDD.out i
        obtain ⟨a, ha⟩ : ∃ a, a = dg D i / 2 ^ T := ⟨_, rfl⟩
        have g2 : ((dg D i : Nat) : Int) / 2 ^ T = (a : Int) := by rw [divShr, ← ha]
        have HB := Lib.hid hb
        have HA := Lib.hid ha
        have hrow1 := hrow.set i (by omega) (u := (a : Int)) (d := a) rfl
        have hb1' := hb.setCell (p := ⟨g, i, none⟩) hBg (.int .u64 (a : Int))
        by_cases hin : (i : Int) + 1 < (M : Int)
        · obtain ⟨m, hm⟩ : ∃ m, m = dg D (i + 1) * 2 ^ R % 18446744073709551616 := ⟨_, rfl⟩
          have hmb : m < 18446744073709551616 := by rw [hm]; exact Nat.mod_lt _ (by omega)
          have hm2 : m = dg D (i + 1) % 2 ^ (64 - R) * 2 ^ R := by rw [hm, shl_mod (by have := HRR.out; omega)]
          have ha2 : a < 2 ^ R := by
            rw [ha, Nat.div_lt_iff_lt_mul (Nat.pow_pos (by omega)), ← Nat.pow_add, show R + T = 64 by have := HRR.out; omega]
            exact hdb
          have hor := or_add ha2 hm2
          have hab : a < 18446744073709551616 := Nat.lt_of_le_of_lt (by rw [ha]; exact Nat.div_le_self _ _) hdb
          have hsum : a + m < 18446744073709551616 := by
            rw [← hor]
            exact Nat.or_lt_two_pow (n := 64) hab hmb
          obtain ⟨sm, hsm⟩ : ∃ sm, sm = a + m := ⟨_, rfl⟩
          have HNX := Lib.hid (fun wr2 hr2 hb2 => SDRel.next (B := w.heap.size) (w := w) (wr2 := wr2) (g := g) (p := sm) (by rw [hl, HLD.out]) hd hdr hv hTb (by rw [HLD.out]; exact hlt) (by rw [hsm, ha, hm, HRR.out]) (by omega) hr2 hb2)
          have g3 : IntKind.u64.wrap ((dg D (i + 1) : Nat) * 2 ^ R) = (m : Int) := by rw [wrapShl, hm]
          have g4 : bits .or .u64 (a : Int) (m : Int) = (sm : Int) := by rw [bits_or_u64_nat _ _ hab hmb, hor, hsm]
          obtain ⟨p1, hp1⟩ : ∃ p, p = S + i := ⟨_, rfl⟩
          have g5 : IntKind.i64.wrap ((S : Int) + (i : Int)) = (p1 : Int) := by rw [IntKind.wrap_i64]; omega
          have g6 : IntKind.i64.wrap ((p1 : Int) + 1) = ((p1 + 1 : Nat) : Int) := by rw [IntKind.wrap_i64]; omega
          have c3 := ((HX.out.below hb).below (Below.refl _ _)).cellAt (p1 + 1) (by have := HMM.out; omega)
          rw [show dg x (p1 + 1) = dg D (i + 1) by rw [hdg.out]; congr 1; omega] at c3
          have c4 : (wr.setCell ⟨g, i, none⟩ (.int .u64 (a : Int))).cell? ⟨gx, ox + (p1 + 1), none⟩ = some (.int .u64 (dg D (i + 1) : Nat)) := by
            have hne : gx ≠ g := by
              have := (HX.out.apart hBg) _ _ _ rfl (by omega)
              exact this
            exact (grown_set wr g i _).cell c3 (by simpa using hne)
          have c5 := hrow1.cell i (by rw [List.length_set]; omega)
          rw [dg_set_same (by omega)] at c5
          have f5 := hrow1.free i
          have hp2 : (p1 : Int) + 1 < (N : Int) := by have := HMM.out; omega
          have HLZ := Lib.hid hl
          have HR1 := Lib.hid hrow1
          have HB1' := Lib.hid hb1'
          generalize dg D (i + 1) = ee at *
          generalize dg D i = d at *
          clear hl hd hrow hb hdr hv ha hm hm2 hor hsm hrow1 hb1' hz0 hp1 c3
          go_wp2
          go_region
          go_wp2
          go_roundw
          case rel =>
            refine ⟨i + 1, by omega, by go_num, HNX.out _ ?_ (((HB1'.out).drew).setCell hBg _)⟩
            have := (HR1.out.drew 1).set i (by rw [List.length_set, HLZ.out]; omega) (u := (sm : Int)) (d := sm) rfl
            rw [List.set_set] at this
            exact this
          case measure => simp [intOf]; omega
        · have hab : a < 18446744073709551616 := Nat.lt_of_le_of_lt (by rw [ha]; exact Nat.div_le_self _ _) hdb
          have he0 : dg D (i + 1) = 0 := dg_out (by rw [HLD.out]; omega)
          have HNX := Lib.hid (SDRel.next (B := w.heap.size) (w := w) (g := g) (p := a) (by rw [hl, HLD.out]) hd hdr hv hTb (by rw [HLD.out]; exact hlt) (by rw [ha, he0]; simp) hab hrow1 hb1')
          generalize dg D i = d at *
          clear hl hd hrow hb hdr hv ha hrow1 hb1' hz0 he0
          go_wp2
          go_roundw
          case rel => exact ⟨i + 1, by omega, by go_num, HNX.out⟩
          case measure => simp [intOf]; omega
      · have : i = M := by omega
        subst this
        have hv2 : val Z = val D / 2 ^ T := by
          rw [List.take_of_length_le (by omega), List.take_of_length_le (by rw [HLD.out]; omega), dg_out (l := D) (k := i) (by rw [HLD.out]; omega), Nat.zero_mod, Nat.mul_zero, Nat.add_zero] at hv
          rw [← hv, Nat.mul_comm, Nat.mul_add_div (Nat.pow_pos (by omega)), Nat.div_eq_of_lt (Nat.mod_lt _ (Nat.pow_pos (by omega))), Nat.add_zero]
        have hO : Own wr w.heap.size (.slice (some ⟨g, 0, none⟩) i zcap) Z := by
          have := Own.of_row (cap := zcap) hrow hBg (by omega) z2
          rwa [hl] at this
        have HT := Lib.hid (trim_own _ Z wr hO (by omega) hd)
        rw [hv2] at HT
        have HB := Lib.hid hb
        clear hl hd hrow hb hv hv2 hO hdr
        go_wp2_with (go_at_call 144; refine (HT.out).mono ?_; rintro e w3 ⟨sv, rfl, hO3, rfl⟩; have HO3 := Lib.hid hO3; clear hO3)
        go_ret
        exact ⟨sv, rfl, HO3.out, HB.out⟩
end Go.Proofs.YtlhmfgbaefaneabGreatDoor.nat
namespace Go.Proofs.YtlhmfgbaefaneabGreatDoor.nat
open Go.RowKit
def LRel (w2 : World) (gL gQ N n X' Y' k : Nat) (wr : World) : Prop :=
  ∃ L Q : List Nat, L.length = N + 1 ∧ Q.length = N - n + 1 ∧ Dig L ∧ Dig Q ∧ Row wr gL L ∧ Row wr gQ Q ∧ Below w2.heap.size w2 wr ∧ val Q * Y' + val L = X' ∧ val L < Y' * 18446744073709551616 ^ k ∧ ∀ j, j < k → dg Q j = 0
theorem ld_part {L : List Nat} {N n i Y' : Nat} (hl : L.length = N + 1) (hi : i + n + 1 ≤ N + 1) (hY : Y' < 18446744073709551616 ^ n) (h : val L < Y' * 18446744073709551616 ^ (i + 1)) :
    val ((L.drop i).take (n + 1)) < Y' * 18446744073709551616 ∧ val L = val (L.take i) + 18446744073709551616 ^ i * val ((L.drop i).take (n + 1)) ∧ val (L.drop (i + n + 1)) = 0 ∧ L = L.take i ++ ((L.drop i).take (n + 1) ++ L.drop (i + n + 1)) := by
  have e : L = L.take i ++ ((L.drop i).take (n + 1) ++ L.drop (i + n + 1)) := by
    have h1 : (L.drop i).take (n + 1) ++ L.drop (i + n + 1) = L.drop i := by
      rw [show i + n + 1 = i + (n + 1) by omega, ← List.drop_drop, List.take_append_drop]
    rw [h1, List.take_append_drop]
  have l1 : (L.take i).length = i := by rw [List.length_take]; omega
  have l2 : ((L.drop i).take (n + 1)).length = n + 1 := by rw [List.length_take, List.length_drop]; omega
  have v : val L = val (L.take i) + 18446744073709551616 ^ i * (val ((L.drop i).take (n + 1)) + 18446744073709551616 ^ (n + 1) * val (L.drop (i + n + 1))) := by
    have := congrArg val e
    rwa [val_append, val_append, l1, l2] at this
  have hC : val (L.drop (i + n + 1)) = 0 := by
    rcases Nat.eq_zero_or_pos (val (L.drop (i + n + 1))) with h0 | h0
    · exact h0
    · exfalso
      have h1 : 18446744073709551616 ^ i * 18446744073709551616 ^ (n + 1) ≤ val L := by
        rw [v, Nat.mul_add, ← Nat.mul_assoc]
        have := Nat.le_mul_of_pos_right (18446744073709551616 ^ i * 18446744073709551616 ^ (n + 1)) h0
        omega
      have h2 : Y' * 18446744073709551616 ^ (i + 1) ≤ 18446744073709551616 ^ n * 18446744073709551616 ^ (i + 1) := Nat.mul_le_mul_right _ (Nat.le_of_lt hY)
      rw [← Nat.pow_add] at h1 h2
      rw [show n + (i + 1) = i + (n + 1) by omega] at h2
      omega
  rw [hC, Nat.mul_zero, Nat.add_zero] at v
  refine ⟨?_, v, hC, e⟩
  have h3 : 18446744073709551616 ^ i * val ((L.drop i).take (n + 1)) < 18446744073709551616 ^ i * (Y' * 18446744073709551616) := by
    have : Y' * 18446744073709551616 ^ (i + 1) = 18446744073709551616 ^ i * (Y' * 18446744073709551616) := by
      rw [Nat.pow_succ, Nat.mul_left_comm]
    rw [← this]
    omega
  exact Nat.lt_of_mul_lt_mul_left h3
theorem LRel.next {w2 wr w4 : World} {gL gQ N n X' Y' i : Nat} {L Q Z' : List Nat} (hlL : L.length = N + 1) (hlQ : Q.length = N - n + 1) (hdL : Dig L) (hdQ : Dig Q) (hrQ : Row wr gQ Q) (hb : Below w2.heap.size w2 wr) (hv : val Q * Y' + val L = X') (hz : ∀ j, j < i + 1 → dg Q j = 0)
    (hsz : val L = val (L.take i) + 18446744073709551616 ^ i * val ((L.drop i).take (n + 1))) (hC : val (L.drop (i + n + 1)) = 0) (hi : i + n + 1 ≤ N + 1) (hY0 : 0 < Y') (hgL : w2.heap.size ≤ gL) (hgQ : gL < gQ)
    (hl' : Z'.length = n + 1) (hd' : Dig Z') (hv' : val Z' = val ((L.drop i).take (n + 1)) % Y') (hr' : Row w4 gL (L.take i ++ (Z' ++ L.drop (i + n + 1)))) (hg' : wr.grownBy w4 (some gL)) (hdb : val ((L.drop i).take (n + 1)) / Y' < 18446744073709551616) :
    LRel w2 gL gQ N n X' Y' i (w4.setCell ⟨gQ, i, none⟩ (.int .u64 ((val ((L.drop i).take (n + 1)) / Y' : Nat) : Int))) := by
  have l1 : (L.take i).length = i := by rw [List.length_take]; omega
  have vL' : val (L.take i ++ (Z' ++ L.drop (i + n + 1))) = val (L.take i) + 18446744073709551616 ^ i * (val ((L.drop i).take (n + 1)) % Y') := by
    rw [val_append, val_append, l1, hC, Nat.mul_zero, Nat.add_zero, hv']
  have b1 := val_lt' (hdL.take i) (Nat.le_of_eq l1)
  obtain ⟨V, hV⟩ : ∃ V, V = val ((L.drop i).take (n + 1)) := ⟨_, rfl⟩
  rw [← hV] at hsz hv' hdb vL' ⊢
  refine ⟨L.take i ++ (Z' ++ L.drop (i + n + 1)), Q.set i (V / Y'), by rw [List.length_append, List.length_append, l1, hl', List.length_drop]; omega, by simpa using hlQ, (hdL.take i).append (hd'.append (hdL.drop _)), hdQ.set hdb,
    hr'.kept (grown_set _ _ _ _) (by simp; omega), (hrQ.kept hg' (by simp; omega)).set i (by omega) rfl, ?_, ?_, ?_, ?_⟩
  · exact below_grown (below_grown hb hg' hb.size hgL) (grown_set _ _ _ _) (Nat.le_trans hb.size hg'.size) (by omega)
  · have h1 := val_set (l := Q) (j := i) (d := V / Y') (by omega)
    have hz1 := hz i (by omega)
    rw [hz1, Nat.mul_zero, Nat.add_zero] at h1
    rw [h1, vL', Nat.add_mul, ← hv, hsz]
    have h2 := Nat.div_add_mod V Y'
    have h3 : 18446744073709551616 ^ i * (V / Y') * Y' + 18446744073709551616 ^ i * (V % Y') = 18446744073709551616 ^ i * V := by
      rw [Nat.mul_assoc, ← Nat.mul_add, Nat.mul_comm (V / Y'), h2]
    omega
  · rw [vL']
    have h2 : V % Y' + 1 ≤ Y' := Nat.mod_lt _ hY0
    have h3 := Nat.mul_le_mul_left (18446744073709551616 ^ i) h2
    rw [Nat.mul_succ, Nat.mul_comm _ Y'] at h3
    omega
  · intro j hj
    rw [dg_set_other (by omega)]
    exact hz j (by omega)
theorem ld_end {X Y q r s : Nat} (hY : 0 < Y) (h : q * (Y * 2 ^ s) + r = X * 2 ^ s) (hr : r < Y * 2 ^ s) : q = X / Y ∧ r / 2 ^ s = X % Y := by
  have hp : 0 < 2 ^ s := Nat.pow_pos (by omega)
  have h1 : q = X * 2 ^ s / (Y * 2 ^ s) := by
    rw [← h, Nat.mul_comm q, Nat.mul_add_div (Nat.mul_pos hY hp), Nat.div_eq_of_lt hr, Nat.add_zero]
  have h2 : r = X * 2 ^ s % (Y * 2 ^ s) := by
    rw [← h, Nat.mul_comm q, Nat.mul_add_mod, Nat.mod_eq_of_lt hr]
  rw [Nat.mul_div_mul_right _ _ hp] at h1
  rw [Nat.mul_mod_mul_right] at h2
  exact ⟨h1, by rw [h2, Nat.mul_div_cancel _ hp]⟩
theorem ld_first {x y : List Nat} {N n s : Nat} (hx : x.length = N) (hy : y.length = n) (hnN : n ≤ N) (hn : 0 < n) (hdx : Dig x) (hny : Norm y) (hs : s ≤ 63) (h1 : dg y (n - 1) * 2 ^ s < 18446744073709551616) (h2 : 9223372036854775808 ≤ dg y (n - 1) * 2 ^ s) :
    val y * 2 ^ s < 18446744073709551616 ^ n ∧ (digs (val y * 2 ^ s)).length = n ∧ val x * 2 ^ s < val y * 2 ^ s * 18446744073709551616 ^ (N - n + 1) ∧ val x * 2 ^ s < 18446744073709551616 ^ (N + 1) := by
  have e1 : val y = val (y.take (n - 1)) + 18446744073709551616 ^ (n - 1) * dg y (n - 1) := by
    rw [← val_take_succ, List.take_of_length_le (by omega)]
  have b1 := val_lt' (hny.1.take (n - 1)) (show (y.take (n - 1)).length ≤ n - 1 by rw [List.length_take]; omega)
  have e2 : 18446744073709551616 ^ n = 18446744073709551616 ^ (n - 1) * 18446744073709551616 := by rw [← Nat.pow_succ]; congr 1; omega
  have e4 : (18446744073709551616 : Nat) = 2 ^ (64 - s) * 2 ^ s := by rw [← Nat.pow_add, show 64 - s + s = 64 by omega]
  have c1 : val y * 2 ^ s < 18446744073709551616 ^ n := by
    have h3 : dg y (n - 1) + 1 ≤ 2 ^ (64 - s) := by
      have : dg y (n - 1) * 2 ^ s < 2 ^ (64 - s) * 2 ^ s := by rw [← e4]; exact h1
      exact Nat.lt_of_mul_lt_mul_right this
    have h4 : val y < 18446744073709551616 ^ (n - 1) * (dg y (n - 1) + 1) := by rw [e1, Nat.mul_succ]; omega
    have h5 : 18446744073709551616 ^ (n - 1) * (dg y (n - 1) + 1) * 2 ^ s ≤ 18446744073709551616 ^ (n - 1) * 2 ^ (64 - s) * 2 ^ s := Nat.mul_le_mul_right _ (Nat.mul_le_mul_left _ h3)
    have h6 : 18446744073709551616 ^ (n - 1) * 2 ^ (64 - s) * 2 ^ s = 18446744073709551616 ^ n := by rw [Nat.mul_assoc, ← e4, e2]
    have h7 : val y * 2 ^ s < 18446744073709551616 ^ (n - 1) * (dg y (n - 1) + 1) * 2 ^ s := Nat.mul_lt_mul_of_pos_right h4 (Nat.pow_pos (by omega))
    omega
  have c2 : 18446744073709551616 ^ (n - 1) * 9223372036854775808 ≤ val y * 2 ^ s := by
    rw [e1, Nat.add_mul, Nat.mul_assoc]
    have := Nat.mul_le_mul_left (18446744073709551616 ^ (n - 1)) h2
    omega
  have c3 : val x * 2 ^ s < 18446744073709551616 ^ N * 9223372036854775808 := by
    have h3 := val_lt' hdx (Nat.le_of_eq hx)
    have h4 : 2 ^ s ≤ 9223372036854775808 := by
      have : 2 ^ s ≤ 2 ^ 63 := Nat.pow_le_pow_right (by omega) hs
      omega
    have h5 : val x * 2 ^ s < 18446744073709551616 ^ N * 2 ^ s := Nat.mul_lt_mul_of_pos_right h3 (Nat.pow_pos (by omega))
    have h6 := Nat.mul_le_mul_left (18446744073709551616 ^ N) h4
    omega
  refine ⟨c1, Nat.le_antisymm (digs_len c1) ?_, ?_, ?_⟩
  · rcases Nat.lt_or_ge (digs (val y * 2 ^ s)).length n with h | h
    · exfalso
      have h3 := val_lt' (norm_digs (val y * 2 ^ s)).1 (show _ ≤ n - 1 by omega)
      rw [val_digs] at h3
      have h4 := Nat.le_mul_of_pos_right (18446744073709551616 ^ (n - 1)) (show 0 < 9223372036854775808 by omega)
      omega
    · exact h
  · refine Nat.lt_of_lt_of_le c3 ?_
    have h3 := Nat.mul_le_mul_right (18446744073709551616 ^ (N - n + 1)) c2
    rw [Nat.mul_right_comm, ← Nat.pow_add, show n - 1 + (N - n + 1) = N by omega] at h3
    exact h3
  · refine Nat.lt_of_lt_of_le c3 ?_
    rw [Nat.pow_succ]
    exact Nat.mul_le_mul_left _ (by omega)
end Go.Proofs.YtlhmfgbaefaneabGreatDoor.nat
