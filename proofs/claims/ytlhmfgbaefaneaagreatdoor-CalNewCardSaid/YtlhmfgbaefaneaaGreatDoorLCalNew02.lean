/-
  The steps of the walks, part 2: Lw6CalNew.
-/
import Derived.BigQuiet
import Derived.Deep.QuietTactic
import Derived.Test.YtlhmfgbaefaneaaGreatDoorB01
import Derived.Test.YtlhmfgbaefaneaaGreatDoorB02
import Derived.Test.YtlhmfgbaefaneaaGreatDoorB03
import Derived.Test.YtlhmfgbaefaneaaGreatDoorB04
import Derived.Test.YtlhmfgbaefaneaaGreatDoorB05
import Derived.Test.YtlhmfgbaefaneaaGreatDoorB06
import Derived.Test.YtlhmfgbaefaneaaGreatDoorB07
import Derived.Test.YtlhmfgbaefaneaaGreatDoorB08
import Derived.Test.YtlhmfgbaefaneaaGreatDoorB09
import Derived.Test.YtlhmfgbaefaneaaGreatDoorB10
import Derived.Test.YtlhmfgbaefaneaaGreatDoorB11
import Derived.Test.YtlhmfgbaefaneaaGreatDoorB12
import Derived.Test.YtlhmfgbaefaneaaGreatDoorB13
import Derived.Test.YtlhmfgbaefaneaaGreatDoorB14
import Derived.Test.YtlhmfgbaefaneaaGreatDoorB15
import Derived.Test.YtlhmfgbaefaneaaGreatDoorB16
import Derived.Test.YtlhmfgbaefaneaaGreatDoorB17
import Derived.Test.YtlhmfgbaefaneaaGreatDoorB18
import Derived.Test.YtlhmfgbaefaneaaGreatDoorB19
import Derived.Test.YtlhmfgbaefaneaaGreatDoorB20
import Derived.Test.YtlhmfgbaefaneaaGreatDoorB21
import Derived.Test.YtlhmfgbaefaneaaGreatDoorB22
import Derived.Test.YtlhmfgbaefaneaaGreatDoorLCalNew01
namespace Go.Proofs.YtlhmfgbaefaneaaGreatDoor.law6
open Go Go.RowKit Go.Proofs.YtlhmfgbaefaneaaGreatDoor.day Go.Proofs.YtlhmfgbaefaneaaGreatDoor.date
open Go.Proofs.YtlhmfgbaefaneaaGreatDoor.ref (str str_size)
open Go.Proofs.YtlhmfgbaefaneaaGreatDoor.ref6 (CAt dayText DayForm quiet_same drewN_below6)
open Go.Proofs.YtlhmfgbaefaneaaGreatDoor.ref6 (IntsAt RulesAt CalsAt CalT Rule May openB nextD addN cntO rollD)
def wantI (ms : List Int) (k : Nat) : Int := if (ms.take k).all (fun z => decide (IsDay z)) = true then 0 else 4
def wantR (rs : List Rule) (c : Int) (k : Nat) : Int := if (rs.take k).all (fun r => decide (May r)) = true then c else 1
theorem wantI_in (ms : List Int) (k : Nat) : wantI ms k = 0 ∨ wantI ms k = 4 := by unfold wantI; split <;> simp
theorem wantI_succ {ms : List Int} {k : Nat} {z : Int} (h : ms[k]? = some z) : wantI ms (k + 1) = if decide (IsDay z) = true then wantI ms k else 4 := by
  unfold wantI
  rw [List.take_add_one, h, List.all_append, show (some z).toList.all (fun z => decide (IsDay z)) = decide (IsDay z) from by simp]
  generalize (List.take k ms).all (fun z => decide (IsDay z)) = A
  generalize decide (IsDay z) = B
  cases A <;> cases B <;> rfl
theorem wantR_succ {rs : List Rule} (c : Int) {k : Nat} {r : Rule} (h : rs[k]? = some r) : wantR rs c (k + 1) = if decide (May r) = true then wantR rs c k else 1 := by
  unfold wantR
  rw [List.take_add_one, h, List.all_append, show (some r).toList.all (fun r => decide (May r)) = decide (May r) from by simp]
  generalize (List.take k rs).all (fun r => decide (May r)) = A
  generalize decide (May r) = B
  cases A <;> cases B <;> rfl
def NRelI (V : World) (ms : List Int) (n : Nat) (wv kv : Value) (wr : World) : Prop := ∃ k : Nat, k ≤ n ∧ wv = .int .i64 (wantI ms k) ∧ kv = .int .i64 (k : Nat) ∧ V = wr
def NRelR (V : World) (rs : List Rule) (c : Int) (n : Nat) (wv kv : Value) (wr : World) : Prop := ∃ k : Nat, k ≤ n ∧ wv = .int .i64 (wantR rs c k) ∧ kv = .int .i64 (k : Nat) ∧ Below V.heap.size V wr
theorem slice_len_r {w : World} {ro : Option Addr} {rc N : Nat} {l : List Rule} (h : RulesO w (.slice ro N rc) l) : l.length = N := by
  obtain ⟨ao, cap, e, -⟩ := h
  simp only [Value.slice.injEq] at e
  exact e.2.1.symm
theorem slice_len_i {w : World} {ro : Option Addr} {rc N : Nat} {l : List Int} (h : IntsO w (.slice ro N rc) l) : l.length = N := by
  obtain ⟨ao, cap, e, -⟩ := h
  simp only [Value.slice.injEq] at e
  exact e.2.1.symm
theorem take_rules {w : World} {ro : Option Addr} {rc N n1 : Nat} {l l2 : List Rule} (h : RulesO w (.slice ro N rc) l) (hN : l.length = N) (h2 : l.take 25 = l2) (hn : min N 25 = n1) : RulesO w (.slice ro n1 rc) l2 := by
  obtain ⟨ao, cap, e, hl, hc⟩ := h
  simp only [Value.slice.injEq] at e
  obtain ⟨rfl, -, rfl⟩ := e
  subst h2 hn hN
  refine ⟨ro, rc, by rw [List.length_take, Nat.min_comm], by rw [List.length_take]; omega, fun k r hk => ?_⟩
  rw [List.getElem?_take] at hk
  split at hk
  · exact hc k r hk
  · cases hk
theorem take_ints {w : World} {ro : Option Addr} {rc N n1 : Nat} {l l2 : List Int} (h : IntsO w (.slice ro N rc) l) (hN : l.length = N) (h2 : l.take 110 = l2) (hn : min N 110 = n1) : IntsO w (.slice ro n1 rc) l2 := by
  obtain ⟨ao, cap, e, hl, hc⟩ := h
  simp only [Value.slice.injEq] at e
  obtain ⟨rfl, -, rfl⟩ := e
  subst h2 hn hN
  refine ⟨ro, rc, by rw [List.length_take, Nat.min_comm], by rw [List.length_take]; omega, fun k r hk => ?_⟩
  rw [List.getElem?_take] at hk
  split at hk
  · exact hc k r hk
  · cases hk
set_option maxRecDepth 100000 in
set_option maxHeartbeats 4000000 in
theorem CalNew_y (HBg : BegunC) (ro mo : Option Addr) (rc mc : Nat) (l : List Rule) (m : List Int) (l2 : List Rule) (m2 : List Int) (h2 : l.take 25 = l2) (h3 : m.take 110 = m2) (N M n1 m1 : Nat) (hN : l.length = N) (hM : m.length = M) (hn1 : min N 25 = n1) (hm1 : min M 110 = m1) (hrc : N ≤ rc) (hmc : M ≤ mc) (hNl : N ≤ 4611686018427387904) (hMl : M ≤ 4611686018427387904) (hs : n1 ≤ 20) (hs2 : m1 ≤ 100) (hw2 : wantR l2 (wantI m2 m1) n1 = 0)
    (PN : ∀ W, Wd W → RulesO W (.slice ro n1 rc) l2 → IntsO W (.slice mo m1 mc) m2 → Calls Tryz.prog 44 #[.slice ro n1 rc, .slice mo m1 mc] W fun e w' => (∃ ad, e = .returned (.tuple #[.pointer (some ad), .nilIface])) ∧ Below W.heap.size W w') (w : World) (hw : Wd w) (hr : RulesO w (.slice ro N rc) l) (hm : IntsO w (.slice mo M mc) m) :
    Calls Tryz.prog 10 #[.slice ro N rc, .slice mo M mc] w fun e w' => e = .returned (.bool true) ∧ Below w.heap.size w w' := by
  have HW := Lib.hid (fun W (h : Below w.heap.size w W) => hw.keep h)
  have C1 := Lib.hid (fun (W : World) (hW : Wd W) => HBg W hW)
  have HR0 := Lib.hid (Below.refl w.heap.size w)
  have Grs_0 := Lib.hid (take_rules hr hN h2 hn1)
  have Gms_0 := Lib.hid (take_ints hm hM h3 hm1)
  have HE1 := Lib.hid (show (min (N : Int) 25).toNat = n1 by omega)
  have HE2 := Lib.hid (show (min (M : Int) 110).toNat = m1 by omega)
  have HSm := Lib.hid (fun W (hW : Wd W) => Same_nil W hW)
  have HPN := Lib.hid PN
  have n25 : n1 ≤ 25 := by omega
  have m110 : m1 ≤ 110 := by omega
  clear PN hr hm h2 h3 hN hM hn1 hm1
  clear hw
  go_enter Tryz.func10, Tryz.ntmps10
  go_wp2_with (first
    | (go_at_call 17; (with_reducible refine (C1.out _ (HW.out _ HR0.out)).mono ?_); rintro e W1 ⟨rfl, hb⟩
       have Grs_1 := Lib.hid (Grs_0.out.below hb)
       have Gms_1 := Lib.hid (Gms_0.out.below hb)
       have HR1 := Lib.hid (below_tr6 HR0.out hb rfl)
       clear C1 hb)
    | (fail "no arm"))
  have HRQ := Lib.hid (fun n => drewN_below6 HR1.out n)
  go_quiet (fail "no call")
  go_wp2_with (first
    | (go_at_call 44; rw [HE1.out, HE2.out]; (with_reducible refine (HPN.out _ (HW.out _ (HRQ.out _)) (Grs_1.out.below (drewN_below6 (Below.refl _ _) _)) (Gms_1.out.below (drewN_below6 (Below.refl _ _) _))).mono ?_); rintro e V1 ⟨⟨ac, rfl⟩, hb⟩
       have R1 := Lib.hid ((Grs_1.out.below (drewN_below6 (Below.refl _ _) _)).below hb); have I1 := Lib.hid ((Gms_1.out.below (drewN_below6 (Below.refl _ _) _)).below hb); have B1 := Lib.hid ((HRQ.out nq).trans (hb.mono (HRQ.out nq).size)); clear hb HPN)
    | (fail "no arm"))
  have L1 := Lib.hid (slice_len_r R1.out)
  have L2 := Lib.hid (slice_len_i I1.out)
  clear Grs_1 Gms_1 HRQ HE1 HE2
  go_loopw [8, 32] (fun wv kv wr => NRelI V1 m2 m1 wv kv wr) (fun _ kv _ => ((m1 : Int) - intOf kv).toNat)
  case atStart => exact ⟨0, Nat.zero_le _, rfl, rfl, rfl⟩
  case round =>
    obtain ⟨k, hk, rfl, rfl, rfl⟩ := hrel
    have HWI := Lib.hid (wantI_in m2 k)
    by_cases hlt : k < m1
    · have hlt2 : (k : Int) < (m1 : Nat) := by omega
      obtain ⟨z, hget⟩ : ∃ z, m2[k]? = some z := ⟨m2[k]'(by rw [L2.out]; exact hlt), List.getElem?_eq_getElem _⟩
      obtain ⟨ao', cap', he, -, hz⟩ := I1.out
      simp only [Value.slice.injEq] at he
      obtain ⟨rfl, -, rfl⟩ := he
      obtain ⟨-, -, g, o, hao, hc⟩ := hz k z hget
      have HS := Lib.hid (wantI_succ hget)
      have HI := Lib.hid (fun W => ref6.Is_any z W)
      subst hao
      clear hz hget
      generalize wantI m2 k = wi at *
      cases hd : decide (IsDay z)
      all_goals
        rw [hd] at HI HS
        clear hd
        simp only [Bool.false_eq_true, if_false, if_true] at HS
        go_wp2_with (first
          | (go_at_call 45; (with_reducible refine (HI.out _).mono ?_); rintro e w9 ⟨rfl, rfl⟩)
          | (fail "no arm"))
        go_roundw
        case rel => exact ⟨k + 1, by omega, by rw [HS.out], by go_num, rfl⟩
        case measure => simp [intOf] <;> omega
    · have hge : ¬ ((k : Int) < (m1 : Nat)) := by omega
      obtain rfl : k = m1 := by omega
      obtain ⟨c1, hc1⟩ : ∃ c1, wantI m2 k = c1 := ⟨_, rfl⟩
      rw [hc1] at hw2 HWI ⊢
      have HW2 := Lib.hid hw2
      clear hw2 hc1
      go_wp2
      go_loopw [8, 44] (fun wv kv wr => NRelR V1 l2 c1 n1 wv kv wr) (fun _ kv _ => ((n1 : Int) - intOf kv).toNat)
      case atStart => exact ⟨0, Nat.zero_le _, rfl, rfl, Below.refl _ _⟩
      case round =>
        obtain ⟨j, hj, rfl, rfl, hb⟩ := hrel
        have HB := Lib.hid hb
        clear hb
        by_cases hlt : j < n1
        · have hlt2 : (j : Int) < (n1 : Nat) := by omega
          obtain ⟨r, hget⟩ : ∃ r, l2[j]? = some r := ⟨l2[j]'(by rw [L1.out]; exact hlt), List.getElem?_eq_getElem _⟩
          obtain ⟨ao', cap', he, -, hz⟩ := R1.out.below HB.out
          simp only [Value.slice.injEq] at he
          obtain ⟨rfl, -, rfl⟩ := he
          obtain ⟨g, o, hao, k0, k1, k2, k3, k4, k5⟩ := hz j r hget
          have HS := Lib.hid (wantR_succ c1 hget)
          have HI := Lib.hid (fun W => ref6.MayRule_any r W)
          unfold ref6.Rule.val at HI
          subst hao
          clear hz hget
          obtain ⟨kd, mo', d, n, wd, sh⟩ := r
          simp only at k0 k1 k2 k3 k4 k5 HI
          generalize wantR l2 c1 j = wi at *
          cases hd : decide (May ⟨kd, mo', d, n, wd, sh⟩)
          all_goals
            rw [hd] at HI HS
            clear hd
            simp only [Bool.false_eq_true, if_false, if_true] at HS
            go_wp2_with (first
              | (go_at_call 46; (with_reducible refine (HI.out _).mono ?_); rintro e w9 ⟨rfl, hb⟩; have HB9 := Lib.hid (HB.out.trans (hb.mono HB.out.size)); clear hb)
              | (fail "no arm"))
            go_roundw
            case rel => exact ⟨j + 1, by omega, by rw [HS.out], by go_num, HB9.out⟩
            case measure => simp [intOf] <;> omega
        · have hge : ¬ ((j : Int) < (n1 : Nat)) := by omega
          obtain rfl : j = n1 := by omega
          rw [HW2.out]
          have HR9 := Lib.hid (B1.out.trans (HB.out.mono B1.out.size))
          have f1 : ¬ (20 < ((j : Nat) : Int)) := by omega
          have f2 : ¬ (100 < ((k : Nat) : Int)) := by omega
          go_wp2_with (first
            | (go_at_call 29; (with_reducible refine (HSm.out _ (HW.out _ HR9.out)).mono ?_); rintro e V9 ⟨rfl, hb⟩; have HE9 := Lib.hid (HR9.out.trans (hb.mono HR9.out.size)); clear hb)
            | (fail "no arm"))
          go_ret
          exact ⟨rfl, HE9.out⟩
set_option maxRecDepth 100000 in
set_option maxHeartbeats 4000000 in
theorem CalNew_s (HBg : BegunC) (ro mo : Option Addr) (rc mc : Nat) (l : List Rule) (m : List Int) (l2 : List Rule) (m2 : List Int) (h2 : l.take 25 = l2) (h3 : m.take 110 = m2) (N M n1 m1 : Nat) (hN : l.length = N) (hM : m.length = M) (hn1 : min N 25 = n1) (hm1 : min M 110 = m1) (hrc : N ≤ rc) (hmc : M ≤ mc) (hNl : N ≤ 4611686018427387904) (hMl : M ≤ 4611686018427387904) (c w2 : Int) (hs : n1 ≤ 20) (hs2 : m1 ≤ 100) (hc : c = w2) (hc0 : ¬ c = 0) (hw2 : wantR l2 (wantI m2 m1) n1 = w2)
    (PN : ∀ W, Wd W → RulesO W (.slice ro n1 rc) l2 → IntsO W (.slice mo m1 mc) m2 → Calls Tryz.prog 44 #[.slice ro n1 rc, .slice mo m1 mc] W fun e w' => e = .returned (.tuple #[.pointer none, errOf c]) ∧ Below W.heap.size W w') (w : World) (hw : Wd w) (hr : RulesO w (.slice ro N rc) l) (hm : IntsO w (.slice mo M mc) m) :
    Calls Tryz.prog 10 #[.slice ro N rc, .slice mo M mc] w fun e w' => e = .returned (.bool true) ∧ Below w.heap.size w w' := by
  have HW := Lib.hid (fun W (h : Below w.heap.size w W) => hw.keep h)
  have C1 := Lib.hid (fun (W : World) (hW : Wd W) => HBg W hW)
  have HR0 := Lib.hid (Below.refl w.heap.size w)
  have Grs_0 := Lib.hid (take_rules hr hN h2 hn1)
  have Gms_0 := Lib.hid (take_ints hm hM h3 hm1)
  have HE1 := Lib.hid (show (min (N : Int) 25).toNat = n1 by omega)
  have HE2 := Lib.hid (show (min (M : Int) 110).toNat = m1 by omega)
  have HC := Lib.hid hc
  clear hc
  have HSm := Lib.hid (fun W (hW : Wd W) => Same_code c W hW)
  have HPN := Lib.hid PN
  have n25 : n1 ≤ 25 := by omega
  have m110 : m1 ≤ 110 := by omega
  clear PN hr hm h2 h3 hN hM hn1 hm1
  clear hw
  go_enter Tryz.func10, Tryz.ntmps10
  go_wp2_with (first
    | (go_at_call 17; (with_reducible refine (C1.out _ (HW.out _ HR0.out)).mono ?_); rintro e W1 ⟨rfl, hb⟩
       have Grs_1 := Lib.hid (Grs_0.out.below hb)
       have Gms_1 := Lib.hid (Gms_0.out.below hb)
       have HR1 := Lib.hid (below_tr6 HR0.out hb rfl)
       clear C1 hb)
    | (fail "no arm"))
  have HRQ := Lib.hid (fun n => drewN_below6 HR1.out n)
  go_quiet (fail "no call")
  go_wp2_with (first
    | (go_at_call 44; rw [HE1.out, HE2.out]; (with_reducible refine (HPN.out _ (HW.out _ (HRQ.out _)) (Grs_1.out.below (drewN_below6 (Below.refl _ _) _)) (Gms_1.out.below (drewN_below6 (Below.refl _ _) _))).mono ?_); rintro e V1 ⟨rfl, hb⟩
       have R1 := Lib.hid ((Grs_1.out.below (drewN_below6 (Below.refl _ _) _)).below hb); have I1 := Lib.hid ((Gms_1.out.below (drewN_below6 (Below.refl _ _) _)).below hb); have B1 := Lib.hid ((HRQ.out nq).trans (hb.mono (HRQ.out nq).size)); clear hb HPN)
    | (fail "no arm"))
  have L1 := Lib.hid (slice_len_r R1.out)
  have L2 := Lib.hid (slice_len_i I1.out)
  clear Grs_1 Gms_1 HRQ HE1 HE2
  go_loopw [8, 32] (fun wv kv wr => NRelI V1 m2 m1 wv kv wr) (fun _ kv _ => ((m1 : Int) - intOf kv).toNat)
  case atStart => exact ⟨0, Nat.zero_le _, rfl, rfl, rfl⟩
  case round =>
    obtain ⟨k, hk, rfl, rfl, rfl⟩ := hrel
    have HWI := Lib.hid (wantI_in m2 k)
    by_cases hlt : k < m1
    · have hlt2 : (k : Int) < (m1 : Nat) := by omega
      obtain ⟨z, hget⟩ : ∃ z, m2[k]? = some z := ⟨m2[k]'(by rw [L2.out]; exact hlt), List.getElem?_eq_getElem _⟩
      obtain ⟨ao', cap', he, -, hz⟩ := I1.out
      simp only [Value.slice.injEq] at he
      obtain ⟨rfl, -, rfl⟩ := he
      obtain ⟨-, -, g, o, hao, hc⟩ := hz k z hget
      have HS := Lib.hid (wantI_succ hget)
      have HI := Lib.hid (fun W => ref6.Is_any z W)
      subst hao
      clear hz hget
      generalize wantI m2 k = wi at *
      cases hd : decide (IsDay z)
      all_goals
        rw [hd] at HI HS
        clear hd
        simp only [Bool.false_eq_true, if_false, if_true] at HS
        go_wp2_with (first
          | (go_at_call 45; (with_reducible refine (HI.out _).mono ?_); rintro e w9 ⟨rfl, rfl⟩)
          | (fail "no arm"))
        go_roundw
        case rel => exact ⟨k + 1, by omega, by rw [HS.out], by go_num, rfl⟩
        case measure => simp [intOf] <;> omega
    · have hge : ¬ ((k : Int) < (m1 : Nat)) := by omega
      obtain rfl : k = m1 := by omega
      obtain ⟨c1, hc1⟩ : ∃ c1, wantI m2 k = c1 := ⟨_, rfl⟩
      rw [hc1] at hw2 HWI ⊢
      have HW2 := Lib.hid hw2
      clear hw2 hc1
      go_wp2
      go_loopw [8, 44] (fun wv kv wr => NRelR V1 l2 c1 n1 wv kv wr) (fun _ kv _ => ((n1 : Int) - intOf kv).toNat)
      case atStart => exact ⟨0, Nat.zero_le _, rfl, rfl, Below.refl _ _⟩
      case round =>
        obtain ⟨j, hj, rfl, rfl, hb⟩ := hrel
        have HB := Lib.hid hb
        clear hb
        by_cases hlt : j < n1
        · have hlt2 : (j : Int) < (n1 : Nat) := by omega
          obtain ⟨r, hget⟩ : ∃ r, l2[j]? = some r := ⟨l2[j]'(by rw [L1.out]; exact hlt), List.getElem?_eq_getElem _⟩
          obtain ⟨ao', cap', he, -, hz⟩ := R1.out.below HB.out
          simp only [Value.slice.injEq] at he
          obtain ⟨rfl, -, rfl⟩ := he
          obtain ⟨g, o, hao, k0, k1, k2, k3, k4, k5⟩ := hz j r hget
          have HS := Lib.hid (wantR_succ c1 hget)
          have HI := Lib.hid (fun W => ref6.MayRule_any r W)
          unfold ref6.Rule.val at HI
          subst hao
          clear hz hget
          obtain ⟨kd, mo', d, n, wd, sh⟩ := r
          simp only at k0 k1 k2 k3 k4 k5 HI
          generalize wantR l2 c1 j = wi at *
          cases hd : decide (May ⟨kd, mo', d, n, wd, sh⟩)
          all_goals
            rw [hd] at HI HS
            clear hd
            simp only [Bool.false_eq_true, if_false, if_true] at HS
            go_wp2_with (first
              | (go_at_call 46; (with_reducible refine (HI.out _).mono ?_); rintro e w9 ⟨rfl, hb⟩; have HB9 := Lib.hid (HB.out.trans (hb.mono HB.out.size)); clear hb)
              | (fail "no arm"))
            go_roundw
            case rel => exact ⟨j + 1, by omega, by rw [HS.out], by go_num, HB9.out⟩
            case measure => simp [intOf] <;> omega
        · have hge : ¬ ((j : Int) < (n1 : Nat)) := by omega
          obtain rfl : j = n1 := by omega
          rw [HW2.out]
          have HR9 := Lib.hid (B1.out.trans (HB.out.mono B1.out.size))
          have f1 : ¬ (20 < ((j : Nat) : Int)) := by omega
          have f2 : ¬ (100 < ((k : Nat) : Int)) := by omega
          have f3 : (c == 0) = false := by simpa using hc0
          rw [← HC.out]
          go_wp2_with (first
            | (go_at_call 29; (with_reducible refine (HSm.out _ (HW.out _ HR9.out)).mono ?_); rintro e V9 ⟨rfl, hb⟩; have HE9 := Lib.hid (HR9.out.trans (hb.mono HR9.out.size)); clear hb)
            | (fail "no arm"))
          go_ret
          exact ⟨rfl, HE9.out⟩
set_option maxRecDepth 100000 in
set_option maxHeartbeats 4000000 in
theorem CalNew_b1 (HBg : BegunC) (ro mo : Option Addr) (rc mc : Nat) (l : List Rule) (m : List Int) (l2 : List Rule) (m2 : List Int) (h2 : l.take 25 = l2) (h3 : m.take 110 = m2) (N M n1 m1 : Nat) (hN : l.length = N) (hM : m.length = M) (hn1 : min N 25 = n1) (hm1 : min M 110 = m1) (hrc : N ≤ rc) (hmc : M ≤ mc) (hNl : N ≤ 4611686018427387904) (hMl : M ≤ 4611686018427387904) (c w2 : Int) (hs : 20 < n1) (hc : c = 2) (hw2 : wantR l2 (wantI m2 m1) n1 = w2)
    (PN : ∀ W, Wd W → RulesO W (.slice ro n1 rc) l2 → IntsO W (.slice mo m1 mc) m2 → Calls Tryz.prog 44 #[.slice ro n1 rc, .slice mo m1 mc] W fun e w' => e = .returned (.tuple #[.pointer none, errOf c]) ∧ Below W.heap.size W w') (w : World) (hw : Wd w) (hr : RulesO w (.slice ro N rc) l) (hm : IntsO w (.slice mo M mc) m) :
    Calls Tryz.prog 10 #[.slice ro N rc, .slice mo M mc] w fun e w' => e = .returned (.bool true) ∧ Below w.heap.size w w' := by
  have HW := Lib.hid (fun W (h : Below w.heap.size w W) => hw.keep h)
  have C1 := Lib.hid (fun (W : World) (hW : Wd W) => HBg W hW)
  have HR0 := Lib.hid (Below.refl w.heap.size w)
  have Grs_0 := Lib.hid (take_rules hr hN h2 hn1)
  have Gms_0 := Lib.hid (take_ints hm hM h3 hm1)
  have HE1 := Lib.hid (show (min (N : Int) 25).toNat = n1 by omega)
  have HE2 := Lib.hid (show (min (M : Int) 110).toNat = m1 by omega)
  subst hc
  have HSm := Lib.hid (fun W (hW : Wd W) => Same_code 2 W hW)
  have HPN := Lib.hid PN
  have n25 : n1 ≤ 25 := by omega
  have m110 : m1 ≤ 110 := by omega
  clear PN hr hm h2 h3 hN hM hn1 hm1
  clear hw
  go_enter Tryz.func10, Tryz.ntmps10
  go_wp2_with (first
    | (go_at_call 17; (with_reducible refine (C1.out _ (HW.out _ HR0.out)).mono ?_); rintro e W1 ⟨rfl, hb⟩
       have Grs_1 := Lib.hid (Grs_0.out.below hb)
       have Gms_1 := Lib.hid (Gms_0.out.below hb)
       have HR1 := Lib.hid (below_tr6 HR0.out hb rfl)
       clear C1 hb)
    | (fail "no arm"))
  have HRQ := Lib.hid (fun n => drewN_below6 HR1.out n)
  go_quiet (fail "no call")
  go_wp2_with (first
    | (go_at_call 44; rw [HE1.out, HE2.out]; (with_reducible refine (HPN.out _ (HW.out _ (HRQ.out _)) (Grs_1.out.below (drewN_below6 (Below.refl _ _) _)) (Gms_1.out.below (drewN_below6 (Below.refl _ _) _))).mono ?_); rintro e V1 ⟨rfl, hb⟩
       have R1 := Lib.hid ((Grs_1.out.below (drewN_below6 (Below.refl _ _) _)).below hb); have I1 := Lib.hid ((Gms_1.out.below (drewN_below6 (Below.refl _ _) _)).below hb); have B1 := Lib.hid ((HRQ.out nq).trans (hb.mono (HRQ.out nq).size)); clear hb HPN)
    | (fail "no arm"))
  have L1 := Lib.hid (slice_len_r R1.out)
  have L2 := Lib.hid (slice_len_i I1.out)
  clear Grs_1 Gms_1 HRQ HE1 HE2
  go_loopw [8, 32] (fun wv kv wr => NRelI V1 m2 m1 wv kv wr) (fun _ kv _ => ((m1 : Int) - intOf kv).toNat)
  case atStart => exact ⟨0, Nat.zero_le _, rfl, rfl, rfl⟩
  case round =>
    obtain ⟨k, hk, rfl, rfl, rfl⟩ := hrel
    have HWI := Lib.hid (wantI_in m2 k)
    by_cases hlt : k < m1
    · have hlt2 : (k : Int) < (m1 : Nat) := by omega
      obtain ⟨z, hget⟩ : ∃ z, m2[k]? = some z := ⟨m2[k]'(by rw [L2.out]; exact hlt), List.getElem?_eq_getElem _⟩
      obtain ⟨ao', cap', he, -, hz⟩ := I1.out
      simp only [Value.slice.injEq] at he
      obtain ⟨rfl, -, rfl⟩ := he
      obtain ⟨-, -, g, o, hao, hc⟩ := hz k z hget
      have HS := Lib.hid (wantI_succ hget)
      have HI := Lib.hid (fun W => ref6.Is_any z W)
      subst hao
      clear hz hget
      generalize wantI m2 k = wi at *
      cases hd : decide (IsDay z)
      all_goals
        rw [hd] at HI HS
        clear hd
        simp only [Bool.false_eq_true, if_false, if_true] at HS
        go_wp2_with (first
          | (go_at_call 45; (with_reducible refine (HI.out _).mono ?_); rintro e w9 ⟨rfl, rfl⟩)
          | (fail "no arm"))
        go_roundw
        case rel => exact ⟨k + 1, by omega, by rw [HS.out], by go_num, rfl⟩
        case measure => simp [intOf] <;> omega
    · have hge : ¬ ((k : Int) < (m1 : Nat)) := by omega
      obtain rfl : k = m1 := by omega
      obtain ⟨c1, hc1⟩ : ∃ c1, wantI m2 k = c1 := ⟨_, rfl⟩
      rw [hc1] at hw2 HWI ⊢
      have HW2 := Lib.hid hw2
      clear hw2 hc1
      go_wp2
      go_loopw [8, 44] (fun wv kv wr => NRelR V1 l2 c1 n1 wv kv wr) (fun _ kv _ => ((n1 : Int) - intOf kv).toNat)
      case atStart => exact ⟨0, Nat.zero_le _, rfl, rfl, Below.refl _ _⟩
      case round =>
        obtain ⟨j, hj, rfl, rfl, hb⟩ := hrel
        have HB := Lib.hid hb
        clear hb
        by_cases hlt : j < n1
        · have hlt2 : (j : Int) < (n1 : Nat) := by omega
          obtain ⟨r, hget⟩ : ∃ r, l2[j]? = some r := ⟨l2[j]'(by rw [L1.out]; exact hlt), List.getElem?_eq_getElem _⟩
          obtain ⟨ao', cap', he, -, hz⟩ := R1.out.below HB.out
          simp only [Value.slice.injEq] at he
          obtain ⟨rfl, -, rfl⟩ := he
          obtain ⟨g, o, hao, k0, k1, k2, k3, k4, k5⟩ := hz j r hget
          have HS := Lib.hid (wantR_succ c1 hget)
          have HI := Lib.hid (fun W => ref6.MayRule_any r W)
          unfold ref6.Rule.val at HI
          subst hao
          clear hz hget
          obtain ⟨kd, mo', d, n, wd, sh⟩ := r
          simp only at k0 k1 k2 k3 k4 k5 HI
          generalize wantR l2 c1 j = wi at *
          cases hd : decide (May ⟨kd, mo', d, n, wd, sh⟩)
          all_goals
            rw [hd] at HI HS
            clear hd
            simp only [Bool.false_eq_true, if_false, if_true] at HS
            go_wp2_with (first
              | (go_at_call 46; (with_reducible refine (HI.out _).mono ?_); rintro e w9 ⟨rfl, hb⟩; have HB9 := Lib.hid (HB.out.trans (hb.mono HB.out.size)); clear hb)
              | (fail "no arm"))
            go_roundw
            case rel => exact ⟨j + 1, by omega, by rw [HS.out], by go_num, HB9.out⟩
            case measure => simp [intOf] <;> omega
        · have hge : ¬ ((j : Int) < (n1 : Nat)) := by omega
          obtain rfl : j = n1 := by omega
          rw [HW2.out]
          have HR9 := Lib.hid (B1.out.trans (HB.out.mono B1.out.size))
          have f1 : 20 < ((j : Nat) : Int) := by omega
          go_wp2_with (first
            | (go_at_call 29; (with_reducible refine (HSm.out _ (HW.out _ HR9.out)).mono ?_); rintro e V9 ⟨rfl, hb⟩; have HE9 := Lib.hid (HR9.out.trans (hb.mono HR9.out.size)); clear hb)
            | (fail "no arm"))
          go_ret
          exact ⟨rfl, HE9.out⟩
set_option maxRecDepth 100000 in
set_option maxHeartbeats 4000000 in
theorem CalNew_b2 (HBg : BegunC) (ro mo : Option Addr) (rc mc : Nat) (l : List Rule) (m : List Int) (l2 : List Rule) (m2 : List Int) (h2 : l.take 25 = l2) (h3 : m.take 110 = m2) (N M n1 m1 : Nat) (hN : l.length = N) (hM : m.length = M) (hn1 : min N 25 = n1) (hm1 : min M 110 = m1) (hrc : N ≤ rc) (hmc : M ≤ mc) (hNl : N ≤ 4611686018427387904) (hMl : M ≤ 4611686018427387904) (c w2 : Int) (hs : n1 ≤ 20) (hs2 : 100 < m1) (hc : c = 2) (hw2 : wantR l2 (wantI m2 m1) n1 = w2)
    (PN : ∀ W, Wd W → RulesO W (.slice ro n1 rc) l2 → IntsO W (.slice mo m1 mc) m2 → Calls Tryz.prog 44 #[.slice ro n1 rc, .slice mo m1 mc] W fun e w' => e = .returned (.tuple #[.pointer none, errOf c]) ∧ Below W.heap.size W w') (w : World) (hw : Wd w) (hr : RulesO w (.slice ro N rc) l) (hm : IntsO w (.slice mo M mc) m) :
    Calls Tryz.prog 10 #[.slice ro N rc, .slice mo M mc] w fun e w' => e = .returned (.bool true) ∧ Below w.heap.size w w' := by
  have HW := Lib.hid (fun W (h : Below w.heap.size w W) => hw.keep h)
  have C1 := Lib.hid (fun (W : World) (hW : Wd W) => HBg W hW)
  have HR0 := Lib.hid (Below.refl w.heap.size w)
  have Grs_0 := Lib.hid (take_rules hr hN h2 hn1)
  have Gms_0 := Lib.hid (take_ints hm hM h3 hm1)
  have HE1 := Lib.hid (show (min (N : Int) 25).toNat = n1 by omega)
  have HE2 := Lib.hid (show (min (M : Int) 110).toNat = m1 by omega)
  subst hc
  have HSm := Lib.hid (fun W (hW : Wd W) => Same_code 2 W hW)
  have HPN := Lib.hid PN
  have n25 : n1 ≤ 25 := by omega
  have m110 : m1 ≤ 110 := by omega
  clear PN hr hm h2 h3 hN hM hn1 hm1
  clear hw
  go_enter Tryz.func10, Tryz.ntmps10
  go_wp2_with (first
    | (go_at_call 17; (with_reducible refine (C1.out _ (HW.out _ HR0.out)).mono ?_); rintro e W1 ⟨rfl, hb⟩
       have Grs_1 := Lib.hid (Grs_0.out.below hb)
       have Gms_1 := Lib.hid (Gms_0.out.below hb)
       have HR1 := Lib.hid (below_tr6 HR0.out hb rfl)
       clear C1 hb)
    | (fail "no arm"))
  have HRQ := Lib.hid (fun n => drewN_below6 HR1.out n)
  go_quiet (fail "no call")
  go_wp2_with (first
    | (go_at_call 44; rw [HE1.out, HE2.out]; (with_reducible refine (HPN.out _ (HW.out _ (HRQ.out _)) (Grs_1.out.below (drewN_below6 (Below.refl _ _) _)) (Gms_1.out.below (drewN_below6 (Below.refl _ _) _))).mono ?_); rintro e V1 ⟨rfl, hb⟩
       have R1 := Lib.hid ((Grs_1.out.below (drewN_below6 (Below.refl _ _) _)).below hb); have I1 := Lib.hid ((Gms_1.out.below (drewN_below6 (Below.refl _ _) _)).below hb); have B1 := Lib.hid ((HRQ.out nq).trans (hb.mono (HRQ.out nq).size)); clear hb HPN)
    | (fail "no arm"))
  have L1 := Lib.hid (slice_len_r R1.out)
  have L2 := Lib.hid (slice_len_i I1.out)
  clear Grs_1 Gms_1 HRQ HE1 HE2
  go_loopw [8, 32] (fun wv kv wr => NRelI V1 m2 m1 wv kv wr) (fun _ kv _ => ((m1 : Int) - intOf kv).toNat)
  case atStart => exact ⟨0, Nat.zero_le _, rfl, rfl, rfl⟩
  case round =>
    obtain ⟨k, hk, rfl, rfl, rfl⟩ := hrel
    have HWI := Lib.hid (wantI_in m2 k)
    by_cases hlt : k < m1
    · have hlt2 : (k : Int) < (m1 : Nat) := by omega
      obtain ⟨z, hget⟩ : ∃ z, m2[k]? = some z := ⟨m2[k]'(by rw [L2.out]; exact hlt), List.getElem?_eq_getElem _⟩
      obtain ⟨ao', cap', he, -, hz⟩ := I1.out
      simp only [Value.slice.injEq] at he
      obtain ⟨rfl, -, rfl⟩ := he
      obtain ⟨-, -, g, o, hao, hc⟩ := hz k z hget
      have HS := Lib.hid (wantI_succ hget)
      have HI := Lib.hid (fun W => ref6.Is_any z W)
      subst hao
      clear hz hget
      generalize wantI m2 k = wi at *
      cases hd : decide (IsDay z)
      all_goals
        rw [hd] at HI HS
        clear hd
        simp only [Bool.false_eq_true, if_false, if_true] at HS
        go_wp2_with (first
          | (go_at_call 45; (with_reducible refine (HI.out _).mono ?_); rintro e w9 ⟨rfl, rfl⟩)
          | (fail "no arm"))
        go_roundw
        case rel => exact ⟨k + 1, by omega, by rw [HS.out], by go_num, rfl⟩
        case measure => simp [intOf] <;> omega
    · have hge : ¬ ((k : Int) < (m1 : Nat)) := by omega
      obtain rfl : k = m1 := by omega
      obtain ⟨c1, hc1⟩ : ∃ c1, wantI m2 k = c1 := ⟨_, rfl⟩
      rw [hc1] at hw2 HWI ⊢
      have HW2 := Lib.hid hw2
      clear hw2 hc1
      go_wp2
      go_loopw [8, 44] (fun wv kv wr => NRelR V1 l2 c1 n1 wv kv wr) (fun _ kv _ => ((n1 : Int) - intOf kv).toNat)
      case atStart => exact ⟨0, Nat.zero_le _, rfl, rfl, Below.refl _ _⟩
      case round =>
        obtain ⟨j, hj, rfl, rfl, hb⟩ := hrel
        have HB := Lib.hid hb
        clear hb
        by_cases hlt : j < n1
        · have hlt2 : (j : Int) < (n1 : Nat) := by omega
          obtain ⟨r, hget⟩ : ∃ r, l2[j]? = some r := ⟨l2[j]'(by rw [L1.out]; exact hlt), List.getElem?_eq_getElem _⟩
          obtain ⟨ao', cap', he, -, hz⟩ := R1.out.below HB.out
          simp only [Value.slice.injEq] at he
          obtain ⟨rfl, -, rfl⟩ := he
          obtain ⟨g, o, hao, k0, k1, k2, k3, k4, k5⟩ := hz j r hget
          have HS := Lib.hid (wantR_succ c1 hget)
          have HI := Lib.hid (fun W => ref6.MayRule_any r W)
          unfold ref6.Rule.val at HI
          subst hao
          clear hz hget
          obtain ⟨kd, mo', d, n, wd, sh⟩ := r
          simp only at k0 k1 k2 k3 k4 k5 HI
          generalize wantR l2 c1 j = wi at *
          cases hd : decide (May ⟨kd, mo', d, n, wd, sh⟩)
          all_goals
            rw [hd] at HI HS
            clear hd
            simp only [Bool.false_eq_true, if_false, if_true] at HS
            go_wp2_with (first
              | (go_at_call 46; (with_reducible refine (HI.out _).mono ?_); rintro e w9 ⟨rfl, hb⟩; have HB9 := Lib.hid (HB.out.trans (hb.mono HB.out.size)); clear hb)
              | (fail "no arm"))
            go_roundw
            case rel => exact ⟨j + 1, by omega, by rw [HS.out], by go_num, HB9.out⟩
            case measure => simp [intOf] <;> omega
        · have hge : ¬ ((j : Int) < (n1 : Nat)) := by omega
          obtain rfl : j = n1 := by omega
          rw [HW2.out]
          have HR9 := Lib.hid (B1.out.trans (HB.out.mono B1.out.size))
          have f1 : ¬ (20 < ((j : Nat) : Int)) := by omega
          have f2 : 100 < ((k : Nat) : Int) := by omega
          go_wp2_with (first
            | (go_at_call 29; (with_reducible refine (HSm.out _ (HW.out _ HR9.out)).mono ?_); rintro e V9 ⟨rfl, hb⟩; have HE9 := Lib.hid (HR9.out.trans (hb.mono HR9.out.size)); clear hb)
            | (fail "no arm"))
          go_ret
          exact ⟨rfl, HE9.out⟩
theorem newCode_big (rs : List Rule) (ms : List Int) (h : 20 < rs.length ∨ 100 < ms.length) : newCode rs ms = 2 := if_pos h
theorem newCode_small (rs : List Rule) (ms : List Int) (h : ¬ (20 < rs.length ∨ 100 < ms.length)) : newCode rs ms = wantR rs (wantI ms ms.length) rs.length := by
  unfold newCode wantR wantI
  rw [if_neg h, List.take_length, List.take_length]
  generalize rs.all (fun r => decide (May r)) = A
  generalize ms.all (fun z => decide (IsDay z)) = B
  cases A <;> cases B <;> rfl
theorem CalNew_walk {IsC : World → Value → List CalT → Prop} (HBg : BegunC) (H : CalC IsC) (ro mo : Option Addr) (N rc M mc : Nat) (l : List Rule) (m : List Int) (hrc : N ≤ rc) (hmc : M ≤ mc) (w : World) (hw : Wd w) (hr : RulesO w (.slice ro N rc) l) (hm : IntsO w (.slice mo M mc) m) :
    Calls Tryz.prog 10 #[.slice ro N rc, .slice mo M mc] w fun e w' => e = .returned (.bool true) ∧ Below w.heap.size w w' := by
  have hN := slice_len_r hr
  have hM := slice_len_i hm
  obtain ⟨l2, h2⟩ : ∃ l2, l.take 25 = l2 := ⟨_, rfl⟩
  obtain ⟨m2, h3⟩ : ∃ m2, m.take 110 = m2 := ⟨_, rfl⟩
  obtain ⟨n1, hn1⟩ : ∃ n1, min N 25 = n1 := ⟨_, rfl⟩
  obtain ⟨m1, hm1⟩ : ∃ m1, min M 110 = m1 := ⟨_, rfl⟩
  have hNl : N ≤ 4611686018427387904 := by obtain ⟨_, _, _, h, _⟩ := hr; omega
  have hMl : M ≤ 4611686018427387904 := by obtain ⟨_, _, _, h, _⟩ := hm; omega
  have e1 := slice_len_r (take_rules hr hN h2 hn1)
  have e2 := slice_len_i (take_ints hm hM h3 hm1)
  have PNo := fun (h : newCode l2 m2 ≠ 0) W hW h1 h2 => H.newNo (.slice ro n1 rc) l2 (.slice mo m1 mc) m2 W hW h1 h2 h
  by_cases hs : 20 < n1
  · have hc := newCode_big l2 m2 (Or.inl (by omega))
    rw [hc] at PNo
    exact CalNew_b1 HBg ro mo rc mc l m l2 m2 h2 h3 N M n1 m1 hN hM hn1 hm1 hrc hmc hNl hMl 2 _ hs rfl rfl (PNo (by decide)) w hw hr hm
  · by_cases hs2 : 100 < m1
    · have hc := newCode_big l2 m2 (Or.inr (by omega))
      rw [hc] at PNo
      exact CalNew_b2 HBg ro mo rc mc l m l2 m2 h2 h3 N M n1 m1 hN hM hn1 hm1 hrc hmc hNl hMl 2 _ (by omega) hs2 rfl rfl (PNo (by decide)) w hw hr hm
    · have hc := newCode_small l2 m2 (by omega)
      rw [e1, e2] at hc
      by_cases h0 : newCode l2 m2 = 0
      · exact CalNew_y HBg ro mo rc mc l m l2 m2 h2 h3 N M n1 m1 hN hM hn1 hm1 hrc hmc hNl hMl (by omega) (by omega) (hc.symm.trans h0)
          (fun W hW h1 h2 => (H.new (.slice ro n1 rc) l2 (.slice mo m1 mc) m2 W hW h1 h2 h0).mono fun e w' ⟨ad, he, _, hb⟩ => ⟨⟨ad, he⟩, hb⟩) w hw hr hm
      · exact CalNew_s HBg ro mo rc mc l m l2 m2 h2 h3 N M n1 m1 hN hM hn1 hm1 hrc hmc hNl hMl (newCode l2 m2) _ (by omega) (by omega) hc h0 rfl (PNo h0) w hw hr hm
end Go.Proofs.YtlhmfgbaefaneaaGreatDoor.law6
