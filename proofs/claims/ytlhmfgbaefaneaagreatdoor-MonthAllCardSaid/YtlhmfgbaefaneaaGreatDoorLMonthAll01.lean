/-
  The steps of the walks, part 1: RefDay, RefOf6, RefCivil6, RefDate6.
-/
import Derived.Test.YtlhmfgbaefaneaaGreatDoorProg
import Derived.WalkKit
import Derived.WalkSpells
import Derived.Lib.Hide
import Derived.OwnWalk
import Derived.Below
import Derived.Carry
import Derived.Outline
import Derived.Deep.Draws
import Derived.BigQuiet
import Derived.Deep.QuietTactic
import Derived.Laws.Rows
import Derived.Test.YtlhmfgbaefaneaaGreatDoorB01
import Derived.Test.YtlhmfgbaefaneaaGreatDoorB02
import Derived.Test.YtlhmfgbaefaneaaGreatDoorB03
import Derived.Test.YtlhmfgbaefaneaaGreatDoorB04
import Derived.Test.YtlhmfgbaefaneaaGreatDoorB05
import Derived.Test.YtlhmfgbaefaneaaGreatDoorB06
import Derived.Test.YtlhmfgbaefaneaaGreatDoorB07
import Derived.Test.YtlhmfgbaefaneaaGreatDoorB08
import Derived.Test.YtlhmfgbaefaneaaGreatDoorB09
import Derived.Test.YtlhmfgbaefaneaaGreatDoorB10
import Derived.Test.YtlhmfgbaefaneaaGreatDoorB11
import Derived.Test.YtlhmfgbaefaneaaGreatDoorB12
import Derived.Test.YtlhmfgbaefaneaaGreatDoorB13
import Derived.Test.YtlhmfgbaefaneaaGreatDoorB14
import Derived.Test.YtlhmfgbaefaneaaGreatDoorB15
import Derived.Test.YtlhmfgbaefaneaaGreatDoorB16
import Derived.Test.YtlhmfgbaefaneaaGreatDoorB17
import Derived.Test.YtlhmfgbaefaneaaGreatDoorB18
import Derived.Test.YtlhmfgbaefaneaaGreatDoorB19
import Derived.Test.YtlhmfgbaefaneaaGreatDoorB20
import Derived.Test.YtlhmfgbaefaneaaGreatDoorB21
import Derived.Test.YtlhmfgbaefaneaaGreatDoorB22
namespace Go.Proofs.YtlhmfgbaefaneaaGreatDoor.ref6
open Go Go.RowKit Go.Proofs.YtlhmfgbaefaneaaGreatDoor.day
set_option maxRecDepth 100000 in
set_option maxHeartbeats 4000000 in
theorem Leap_any (y : Int) (w : World) :
    Calls Tryz.prog 32 #[.int .i64 y] w fun e w' => e = .returned (.bool (leap y)) ∧ w = w' := by
  have KEY := Lib.hid (show leap y = (y.tmod 4 == 0 && (y.tmod 100 != 0 || y.tmod 400 == 0)) from by rw [tmod_zero, tmod_ne, tmod_zero]; rfl)
  go_enter Tryz.func32, Tryz.ntmps32
  go_wp2
  all_goals
    go_ret
    refine ⟨?_, rfl⟩
    rw [KEY.out]
    simp [*]
set_option maxRecDepth 100000 in
set_option maxHeartbeats 4000000 in
theorem year_any (y : Int) (w : World) :
    Calls Tryz.prog 74 #[.int .i64 y] w fun e w' => e = .returned (.int .i64 (ylen y)) ∧ w = w' := by
  have HL := Lib.hid (fun W => Leap_any y W)
  cases hl : leap y
  all_goals
    rw [hl] at HL
    have HY := Lib.hid hl
    clear hl
    go_enter Tryz.func74, Tryz.ntmps74
    go_wp2_with (go_at_call 32; (with_reducible refine (HL.out _).mono ?_); rintro e w1 ⟨rfl, rfl⟩; clear HL)
    go_ret
    refine ⟨?_, rfl⟩
    simp [ylen, HY.out]
set_option maxRecDepth 100000 in
set_option maxHeartbeats 4000000 in
theorem Length_any (y m : Int) (w : World) :
    Calls Tryz.prog 34 #[.int .i64 y, .int .i64 m] w fun e w' => e = .returned (.int .i64 (mlen y m)) ∧ w = w' := by
  have HL := Lib.hid (fun W => Leap_any y W)
  cases hl : leap y
  all_goals
    rw [hl] at HL
    have HY := Lib.hid hl
    clear hl
    go_enter Tryz.func34, Tryz.ntmps34
    go_wp2_with (go_at_call 32; (with_reducible refine (HL.out _).mono ?_); rintro e w1 ⟨rfl, rfl⟩; clear HL)
    all_goals
      go_ret
      refine ⟨?_, rfl⟩
      simp only [beq_iff_eq, beq_eq_false_iff_ne, ne_eq] at *
      simp [mlen, HY.out, *]
end Go.Proofs.YtlhmfgbaefaneaaGreatDoor.ref6
namespace Go.Proofs.YtlhmfgbaefaneaaGreatDoor.ref6
open Go Go.RowKit Go.Proofs.YtlhmfgbaefaneaaGreatDoor.day
set_option maxRecDepth 100000 in
set_option maxHeartbeats 4000000 in
theorem Of_yes (y m d : Int) (h : IsCivil y m d) (w : World) :
    Calls Tryz.prog 28 #[.agg #[.int .i64 y, .int .i64 m, .int .i64 d]] w fun e w' => e = .returned (.tuple #[.int .i64 (dayOf y m d), .bool true]) ∧ Below w.heap.size w w' := by
  obtain ⟨h1, h2, h3, h4⟩ := id h
  obtain ⟨m1, m2⟩ := h.month
  have HL := Lib.hid (fun W => Length_any y m W)
  have l31 := mlen_hi y m
  obtain ⟨K, hK⟩ : ∃ K : Nat, y = 1900 + K := ⟨(y - 1900).toNat, by omega⟩
  obtain ⟨M, hM⟩ : ∃ M : Nat, m = M + 1 := ⟨(m - 1).toNat, by omega⟩
  have HE := Lib.hid (show dayOf y m d = ydays K + mdays y M + d - 1 from by unfold dayOf; rw [show (y - 1900).toNat = K by omega, show (m - 1).toNat = M by omega])
  have hK2 : K ≤ 299 := by omega
  have hM2 : M ≤ 11 := by omega
  have HM := Lib.hid (fun W k => Length_any y k W)
  have HY := Lib.hid (fun W k => year_any k W)
  generalize mlen y m = L at *
  have HKK := Lib.hid hK
  have HMM := Lib.hid hM
  clear h hM hK
  go_enter Tryz.func28, Tryz.ntmps28
  go_wp2
  go_quiet (first | (go_at_call 34; with_reducible exact quiet_same (HL.out _)))
  go_wp2
  obtain ⟨V, hV⟩ : ∃ V, V = (w.alloc (.cells #[.int .i64 y, .int .i64 m, .int .i64 d] 23)).drewN nq := ⟨_, rfl⟩
  rw [← hV]
  have HV0 := Lib.hid (show Below w.heap.size w V from by rw [hV]; exact drewN_below6 ((Below.refl _ _).alloc (Nat.le_refl _) _) nq)
  have c0 : V.cell? ⟨w.heap.size, 0, none⟩ = some (.int .i64 y) := by rw [hV]; simp [World.cell?_alloc_new]
  have c1 : V.cell? ⟨w.heap.size, 1, none⟩ = some (.int .i64 m) := by rw [hV]; simp [World.cell?_alloc_new]
  have c2 : V.cell? ⟨w.heap.size, 2, none⟩ = some (.int .i64 d) := by rw [hV]; simp [World.cell?_alloc_new]
  clear hV
  go_loopw [4, 5] (fun nv yv wr => (∃ k : Nat, k ≤ K ∧ nv = .int .i64 (ydays k) ∧ yv = .int .i64 (1900 + (k : Nat))) ∧ V = wr) (fun _ yv _ => (1900 + (K : Nat) - intOf yv).toNat)
  case atStart => exact ⟨⟨0, Nat.zero_le _, rfl, rfl⟩, rfl⟩
  case round =>
    obtain ⟨⟨k, hk, rfl, rfl⟩, rfl⟩ := hrel
    obtain ⟨b1, b2⟩ := ydays_hi (show k ≤ 300 by omega)
    by_cases hlt : k < K
    · have hg : (1900 : Int) + (k : Nat) < y := by have := HKK.out; omega
      have b3 := ylen_lo (1900 + (k : Nat))
      have b4 := ylen_hi (1900 + (k : Nat))
      have HS := Lib.hid (ydays_succ k)
      have HY1 := Lib.hid (fun W => HY.out W (1900 + (k : Nat)))
      clear HY
      generalize ylen (1900 + (k : Nat)) = yl at *
      generalize hyd : ydays k = n at *
      clear hyd
      go_wp2_with (go_at_call 74; (with_reducible refine (HY1.out _).mono ?_); rintro e w1 ⟨rfl, rfl⟩; clear HY1)
      go_roundw
      case rel => exact ⟨⟨k + 1, by omega, by rw [HS.out], by go_num⟩, trivial⟩
      case measure => simp [intOf] <;> omega
    · have hg : ¬ (1900 : Int) + (k : Nat) < y := by have := HKK.out; omega
      obtain rfl : k = K := by omega
      go_wp2
      go_loopw [4, 6] (fun nv mv wr => (∃ j : Nat, j ≤ M ∧ nv = .int .i64 (ydays k + mdays y j) ∧ mv = .int .i64 ((j : Nat) + 1)) ∧ V = wr) (fun _ mv _ => ((M : Nat) + 1 - intOf mv).toNat)
      case atStart => exact ⟨⟨0, Nat.zero_le _, by simp [mdays], rfl⟩, rfl⟩
      case round =>
        obtain ⟨⟨j, hj, rfl, rfl⟩, rfl⟩ := hrel
        obtain ⟨b5, b6⟩ := mdays_hi (y := y) (show j ≤ 12 by omega)
        by_cases hlt2 : j < M
        · have hg2 : (j : Int) + 1 < m := by have := HMM.out; omega
          have b3 := mlen_nn y ((j : Nat) + 1)
          have b4 := mlen_hi y ((j : Nat) + 1)
          have HS := Lib.hid (mdays_succ y j)
          have HM1 := Lib.hid (fun W => HM.out W ((j : Nat) + 1))
          clear HM
          generalize mlen y ((j : Nat) + 1) = ml at *
          generalize hyd : mdays y j = n at *
          generalize hyd2 : ydays k = n2 at *
          clear hyd hyd2
          go_wp2_with (go_at_call 34; (with_reducible refine (HM1.out _).mono ?_); rintro e w1 ⟨rfl, rfl⟩; clear HM1)
          go_roundw
          case rel => exact ⟨⟨j + 1, by omega, by rw [HS.out]; go_num, by go_num⟩, trivial⟩
          case measure => simp [intOf] <;> omega
        · have hg2 : ¬ (j : Int) + 1 < m := by have := HMM.out; omega
          obtain rfl : j = M := by omega
          generalize hyd : mdays y j = n at *
          generalize hyd2 : ydays k = n2 at *
          clear hyd hyd2
          go_wp2
          go_ret2
          exact ⟨by rw [HE.out]; go_num, HV0.out⟩
set_option maxRecDepth 100000 in
set_option maxHeartbeats 4000000 in
theorem Of_no (y m d : Int) (h : ¬ IsCivil y m d) (w : World) :
    Calls Tryz.prog 28 #[.agg #[.int .i64 y, .int .i64 m, .int .i64 d]] w fun e w' => e = .returned (.tuple #[.int .i64 0, .bool false]) ∧ Below w.heap.size w w' := by
  have HL := Lib.hid (fun W => Length_any y m W)
  unfold IsCivil at h
  generalize mlen y m = L at *
  rcases (show (y < 1900 ∧ decide (y < 1900) = true) ∨ (decide (y < 1900) = false ∧ decide (2199 < y) = true) ∨ (decide (y < 1900) = false ∧ decide (2199 < y) = false ∧ decide (d < 1) = true) ∨ (decide (y < 1900) = false ∧ decide (2199 < y) = false ∧ decide (d < 1) = false ∧ decide (L < d) = true) by simp only [decide_eq_true_eq, decide_eq_false_iff_not]; omega) with ⟨-, d1⟩ | ⟨d1, d2⟩ | ⟨d1, d2, d3⟩ | ⟨d1, d2, d3, d4⟩
  all_goals
    clear h
    go_enter Tryz.func28, Tryz.ntmps28
    go_wp2
    go_quiet (first | (go_at_call 34; with_reducible exact quiet_same (HL.out _)))
    go_wp2
    go_ret2
    exact ⟨rfl, drewN_below6 ((Below.refl _ _).alloc (Nat.le_refl _) _) nq⟩
end Go.Proofs.YtlhmfgbaefaneaaGreatDoor.ref6
namespace Go.Proofs.YtlhmfgbaefaneaaGreatDoor.ref6
open Go Go.RowKit Go.Proofs.YtlhmfgbaefaneaaGreatDoor.day
def YRel (n : Int) (B K : Nat) (w : World) (dv : Value) (wr : World) : Prop :=
  (∃ k : Nat, k ≤ K ∧ dv = .int .i64 (n - ydays k) ∧ CAt wr (B + 1) (1900 + (k : Nat)) 1 0) ∧ CAt wr B 0 0 0 ∧ Below B w wr
def MRel (n y : Int) (B M : Nat) (w : World) (dv : Value) (wr : World) : Prop :=
  (∃ j : Nat, j ≤ M ∧ dv = .int .i64 (n - mdays y j) ∧ CAt wr (B + 1) y ((j : Nat) + 1) 0) ∧ CAt wr B 0 0 0 ∧ Below B w wr
set_option maxRecDepth 100000 in
set_option maxHeartbeats 4000000 in
theorem Civil_at (y m d : Int) (h : IsCivil y m d) (w : World) :
    Calls Tryz.prog 21 #[.int .i64 (dayOf y m d)] w fun e w' => e = .returned (.agg #[.int .i64 y, .int .i64 m, .int .i64 d]) ∧ Below w.heap.size w w' := by
  obtain ⟨h1, h2, h3, h4⟩ := id h
  obtain ⟨m1, m2⟩ := h.month
  have l31 := mlen_hi y m
  obtain ⟨K, rfl⟩ : ∃ K : Nat, y = 1900 + K := ⟨(y - 1900).toNat, by omega⟩
  obtain ⟨M, rfl⟩ : ∃ M : Nat, m = M + 1 := ⟨(m - 1).toNat, by omega⟩
  have e1 : ((1900 : Int) + (K : Nat) - 1900).toNat = K := by omega
  have e2 : (((M : Nat) : Int) + 1 - 1).toNat = M := by omega
  have e3 : (((M : Nat) : Int) + 1).toNat = M + 1 := by omega
  have hE : dayOf (1900 + (K : Nat)) ((M : Nat) + 1) d = ydays K + mdays (1900 + (K : Nat)) M + d - 1 := by unfold dayOf; rw [e1, e2]
  have hyr := dayOf_year h
  rw [e1] at hyr
  have hyi := dayOf_in h
  rw [e1, e2, e3] at hyi
  have hK2 : K ≤ 299 := by omega
  have hM2 : M ≤ 11 := by omega
  have hn1 := (dayOf_isDay h).1
  have hn2 := (dayOf_isDay h).2
  have HM := Lib.hid (fun W k => Length_any (1900 + (K : Nat)) k W)
  have HY := Lib.hid (fun W k => year_any k W)
  have HE := Lib.hid hE
  have HYR := Lib.hid hyr
  have HYI := Lib.hid hyi
  clear h hE hyr hyi e1 e2 e3 h4 l31 h1 h2 m1 m2
  generalize dayOf (1900 + (K : Nat)) ((M : Nat) + 1) d = n at *
  go_enter Tryz.func21, Tryz.ntmps21
  go_wp2
  go_loopw [0] (fun dv wr => YRel n w.heap.size K w dv wr) (fun dv _ => (intOf dv).toNat)
  case atStart =>
    have e : (w.alloc (.cells #[.int .i64 0, .int .i64 0, .int .i64 0] 23)).heap.size = w.heap.size + 1 := alloc_size _ _
    have h := CAt.new (w.alloc (.cells #[.int .i64 0, .int .i64 0, .int .i64 0] 23)) 1900 1 0
    rw [e] at h
    exact ⟨⟨0, Nat.zero_le _, by simp [ydays], h⟩, (CAt.new w 0 0 0).below ((Below.refl _ _).alloc (Nat.le_refl _) _), ((Below.refl _ _).alloc (Nat.le_refl _) _).alloc (by omega) _⟩
  case round =>
    obtain ⟨⟨k, hk, rfl, hc⟩, ha, hb⟩ := hrel
    obtain ⟨c0, c1, c2, f0, f1, f2⟩ := hc.cells
    have HC := Lib.hid hc
    have HA := Lib.hid ha
    have HB := Lib.hid hb
    obtain ⟨b1, b2⟩ := ydays_hi (show k ≤ 300 by omega)
    obtain ⟨b3, b4⟩ := ydays_hi (show k + 1 ≤ 300 by omega)
    have b5 := ylen_lo (1900 + (k : Nat))
    have b6 := ylen_hi (1900 + (k : Nat))
    have HS := Lib.hid (ydays_succ k)
    have HY1 := Lib.hid (fun W => HY.out W (1900 + (k : Nat)))
    clear hc ha hb HY
    by_cases hlt : k < K
    · have hg : ylen (1900 + (k : Nat)) ≤ n - ydays k := by
        have h5 := ydays_mono (show k + 1 ≤ K by omega)
        have := HYR.out.1
        rw [HS.out] at h5
        omega
      have HG := Lib.hid hg
      generalize ylen (1900 + (k : Nat)) = yl at *
      generalize hyd : ydays k = n0 at *
      clear hyd
      go_wp2_with (go_at_call 74; (with_reducible refine (HY1.out _).mono ?_); rintro e w1 ⟨rfl, rfl⟩)
      go_roundw
      case rel => exact ⟨⟨k + 1, by omega, by rw [HS.out]; go_num, by have := HC.out.set0 (1900 + (k : Nat) + 1); rwa [show (1900 : Int) + (k : Nat) + 1 = 1900 + ((k + 1 : Nat) : Int) by omega] at this⟩, HA.out.far _ _ (by simp only; omega), HB.out.setCell (by simp only; omega) _⟩
      case measure => simp [intOf] <;> omega
    · obtain rfl : k = K := by omega
      have hg : n - ydays k < ylen (1900 + (k : Nat)) := by
        have := HYR.out.2
        rw [HS.out] at this
        omega
      go_wp2_with (go_at_call 74; (with_reducible refine (HY1.out _).mono ?_); rintro e w1 ⟨rfl, rfl⟩; clear HY1)
      clear HS
      generalize ylen (1900 + (k : Nat)) = yl at *
      go_loopw [0] (fun dv wr => MRel (n - ydays k) (1900 + (k : Nat)) w.heap.size M w dv wr) (fun dv _ => (intOf dv).toNat)
      case atStart => exact ⟨⟨0, Nat.zero_le _, by simp [mdays], HC.out⟩, HA.out, HB.out⟩
      case round =>
        obtain ⟨⟨j, hj, rfl, hc⟩, ha, hb⟩ := hrel
        clear c0 c1 c2 f0 f1 f2 HC HA HB
        obtain ⟨c0, c1, c2, f0, f1, f2⟩ := hc.cells
        have HC := Lib.hid hc
        have HA := Lib.hid ha
        have HB := Lib.hid hb
        obtain ⟨a0, a1, a2, g0, g1, g2⟩ := ha.cells
        obtain ⟨b1, b2⟩ := mdays_hi (y := 1900 + (k : Nat)) (show j ≤ 12 by omega)
        have b5 := mlen_nn (1900 + (k : Nat)) ((j : Nat) + 1)
        have b6 := mlen_hi (1900 + (k : Nat)) ((j : Nat) + 1)
        have HS := Lib.hid (mdays_succ (1900 + (k : Nat)) j)
        have HM1 := Lib.hid (fun W => HM.out W ((j : Nat) + 1))
        clear hc ha hb HM
        by_cases hlt : j < M
        · have b7 : 28 ≤ mlen (1900 + (k : Nat)) ((j : Nat) + 1) := mlen_lo (by omega) (by omega)
          have hg : mlen (1900 + (k : Nat)) ((j : Nat) + 1) ≤ n - ydays k - mdays (1900 + (k : Nat)) j := by
            have h5 := mdays_mono (y := 1900 + (k : Nat)) (show j + 1 ≤ M by omega)
            have := HYI.out.1
            rw [HS.out] at h5
            omega
          generalize mlen (1900 + (k : Nat)) ((j : Nat) + 1) = ml at *
          generalize hyd : mdays (1900 + (k : Nat)) j = n1 at *
          generalize hyd2 : ydays k = n0 at *
          clear hyd hyd2
          go_wp2_with (go_at_call 34; (with_reducible refine (HM1.out _).mono ?_); rintro e w1 ⟨rfl, rfl⟩)
          go_roundw
          case rel => exact ⟨⟨j + 1, by omega, by rw [HS.out]; go_num, by have := HC.out.set1 ((j : Nat) + 1 + 1); rwa [show ((j : Nat) : Int) + 1 + 1 = ((j + 1 : Nat) : Int) + 1 by omega] at this⟩, HA.out.far _ _ (by simp only; omega), HB.out.setCell (by simp only; omega) _⟩
          case measure => simp [intOf] <;> omega
        · obtain rfl : j = M := by omega
          have hg : n - ydays k - mdays (1900 + (k : Nat)) j < mlen (1900 + (k : Nat)) ((j : Nat) + 1) := by
            have := HYI.out.2
            rw [HS.out] at this
            omega
          have hd : n - ydays k - mdays (1900 + (k : Nat)) j + 1 = d := by have := HE.out; omega
          have HD := Lib.hid hd
          clear hd
          generalize mlen (1900 + (k : Nat)) ((j : Nat) + 1) = ml at *
          generalize hyd : mdays (1900 + (k : Nat)) j = n1 at *
          generalize hyd2 : ydays k = n0 at *
          clear hyd hyd2
          go_wp2_with (go_at_call 34; (with_reducible refine (HM1.out _).mono ?_); rintro e w1 ⟨rfl, rfl⟩)
          obtain ⟨q0, q1, q2, -⟩ := ((((HA.out.far ⟨w.heap.size + 1, 2, none⟩ (.int .i64 (n - n0 - n1 + 1)) (by simp only; omega)).set0 (1900 + (k : Nat))).set1 ((j : Nat) + 1)).set2 (n - n0 - n1 + 1)).cells
          refine bodyPost_ret (v := .agg #[.int .i64 (1900 + (k : Nat)), .int .i64 ((j : Nat) + 1), .int .i64 (n - n0 - n1 + 1)]) ?_ rfl ?_
          · simp [results, Tryz.results21, go_sem, q0, q1, q2]
          · exact ⟨by rw [HD.out], (((HB.out.setCell (by simp only; omega) _).setCell (Nat.le_refl _) _).setCell (Nat.le_refl _) _).setCell (Nat.le_refl _) _⟩
end Go.Proofs.YtlhmfgbaefaneaaGreatDoor.ref6
namespace Go.Proofs.YtlhmfgbaefaneaaGreatDoor.ref6
open Go Go.RowKit Go.Proofs.YtlhmfgbaefaneaaGreatDoor.day
set_option maxRecDepth 100000 in
set_option maxHeartbeats 4000000 in
theorem Is_any (n : Int) (w : World) :
    Calls Tryz.prog 45 #[.int .i64 n] w fun e w' => e = .returned (.bool (decide (IsDay n))) ∧ w = w' := by
  have HD := Lib.hid (show decide (IsDay n) = (decide (0 ≤ n) && decide (n ≤ 109572)) from by rw [Bool.eq_iff_iff, Bool.and_eq_true, decide_eq_true_iff, decide_eq_true_iff, decide_eq_true_iff]; rfl)
  go_enter Tryz.func45, Tryz.ntmps45
  go_wp2
  all_goals
    go_ret
    refine ⟨?_, rfl⟩
    rw [HD.out]
    simp [*] <;> omega
theorem Is_yes {n : Int} (h : IsDay n) (w : World) : Calls Tryz.prog 45 #[.int .i64 n] w fun e w' => e = .returned (.bool true) ∧ w = w' := by
  have := Is_any n w
  rwa [decide_eq_true h] at this
theorem Is_not {n : Int} (h : ¬ IsDay n) (w : World) : Calls Tryz.prog 45 #[.int .i64 n] w fun e w' => e = .returned (.bool false) ∧ w = w' := by
  have := Is_any n w
  rwa [decide_eq_false h] at this
set_option maxRecDepth 100000 in
set_option maxHeartbeats 4000000 in
theorem Last_at (y m d : Int) (h : IsCivil y m d) (w : World) :
    Calls Tryz.prog 39 #[.int .i64 (dayOf y m d)] w fun e w' => e = .returned (.bool (decide (d = mlen y m))) ∧ Below w.heap.size w w' := by
  have HC := Lib.hid (fun W => Civil_at y m d h W)
  have HL := Lib.hid (fun W => Length_any y m W)
  generalize dayOf y m d = n at *
  generalize mlen y m = L at *
  clear h
  go_enter Tryz.func39, Tryz.ntmps39
  go_wp2_with (first | (go_at_call 21; (with_reducible refine (HC.out _).mono ?_); rintro e w1 ⟨rfl, hb⟩; have HB := Lib.hid hb; clear hb HC))
  go_quiet (first | (go_at_call 34; with_reducible exact quiet_same (HL.out _)))
  go_wp2
  go_ret
  exact ⟨rfl, drewN_below6 (HB.out.alloc HB.out.size _) nq⟩
set_option maxRecDepth 100000 in
set_option maxHeartbeats 4000000 in
theorem Between_at (y m d : Int) (h : IsCivil y m d) (y' m' d' : Int) (h' : IsCivil y' m' d') (w : World) :
    Calls Tryz.prog 41 #[.int .i64 (dayOf y m d), .int .i64 (dayOf y' m' d')] w fun e w' => e = .returned (.int .i64 (12 * (y' - y) + m' - m)) ∧ Below w.heap.size w w' := by
  have HC := Lib.hid (fun W => Civil_at y m d h W)
  have HC' := Lib.hid (fun W => Civil_at y' m' d' h' W)
  have HI := Lib.hid (fun W => Is_yes (dayOf_isDay h) W)
  have HI' := Lib.hid (fun W => Is_yes (dayOf_isDay h') W)
  obtain ⟨a1, a2, -⟩ := id h
  obtain ⟨b1, b2, -⟩ := id h'
  obtain ⟨a3, a4⟩ := h.month
  obtain ⟨b3, b4⟩ := h'.month
  clear h h'
  generalize dayOf y m d = n at *
  generalize dayOf y' m' d' = n' at *
  go_enter Tryz.func41, Tryz.ntmps41
  go_wp2_with (first
    | (go_at_call 45; (with_reducible refine (HI.out _).mono ?_); rintro e w1 ⟨rfl, rfl⟩; clear HI)
    | (go_at_call 45; (with_reducible refine (HI'.out _).mono ?_); rintro e w1 ⟨rfl, rfl⟩; clear HI')
    | (go_at_call 21; (with_reducible refine (HC.out _).mono ?_); rintro e w1 ⟨rfl, hb⟩; have HB := Lib.hid hb; clear hb HC)
    | (go_at_call 21; (with_reducible refine (HC'.out _).mono ?_); rintro e w2 ⟨rfl, hb⟩; have HB2 := Lib.hid (HB.out.trans (hb.mono HB.out.size)); clear hb HC')
    | (fail "no arm"))
  go_ret
  exact ⟨by go_num, (HB2.out.alloc HB2.out.size _).alloc (by have := HB2.out.size; rw [alloc_size]; omega) _⟩
set_option maxRecDepth 100000 in
set_option maxHeartbeats 4000000 in
theorem Between_no (a b : Int) (h : ¬ (IsDay a ∧ IsDay b)) (w : World) :
    Calls Tryz.prog 41 #[.int .i64 a, .int .i64 b] w fun e w' => e = .returned (.int .i64 0) ∧ w = w' := by
  by_cases h1 : IsDay a
  · have HI := Lib.hid (fun W => Is_yes h1 W)
    have HI' := Lib.hid (fun W => Is_not (fun hb => h ⟨h1, hb⟩) W)
    clear h h1
    go_enter Tryz.func41, Tryz.ntmps41
    go_wp2_with (first
      | (go_at_call 45; (with_reducible refine (HI.out _).mono ?_); rintro e w1 ⟨rfl, rfl⟩; clear HI)
      | (go_at_call 45; (with_reducible refine (HI'.out _).mono ?_); rintro e w1 ⟨rfl, rfl⟩; clear HI')
      | (fail "no arm"))
    go_ret
    exact ⟨rfl, rfl⟩
  · have HI := Lib.hid (fun W => Is_not h1 W)
    clear h h1
    go_enter Tryz.func41, Tryz.ntmps41
    go_wp2_with (first
      | (go_at_call 45; (with_reducible refine (HI.out _).mono ?_); rintro e w1 ⟨rfl, rfl⟩; clear HI)
      | (fail "no arm"))
    go_ret
    exact ⟨rfl, rfl⟩
end Go.Proofs.YtlhmfgbaefaneaaGreatDoor.ref6
