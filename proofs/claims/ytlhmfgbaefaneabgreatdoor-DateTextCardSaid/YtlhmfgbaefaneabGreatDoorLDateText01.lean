/-
  The steps of the walks, part 1: RefDay, RefOf6.
-/
import Derived.Test.YtlhmfgbaefaneabGreatDoorProg
import Derived.WalkKit
import Derived.WalkSpells
import Derived.Lib.Hide
import Derived.OwnWalk
import Derived.Below
import Derived.Carry
import Derived.Outline
import Derived.Deep.Draws
import Derived.BigQuiet
import Derived.Deep.QuietTactic
import Derived.Test.YtlhmfgbaefaneabGreatDoorB01
import Derived.Test.YtlhmfgbaefaneabGreatDoorB02
import Derived.Test.YtlhmfgbaefaneabGreatDoorB03
import Derived.Test.YtlhmfgbaefaneabGreatDoorB04
import Derived.Test.YtlhmfgbaefaneabGreatDoorB05
import Derived.Test.YtlhmfgbaefaneabGreatDoorB06
import Derived.Test.YtlhmfgbaefaneabGreatDoorB07
import Derived.Test.YtlhmfgbaefaneabGreatDoorB08
import Derived.Test.YtlhmfgbaefaneabGreatDoorB09
import Derived.Test.YtlhmfgbaefaneabGreatDoorB10
import Derived.Test.YtlhmfgbaefaneabGreatDoorB11
import Derived.Test.YtlhmfgbaefaneabGreatDoorB12
import Derived.Test.YtlhmfgbaefaneabGreatDoorB13
import Derived.Test.YtlhmfgbaefaneabGreatDoorB14
import Derived.Test.YtlhmfgbaefaneabGreatDoorB15
import Derived.Test.YtlhmfgbaefaneabGreatDoorB16
import Derived.Test.YtlhmfgbaefaneabGreatDoorB17
import Derived.Test.YtlhmfgbaefaneabGreatDoorB18
import Derived.Test.YtlhmfgbaefaneabGreatDoorB19
import Derived.Test.YtlhmfgbaefaneabGreatDoorB20
import Derived.Test.YtlhmfgbaefaneabGreatDoorB21
import Derived.Test.YtlhmfgbaefaneabGreatDoorB22
import Derived.Test.YtlhmfgbaefaneabGreatDoorB23
import Derived.Test.YtlhmfgbaefaneabGreatDoorB24
import Derived.Test.YtlhmfgbaefaneabGreatDoorB25
import Derived.Test.YtlhmfgbaefaneabGreatDoorB26
import Derived.Test.YtlhmfgbaefaneabGreatDoorB27
import Derived.Test.YtlhmfgbaefaneabGreatDoorB28
import Derived.Test.YtlhmfgbaefaneabGreatDoorB29
import Derived.Test.YtlhmfgbaefaneabGreatDoorB30
import Derived.Test.YtlhmfgbaefaneabGreatDoorB31
import Derived.Test.YtlhmfgbaefaneabGreatDoorB32
import Derived.Test.YtlhmfgbaefaneabGreatDoorB33
import Derived.Test.YtlhmfgbaefaneabGreatDoorB34
import Derived.Test.YtlhmfgbaefaneabGreatDoorB35
import Derived.Test.YtlhmfgbaefaneabGreatDoorB36
import Derived.Test.YtlhmfgbaefaneabGreatDoorB37
import Derived.Test.YtlhmfgbaefaneabGreatDoorB38
import Derived.Test.YtlhmfgbaefaneabGreatDoorB39
import Derived.Test.YtlhmfgbaefaneabGreatDoorB40
namespace Go.Proofs.YtlhmfgbaefaneabGreatDoor.ref6
open Go Go.RowKit Go.Proofs.YtlhmfgbaefaneabGreatDoor.day
set_option maxRecDepth 100000 in
set_option maxHeartbeats 4000000 in
theorem Leap_any (y : Int) (w : World) :
    Calls Tryz.prog 80 #[.int .i64 y] w fun e w' => e = .returned (.bool (leap y)) ∧ w = w' := by
  have KEY := Lib.hid (show leap y = (y.tmod 4 == 0 && (y.tmod 100 != 0 || y.tmod 400 == 0)) from by rw [tmod_zero, tmod_ne, tmod_zero]; rfl)
  go_enter Tryz.func80, Tryz.ntmps80
  go_wp2
  all_goals
    go_ret
    refine ⟨?_, rfl⟩
    rw [KEY.out]
    simp [*]
set_option maxRecDepth 100000 in
set_option maxHeartbeats 4000000 in
theorem year_any (y : Int) (w : World) :
    Calls Tryz.prog 103 #[.int .i64 y] w fun e w' => e = .returned (.int .i64 (ylen y)) ∧ w = w' := by
  have HL := Lib.hid (fun W => Leap_any y W)
  cases hl : leap y
  all_goals
    rw [hl] at HL
    have HY := Lib.hid hl
    clear hl
    go_enter Tryz.func103, Tryz.ntmps103
    go_wp2_with (go_at_call 80; (with_reducible refine (HL.out _).mono ?_); rintro e w1 ⟨rfl, rfl⟩; clear HL)
    go_ret
    refine ⟨?_, rfl⟩
    simp [ylen, HY.out]
set_option maxRecDepth 100000 in
set_option maxHeartbeats 4000000 in
theorem Length_any (y m : Int) (w : World) :
    Calls Tryz.prog 41 #[.int .i64 y, .int .i64 m] w fun e w' => e = .returned (.int .i64 (mlen y m)) ∧ w = w' := by
  have HL := Lib.hid (fun W => Leap_any y W)
  cases hl : leap y
  all_goals
    rw [hl] at HL
    have HY := Lib.hid hl
    clear hl
    go_enter Tryz.func41, Tryz.ntmps41
    go_wp2_with (go_at_call 80; (with_reducible refine (HL.out _).mono ?_); rintro e w1 ⟨rfl, rfl⟩; clear HL)
    all_goals
      go_ret
      refine ⟨?_, rfl⟩
      simp only [beq_iff_eq, beq_eq_false_iff_ne, ne_eq] at *
      simp [mlen, HY.out, *]
end Go.Proofs.YtlhmfgbaefaneabGreatDoor.ref6
namespace Go.Proofs.YtlhmfgbaefaneabGreatDoor.ref6
open Go Go.RowKit Go.Proofs.YtlhmfgbaefaneabGreatDoor.day
set_option maxRecDepth 100000 in
set_option maxHeartbeats 4000000 in
theorem Of_yes (y m d : Int) (h : IsCivil y m d) (w : World) :
    Calls Tryz.prog 70 #[.agg #[.int .i64 y, .int .i64 m, .int .i64 d]] w fun e w' => e = .returned (.tuple #[.int .i64 (dayOf y m d), .bool true]) ∧ Below w.heap.size w w' := by
  obtain ⟨h1, h2, h3, h4⟩ := id h
  obtain ⟨m1, m2⟩ := h.month
  have HL := Lib.hid (fun W => Length_any y m W)
  have l31 := mlen_hi y m
  obtain ⟨K, hK⟩ : ∃ K : Nat, y = 1900 + K := ⟨(y - 1900).toNat, by omega⟩
  obtain ⟨M, hM⟩ : ∃ M : Nat, m = M + 1 := ⟨(m - 1).toNat, by omega⟩
  have HE := Lib.hid (show dayOf y m d = ydays K + mdays y M + d - 1 from by unfold dayOf; rw [show (y - 1900).toNat = K by omega, show (m - 1).toNat = M by omega])
  have hK2 : K ≤ 299 := by omega
  have hM2 : M ≤ 11 := by omega
  have HM := Lib.hid (fun W k => Length_any y k W)
  have HY := Lib.hid (fun W k => year_any k W)
  generalize mlen y m = L at *
  have HKK := Lib.hid hK
  have HMM := Lib.hid hM
  clear h hM hK
  go_enter Tryz.func70, Tryz.ntmps70
  go_wp2
  go_quiet (first | (go_at_call 41; with_reducible exact quiet_same (HL.out _)))
  go_wp2
  obtain ⟨V, hV⟩ : ∃ V, V = (w.alloc (.cells #[.int .i64 y, .int .i64 m, .int .i64 d] 48)).drewN nq := ⟨_, rfl⟩
  rw [← hV]
  have HV0 := Lib.hid (show Below w.heap.size w V from by rw [hV]; exact drewN_below6 ((Below.refl _ _).alloc (Nat.le_refl _) _) nq)
  have c0 : V.cell? ⟨w.heap.size, 0, none⟩ = some (.int .i64 y) := by rw [hV]; simp [World.cell?_alloc_new]
  have c1 : V.cell? ⟨w.heap.size, 1, none⟩ = some (.int .i64 m) := by rw [hV]; simp [World.cell?_alloc_new]
  have c2 : V.cell? ⟨w.heap.size, 2, none⟩ = some (.int .i64 d) := by rw [hV]; simp [World.cell?_alloc_new]
  clear hV
  go_loopw [4, 5] (fun nv yv wr => (∃ k : Nat, k ≤ K ∧ nv = .int .i64 (ydays k) ∧ yv = .int .i64 (1900 + (k : Nat))) ∧ V = wr) (fun _ yv _ => (1900 + (K : Nat) - intOf yv).toNat)
  case atStart => exact ⟨⟨0, Nat.zero_le _, rfl, rfl⟩, rfl⟩
  case round =>
    obtain ⟨⟨k, hk, rfl, rfl⟩, rfl⟩ := hrel
    obtain ⟨b1, b2⟩ := ydays_hi (show k ≤ 300 by omega)
    by_cases hlt : k < K
    · have hg : (1900 : Int) + (k : Nat) < y := by have := HKK.out; omega
      have b3 := ylen_lo (1900 + (k : Nat))
      have b4 := ylen_hi (1900 + (k : Nat))
      have HS := Lib.hid (ydays_succ k)
      have HY1 := Lib.hid (fun W => HY.out W (1900 + (k : Nat)))
      clear HY
      generalize ylen (1900 + (k : Nat)) = yl at *
      generalize hyd : ydays k = n at *
      clear hyd
      go_wp2_with (go_at_call 103; (with_reducible refine (HY1.out _).mono ?_); rintro e w1 ⟨rfl, rfl⟩; clear HY1)
      go_roundw
      case rel => exact ⟨⟨k + 1, by omega, by rw [HS.out], by go_num⟩, trivial⟩
      case measure => simp [intOf] <;> omega
    · have hg : ¬ (1900 : Int) + (k : Nat) < y := by have := HKK.out; omega
      obtain rfl : k = K := by omega
      go_wp2
      go_loopw [4, 6] (fun nv mv wr => (∃ j : Nat, j ≤ M ∧ nv = .int .i64 (ydays k + mdays y j) ∧ mv = .int .i64 ((j : Nat) + 1)) ∧ V = wr) (fun _ mv _ => ((M : Nat) + 1 - intOf mv).toNat)
      case atStart => exact ⟨⟨0, Nat.zero_le _, by simp [mdays], rfl⟩, rfl⟩
      case round =>
        obtain ⟨⟨j, hj, rfl, rfl⟩, rfl⟩ := hrel
        obtain ⟨b5, b6⟩ := mdays_hi (y := y) (show j ≤ 12 by omega)
        by_cases hlt2 : j < M
        · have hg2 : (j : Int) + 1 < m := by have := HMM.out; omega
          have b3 := mlen_nn y ((j : Nat) + 1)
          have b4 := mlen_hi y ((j : Nat) + 1)
          have HS := Lib.hid (mdays_succ y j)
          have HM1 := Lib.hid (fun W => HM.out W ((j : Nat) + 1))
          clear HM
          generalize mlen y ((j : Nat) + 1) = ml at *
          generalize hyd : mdays y j = n at *
          generalize hyd2 : ydays k = n2 at *
          clear hyd hyd2
          go_wp2_with (go_at_call 41; (with_reducible refine (HM1.out _).mono ?_); rintro e w1 ⟨rfl, rfl⟩; clear HM1)
          go_roundw
          case rel => exact ⟨⟨j + 1, by omega, by rw [HS.out]; go_num, by go_num⟩, trivial⟩
          case measure => simp [intOf] <;> omega
        · have hg2 : ¬ (j : Int) + 1 < m := by have := HMM.out; omega
          obtain rfl : j = M := by omega
          generalize hyd : mdays y j = n at *
          generalize hyd2 : ydays k = n2 at *
          clear hyd hyd2
          go_wp2
          go_ret2
          exact ⟨by rw [HE.out]; go_num, HV0.out⟩
set_option maxRecDepth 100000 in
set_option maxHeartbeats 4000000 in
theorem Of_no (y m d : Int) (h : ¬ IsCivil y m d) (w : World) :
    Calls Tryz.prog 70 #[.agg #[.int .i64 y, .int .i64 m, .int .i64 d]] w fun e w' => e = .returned (.tuple #[.int .i64 0, .bool false]) ∧ Below w.heap.size w w' := by
  have HL := Lib.hid (fun W => Length_any y m W)
  unfold IsCivil at h
  generalize mlen y m = L at *
  rcases (show (y < 1900 ∧ decide (y < 1900) = true) ∨ (decide (y < 1900) = false ∧ decide (2199 < y) = true) ∨ (decide (y < 1900) = false ∧ decide (2199 < y) = false ∧ decide (d < 1) = true) ∨ (decide (y < 1900) = false ∧ decide (2199 < y) = false ∧ decide (d < 1) = false ∧ decide (L < d) = true) by simp only [decide_eq_true_eq, decide_eq_false_iff_not]; omega) with ⟨-, d1⟩ | ⟨d1, d2⟩ | ⟨d1, d2, d3⟩ | ⟨d1, d2, d3, d4⟩
  all_goals
    clear h
    go_enter Tryz.func70, Tryz.ntmps70
    go_wp2
    go_quiet (first | (go_at_call 41; with_reducible exact quiet_same (HL.out _)))
    go_wp2
    go_ret2
    exact ⟨rfl, drewN_below6 ((Below.refl _ _).alloc (Nat.le_refl _) _) nq⟩
end Go.Proofs.YtlhmfgbaefaneabGreatDoor.ref6
