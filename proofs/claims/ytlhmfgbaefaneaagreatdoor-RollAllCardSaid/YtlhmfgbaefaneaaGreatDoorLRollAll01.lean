/-
  The steps of the walks, part 1: RefDay, RefOf6, RefCivil6, RefDate6, Code, Law6Kit, RefRule6, RefNth6, RefEaster6.
-/
import Derived.Test.YtlhmfgbaefaneaaGreatDoorProg
import Derived.WalkKit
import Derived.WalkSpells
import Derived.Lib.Hide
import Derived.OwnWalk
import Derived.Below
import Derived.Carry
import Derived.Outline
import Derived.Deep.Draws
import Derived.BigQuiet
import Derived.Deep.QuietTactic
import Derived.Laws.Rows
import Derived.Laws.BitsLemmas
import Derived.Laws.AppendOwn
import Derived.Test.YtlhmfgbaefaneaaGreatDoorB01
import Derived.Test.YtlhmfgbaefaneaaGreatDoorB02
import Derived.Test.YtlhmfgbaefaneaaGreatDoorB03
import Derived.Test.YtlhmfgbaefaneaaGreatDoorB04
import Derived.Test.YtlhmfgbaefaneaaGreatDoorB05
import Derived.Test.YtlhmfgbaefaneaaGreatDoorB06
import Derived.Test.YtlhmfgbaefaneaaGreatDoorB07
import Derived.Test.YtlhmfgbaefaneaaGreatDoorB08
import Derived.Test.YtlhmfgbaefaneaaGreatDoorB09
import Derived.Test.YtlhmfgbaefaneaaGreatDoorB10
import Derived.Test.YtlhmfgbaefaneaaGreatDoorB11
import Derived.Test.YtlhmfgbaefaneaaGreatDoorB12
import Derived.Test.YtlhmfgbaefaneaaGreatDoorB13
import Derived.Test.YtlhmfgbaefaneaaGreatDoorB14
import Derived.Test.YtlhmfgbaefaneaaGreatDoorB15
import Derived.Test.YtlhmfgbaefaneaaGreatDoorB16
import Derived.Test.YtlhmfgbaefaneaaGreatDoorB17
import Derived.Test.YtlhmfgbaefaneaaGreatDoorB18
import Derived.Test.YtlhmfgbaefaneaaGreatDoorB19
import Derived.Test.YtlhmfgbaefaneaaGreatDoorB20
import Derived.Test.YtlhmfgbaefaneaaGreatDoorB21
import Derived.Test.YtlhmfgbaefaneaaGreatDoorB22
namespace Go.Proofs.YtlhmfgbaefaneaaGreatDoor.ref6
open Go Go.RowKit Go.Proofs.YtlhmfgbaefaneaaGreatDoor.day
set_option maxRecDepth 100000 in
set_option maxHeartbeats 4000000 in
theorem Leap_any (y : Int) (w : World) :
    Calls Tryz.prog 32 #[.int .i64 y] w fun e w' => e = .returned (.bool (leap y)) ∧ w = w' := by
  have KEY := Lib.hid (show leap y = (y.tmod 4 == 0 && (y.tmod 100 != 0 || y.tmod 400 == 0)) from by rw [tmod_zero, tmod_ne, tmod_zero]; rfl)
  go_enter Tryz.func32, Tryz.ntmps32
  go_wp2
  all_goals
    go_ret
    refine ⟨?_, rfl⟩
    rw [KEY.out]
    simp [*]
set_option maxRecDepth 100000 in
set_option maxHeartbeats 4000000 in
theorem year_any (y : Int) (w : World) :
    Calls Tryz.prog 74 #[.int .i64 y] w fun e w' => e = .returned (.int .i64 (ylen y)) ∧ w = w' := by
  have HL := Lib.hid (fun W => Leap_any y W)
  cases hl : leap y
  all_goals
    rw [hl] at HL
    have HY := Lib.hid hl
    clear hl
    go_enter Tryz.func74, Tryz.ntmps74
    go_wp2_with (go_at_call 32; (with_reducible refine (HL.out _).mono ?_); rintro e w1 ⟨rfl, rfl⟩; clear HL)
    go_ret
    refine ⟨?_, rfl⟩
    simp [ylen, HY.out]
set_option maxRecDepth 100000 in
set_option maxHeartbeats 4000000 in
theorem Length_any (y m : Int) (w : World) :
    Calls Tryz.prog 34 #[.int .i64 y, .int .i64 m] w fun e w' => e = .returned (.int .i64 (mlen y m)) ∧ w = w' := by
  have HL := Lib.hid (fun W => Leap_any y W)
  cases hl : leap y
  all_goals
    rw [hl] at HL
    have HY := Lib.hid hl
    clear hl
    go_enter Tryz.func34, Tryz.ntmps34
    go_wp2_with (go_at_call 32; (with_reducible refine (HL.out _).mono ?_); rintro e w1 ⟨rfl, rfl⟩; clear HL)
    all_goals
      go_ret
      refine ⟨?_, rfl⟩
      simp only [beq_iff_eq, beq_eq_false_iff_ne, ne_eq] at *
      simp [mlen, HY.out, *]
end Go.Proofs.YtlhmfgbaefaneaaGreatDoor.ref6
namespace Go.Proofs.YtlhmfgbaefaneaaGreatDoor.ref6
open Go Go.RowKit Go.Proofs.YtlhmfgbaefaneaaGreatDoor.day
set_option maxRecDepth 100000 in
set_option maxHeartbeats 4000000 in
theorem Of_yes (y m d : Int) (h : IsCivil y m d) (w : World) :
    Calls Tryz.prog 28 #[.agg #[.int .i64 y, .int .i64 m, .int .i64 d]] w fun e w' => e = .returned (.tuple #[.int .i64 (dayOf y m d), .bool true]) ∧ Below w.heap.size w w' := by
  obtain ⟨h1, h2, h3, h4⟩ := id h
  obtain ⟨m1, m2⟩ := h.month
  have HL := Lib.hid (fun W => Length_any y m W)
  have l31 := mlen_hi y m
  obtain ⟨K, hK⟩ : ∃ K : Nat, y = 1900 + K := ⟨(y - 1900).toNat, by omega⟩
  obtain ⟨M, hM⟩ : ∃ M : Nat, m = M + 1 := ⟨(m - 1).toNat, by omega⟩
  have HE := Lib.hid (show dayOf y m d = ydays K + mdays y M + d - 1 from by unfold dayOf; rw [show (y - 1900).toNat = K by omega, show (m - 1).toNat = M by omega])
  have hK2 : K ≤ 299 := by omega
  have hM2 : M ≤ 11 := by omega
  have HM := Lib.hid (fun W k => Length_any y k W)
  have HY := Lib.hid (fun W k => year_any k W)
  generalize mlen y m = L at *
  have HKK := Lib.hid hK
  have HMM := Lib.hid hM
  clear h hM hK
  go_enter Tryz.func28, Tryz.ntmps28
  go_wp2
  go_quiet (first | (go_at_call 34; with_reducible exact quiet_same (HL.out _)))
  go_wp2
  obtain ⟨V, hV⟩ : ∃ V, V = (w.alloc (.cells #[.int .i64 y, .int .i64 m, .int .i64 d] 23)).drewN nq := ⟨_, rfl⟩
  rw [← hV]
  have HV0 := Lib.hid (show Below w.heap.size w V from by rw [hV]; exact drewN_below6 ((Below.refl _ _).alloc (Nat.le_refl _) _) nq)
  have c0 : V.cell? ⟨w.heap.size, 0, none⟩ = some (.int .i64 y) := by rw [hV]; simp [World.cell?_alloc_new]
  have c1 : V.cell? ⟨w.heap.size, 1, none⟩ = some (.int .i64 m) := by rw [hV]; simp [World.cell?_alloc_new]
  have c2 : V.cell? ⟨w.heap.size, 2, none⟩ = some (.int .i64 d) := by rw [hV]; simp [World.cell?_alloc_new]
  clear hV
  go_loopw [4, 5] (fun nv yv wr => (∃ k : Nat, k ≤ K ∧ nv = .int .i64 (ydays k) ∧ yv = .int .i64 (1900 + (k : Nat))) ∧ V = wr) (fun _ yv _ => (1900 + (K : Nat) - intOf yv).toNat)
  case atStart => exact ⟨⟨0, Nat.zero_le _, rfl, rfl⟩, rfl⟩
  case round =>
    obtain ⟨⟨k, hk, rfl, rfl⟩, rfl⟩ := hrel
    obtain ⟨b1, b2⟩ := ydays_hi (show k ≤ 300 by omega)
    by_cases hlt : k < K
    · have hg : (1900 : Int) + (k : Nat) < y := by have := HKK.out; omega
      have b3 := ylen_lo (1900 + (k : Nat))
      have b4 := ylen_hi (1900 + (k : Nat))
      have HS := Lib.hid (ydays_succ k)
      have HY1 := Lib.hid (fun W => HY.out W (1900 + (k : Nat)))
      clear HY
      generalize ylen (1900 + (k : Nat)) = yl at *
      generalize hyd : ydays k = n at *
      clear hyd
      go_wp2_with (go_at_call 74; (with_reducible refine (HY1.out _).mono ?_); rintro e w1 ⟨rfl, rfl⟩; clear HY1)
      go_roundw
      case rel => exact ⟨⟨k + 1, by omega, by rw [HS.out], by go_num⟩, trivial⟩
      case measure => simp [intOf] <;> omega
    · have hg : ¬ (1900 : Int) + (k : Nat) < y := by have := HKK.out; omega
      obtain rfl : k = K := by omega
      go_wp2
      go_loopw [4, 6] (fun nv mv wr => (∃ j : Nat, j ≤ M ∧ nv = .int .i64 (ydays k + mdays y j) ∧ mv = .int .i64 ((j : Nat) + 1)) ∧ V = wr) (fun _ mv _ => ((M : Nat) + 1 - intOf mv).toNat)
      case atStart => exact ⟨⟨0, Nat.zero_le _, by simp [mdays], rfl⟩, rfl⟩
      case round =>
        obtain ⟨⟨j, hj, rfl, rfl⟩, rfl⟩ := hrel
        obtain ⟨b5, b6⟩ := mdays_hi (y := y) (show j ≤ 12 by omega)
        by_cases hlt2 : j < M
        · have hg2 : (j : Int) + 1 < m := by have := HMM.out; omega
          have b3 := mlen_nn y ((j : Nat) + 1)
          have b4 := mlen_hi y ((j : Nat) + 1)
          have HS := Lib.hid (mdays_succ y j)
          have HM1 := Lib.hid (fun W => HM.out W ((j : Nat) + 1))
          clear HM
          generalize mlen y ((j : Nat) + 1) = ml at *
          generalize hyd : mdays y j = n at *
          generalize hyd2 : ydays k = n2 at *
          clear hyd hyd2
          go_wp2_with (go_at_call 34; (with_reducible refine (HM1.out _).mono ?_); rintro e w1 ⟨rfl, rfl⟩; clear HM1)
          go_roundw
          case rel => exact ⟨⟨j + 1, by omega, by rw [HS.out]; go_num, by go_num⟩, trivial⟩
          case measure => simp [intOf] <;> omega
        · have hg2 : ¬ (j : Int) + 1 < m := by have := HMM.out; omega
          obtain rfl : j = M := by omega
          generalize hyd : mdays y j = n at *
          generalize hyd2 : ydays k = n2 at *
          clear hyd hyd2
          go_wp2
          go_ret2
          exact ⟨by rw [HE.out]; go_num, HV0.out⟩
set_option maxRecDepth 100000 in
set_option maxHeartbeats 4000000 in
theorem Of_no (y m d : Int) (h : ¬ IsCivil y m d) (w : World) :
    Calls Tryz.prog 28 #[.agg #[.int .i64 y, .int .i64 m, .int .i64 d]] w fun e w' => e = .returned (.tuple #[.int .i64 0, .bool false]) ∧ Below w.heap.size w w' := by
  have HL := Lib.hid (fun W => Length_any y m W)
  unfold IsCivil at h
  generalize mlen y m = L at *
  rcases (show (y < 1900 ∧ decide (y < 1900) = true) ∨ (decide (y < 1900) = false ∧ decide (2199 < y) = true) ∨ (decide (y < 1900) = false ∧ decide (2199 < y) = false ∧ decide (d < 1) = true) ∨ (decide (y < 1900) = false ∧ decide (2199 < y) = false ∧ decide (d < 1) = false ∧ decide (L < d) = true) by simp only [decide_eq_true_eq, decide_eq_false_iff_not]; omega) with ⟨-, d1⟩ | ⟨d1, d2⟩ | ⟨d1, d2, d3⟩ | ⟨d1, d2, d3, d4⟩
  all_goals
    clear h
    go_enter Tryz.func28, Tryz.ntmps28
    go_wp2
    go_quiet (first | (go_at_call 34; with_reducible exact quiet_same (HL.out _)))
    go_wp2
    go_ret2
    exact ⟨rfl, drewN_below6 ((Below.refl _ _).alloc (Nat.le_refl _) _) nq⟩
end Go.Proofs.YtlhmfgbaefaneaaGreatDoor.ref6
namespace Go.Proofs.YtlhmfgbaefaneaaGreatDoor.ref6
open Go Go.RowKit Go.Proofs.YtlhmfgbaefaneaaGreatDoor.day
def YRel (n : Int) (B K : Nat) (w : World) (dv : Value) (wr : World) : Prop :=
  (∃ k : Nat, k ≤ K ∧ dv = .int .i64 (n - ydays k) ∧ CAt wr (B + 1) (1900 + (k : Nat)) 1 0) ∧ CAt wr B 0 0 0 ∧ Below B w wr
def MRel (n y : Int) (B M : Nat) (w : World) (dv : Value) (wr : World) : Prop :=
  (∃ j : Nat, j ≤ M ∧ dv = .int .i64 (n - mdays y j) ∧ CAt wr (B + 1) y ((j : Nat) + 1) 0) ∧ CAt wr B 0 0 0 ∧ Below B w wr
set_option maxRecDepth 100000 in
set_option maxHeartbeats 4000000 in
theorem Civil_at (y m d : Int) (h : IsCivil y m d) (w : World) :
    Calls Tryz.prog 21 #[.int .i64 (dayOf y m d)] w fun e w' => e = .returned (.agg #[.int .i64 y, .int .i64 m, .int .i64 d]) ∧ Below w.heap.size w w' := by
  obtain ⟨h1, h2, h3, h4⟩ := id h
  obtain ⟨m1, m2⟩ := h.month
  have l31 := mlen_hi y m
  obtain ⟨K, rfl⟩ : ∃ K : Nat, y = 1900 + K := ⟨(y - 1900).toNat, by omega⟩
  obtain ⟨M, rfl⟩ : ∃ M : Nat, m = M + 1 := ⟨(m - 1).toNat, by omega⟩
  have e1 : ((1900 : Int) + (K : Nat) - 1900).toNat = K := by omega
  have e2 : (((M : Nat) : Int) + 1 - 1).toNat = M := by omega
  have e3 : (((M : Nat) : Int) + 1).toNat = M + 1 := by omega
  have hE : dayOf (1900 + (K : Nat)) ((M : Nat) + 1) d = ydays K + mdays (1900 + (K : Nat)) M + d - 1 := by unfold dayOf; rw [e1, e2]
  have hyr := dayOf_year h
  rw [e1] at hyr
  have hyi := dayOf_in h
  rw [e1, e2, e3] at hyi
  have hK2 : K ≤ 299 := by omega
  have hM2 : M ≤ 11 := by omega
  have hn1 := (dayOf_isDay h).1
  have hn2 := (dayOf_isDay h).2
  have HM := Lib.hid (fun W k => Length_any (1900 + (K : Nat)) k W)
  have HY := Lib.hid (fun W k => year_any k W)
  have HE := Lib.hid hE
  have HYR := Lib.hid hyr
  have HYI := Lib.hid hyi
  clear h hE hyr hyi e1 e2 e3 h4 l31 h1 h2 m1 m2
  generalize dayOf (1900 + (K : Nat)) ((M : Nat) + 1) d = n at *
  go_enter Tryz.func21, Tryz.ntmps21
  go_wp2
  go_loopw [0] (fun dv wr => YRel n w.heap.size K w dv wr) (fun dv _ => (intOf dv).toNat)
  case atStart =>
    have e : (w.alloc (.cells #[.int .i64 0, .int .i64 0, .int .i64 0] 23)).heap.size = w.heap.size + 1 := alloc_size _ _
    have h := CAt.new (w.alloc (.cells #[.int .i64 0, .int .i64 0, .int .i64 0] 23)) 1900 1 0
    rw [e] at h
    exact ⟨⟨0, Nat.zero_le _, by simp [ydays], h⟩, (CAt.new w 0 0 0).below ((Below.refl _ _).alloc (Nat.le_refl _) _), ((Below.refl _ _).alloc (Nat.le_refl _) _).alloc (by omega) _⟩
  case round =>
    obtain ⟨⟨k, hk, rfl, hc⟩, ha, hb⟩ := hrel
    obtain ⟨c0, c1, c2, f0, f1, f2⟩ := hc.cells
    have HC := Lib.hid hc
    have HA := Lib.hid ha
    have HB := Lib.hid hb
    obtain ⟨b1, b2⟩ := ydays_hi (show k ≤ 300 by omega)
    obtain ⟨b3, b4⟩ := ydays_hi (show k + 1 ≤ 300 by omega)
    have b5 := ylen_lo (1900 + (k : Nat))
    have b6 := ylen_hi (1900 + (k : Nat))
    have HS := Lib.hid (ydays_succ k)
    have HY1 := Lib.hid (fun W => HY.out W (1900 + (k : Nat)))
    clear hc ha hb HY
    by_cases hlt : k < K
    · have hg : ylen (1900 + (k : Nat)) ≤ n - ydays k := by
        have h5 := ydays_mono (show k + 1 ≤ K by omega)
        have := HYR.out.1
        rw [HS.out] at h5
        omega
      have HG := Lib.hid hg
      generalize ylen (1900 + (k : Nat)) = yl at *
      generalize hyd : ydays k = n0 at *
      clear hyd
      go_wp2_with (go_at_call 74; (with_reducible refine (HY1.out _).mono ?_); rintro e w1 ⟨rfl, rfl⟩)
      go_roundw
      case rel => exact ⟨⟨k + 1, by omega, by rw [HS.out]; go_num, by have := HC.out.set0 (1900 + (k : Nat) + 1); rwa [show (1900 : Int) + (k : Nat) + 1 = 1900 + ((k + 1 : Nat) : Int) by omega] at this⟩, HA.out.far _ _ (by simp only; omega), HB.out.setCell (by simp only; omega) _⟩
      case measure => simp [intOf] <;> omega
    · obtain rfl : k = K := by omega
      have hg : n - ydays k < ylen (1900 + (k : Nat)) := by
        have := HYR.out.2
        rw [HS.out] at this
        omega
      go_wp2_with (go_at_call 74; (with_reducible refine (HY1.out _).mono ?_); rintro e w1 ⟨rfl, rfl⟩; clear HY1)
      clear HS
      generalize ylen (1900 + (k : Nat)) = yl at *
      go_loopw [0] (fun dv wr => MRel (n - ydays k) (1900 + (k : Nat)) w.heap.size M w dv wr) (fun dv _ => (intOf dv).toNat)
      case atStart => exact ⟨⟨0, Nat.zero_le _, by simp [mdays], HC.out⟩, HA.out, HB.out⟩
      case round =>
        obtain ⟨⟨j, hj, rfl, hc⟩, ha, hb⟩ := hrel
        clear c0 c1 c2 f0 f1 f2 HC HA HB
        obtain ⟨c0, c1, c2, f0, f1, f2⟩ := hc.cells
        have HC := Lib.hid hc
        have HA := Lib.hid ha
        have HB := Lib.hid hb
        obtain ⟨a0, a1, a2, g0, g1, g2⟩ := ha.cells
        obtain ⟨b1, b2⟩ := mdays_hi (y := 1900 + (k : Nat)) (show j ≤ 12 by omega)
        have b5 := mlen_nn (1900 + (k : Nat)) ((j : Nat) + 1)
        have b6 := mlen_hi (1900 + (k : Nat)) ((j : Nat) + 1)
        have HS := Lib.hid (mdays_succ (1900 + (k : Nat)) j)
        have HM1 := Lib.hid (fun W => HM.out W ((j : Nat) + 1))
        clear hc ha hb HM
        by_cases hlt : j < M
        · have b7 : 28 ≤ mlen (1900 + (k : Nat)) ((j : Nat) + 1) := mlen_lo (by omega) (by omega)
          have hg : mlen (1900 + (k : Nat)) ((j : Nat) + 1) ≤ n - ydays k - mdays (1900 + (k : Nat)) j := by
            have h5 := mdays_mono (y := 1900 + (k : Nat)) (show j + 1 ≤ M by omega)
            have := HYI.out.1
            rw [HS.out] at h5
            omega
          generalize mlen (1900 + (k : Nat)) ((j : Nat) + 1) = ml at *
          generalize hyd : mdays (1900 + (k : Nat)) j = n1 at *
          generalize hyd2 : ydays k = n0 at *
          clear hyd hyd2
          go_wp2_with (go_at_call 34; (with_reducible refine (HM1.out _).mono ?_); rintro e w1 ⟨rfl, rfl⟩)
          go_roundw
          case rel => exact ⟨⟨j + 1, by omega, by rw [HS.out]; go_num, by have := HC.out.set1 ((j : Nat) + 1 + 1); rwa [show ((j : Nat) : Int) + 1 + 1 = ((j + 1 : Nat) : Int) + 1 by omega] at this⟩, HA.out.far _ _ (by simp only; omega), HB.out.setCell (by simp only; omega) _⟩
          case measure => simp [intOf] <;> omega
        · obtain rfl : j = M := by omega
          have hg : n - ydays k - mdays (1900 + (k : Nat)) j < mlen (1900 + (k : Nat)) ((j : Nat) + 1) := by
            have := HYI.out.2
            rw [HS.out] at this
            omega
          have hd : n - ydays k - mdays (1900 + (k : Nat)) j + 1 = d := by have := HE.out; omega
          have HD := Lib.hid hd
          clear hd
          generalize mlen (1900 + (k : Nat)) ((j : Nat) + 1) = ml at *
          generalize hyd : mdays (1900 + (k : Nat)) j = n1 at *
          generalize hyd2 : ydays k = n0 at *
          clear hyd hyd2
          go_wp2_with (go_at_call 34; (with_reducible refine (HM1.out _).mono ?_); rintro e w1 ⟨rfl, rfl⟩)
          obtain ⟨q0, q1, q2, -⟩ := ((((HA.out.far ⟨w.heap.size + 1, 2, none⟩ (.int .i64 (n - n0 - n1 + 1)) (by simp only; omega)).set0 (1900 + (k : Nat))).set1 ((j : Nat) + 1)).set2 (n - n0 - n1 + 1)).cells
          refine bodyPost_ret (v := .agg #[.int .i64 (1900 + (k : Nat)), .int .i64 ((j : Nat) + 1), .int .i64 (n - n0 - n1 + 1)]) ?_ rfl ?_
          · simp [results, Tryz.results21, go_sem, q0, q1, q2]
          · exact ⟨by rw [HD.out], (((HB.out.setCell (by simp only; omega) _).setCell (Nat.le_refl _) _).setCell (Nat.le_refl _) _).setCell (Nat.le_refl _) _⟩
end Go.Proofs.YtlhmfgbaefaneaaGreatDoor.ref6
namespace Go.Proofs.YtlhmfgbaefaneaaGreatDoor.ref6
open Go Go.RowKit Go.Proofs.YtlhmfgbaefaneaaGreatDoor.day
set_option maxRecDepth 100000 in
set_option maxHeartbeats 4000000 in
theorem Is_any (n : Int) (w : World) :
    Calls Tryz.prog 45 #[.int .i64 n] w fun e w' => e = .returned (.bool (decide (IsDay n))) ∧ w = w' := by
  have HD := Lib.hid (show decide (IsDay n) = (decide (0 ≤ n) && decide (n ≤ 109572)) from by rw [Bool.eq_iff_iff, Bool.and_eq_true, decide_eq_true_iff, decide_eq_true_iff, decide_eq_true_iff]; rfl)
  go_enter Tryz.func45, Tryz.ntmps45
  go_wp2
  all_goals
    go_ret
    refine ⟨?_, rfl⟩
    rw [HD.out]
    simp [*] <;> omega
theorem Is_yes {n : Int} (h : IsDay n) (w : World) : Calls Tryz.prog 45 #[.int .i64 n] w fun e w' => e = .returned (.bool true) ∧ w = w' := by
  have := Is_any n w
  rwa [decide_eq_true h] at this
theorem Is_not {n : Int} (h : ¬ IsDay n) (w : World) : Calls Tryz.prog 45 #[.int .i64 n] w fun e w' => e = .returned (.bool false) ∧ w = w' := by
  have := Is_any n w
  rwa [decide_eq_false h] at this
set_option maxRecDepth 100000 in
set_option maxHeartbeats 4000000 in
theorem Weekday_any (n : Int) (h : IsDay n) (w : World) :
    Calls Tryz.prog 27 #[.int .i64 n] w fun e w' => e = .returned (.int .i64 ((n + 1) % 7)) ∧ w = w' := by
  obtain ⟨h1, h2⟩ := h
  have HM := Lib.hid (Int.tmod_eq_emod_of_nonneg (a := n + 1) (b := 7) (by omega))
  go_enter Tryz.func27, Tryz.ntmps27
  go_wp2
  go_ret
  refine ⟨?_, rfl⟩
  first | rfl | rw [HM.out]
end Go.Proofs.YtlhmfgbaefaneaaGreatDoor.ref6
namespace Go.Proofs.YtlhmfgbaefaneaaGreatDoor.flt
open Go.RowKit Go.Extern.Stop Go.Stop Go.Extern
theorem Code_nil (w : World) : Calls Tryz.prog 80 #[.nilIface] w fun ev w' => ev = .returned (.int .i64 0) ∧ Below w.heap.size w w' := by
  go_enter Tryz.func80, Tryz.ntmps80
  go_wp2
  go_ret
  exact ⟨rfl, Below.refl _ _⟩
theorem Code_plain (c : Int) (w : World) (hg : Handle w) :
    Calls Tryz.prog 80 #[.iface 128 (.int .i64 c)] w fun ev w' => ev = .returned (.int .i64 c) ∧ Below w.heap.size w w' :=
  Code_hit _ _ c w ((first_plain c w hg).mono fun _ _ ⟨b, he, _, hb, hk⟩ => ⟨b, he, hb, by simp [World.cell?, hk]⟩)
end Go.Proofs.YtlhmfgbaefaneaaGreatDoor.flt
namespace Go.Proofs.YtlhmfgbaefaneaaGreatDoor.law6
open Go Go.RowKit Go.Proofs.YtlhmfgbaefaneaaGreatDoor.day Go.Proofs.YtlhmfgbaefaneaaGreatDoor.date
open Go.Proofs.YtlhmfgbaefaneaaGreatDoor.ref (str str_size)
open Go.Proofs.YtlhmfgbaefaneaaGreatDoor.ref6 (CAt dayText DayForm quiet_same drewN_below6)
open Go.Proofs.YtlhmfgbaefaneaaGreatDoor.itoa (Tab)
theorem and7 (n : Int) : bits .and .i64 n 7 = n % 8 := by
  have hm : (BitVec.ofInt 64 7).toNat = 2 ^ 3 - 1 := by decide
  have key : (BitVec.ofInt 64 n &&& BitVec.ofInt 64 7).toNat = (n % ((2 ^ 64 : Nat) : Int)).toNat % 2 ^ 3 := by
    rw [BitVec.toNat_and, BitVec.toNat_ofInt, hm, Nat.and_two_pow_sub_one_eq_mod]
  show IntKind.i64.wrap ((BitVec.ofInt 64 n &&& BitVec.ofInt 64 7).toNat : Nat) = n % 8
  rw [key, IntKind.wrap_i64]
  omega
theorem Day_isDay (n : Int) : IsDay (n % 109573) := ⟨by omega, by omega⟩
set_option maxRecDepth 100000 in
theorem Same_code (c : Int) (w : World) (h : Wd w) :
    Calls Tryz.prog 29 #[errOf c, .int .i64 c] w fun e w' => e = .returned (.bool true) ∧ Below w.heap.size w w' := by
  unfold errOf
  have HC := Lib.hid (flt.Code_plain c w h.hd)
  clear h
  go_enter Tryz.func29, Tryz.ntmps29
  go_wp2_with (first
    | (go_at_call 80; (with_reducible refine (HC.out).mono ?_); rintro e w1 ⟨rfl, hb⟩; have HB := Lib.hid hb; clear hb)
    | (fail "no arm"))
  go_ret
  exact ⟨rfl, HB.out⟩
set_option maxRecDepth 100000 in
theorem Same_nil (w : World) (_h : Wd w) :
    Calls Tryz.prog 29 #[.nilIface, .int .i64 0] w fun e w' => e = .returned (.bool true) ∧ Below w.heap.size w w' := by
  have HC := Lib.hid (flt.Code_nil w)
  go_enter Tryz.func29, Tryz.ntmps29
  go_wp2_with (first
    | (go_at_call 80; (with_reducible refine (HC.out).mono ?_); rintro e w1 ⟨rfl, hb⟩; have HB := Lib.hid hb; clear hb)
    | (fail "no arm"))
  go_ret
  exact ⟨rfl, HB.out⟩
end Go.Proofs.YtlhmfgbaefaneaaGreatDoor.law6
namespace Go.Proofs.YtlhmfgbaefaneaaGreatDoor.ref6
open Go Go.RowKit Go.Proofs.YtlhmfgbaefaneaaGreatDoor.day
def Rule.val (r : Rule) : Value := .agg #[.int .i64 r.kind, .int .i64 r.month, .int .i64 r.day, .int .i64 r.n, .int .i64 r.wd, .bool r.shift]
set_option maxRecDepth 100000 in
set_option maxHeartbeats 4000000 in
theorem MayRule_1 (k mo d n wd : Int) (sh : Bool) (hk : k = 1) (w : World) :
    Calls Tryz.prog 46 #[.agg #[.int .i64 k, .int .i64 mo, .int .i64 d, .int .i64 n, .int .i64 wd, .bool sh]] w fun e w' => e = .returned (.bool (decide (1 ≤ mo) && decide (mo ≤ 12) && decide (1 ≤ d) && decide (d ≤ mlen 2000 mo) && (n == 0) && (wd == 0))) ∧ Below w.heap.size w w' := by
  subst hk
  have HL := Lib.hid (fun W => Length_any 2000 mo W)
  generalize mlen 2000 mo = L at *
  rcases hc0 : decide (1 ≤ mo) with _ | _
  · go_enter Tryz.func46, Tryz.ntmps46
    go_wp2
    go_quiet (first | (go_at_call 34; with_reducible exact quiet_same (HL.out _)))
    go_wp2
    go_ret
    exact ⟨by first | rfl | simp [*], drewN_below6 ((Below.refl _ _).alloc (Nat.le_refl _) _) nq⟩
  · rcases hc1 : decide (mo ≤ 12) with _ | _
    · go_enter Tryz.func46, Tryz.ntmps46
      go_wp2
      go_quiet (first | (go_at_call 34; with_reducible exact quiet_same (HL.out _)))
      go_wp2
      go_ret
      exact ⟨by first | rfl | simp [*], drewN_below6 ((Below.refl _ _).alloc (Nat.le_refl _) _) nq⟩
    · rcases hc2 : decide (1 ≤ d) with _ | _
      · go_enter Tryz.func46, Tryz.ntmps46
        go_wp2
        go_quiet (first | (go_at_call 34; with_reducible exact quiet_same (HL.out _)))
        go_wp2
        go_ret
        exact ⟨by first | rfl | simp [*], drewN_below6 ((Below.refl _ _).alloc (Nat.le_refl _) _) nq⟩
      · rcases hc3 : decide (d ≤ L) with _ | _
        · go_enter Tryz.func46, Tryz.ntmps46
          go_wp2
          go_quiet (first | (go_at_call 34; with_reducible exact quiet_same (HL.out _)))
          go_wp2
          go_ret
          exact ⟨by first | rfl | simp [*], drewN_below6 ((Below.refl _ _).alloc (Nat.le_refl _) _) nq⟩
        · rcases hc4 : (n == 0) with _ | _
          · go_enter Tryz.func46, Tryz.ntmps46
            go_wp2
            go_quiet (first | (go_at_call 34; with_reducible exact quiet_same (HL.out _)))
            go_wp2
            go_ret
            exact ⟨by first | rfl | simp [*], drewN_below6 ((Below.refl _ _).alloc (Nat.le_refl _) _) nq⟩
          · rcases hc5 : (wd == 0) with _ | _
            · go_enter Tryz.func46, Tryz.ntmps46
              go_wp2
              go_quiet (first | (go_at_call 34; with_reducible exact quiet_same (HL.out _)))
              go_wp2
              go_ret
              exact ⟨by first | rfl | simp [*], drewN_below6 ((Below.refl _ _).alloc (Nat.le_refl _) _) nq⟩
            · go_enter Tryz.func46, Tryz.ntmps46
              go_wp2
              go_quiet (first | (go_at_call 34; with_reducible exact quiet_same (HL.out _)))
              go_wp2
              go_ret
              exact ⟨by first | rfl | simp [*], drewN_below6 ((Below.refl _ _).alloc (Nat.le_refl _) _) nq⟩
set_option maxRecDepth 100000 in
set_option maxHeartbeats 4000000 in
theorem MayRule_2 (k mo d n wd : Int) (sh : Bool) (hk : k = 2) (w : World) :
    Calls Tryz.prog 46 #[.agg #[.int .i64 k, .int .i64 mo, .int .i64 d, .int .i64 n, .int .i64 wd, .bool sh]] w fun e w' => e = .returned (.bool (decide (1 ≤ mo) && decide (mo ≤ 12) && (decide (1 ≤ n) && decide (n ≤ 5) || (n == -1)) && decide (0 ≤ wd) && decide (wd ≤ 6) && (d == 0) && !sh)) ∧ Below w.heap.size w w' := by
  subst hk
  go_enter Tryz.func46, Tryz.ntmps46
  go_wp2
  all_goals
    go_ret
    exact ⟨by simp [*] <;> omega, (Below.refl _ _).alloc (Nat.le_refl _) _⟩
set_option maxRecDepth 100000 in
set_option maxHeartbeats 4000000 in
theorem MayRule_3 (k mo d n wd : Int) (sh : Bool) (hk : k = 3) (w : World) :
    Calls Tryz.prog 46 #[.agg #[.int .i64 k, .int .i64 mo, .int .i64 d, .int .i64 n, .int .i64 wd, .bool sh]] w fun e w' => e = .returned (.bool (decide (-100 ≤ n) && decide (n ≤ 100) && (mo == 0) && (d == 0) && (wd == 0) && !sh)) ∧ Below w.heap.size w w' := by
  subst hk
  go_enter Tryz.func46, Tryz.ntmps46
  go_wp2
  all_goals
    go_ret
    exact ⟨by simp [*] <;> omega, (Below.refl _ _).alloc (Nat.le_refl _) _⟩
set_option maxRecDepth 100000 in
set_option maxHeartbeats 4000000 in
theorem MayRule_0 (k mo d n wd : Int) (sh : Bool) (h1 : k ≠ 1) (h2 : k ≠ 2) (h3 : k ≠ 3) (w : World) :
    Calls Tryz.prog 46 #[.agg #[.int .i64 k, .int .i64 mo, .int .i64 d, .int .i64 n, .int .i64 wd, .bool sh]] w fun e w' => e = .returned (.bool false) ∧ Below w.heap.size w w' := by
  go_enter Tryz.func46, Tryz.ntmps46
  go_wp2
  all_goals
    go_ret
    exact ⟨by simp [*] <;> omega, (Below.refl _ _).alloc (Nat.le_refl _) _⟩
theorem MayRule_any (r : Rule) (w : World) :
    Calls Tryz.prog 46 #[r.val] w fun e w' => e = .returned (.bool (decide (May r))) ∧ Below w.heap.size w w' := by
  obtain ⟨k, mo, d, n, wd, sh⟩ := r
  by_cases h1 : k = 1
  · refine (MayRule_1 k mo d n wd sh h1 w).mono fun e w' ⟨he, hb⟩ => ⟨he.trans ?_, hb⟩
    congr 2
    rw [Bool.eq_iff_iff, decide_eq_true_iff]
    simp [May, h1, and_assoc]
  · by_cases h2 : k = 2
    · refine (MayRule_2 k mo d n wd sh h2 w).mono fun e w' ⟨he, hb⟩ => ⟨he.trans ?_, hb⟩
      congr 2
      rw [Bool.eq_iff_iff, decide_eq_true_iff]
      simp [May, h2, and_assoc]
    · by_cases h3 : k = 3
      · refine (MayRule_3 k mo d n wd sh h3 w).mono fun e w' ⟨he, hb⟩ => ⟨he.trans ?_, hb⟩
        congr 2
        rw [Bool.eq_iff_iff, decide_eq_true_iff]
        simp [May, h3, and_assoc]
      · refine (MayRule_0 k mo d n wd sh h1 h2 h3 w).mono fun e w' ⟨he, hb⟩ => ⟨he.trans ?_, hb⟩
        rw [decide_eq_false (fun h => h.elim (fun h => h1 h.1) (fun h => h.elim (fun h => h2 h.1) (fun h => h3 h.1)))]
end Go.Proofs.YtlhmfgbaefaneaaGreatDoor.ref6
namespace Go.Proofs.YtlhmfgbaefaneaaGreatDoor.ref6
open Go Go.RowKit Go.Proofs.YtlhmfgbaefaneaaGreatDoor.day
theorem infoInt : (Tryz.prog.info? 3).map (fun i => (i.zero, i.size, i.bytes)) = some (some (.int .i64 0), 1, 8) := by kernel_rfl
theorem wpList_append_int {w : World} {ops : Array Oper} {rest : List Oper} {o : Oper} {a : Act} {Q : Exit → Act → World → Prop} (hgd : o.guard = none) (s x : Operand)
    (ho : o.op = .call { callee := .builtin .append, args := #[s, x], argTypes := #[54, 54] })
    (base : Nat) (v : Value) (u : Int) (ad : Addr) (l : List Int) (hs : a.eval s = v) (hown : w.ownsRow base 3 1 v l.length (l.map (Value.int .i64))) (hx : a.eval x = .slice (some ad) 1 1) (hr : w.cell? (ad.add 0) = some (.int .i64 u))
    (hlen : l.length ≤ 100000000) (hbase : base ≤ w.heap.size)
    (h : ∀ v' w', w'.ownsRow base 3 1 v' (l ++ [u]).length ((l ++ [u]).map (Value.int .i64)) → w.grownBy w' v.ownBlock → wpList Tryz.prog ops Q rest (a.put o.dst v') w') :
    wpList Tryz.prog ops Q (o :: rest) a w := by
  obtain ⟨i0, hi0, hz0, hz1, hz2⟩ := info_parts infoInt
  refine wpList_append_own w hgd s x 54 ho base 3 i0 (.int .i64 0) 1 8 Tryz.underlying54 hi0 hz0 hz1 hz2 rfl (by decide) v l.length _ hs hown ad 1 1 [.int .i64 u] hx (by simp) ?_ ?_ (by unfold maxLen; omega) (by omega) hbase ?_
  · intro j u' hj
    rcases j with _ | j
    · obtain rfl : Value.int .i64 u = u' := by simpa using hj
      exact hr
    · simp at hj
  · intro u' hu'
    obtain rfl := List.mem_singleton.1 hu'
    rfl
  · intro v' w' ho hg _
    exact h v' w' (by simpa using ho) hg
theorem owns_below {w w' : World} {B n : Nat} {e : TypeId} {v : Value} {xs : List Value} (h : w.ownsRow B e 1 v n xs) (hb : Below w.heap.size w w') : w'.ownsRow B e 1 v n xs := by
  refine ⟨h.1, ?_⟩
  rcases h.2 with hn | ⟨g, cap, cur, rfl, h1, h2, rest⟩
  · exact Or.inl hn
  · exact Or.inr ⟨g, cap, cur, rfl, h1, (hb.block g (Array.getElem?_eq_some_iff.1 h2).1).trans h2, rest⟩
theorem new_int (W : World) (v : Value) (t : TypeId) : (W.alloc (.cells #[v] t)).cell? ((⟨W.heap.size, 0, none⟩ : Addr).add 0) = some v := by
  rw [show ((⟨W.heap.size, 0, none⟩ : Addr).add 0) = ⟨W.heap.size, 0, none⟩ from rfl, cell_of_row _ _ 0 _ _ (0, 0) (heap_alloc_new W _)]
  rfl
theorem drewN_size (W : World) (k : Nat) : (W.drewN k).heap.size = W.heap.size := by
  induction k with
  | zero => rfl
  | succ k ih => exact ih
theorem owns_own {w : World} {B n : Nat} {e : TypeId} {v : Value} {xs : List Value} (h : w.ownsRow B e 1 v n xs) : v = .slice none 0 0 ∧ n = 0 ∨ ∃ g cap, v = .slice (some ⟨g, 0, none⟩) n cap ∧ B ≤ g ∧ ∀ k u, xs[k]? = some u → w.cell? ⟨g, k, none⟩ = some u := by
  rcases h.2 with ⟨h1, h2⟩ | ⟨g, cap, cur, rfl, hb, hc, h3, h4, h5, h6⟩
  · exact Or.inl ⟨h1, h2⟩
  · refine Or.inr ⟨g, cap, rfl, hb, fun k u hk => ?_⟩
    rw [cell_of_row _ g k _ _ (0, 0) hc]
    rw [← h6] at hk
    rw [← Array.getElem?_toList]
    rw [List.getElem?_take] at hk
    split at hk
    · exact hk
    · cases hk
theorem daysW_len (y mo wd : Int) (k : Nat) : (daysW y mo wd k).length ≤ k := by
  induction k with
  | zero => simp [daysW]
  | succ k ih => simp only [daysW, List.length_append]; split <;> simp <;> omega
def NthEnd (o : Option Int) (w : World) (e : Ending) (w' : World) : Prop :=
  (∀ n, o = some n → e = .returned (.tuple #[.int .i64 n, .bool true])) ∧ (o = none → e = .returned (.tuple #[.int .i64 0, .bool false])) ∧ Below w.heap.size w w'
def NRel (w : World) (y mo d n wd : Int) (sh : Bool) (lv dv : Value) (wr : World) : Prop :=
  ∃ k : Nat, (k : Int) ≤ mlen y mo ∧ dv = .int .i64 ((k : Nat) + 1) ∧ wr.ownsRow (w.heap.size + 1) 3 1 lv (daysW y mo wd k).length ((daysW y mo wd k).map (Value.int .i64)) ∧ RAt wr w.heap.size 2 mo d n wd sh ∧ Below w.heap.size w wr
theorem app_kept {w W w5 : World} {v : Value} {T : TypeId} {m : Nat} {xs : List Value} {k mo d n wd : Int} {sh : Bool} (ho : W.ownsRow (w.heap.size + 1) T 1 v m xs) (hg : W.grownBy w5 v.ownBlock) (hr : RAt W w.heap.size k mo d n wd sh) (hb : Below w.heap.size w W) : RAt w5 w.heap.size k mo d n wd sh ∧ Below w.heap.size w w5 :=
  ⟨hr.grown hg (fun e => by have := (ho.lt _ e.symm).1; omega), hb.grown hg hb.size (fun k hk => by have := (ho.lt _ hk).1; omega)⟩
theorem of_civil (y mo k : Int) (h : IsCivil y mo k) (w : World) : Calls Tryz.prog 28 #[.agg #[.int .i64 y, .int .i64 mo, .int .i64 k]] w fun e w' => e = .returned (.tuple #[.int .i64 (dayOf y mo k), .bool true]) ∧ Below w.heap.size w w' := Of_yes y mo k h w
set_option maxRecDepth 100000 in
set_option maxHeartbeats 4000000 in
theorem nth_any (mo d n wd : Int) (sh : Bool) (m1 : 1 ≤ mo) (m2 : mo ≤ 12) (n1 : 1 ≤ n ∧ n ≤ 5 ∨ n = -1) (w1 : 0 ≤ wd) (w2 : wd ≤ 6) (y : Int) (y1 : 1900 ≤ y) (y2 : y ≤ 2199) (w : World) :
    Calls Tryz.prog 163 #[.agg #[.int .i64 2, .int .i64 mo, .int .i64 d, .int .i64 n, .int .i64 wd, .bool sh], .int .i64 y] w fun e w' => NthEnd (nthDay y mo n wd) w e w' := by
  have l1 := mlen_lo (y := y) m1 m2
  have l2 := mlen_hi y mo
  have HL := Lib.hid (fun W => Length_any y mo W)
  have HO := Lib.hid (fun k (h1 : 1 ≤ k) (h2 : k ≤ mlen y mo) W => of_civil y mo k ⟨y1, y2, h1, h2⟩ W)
  have HWd := Lib.hid (fun k (h1 : 1 ≤ k) (h2 : k ≤ mlen y mo) W => Weekday_any (dayOf y mo k) (dayOf_isDay ⟨y1, y2, h1, h2⟩) W)
  have HDy := Lib.hid (fun k (h1 : 1 ≤ k) (h2 : k ≤ mlen y mo) => (dayOf_isDay (y := y) (m := mo) (d := k) ⟨y1, y2, h1, h2⟩))
  have HEq := Lib.hid (show nthDay y mo n wd = _ from rfl)
  unfold nthDay at HEq
  go_enter Tryz.func163, Tryz.ntmps163
  go_wp2
  go_loopw [6, 7] (fun lv dv wr => NRel w y mo d n wd sh lv dv wr) (fun _ dv _ => (32 - intOf dv).toNat)
  case atStart => exact ⟨0, by omega, rfl, World.ownsRow_nil _ _ _ _, RAt.new w 2 mo d n wd sh, (Below.refl _ _).alloc (Nat.le_refl _) _⟩
  case round =>
    obtain ⟨k, hk, rfl, ho, hr, hb⟩ := hrel
    obtain ⟨c0, c1, c2, c3, c4, c5⟩ := hr.at
    have HOwn := Lib.hid ho
    have HRt := Lib.hid hr
    have HB := Lib.hid hb
    clear ho hr hb
    by_cases hlt : (k : Int) < mlen y mo
    · have HO1 := Lib.hid (HO.out ((k : Nat) + 1) (by omega) (by omega))
      have HW1 := Lib.hid (HWd.out ((k : Nat) + 1) (by omega) (by omega))
      have hdy := HDy.out ((k : Nat) + 1) (by omega) (by omega)
      have HLk := Lib.hid (daysW_len y mo wd k)
      have HSt := Lib.hid (show daysW y mo wd (k + 1) = daysW y mo wd k ++ (if (dayOf y mo ((k : Nat) + 1) + 1) % 7 = wd then [dayOf y mo ((k : Nat) + 1)] else []) from rfl)
      obtain ⟨d1, d2⟩ := hdy
      have HLt := Lib.hid hlt
      clear HO HWd HDy hk
      generalize dayOf y mo ((k : Nat) + 1) = D at *
      generalize mlen y mo = L at HL hlt l1 l2
      by_cases hw : (D + 1) % 7 = wd
      · rw [if_pos hw] at HSt
        have hw2 : ((D + 1) % 7 == wd) = true := by rw [hw]; simp
        have HWw := Lib.hid hw
        clear hw
        go_wp2_with (first
          | (go_at_call 34; (with_reducible refine (HL.out _).mono ?_); rintro e w1 ⟨rfl, rfl⟩)
          | (go_at_call 28; (with_reducible refine (HO1.out _).mono ?_); rintro e w4 ⟨rfl, hb4⟩
             have HB4 := Lib.hid (HB.out.trans (hb4.mono HB.out.size))
             have HRt4 := Lib.hid (HRt.out.below hb4)
             have HOwn4 := Lib.hid (owns_below HOwn.out hb4)
             obtain ⟨e0, e1, e2, e3, e4, e5⟩ := HRt4.out.at
             clear hb4 c0 c1 c2 c3 c4 c5)
          | (fail "no arm"))
        go_quiet (first | (go_at_call 27; with_reducible exact quiet_same (HW1.out _)))
        have HBx := Lib.hid (show Below w4.heap.size w4 ((w4.drewN nq).alloc (.cells #[.int .i64 D] 3)) from (drewN_below6 (Below.refl _ _) nq).alloc (by rw [drewN_size]; exact Nat.le_refl _) _)
        have HOx := Lib.hid (owns_below HOwn4.out HBx.out)
        have HRx := Lib.hid (HRt4.out.below HBx.out)
        have HBy := Lib.hid (HB4.out.trans (HBx.out.mono HB4.out.size))
        have HCx := Lib.hid (new_int (w4.drewN nq) (.int .i64 D) 3)
        rw [drewN_size] at HCx
        have HSx := Lib.hid (HBx.out.size)
        go_wp2_with (at_builtin; refine wpList_append_int rfl _ _ rfl (w.heap.size + 1) _ D ⟨w4.heap.size, 0, none⟩ (daysW y mo wd k) rfl HOx.out rfl HCx.out ?c1 ?c2 ?_)
        case c1 => have := HLk.out; omega
        case c2 => have := HSx.out; have := HB4.out.size; have := (Array.getElem?_eq_some_iff.1 HRt4.out).1; omega
        intro v' w5 ho hg
        have HO5 := Lib.hid ho
        have HG5 := Lib.hid hg
        clear ho hg
        obtain ⟨hr5, hb5⟩ := app_kept HOx.out HG5.out HRx.out HBy.out
        have HR5 := Lib.hid hr5
        have HB5 := Lib.hid hb5
        clear hr5 hb5
        go_wp2
        go_roundw
        case rel => exact ⟨k + 1, by have := HLt.out; omega, by go_num, by rw [HSt.out]; simpa using HO5.out, HR5.out, HB5.out⟩
        case measure => simp [intOf] <;> omega
      · rw [if_neg hw, List.append_nil] at HSt
        have hw2 : ((D + 1) % 7 == wd) = false := by simpa using hw
        clear hw
        go_wp2_with (first
          | (go_at_call 34; (with_reducible refine (HL.out _).mono ?_); rintro e w1 ⟨rfl, rfl⟩)
          | (go_at_call 28; (with_reducible refine (HO1.out _).mono ?_); rintro e w4 ⟨rfl, hb4⟩
             have HB4 := Lib.hid (HB.out.trans (hb4.mono HB.out.size))
             have HRt4 := Lib.hid (HRt.out.below hb4)
             have HOwn4 := Lib.hid (owns_below HOwn.out hb4)
             obtain ⟨e0, e1, e2, e3, e4, e5⟩ := HRt4.out.at
             clear hb4 c0 c1 c2 c3 c4 c5)
          | (fail "no arm"))
        go_quiet (first | (go_at_call 27; with_reducible exact quiet_same (HW1.out _)))
        go_wp2
        have HBx := Lib.hid (show Below w4.heap.size w4 (w4.drewN nq) from drewN_below6 (Below.refl _ _) nq)
        go_roundw
        case rel => exact ⟨k + 1, by have := HLt.out; omega, by go_num, by rw [HSt.out]; exact owns_below HOwn4.out HBx.out, HRt4.out.below HBx.out, HB4.out.trans (HBx.out.mono HB4.out.size)⟩
        case measure => simp [intOf] <;> omega
    · obtain ⟨K, hK⟩ : ∃ K : Nat, mlen y mo = K := ⟨(mlen y mo).toNat, by omega⟩
      obtain rfl : k = K := by omega
      have hm := daysW_count y mo wd w1 w2 k
      have hat := daysW_at y mo wd w1 w2 k
      have e1 : (mlen y mo).toNat = k := by omega
      have HNE := Lib.hid (show nthDay y mo n wd = if n > ((daysW y mo wd k).length : Nat) then none else if n < 0 then (daysW y mo wd k)[(daysW y mo wd k).length - 1]? else (daysW y mo wd k)[(n - 1).toNat]? from by unfold nthDay; rw [e1])
      rw [hK] at HL l1 l2 hlt
      have hm4 : 4 ≤ (daysW y mo wd k).length := by omega
      have hm5 : (daysW y mo wd k).length ≤ 5 := by omega
      have HOO := Lib.hid (owns_own HOwn.out)
      clear hm e1 HEq HO HWd HDy HOwn hK
      generalize hdw : daysW y mo wd k = l at *
      clear hdw
      rcases HOO.out with ⟨h1, h2⟩ | ⟨g, cap, rfl, hg, hcell⟩
      · omega
      · have hcm : ∀ j, j < l.length → ∃ z, l[j]? = some z ∧ wr.cell? ⟨g, j, none⟩ = some (.int .i64 z) := fun j hj => by
          have h3 := List.getElem?_eq_getElem hj
          exact ⟨_, h3, hcell j _ (by rw [List.getElem?_map, h3]; rfl)⟩
        have HCm := Lib.hid hcm
        clear hcm hat hcell
        generalize hlen : l.length = N at *
        rcases (show (N : Int) < n ∨ n = -1 ∨ (1 ≤ n ∧ n ≤ (N : Int)) by omega) with hn | hn | ⟨hn1, hn2⟩
        · have HEnd := Lib.hid (HNE.out.trans (if_pos hn))
          clear hlen n1
          go_wp2_with (first
            | (go_at_call 34; (with_reducible refine (HL.out _).mono ?_); rintro e w1 ⟨rfl, rfl⟩)
            | (fail "no arm"))
          go_ret2
          exact ⟨fun z hz => (by rw [HEnd.out] at hz; cases hz), fun _ => rfl, HB.out⟩
        · subst hn
          obtain ⟨j, rfl⟩ : ∃ j, N = j + 1 := ⟨N - 1, by omega⟩
          obtain ⟨z, hz, hc⟩ := HCm.out j (by omega)
          have HEnd := Lib.hid (HNE.out.trans ((if_neg (by omega)).trans ((if_pos (by omega)).trans hz)))
          clear hz hlen HCm HNE n1
          go_wp2_with (first
            | (go_at_call 34; (with_reducible refine (HL.out _).mono ?_); rintro e w1 ⟨rfl, rfl⟩)
            | (fail "no arm"))
          go_ret2
          exact ⟨fun z' hz => (by rw [HEnd.out] at hz; cases hz; rfl), fun hn => (by rw [HEnd.out] at hn; cases hn), HB.out⟩
        · obtain ⟨j, rfl⟩ : ∃ j : Nat, n = (j : Nat) + 1 := ⟨(n - 1).toNat, by omega⟩
          obtain ⟨z, hz, hc⟩ := HCm.out j (by omega)
          have ej : (((j : Nat) : Int) + 1 - 1).toNat = j := by omega
          have HEnd := Lib.hid (HNE.out.trans ((if_neg (by omega)).trans ((if_neg (by omega)).trans (show l[(((j : Nat) : Int) + 1 - 1).toNat]? = some z by rw [ej]; exact hz))))
          clear hz hlen HCm HNE ej n1
          go_wp2_with (first
            | (go_at_call 34; (with_reducible refine (HL.out _).mono ?_); rintro e w1 ⟨rfl, rfl⟩)
            | (fail "no arm"))
          go_ret2
          exact ⟨fun z' hz => (by rw [HEnd.out] at hz; cases hz; rfl), fun hn => (by rw [HEnd.out] at hn; cases hn), HB.out⟩
end Go.Proofs.YtlhmfgbaefaneaaGreatDoor.ref6
namespace Go.Proofs.YtlhmfgbaefaneaaGreatDoor.ref6
open Go Go.RowKit Go.Proofs.YtlhmfgbaefaneaaGreatDoor.day
set_option maxRecDepth 100000 in
set_option maxHeartbeats 4000000 in
theorem Easter_any (y : Int) (h1 : 1900 ≤ y) (h2 : y ≤ 2199) (w : World) :
    Calls Tryz.prog 43 #[.int .i64 y] w fun e w' => e = .returned (.int .i64 (easterDay y)) ∧ Below w.heap.size w w' := by
  have HO := Lib.hid (fun W => Of_yes _ _ _ (easter_civil h1 h2) W)
  have HH := Lib.hid (show (19 * (y % 19) + y / 100 - y / 100 / 4 - (y / 100 - (y / 100 + 8) / 25 + 1) / 3 + 15) % 30 = easterH y from rfl)
  have HL := Lib.hid (show (32 + 2 * (y / 100 % 4) + 2 * (y % 100 / 4) - easterH y - y % 4) % 7 = easterL y from by unfold easterL; rw [Int.emod_emod_of_dvd y (show (4 : Int) ∣ 100 by decide)])
  have HN := Lib.hid (show easterH y + easterL y - 7 * ((y % 19 + 11 * easterH y + 22 * easterL y) / 451) + 114 = easterN y from rfl)
  obtain ⟨b1, b2⟩ := easterH_in y
  obtain ⟨b3, b4⟩ := easterL_in y
  obtain ⟨b5, b6⟩ := easterN_in y
  have HE := Lib.hid (show dayOf y (easterN y / 31) (easterN y % 31 + 1) = easterDay y from rfl)
  generalize easterDay y = E at *
  generalize easterH y = H at *
  generalize easterL y = L at *
  generalize easterN y = N at *
  go_enter Tryz.func43, Tryz.ntmps43
  go_wp2_with (first
    | (go_at_call 28; rw [HH.out, HL.out, HN.out]; (with_reducible refine (HO.out _).mono ?_); rintro e w1 ⟨rfl, hb⟩; have HB := Lib.hid hb; clear hb)
    | (fail "no arm"))
  go_ret
  exact ⟨by rw [← HE.out]; rfl, HB.out⟩
end Go.Proofs.YtlhmfgbaefaneaaGreatDoor.ref6
