/-
  The steps of the walks, part 1: RefDay, RefOf6, Code, Law6Kit, RefEaster6, Law6Eas, DayOrd.
-/
import Derived.Test.YtlhmfgbaefaneaaGreatDoorProg
import Derived.WalkKit
import Derived.WalkSpells
import Derived.Lib.Hide
import Derived.OwnWalk
import Derived.Below
import Derived.Carry
import Derived.Outline
import Derived.Deep.Draws
import Derived.BigQuiet
import Derived.Deep.QuietTactic
import Derived.Laws.BitsLemmas
import Derived.Laws.Cover1
import Derived.Test.YtlhmfgbaefaneaaGreatDoorB01
import Derived.Test.YtlhmfgbaefaneaaGreatDoorB02
import Derived.Test.YtlhmfgbaefaneaaGreatDoorB03
import Derived.Test.YtlhmfgbaefaneaaGreatDoorB04
import Derived.Test.YtlhmfgbaefaneaaGreatDoorB05
import Derived.Test.YtlhmfgbaefaneaaGreatDoorB06
import Derived.Test.YtlhmfgbaefaneaaGreatDoorB07
import Derived.Test.YtlhmfgbaefaneaaGreatDoorB08
import Derived.Test.YtlhmfgbaefaneaaGreatDoorB09
import Derived.Test.YtlhmfgbaefaneaaGreatDoorB10
import Derived.Test.YtlhmfgbaefaneaaGreatDoorB11
import Derived.Test.YtlhmfgbaefaneaaGreatDoorB12
import Derived.Test.YtlhmfgbaefaneaaGreatDoorB13
import Derived.Test.YtlhmfgbaefaneaaGreatDoorB14
import Derived.Test.YtlhmfgbaefaneaaGreatDoorB15
import Derived.Test.YtlhmfgbaefaneaaGreatDoorB16
import Derived.Test.YtlhmfgbaefaneaaGreatDoorB17
import Derived.Test.YtlhmfgbaefaneaaGreatDoorB18
import Derived.Test.YtlhmfgbaefaneaaGreatDoorB19
import Derived.Test.YtlhmfgbaefaneaaGreatDoorB20
import Derived.Test.YtlhmfgbaefaneaaGreatDoorB21
import Derived.Test.YtlhmfgbaefaneaaGreatDoorB22
namespace Go.Proofs.YtlhmfgbaefaneaaGreatDoor.ref6
open Go Go.RowKit Go.Proofs.YtlhmfgbaefaneaaGreatDoor.day
set_option maxRecDepth 100000 in
set_option maxHeartbeats 4000000 in
theorem Leap_any (y : Int) (w : World) :
    Calls Tryz.prog 32 #[.int .i64 y] w fun e w' => e = .returned (.bool (leap y)) ∧ w = w' := by
  have KEY := Lib.hid (show leap y = (y.tmod 4 == 0 && (y.tmod 100 != 0 || y.tmod 400 == 0)) from by rw [tmod_zero, tmod_ne, tmod_zero]; rfl)
  go_enter Tryz.func32, Tryz.ntmps32
  go_wp2
  all_goals
    go_ret
    refine ⟨?_, rfl⟩
    rw [KEY.out]
    simp [*]
set_option maxRecDepth 100000 in
set_option maxHeartbeats 4000000 in
theorem year_any (y : Int) (w : World) :
    Calls Tryz.prog 74 #[.int .i64 y] w fun e w' => e = .returned (.int .i64 (ylen y)) ∧ w = w' := by
  have HL := Lib.hid (fun W => Leap_any y W)
  cases hl : leap y
  all_goals
    rw [hl] at HL
    have HY := Lib.hid hl
    clear hl
    go_enter Tryz.func74, Tryz.ntmps74
    go_wp2_with (go_at_call 32; (with_reducible refine (HL.out _).mono ?_); rintro e w1 ⟨rfl, rfl⟩; clear HL)
    go_ret
    refine ⟨?_, rfl⟩
    simp [ylen, HY.out]
set_option maxRecDepth 100000 in
set_option maxHeartbeats 4000000 in
theorem Length_any (y m : Int) (w : World) :
    Calls Tryz.prog 34 #[.int .i64 y, .int .i64 m] w fun e w' => e = .returned (.int .i64 (mlen y m)) ∧ w = w' := by
  have HL := Lib.hid (fun W => Leap_any y W)
  cases hl : leap y
  all_goals
    rw [hl] at HL
    have HY := Lib.hid hl
    clear hl
    go_enter Tryz.func34, Tryz.ntmps34
    go_wp2_with (go_at_call 32; (with_reducible refine (HL.out _).mono ?_); rintro e w1 ⟨rfl, rfl⟩; clear HL)
    all_goals
      go_ret
      refine ⟨?_, rfl⟩
      simp only [beq_iff_eq, beq_eq_false_iff_ne, ne_eq] at *
      simp [mlen, HY.out, *]
end Go.Proofs.YtlhmfgbaefaneaaGreatDoor.ref6
namespace Go.Proofs.YtlhmfgbaefaneaaGreatDoor.ref6
open Go Go.RowKit Go.Proofs.YtlhmfgbaefaneaaGreatDoor.day
set_option maxRecDepth 100000 in
set_option maxHeartbeats 4000000 in
theorem Of_yes (y m d : Int) (h : IsCivil y m d) (w : World) :
    Calls Tryz.prog 28 #[.agg #[.int .i64 y, .int .i64 m, .int .i64 d]] w fun e w' => e = .returned (.tuple #[.int .i64 (dayOf y m d), .bool true]) ∧ Below w.heap.size w w' := by
  obtain ⟨h1, h2, h3, h4⟩ := id h
  obtain ⟨m1, m2⟩ := h.month
  have HL := Lib.hid (fun W => Length_any y m W)
  have l31 := mlen_hi y m
  obtain ⟨K, hK⟩ : ∃ K : Nat, y = 1900 + K := ⟨(y - 1900).toNat, by omega⟩
  obtain ⟨M, hM⟩ : ∃ M : Nat, m = M + 1 := ⟨(m - 1).toNat, by omega⟩
  have HE := Lib.hid (show dayOf y m d = ydays K + mdays y M + d - 1 from by unfold dayOf; rw [show (y - 1900).toNat = K by omega, show (m - 1).toNat = M by omega])
  have hK2 : K ≤ 299 := by omega
  have hM2 : M ≤ 11 := by omega
  have HM := Lib.hid (fun W k => Length_any y k W)
  have HY := Lib.hid (fun W k => year_any k W)
  generalize mlen y m = L at *
  have HKK := Lib.hid hK
  have HMM := Lib.hid hM
  clear h hM hK
  go_enter Tryz.func28, Tryz.ntmps28
  go_wp2
  go_quiet (first | (go_at_call 34; with_reducible exact quiet_same (HL.out _)))
  go_wp2
  obtain ⟨V, hV⟩ : ∃ V, V = (w.alloc (.cells #[.int .i64 y, .int .i64 m, .int .i64 d] 23)).drewN nq := ⟨_, rfl⟩
  rw [← hV]
  have HV0 := Lib.hid (show Below w.heap.size w V from by rw [hV]; exact drewN_below6 ((Below.refl _ _).alloc (Nat.le_refl _) _) nq)
  have c0 : V.cell? ⟨w.heap.size, 0, none⟩ = some (.int .i64 y) := by rw [hV]; simp [World.cell?_alloc_new]
  have c1 : V.cell? ⟨w.heap.size, 1, none⟩ = some (.int .i64 m) := by rw [hV]; simp [World.cell?_alloc_new]
  have c2 : V.cell? ⟨w.heap.size, 2, none⟩ = some (.int .i64 d) := by rw [hV]; simp [World.cell?_alloc_new]
  clear hV
  go_loopw [4, 5] (fun nv yv wr => (∃ k : Nat, k ≤ K ∧ nv = .int .i64 (ydays k) ∧ yv = .int .i64 (1900 + (k : Nat))) ∧ V = wr) (fun _ yv _ => (1900 + (K : Nat) - intOf yv).toNat)
  case atStart => exact ⟨⟨0, Nat.zero_le _, rfl, rfl⟩, rfl⟩
  case round =>
    obtain ⟨⟨k, hk, rfl, rfl⟩, rfl⟩ := hrel
    obtain ⟨b1, b2⟩ := ydays_hi (show k ≤ 300 by omega)
    by_cases hlt : k < K
    · have hg : (1900 : Int) + (k : Nat) < y := by have := HKK.out; omega
      have b3 := ylen_lo (1900 + (k : Nat))
      have b4 := ylen_hi (1900 + (k : Nat))
      have HS := Lib.hid (ydays_succ k)
      have HY1 := Lib.hid (fun W => HY.out W (1900 + (k : Nat)))
      clear HY
      generalize ylen (1900 + (k : Nat)) = yl at *
      generalize hyd : ydays k = n at *
      clear hyd
      go_wp2_with (go_at_call 74; (with_reducible refine (HY1.out _).mono ?_); rintro e w1 ⟨rfl, rfl⟩; clear HY1)
      go_roundw
      case rel => exact ⟨⟨k + 1, by omega, by rw [HS.out], by go_num⟩, trivial⟩
      case measure => simp [intOf] <;> omega
    · have hg : ¬ (1900 : Int) + (k : Nat) < y := by have := HKK.out; omega
      obtain rfl : k = K := by omega
      go_wp2
      go_loopw [4, 6] (fun nv mv wr => (∃ j : Nat, j ≤ M ∧ nv = .int .i64 (ydays k + mdays y j) ∧ mv = .int .i64 ((j : Nat) + 1)) ∧ V = wr) (fun _ mv _ => ((M : Nat) + 1 - intOf mv).toNat)
      case atStart => exact ⟨⟨0, Nat.zero_le _, by simp [mdays], rfl⟩, rfl⟩
      case round =>
        obtain ⟨⟨j, hj, rfl, rfl⟩, rfl⟩ := hrel
        obtain ⟨b5, b6⟩ := mdays_hi (y := y) (show j ≤ 12 by omega)
        by_cases hlt2 : j < M
        · have hg2 : (j : Int) + 1 < m := by have := HMM.out; omega
          have b3 := mlen_nn y ((j : Nat) + 1)
          have b4 := mlen_hi y ((j : Nat) + 1)
          have HS := Lib.hid (mdays_succ y j)
          have HM1 := Lib.hid (fun W => HM.out W ((j : Nat) + 1))
          clear HM
          generalize mlen y ((j : Nat) + 1) = ml at *
          generalize hyd : mdays y j = n at *
          generalize hyd2 : ydays k = n2 at *
          clear hyd hyd2
          go_wp2_with (go_at_call 34; (with_reducible refine (HM1.out _).mono ?_); rintro e w1 ⟨rfl, rfl⟩; clear HM1)
          go_roundw
          case rel => exact ⟨⟨j + 1, by omega, by rw [HS.out]; go_num, by go_num⟩, trivial⟩
          case measure => simp [intOf] <;> omega
        · have hg2 : ¬ (j : Int) + 1 < m := by have := HMM.out; omega
          obtain rfl : j = M := by omega
          generalize hyd : mdays y j = n at *
          generalize hyd2 : ydays k = n2 at *
          clear hyd hyd2
          go_wp2
          go_ret2
          exact ⟨by rw [HE.out]; go_num, HV0.out⟩
end Go.Proofs.YtlhmfgbaefaneaaGreatDoor.ref6
namespace Go.Proofs.YtlhmfgbaefaneaaGreatDoor.flt
open Go.RowKit Go.Extern.Stop Go.Stop Go.Extern
theorem Code_plain (c : Int) (w : World) (hg : Handle w) :
    Calls Tryz.prog 80 #[.iface 128 (.int .i64 c)] w fun ev w' => ev = .returned (.int .i64 c) ∧ Below w.heap.size w w' :=
  Code_hit _ _ c w ((first_plain c w hg).mono fun _ _ ⟨b, he, _, hb, hk⟩ => ⟨b, he, hb, by simp [World.cell?, hk]⟩)
end Go.Proofs.YtlhmfgbaefaneaaGreatDoor.flt
namespace Go.Proofs.YtlhmfgbaefaneaaGreatDoor.law6
open Go Go.RowKit Go.Proofs.YtlhmfgbaefaneaaGreatDoor.day Go.Proofs.YtlhmfgbaefaneaaGreatDoor.date
open Go.Proofs.YtlhmfgbaefaneaaGreatDoor.ref (str str_size)
open Go.Proofs.YtlhmfgbaefaneaaGreatDoor.ref6 (CAt dayText DayForm quiet_same drewN_below6)
open Go.Proofs.YtlhmfgbaefaneaaGreatDoor.itoa (Tab)
theorem same_below {f : Nat} {args : Array Value} {E : Ending} {w : World} (h : Calls Tryz.prog f args w fun e w' => e = E ∧ w = w') : Calls Tryz.prog f args w fun e w' => e = E ∧ Below w.heap.size w w' :=
  h.mono fun _ _ ⟨he, hw⟩ => ⟨he, hw ▸ Below.refl _ _⟩
set_option maxRecDepth 100000 in
theorem Same_code (c : Int) (w : World) (h : Wd w) :
    Calls Tryz.prog 29 #[errOf c, .int .i64 c] w fun e w' => e = .returned (.bool true) ∧ Below w.heap.size w w' := by
  unfold errOf
  have HC := Lib.hid (flt.Code_plain c w h.hd)
  clear h
  go_enter Tryz.func29, Tryz.ntmps29
  go_wp2_with (first
    | (go_at_call 80; (with_reducible refine (HC.out).mono ?_); rintro e w1 ⟨rfl, hb⟩; have HB := Lib.hid hb; clear hb)
    | (fail "no arm"))
  go_ret
  exact ⟨rfl, HB.out⟩
end Go.Proofs.YtlhmfgbaefaneaaGreatDoor.law6
namespace Go.Proofs.YtlhmfgbaefaneaaGreatDoor.ref6
open Go Go.RowKit Go.Proofs.YtlhmfgbaefaneaaGreatDoor.day
set_option maxRecDepth 100000 in
set_option maxHeartbeats 4000000 in
theorem Easter_any (y : Int) (h1 : 1900 ≤ y) (h2 : y ≤ 2199) (w : World) :
    Calls Tryz.prog 43 #[.int .i64 y] w fun e w' => e = .returned (.int .i64 (easterDay y)) ∧ Below w.heap.size w w' := by
  have HO := Lib.hid (fun W => Of_yes _ _ _ (easter_civil h1 h2) W)
  have HH := Lib.hid (show (19 * (y % 19) + y / 100 - y / 100 / 4 - (y / 100 - (y / 100 + 8) / 25 + 1) / 3 + 15) % 30 = easterH y from rfl)
  have HL := Lib.hid (show (32 + 2 * (y / 100 % 4) + 2 * (y % 100 / 4) - easterH y - y % 4) % 7 = easterL y from by unfold easterL; rw [Int.emod_emod_of_dvd y (show (4 : Int) ∣ 100 by decide)])
  have HN := Lib.hid (show easterH y + easterL y - 7 * ((y % 19 + 11 * easterH y + 22 * easterL y) / 451) + 114 = easterN y from rfl)
  obtain ⟨b1, b2⟩ := easterH_in y
  obtain ⟨b3, b4⟩ := easterL_in y
  obtain ⟨b5, b6⟩ := easterN_in y
  have HE := Lib.hid (show dayOf y (easterN y / 31) (easterN y % 31 + 1) = easterDay y from rfl)
  generalize easterDay y = E at *
  generalize easterH y = H at *
  generalize easterL y = L at *
  generalize easterN y = N at *
  go_enter Tryz.func43, Tryz.ntmps43
  go_wp2_with (first
    | (go_at_call 28; rw [HH.out, HL.out, HN.out]; (with_reducible refine (HO.out _).mono ?_); rintro e w1 ⟨rfl, hb⟩; have HB := Lib.hid hb; clear hb)
    | (fail "no arm"))
  go_ret
  exact ⟨by rw [← HE.out]; rfl, HB.out⟩
end Go.Proofs.YtlhmfgbaefaneaaGreatDoor.ref6
namespace Go.Proofs.YtlhmfgbaefaneaaGreatDoor.law6
open Go Go.RowKit Go.Proofs.YtlhmfgbaefaneaaGreatDoor.day Go.Proofs.YtlhmfgbaefaneaaGreatDoor.date
theorem sunday_all : (List.range 300).all (fun k => decide (wday (easterDay (1900 + (k : Nat))) = 0 ∧ (easterN (1900 + (k : Nat)) / 31 = 3 ∧ 22 ≤ easterN (1900 + (k : Nat)) % 31 + 1 ∨ easterN (1900 + (k : Nat)) / 31 = 4 ∧ easterN (1900 + (k : Nat)) % 31 + 1 ≤ 25))) = true := by decide +kernel
theorem easter_sunday {y : Int} (h1 : 1900 ≤ y) (h2 : y ≤ 2199) : wday (easterDay y) = 0 ∧ (easterN y / 31 = 3 ∧ 22 ≤ easterN y % 31 + 1 ∨ easterN y / 31 = 4 ∧ easterN y % 31 + 1 ≤ 25) := by
  have h := sunday_all
  rw [List.all_eq_true] at h
  have h3 := h (y - 1900).toNat (List.mem_range.2 (by omega))
  rw [decide_eq_true_eq, show (1900 : Int) + ((y - 1900).toNat : Nat) = y by omega] at h3
  exact h3
end Go.Proofs.YtlhmfgbaefaneaaGreatDoor.law6
namespace Go.Proofs.YtlhmfgbaefaneaaGreatDoor.day
open Go.Proofs.YtlhmfgbaefaneaaGreatDoor.ref (str pad pad_cons)
open Go.Proofs.YtlhmfgbaefaneaaGreatDoor.ref6 (dayText)
def Before (y m d y' m' d' : Int) : Prop := y < y' ∨ (y = y' ∧ (m < m' ∨ (m = m' ∧ d < d')))
instance (y m d y' m' d' : Int) : Decidable (Before y m d y' m' d') := by unfold Before; infer_instance
theorem Before.lt {y m d y' m' d' : Int} (h : IsCivil y m d) (h' : IsCivil y' m' d') (hb : Before y m d y' m' d') : dayOf y m d < dayOf y' m' d' := by
  rcases hb with hy | ⟨rfl, hm | ⟨rfl, hd⟩⟩
  · have a := dayOf_year h
    have b := dayOf_year h'
    have := ydays_mono (show (y - 1900).toNat + 1 ≤ (y' - 1900).toNat by have := h.1; omega)
    have e : ((y' - 1900).toNat : Int) - ((y - 1900).toNat + 1 : Nat) ≥ 0 := by have := h.1; omega
    omega
  · have a := dayOf_in h
    have b := dayOf_in h'
    have hm1 := h.month
    have := mdays_mono (y := y) (show m.toNat ≤ (m' - 1).toNat by omega)
    omega
  · unfold dayOf
    omega
end Go.Proofs.YtlhmfgbaefaneaaGreatDoor.day
