/-
  The steps of the walks, part 1: RefDay, Law6Kit, RefRule6.
-/
import Derived.Test.YtlhmfgbaefaneabGreatDoorProg
import Derived.WalkKit
import Derived.WalkSpells
import Derived.Lib.Hide
import Derived.OwnWalk
import Derived.Below
import Derived.Carry
import Derived.Outline
import Derived.Deep.Draws
import Derived.BigQuiet
import Derived.Deep.QuietTactic
import Derived.Laws.BitsLemmas
import Derived.Test.YtlhmfgbaefaneabGreatDoorB01
import Derived.Test.YtlhmfgbaefaneabGreatDoorB02
import Derived.Test.YtlhmfgbaefaneabGreatDoorB03
import Derived.Test.YtlhmfgbaefaneabGreatDoorB04
import Derived.Test.YtlhmfgbaefaneabGreatDoorB05
import Derived.Test.YtlhmfgbaefaneabGreatDoorB06
import Derived.Test.YtlhmfgbaefaneabGreatDoorB07
import Derived.Test.YtlhmfgbaefaneabGreatDoorB08
import Derived.Test.YtlhmfgbaefaneabGreatDoorB09
import Derived.Test.YtlhmfgbaefaneabGreatDoorB10
import Derived.Test.YtlhmfgbaefaneabGreatDoorB11
import Derived.Test.YtlhmfgbaefaneabGreatDoorB12
import Derived.Test.YtlhmfgbaefaneabGreatDoorB13
import Derived.Test.YtlhmfgbaefaneabGreatDoorB14
import Derived.Test.YtlhmfgbaefaneabGreatDoorB15
import Derived.Test.YtlhmfgbaefaneabGreatDoorB16
import Derived.Test.YtlhmfgbaefaneabGreatDoorB17
import Derived.Test.YtlhmfgbaefaneabGreatDoorB18
import Derived.Test.YtlhmfgbaefaneabGreatDoorB19
import Derived.Test.YtlhmfgbaefaneabGreatDoorB20
import Derived.Test.YtlhmfgbaefaneabGreatDoorB21
import Derived.Test.YtlhmfgbaefaneabGreatDoorB22
import Derived.Test.YtlhmfgbaefaneabGreatDoorB23
import Derived.Test.YtlhmfgbaefaneabGreatDoorB24
import Derived.Test.YtlhmfgbaefaneabGreatDoorB25
import Derived.Test.YtlhmfgbaefaneabGreatDoorB26
import Derived.Test.YtlhmfgbaefaneabGreatDoorB27
import Derived.Test.YtlhmfgbaefaneabGreatDoorB28
import Derived.Test.YtlhmfgbaefaneabGreatDoorB29
import Derived.Test.YtlhmfgbaefaneabGreatDoorB30
import Derived.Test.YtlhmfgbaefaneabGreatDoorB31
import Derived.Test.YtlhmfgbaefaneabGreatDoorB32
import Derived.Test.YtlhmfgbaefaneabGreatDoorB33
import Derived.Test.YtlhmfgbaefaneabGreatDoorB34
import Derived.Test.YtlhmfgbaefaneabGreatDoorB35
import Derived.Test.YtlhmfgbaefaneabGreatDoorB36
import Derived.Test.YtlhmfgbaefaneabGreatDoorB37
import Derived.Test.YtlhmfgbaefaneabGreatDoorB38
import Derived.Test.YtlhmfgbaefaneabGreatDoorB39
import Derived.Test.YtlhmfgbaefaneabGreatDoorB40
namespace Go.Proofs.YtlhmfgbaefaneabGreatDoor.ref6
open Go Go.RowKit Go.Proofs.YtlhmfgbaefaneabGreatDoor.day
set_option maxRecDepth 100000 in
set_option maxHeartbeats 4000000 in
theorem Leap_any (y : Int) (w : World) :
    Calls Tryz.prog 80 #[.int .i64 y] w fun e w' => e = .returned (.bool (leap y)) ∧ w = w' := by
  have KEY := Lib.hid (show leap y = (y.tmod 4 == 0 && (y.tmod 100 != 0 || y.tmod 400 == 0)) from by rw [tmod_zero, tmod_ne, tmod_zero]; rfl)
  go_enter Tryz.func80, Tryz.ntmps80
  go_wp2
  all_goals
    go_ret
    refine ⟨?_, rfl⟩
    rw [KEY.out]
    simp [*]
set_option maxRecDepth 100000 in
set_option maxHeartbeats 4000000 in
theorem Length_any (y m : Int) (w : World) :
    Calls Tryz.prog 41 #[.int .i64 y, .int .i64 m] w fun e w' => e = .returned (.int .i64 (mlen y m)) ∧ w = w' := by
  have HL := Lib.hid (fun W => Leap_any y W)
  cases hl : leap y
  all_goals
    rw [hl] at HL
    have HY := Lib.hid hl
    clear hl
    go_enter Tryz.func41, Tryz.ntmps41
    go_wp2_with (go_at_call 80; (with_reducible refine (HL.out _).mono ?_); rintro e w1 ⟨rfl, rfl⟩; clear HL)
    all_goals
      go_ret
      refine ⟨?_, rfl⟩
      simp only [beq_iff_eq, beq_eq_false_iff_ne, ne_eq] at *
      simp [mlen, HY.out, *]
end Go.Proofs.YtlhmfgbaefaneabGreatDoor.ref6
namespace Go.Proofs.YtlhmfgbaefaneabGreatDoor.law6
open Go Go.RowKit Go.Proofs.YtlhmfgbaefaneabGreatDoor.day Go.Proofs.YtlhmfgbaefaneabGreatDoor.date
open Go.Proofs.YtlhmfgbaefaneabGreatDoor.ref (str str_size)
open Go.Proofs.YtlhmfgbaefaneabGreatDoor.ref6 (CAt dayText DayForm quiet_same drewN_below6)
open Go.Proofs.YtlhmfgbaefaneabGreatDoor.itoa (Tab)
theorem and127 (n : Int) : bits .and .i64 n 127 = n % 128 := by
  have hm : (BitVec.ofInt 64 127).toNat = 2 ^ 7 - 1 := by decide
  have key : (BitVec.ofInt 64 n &&& BitVec.ofInt 64 127).toNat = (n % ((2 ^ 64 : Nat) : Int)).toNat % 2 ^ 7 := by
    rw [BitVec.toNat_and, BitVec.toNat_ofInt, hm, Nat.and_two_pow_sub_one_eq_mod]
  show IntKind.i64.wrap ((BitVec.ofInt 64 n &&& BitVec.ofInt 64 127).toNat : Nat) = n % 128
  rw [key, IntKind.wrap_i64]
  omega
theorem Day_isDay (n : Int) : IsDay (n % 109573) := ⟨by omega, by omega⟩
end Go.Proofs.YtlhmfgbaefaneabGreatDoor.law6
namespace Go.Proofs.YtlhmfgbaefaneabGreatDoor.ref6
open Go Go.RowKit Go.Proofs.YtlhmfgbaefaneabGreatDoor.day
def Rule.val (r : Rule) : Value := .agg #[.int .i64 r.kind, .int .i64 r.month, .int .i64 r.day, .int .i64 r.n, .int .i64 r.wd, .bool r.shift]
set_option maxRecDepth 100000 in
set_option maxHeartbeats 4000000 in
theorem MayRule_1 (k mo d n wd : Int) (sh : Bool) (hk : k = 1) (w : World) :
    Calls Tryz.prog 83 #[.agg #[.int .i64 k, .int .i64 mo, .int .i64 d, .int .i64 n, .int .i64 wd, .bool sh]] w fun e w' => e = .returned (.bool (decide (1 ≤ mo) && decide (mo ≤ 12) && decide (1 ≤ d) && decide (d ≤ mlen 2000 mo) && (n == 0) && (wd == 0))) ∧ Below w.heap.size w w' := by
  subst hk
  have HL := Lib.hid (fun W => Length_any 2000 mo W)
  generalize mlen 2000 mo = L at *
  rcases hc0 : decide (1 ≤ mo) with _ | _
  · go_enter Tryz.func83, Tryz.ntmps83
    go_wp2
    go_quiet (first | (go_at_call 41; with_reducible exact quiet_same (HL.out _)))
    go_wp2
    go_ret
    exact ⟨by first | rfl | simp [*], drewN_below6 ((Below.refl _ _).alloc (Nat.le_refl _) _) nq⟩
  · rcases hc1 : decide (mo ≤ 12) with _ | _
    · go_enter Tryz.func83, Tryz.ntmps83
      go_wp2
      go_quiet (first | (go_at_call 41; with_reducible exact quiet_same (HL.out _)))
      go_wp2
      go_ret
      exact ⟨by first | rfl | simp [*], drewN_below6 ((Below.refl _ _).alloc (Nat.le_refl _) _) nq⟩
    · rcases hc2 : decide (1 ≤ d) with _ | _
      · go_enter Tryz.func83, Tryz.ntmps83
        go_wp2
        go_quiet (first | (go_at_call 41; with_reducible exact quiet_same (HL.out _)))
        go_wp2
        go_ret
        exact ⟨by first | rfl | simp [*], drewN_below6 ((Below.refl _ _).alloc (Nat.le_refl _) _) nq⟩
      · rcases hc3 : decide (d ≤ L) with _ | _
        · go_enter Tryz.func83, Tryz.ntmps83
          go_wp2
          go_quiet (first | (go_at_call 41; with_reducible exact quiet_same (HL.out _)))
          go_wp2
          go_ret
          exact ⟨by first | rfl | simp [*], drewN_below6 ((Below.refl _ _).alloc (Nat.le_refl _) _) nq⟩
        · rcases hc4 : (n == 0) with _ | _
          · go_enter Tryz.func83, Tryz.ntmps83
            go_wp2
            go_quiet (first | (go_at_call 41; with_reducible exact quiet_same (HL.out _)))
            go_wp2
            go_ret
            exact ⟨by first | rfl | simp [*], drewN_below6 ((Below.refl _ _).alloc (Nat.le_refl _) _) nq⟩
          · rcases hc5 : (wd == 0) with _ | _
            · go_enter Tryz.func83, Tryz.ntmps83
              go_wp2
              go_quiet (first | (go_at_call 41; with_reducible exact quiet_same (HL.out _)))
              go_wp2
              go_ret
              exact ⟨by first | rfl | simp [*], drewN_below6 ((Below.refl _ _).alloc (Nat.le_refl _) _) nq⟩
            · go_enter Tryz.func83, Tryz.ntmps83
              go_wp2
              go_quiet (first | (go_at_call 41; with_reducible exact quiet_same (HL.out _)))
              go_wp2
              go_ret
              exact ⟨by first | rfl | simp [*], drewN_below6 ((Below.refl _ _).alloc (Nat.le_refl _) _) nq⟩
set_option maxRecDepth 100000 in
set_option maxHeartbeats 4000000 in
theorem MayRule_2 (k mo d n wd : Int) (sh : Bool) (hk : k = 2) (w : World) :
    Calls Tryz.prog 83 #[.agg #[.int .i64 k, .int .i64 mo, .int .i64 d, .int .i64 n, .int .i64 wd, .bool sh]] w fun e w' => e = .returned (.bool (decide (1 ≤ mo) && decide (mo ≤ 12) && (decide (1 ≤ n) && decide (n ≤ 5) || (n == -1)) && decide (0 ≤ wd) && decide (wd ≤ 6) && (d == 0) && !sh)) ∧ Below w.heap.size w w' := by
  subst hk
  go_enter Tryz.func83, Tryz.ntmps83
  go_wp2
  all_goals
    go_ret
    exact ⟨by simp [*] <;> omega, (Below.refl _ _).alloc (Nat.le_refl _) _⟩
set_option maxRecDepth 100000 in
set_option maxHeartbeats 4000000 in
theorem MayRule_3 (k mo d n wd : Int) (sh : Bool) (hk : k = 3) (w : World) :
    Calls Tryz.prog 83 #[.agg #[.int .i64 k, .int .i64 mo, .int .i64 d, .int .i64 n, .int .i64 wd, .bool sh]] w fun e w' => e = .returned (.bool (decide (-100 ≤ n) && decide (n ≤ 100) && (mo == 0) && (d == 0) && (wd == 0) && !sh)) ∧ Below w.heap.size w w' := by
  subst hk
  go_enter Tryz.func83, Tryz.ntmps83
  go_wp2
  all_goals
    go_ret
    exact ⟨by simp [*] <;> omega, (Below.refl _ _).alloc (Nat.le_refl _) _⟩
set_option maxRecDepth 100000 in
set_option maxHeartbeats 4000000 in
theorem MayRule_0 (k mo d n wd : Int) (sh : Bool) (h1 : k ≠ 1) (h2 : k ≠ 2) (h3 : k ≠ 3) (w : World) :
    Calls Tryz.prog 83 #[.agg #[.int .i64 k, .int .i64 mo, .int .i64 d, .int .i64 n, .int .i64 wd, .bool sh]] w fun e w' => e = .returned (.bool false) ∧ Below w.heap.size w w' := by
  go_enter Tryz.func83, Tryz.ntmps83
  go_wp2
  all_goals
    go_ret
    exact ⟨by simp [*] <;> omega, (Below.refl _ _).alloc (Nat.le_refl _) _⟩
theorem MayRule_any (r : Rule) (w : World) :
    Calls Tryz.prog 83 #[r.val] w fun e w' => e = .returned (.bool (decide (May r))) ∧ Below w.heap.size w w' := by
  obtain ⟨k, mo, d, n, wd, sh⟩ := r
  by_cases h1 : k = 1
  · refine (MayRule_1 k mo d n wd sh h1 w).mono fun e w' ⟨he, hb⟩ => ⟨he.trans ?_, hb⟩
    congr 2
    rw [Bool.eq_iff_iff, decide_eq_true_iff]
    simp [May, h1, and_assoc]
  · by_cases h2 : k = 2
    · refine (MayRule_2 k mo d n wd sh h2 w).mono fun e w' ⟨he, hb⟩ => ⟨he.trans ?_, hb⟩
      congr 2
      rw [Bool.eq_iff_iff, decide_eq_true_iff]
      simp [May, h2, and_assoc]
    · by_cases h3 : k = 3
      · refine (MayRule_3 k mo d n wd sh h3 w).mono fun e w' ⟨he, hb⟩ => ⟨he.trans ?_, hb⟩
        congr 2
        rw [Bool.eq_iff_iff, decide_eq_true_iff]
        simp [May, h3, and_assoc]
      · refine (MayRule_0 k mo d n wd sh h1 h2 h3 w).mono fun e w' ⟨he, hb⟩ => ⟨he.trans ?_, hb⟩
        rw [decide_eq_false (fun h => h.elim (fun h => h1 h.1) (fun h => h.elim (fun h => h2 h.1) (fun h => h3 h.1)))]
end Go.Proofs.YtlhmfgbaefaneabGreatDoor.ref6
