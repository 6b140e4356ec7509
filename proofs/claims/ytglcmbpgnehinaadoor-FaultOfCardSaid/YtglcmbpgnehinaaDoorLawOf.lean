/-
  FaultOf answers true for every pair of numbers. Condition: errors.errorType holds its handle.
-/
import Derived.Test.YtglcmbpgnehinaaDoorLawKit
namespace Go.Proofs.YtglcmbpgnehinaaDoor.flt
open Go.RowKit Go.Extern.Stop Go.Stop Go.Extern

set_option maxRecDepth 100000 in
set_option maxHeartbeats 4000000 in
theorem FaultOf_walk (n m : Int) (w : World) (hg : Handle w) : Calls Tryd.prog 6 #[.int .i64 n, .int .i64 m] w fun e w' => e = .returned (.bool true) ∧ Below w.heap.size w w' := by
  have HG := Lib.hid hg
  have HN := Lib.hid (code_any n)
  have HM := Lib.hid (code_any m)
  have n0 := codeOf_ne n
  have m0 := codeOf_ne m
  generalize codeOf n = a at *
  generalize codeOf m = b at *
  have N0 := Lib.hid n0
  have M0 := Lib.hid m0
  clear hg n0 m0
  go_enter Tryd.func6, Tryd.ntmps6
  go_wp2_with (go_at_call 9; refine (begun_any w HG.out).mono ?_; rintro e' W ⟨rfl, hb⟩; have HB := Lib.hid hb; clear hb)
  by_cases h : a = b
  · subst h
    have heq : (binOp .eql 27 (.iface 64 (.int .i64 a)) (.iface 64 (.int .i64 a))).run Tryd.prog W = .ok (.bool true) W := by have := eq_plain a a W; rwa [show (a == a) = true from by simp] at this
    have HI := Lib.hid (eIs_plain a 64 _ true W compPlain heq)
    have HC := Lib.hid (Code_plain a W (HG.out.below HB.out HG.out.pos))
    go_wp2_with (first | (go_at_call 10; refine (HN.out _).mono ?_; rintro e' w' ⟨rfl, rfl⟩; clear HN) | (go_at_call 10; refine (HM.out _).mono ?_; rintro e' w' ⟨rfl, rfl⟩; clear HM) | (go_at_call 19; refine (Of_some a _ N0.out).mono ?_; rintro e' w' ⟨rfl, rfl⟩) | (go_at_call 18; refine (HI.out).mono ?_; rintro e' w' ⟨rfl, rfl⟩) | (go_at_call 16; refine (HC.out).mono ?_; rintro e' w' ⟨rfl, hb2⟩; have HB2 := Lib.hid hb2; clear hb2))
    go_ret
    exact ⟨rfl, HB.out.trans (HB2.out.mono HB.out.size)⟩
  · have hab : (a == b) = false := by simpa using h
    have heq : (binOp .eql 27 (.iface 64 (.int .i64 a)) (.iface 64 (.int .i64 b))).run Tryd.prog W = .ok (.bool false) W := by have := eq_plain a b W; rwa [hab] at this
    have HI := Lib.hid (eIs_plain a 64 _ false W compPlain heq)
    have HC := Lib.hid (Code_plain a W (HG.out.below HB.out HG.out.pos))
    clear h
    go_wp2_with (first | (go_at_call 10; refine (HN.out _).mono ?_; rintro e' w' ⟨rfl, rfl⟩; clear HN) | (go_at_call 10; refine (HM.out _).mono ?_; rintro e' w' ⟨rfl, rfl⟩; clear HM) | (go_at_call 19; refine (Of_some _ _ (by first | exact N0.out | exact M0.out)).mono ?_; rintro e' w' ⟨rfl, rfl⟩) | (go_at_call 18; refine (HI.out).mono ?_; rintro e' w' ⟨rfl, rfl⟩) | (go_at_call 16; refine (HC.out).mono ?_; rintro e' w' ⟨rfl, hb2⟩; have HB2 := Lib.hid hb2; clear hb2))
    go_ret
    exact ⟨rfl, HB.out.trans (HB2.out.mono HB.out.size)⟩
end Go.Proofs.YtglcmbpgnehinaaDoor.flt
