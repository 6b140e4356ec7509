/-
  FaultWrap answers true for every number and every two texts. Conditions: errors.errorType holds its handle; the texts are no longer than strings may be.
-/
import Derived.Test.YtglcmbpgnehinaaDoorLawKit
namespace Go.Proofs.YtglcmbpgnehinaaDoor.flt
open Go.RowKit Go.Extern.Stop Go.Stop Go.Extern

set_option maxRecDepth 100000 in
set_option maxHeartbeats 4000000 in
theorem FaultWrap_walk (n : Int) (a b : ByteArray) (w : World) (hg : Handle w) (ha : a.size ≤ maxLen) (hb : b.size ≤ maxLen) : Calls Tryd.prog 4 #[.int .i64 n, .string a, .string b] w fun e w' => e = .returned (.bool true) ∧ Below w.heap.size w w' := by
  have HG := Lib.hid hg
  have HN := Lib.hid (code_any n)
  have n0 := codeOf_ne n
  have HTA := Lib.hid (Text20 a ha)
  have HTB := Lib.hid (Text20 b hb)
  generalize codeOf n = c at *
  generalize cut a 20 = x at *
  generalize cut b 20 = y at *
  have N0 := Lib.hid n0
  clear hg n0 ha hb
  go_enter Tryd.func4, Tryd.ntmps4
  go_wp2_with (go_at_call 9; refine (begun_any w HG.out).mono ?_; rintro e' W ⟨rfl, hb⟩; have HB := Lib.hid hb; clear hb)
  have HNw := Lib.hid (New_some c x W N0.out)
  have B1 : Below W.heap.size W (W.alloc (.cells #[.int .i64 c, .string x, .nilIface] 51)) := (Below.refl _ _).alloc (Nat.le_refl _) _
  have F1 : FaultAt (W.alloc (.cells #[.int .i64 c, .string x, .nilIface] 51)) W.heap.size c x .nilIface := by show (W.heap.push _)[W.heap.size]? = _; simp
  have HW := Lib.hid (Wrap_of y _ _ c _ (Code_fault W.heap.size c _ ((HG.out.below HB.out HG.out.pos).below B1 (HG.out.below HB.out HG.out.pos).pos) F1.cell0))
  have HB1 := Lib.hid B1
  have HF1 := Lib.hid F1
  clear B1 F1
  go_wp2_with (first | (go_at_call 10; refine (HN.out _).mono ?_; rintro e' w' ⟨rfl, rfl⟩) | (go_at_call 11; refine (HTA.out _).mono ?_; rintro e' w' ⟨rfl, rfl⟩; clear HTA) | (go_at_call 11; refine (HTB.out _).mono ?_; rintro e' w' ⟨rfl, rfl⟩; clear HTB) | (go_at_call 15; refine (HNw.out).mono ?_; rintro e' w' ⟨rfl, rfl⟩) | (go_at_call 13; refine (HW.out).mono ?_; rintro e' W2 ⟨b1, rfl, hle, hF2, hB2⟩; have HLE := Lib.hid hle; have HF2 := Lib.hid hF2; have HB2 := Lib.hid hB2; clear hle hF2 hB2))
  have F0 : FaultAt W2 W.heap.size c x .nilIface := HF1.out.below HB2.out HF1.out.lt
  have lt01 : W.heap.size < b1 := by have := HLE.out; simp at this; omega
  have HU1 := Lib.hid (eUnwrap_any _ _ W2 (.link b1 _ HF2.out.cell2))
  have HU0 := Lib.hid (eUnwrap_any _ _ W2 (.link W.heap.size _ F0.cell2))
  have heq : (binOp .eql 27 (.iface 40 (.pointer (some ⟨W.heap.size, 0, none⟩))) (.iface 40 (.pointer (some ⟨W.heap.size, 0, none⟩)))).run Tryd.prog W2 = .ok (.bool true) W2 := eq_fault_same W.heap.size W2
  have HI1 := Lib.hid (eIs_ans 40 (.pointer (some ⟨W.heap.size, 0, none⟩)) _ _ true W2 compFault (.on b1 c y _ _ true HF2.out N0.out (eq_fault_other b1 W.heap.size _ _ _ _ _ _ W2 HF2.out F0 (by omega)) (eq_types _ _ _ _ (by decide) W2) (by simp [errM]; omega) (.same W.heap.size (eq_fault_same W.heap.size W2))))
  have HI2 := Lib.hid (eIs_ans _ _ _ _ true W2 compPlain (isAns_code (.link W.heap.size c x _ (W.heap.size + 1) [] F0 (by omega) (.none _)) N0.out))
  have HO := Lib.hid (Of_some c W2 N0.out)
  have HBe := Lib.hid (HB.out.trans ((HB1.out.trans (HB2.out.mono HB1.out.size)).mono HB.out.size))
  clear F0 lt01
  go_wp2_with (first | (go_at_call 20; refine (HU1.out).mono ?_; rintro e' w' ⟨rfl, rfl⟩; clear HU1) | (go_at_call 20; refine (HU0.out).mono ?_; rintro e' w' ⟨rfl, rfl⟩; clear HU0) | (go_at_call 10; refine (HN.out _).mono ?_; rintro e' w' ⟨rfl, rfl⟩) | (go_at_call 19; refine (HO.out).mono ?_; rintro e' w' ⟨rfl, rfl⟩) | (go_at_call 18; refine (HI1.out).mono ?_; rintro e' w' ⟨rfl, rfl⟩; clear HI1) | (go_at_call 18; refine (HI2.out).mono ?_; rintro e' w' ⟨rfl, rfl⟩; clear HI2))
  go_ret
  exact ⟨rfl, HBe.out⟩
end Go.Proofs.YtglcmbpgnehinaaDoor.flt
