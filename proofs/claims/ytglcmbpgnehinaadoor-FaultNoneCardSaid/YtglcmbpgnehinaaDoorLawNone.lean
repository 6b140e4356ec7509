/-
  FaultNone, a closed sentence, answers true. Condition: errors.errorType holds its handle.
-/
import Derived.Test.YtglcmbpgnehinaaDoorLawOther
namespace Go.Proofs.YtglcmbpgnehinaaDoor.flt
open Go.RowKit Go.Extern.Stop Go.Stop Go.Extern

set_option maxRecDepth 100000 in
set_option maxHeartbeats 4000000 in
theorem FaultNone_walk (w : World) (hg : Handle w) : Calls Tryd.prog 5 #[] w fun e w' => e = .returned (.bool true) ∧ Below w.heap.size w w' := by
  have HG := Lib.hid hg
  clear hg
  go_enter Tryd.func5, Tryd.ntmps5
  go_wp2
  go_loopw [2] (fun i wr => (∃ k : Nat, 1 ≤ k ∧ k ≤ 12 ∧ i = .int .i64 k) ∧ Below w.heap.size w wr) (fun i _ => 12 - (intOf i).toNat)
  case atStart => exact ⟨⟨1, by omega, by omega, rfl⟩, Below.refl _ _⟩
  case round =>
    obtain ⟨⟨k, h1, h2, rfl⟩, hbel⟩ := hrel
    have HGr := Lib.hid (HG.out.below hbel HG.out.pos)
    have HBe := Lib.hid hbel
    clear hbel
    by_cases hlt : k ≤ 11
    · have k0 : ((k : Int) == 0) = false := by simp; omega
      have HO := Lib.hid (fun w => Of_some (k : Int) w k0)
      have HC := Lib.hid (Code_plain (k : Int) wr HGr.out)
      clear k0
      go_wp2_with (first | (go_at_call 19; refine (HO.out _).mono ?_; rintro e' w' ⟨rfl, rfl⟩) | (go_at_call 16; refine (HC.out).mono ?_; rintro e' W2 ⟨rfl, hb2⟩; have HB2 := Lib.hid hb2; clear hb2 HC))
      have HWh := Lib.hid (Where_zero _ 0 W2 (HGr.out.below HB2.out HGr.out.pos) (.plain (k : Int) 0) (Nat.zero_le _))
      go_wp2_with (first | (go_at_call 19; refine (HO.out _).mono ?_; rintro e' w' ⟨rfl, rfl⟩) | (go_at_call 17; refine (HWh.out).mono ?_; rintro e' W3 ⟨ao, cap, rfl, hb3⟩; have HB3 := Lib.hid hb3; clear hb3 HWh))
      go_roundw
      case rel => exact ⟨⟨k + 1, by omega, by omega, by go_num⟩, HBe.out.trans ((HB2.out.trans (HB3.out.mono HB2.out.size)).mono HBe.out.size)⟩
      case measure => simp [intOf]; omega
    · have HBg := Lib.hid (begun_any wr HGr.out)
      go_wp2_with (go_at_call 9; refine (HBg.out).mono ?_; rintro e' W2 ⟨rfl, hb2⟩; have HB2 := Lib.hid hb2; clear hb2 HBg)
      go_wp2_with (first | (go_at_call 21; refine (Error_nil _).mono ?_; rintro e' w' ⟨rfl, rfl⟩) | (go_at_call 22; refine (Unwrap_none _).mono ?_; rintro e' w' ⟨rfl, rfl⟩) | (go_at_call 19; refine (Of_some 1 _ (by decide)).mono ?_; rintro e' w' ⟨rfl, rfl⟩) | (go_at_call 23; refine (FIs_nil _ _).mono ?_; rintro e' w' ⟨rfl, rfl⟩) | (go_at_call 16; refine (Code_nil _).mono ?_; rintro e' W3 ⟨rfl, hb3⟩; have HB3 := Lib.hid hb3; clear hb3))
      go_ret
      exact ⟨rfl, HBe.out.trans ((HB2.out.trans (HB3.out.mono HB2.out.size)).mono HBe.out.size)⟩
end Go.Proofs.YtglcmbpgnehinaaDoor.flt
