/-
  The statements' own begun() answers true: one error of ErrDate wrapped once, its places, its code, its text, what it is. Condition: errors.errorType holds its handle.
-/
import Derived.Test.YtglcmbpgnehinaaDoorError
import Derived.Test.YtglcmbpgnehinaaDoorJoin
namespace Go.Proofs.YtglcmbpgnehinaaDoor.flt
open Go.RowKit Go.Extern.Stop Go.Stop Go.Extern

theorem ats_begun (b0 b1 : Nat) : ats [(b1, 4, ⟨#[97]⟩), (b0, 4, ⟨#[98]⟩)] = [⟨#[97]⟩, ⟨#[98]⟩] := by
  have h1 : (⟨#[97]⟩ : ByteArray).toList = [97] := by decide +kernel
  have h2 : (⟨#[98]⟩ : ByteArray).toList = [98] := by decide +kernel
  simp [ats, h1, h2]
theorem text_begun : (⟨(render [⟨#[97]⟩, ⟨#[98]⟩] ++ (msg 4).data.toList).toArray⟩ : ByteArray) = ⟨#[97, 58, 32, 98, 58, 32, 101, 114, 114, 111, 114, 32, 52]⟩ := by decide +kernel

/-- Where's answer, where two places are told. -/
theorem Places.two {w w' : World} {x y : ByteArray} {e : Ending} (h : Places w [x, y] e w') : ∃ g cap, e = .returned (.slice (some ⟨g, 0, none⟩) 2 cap) ∧ w'.cell? ⟨g, 0, none⟩ = some (.string x) ∧ w'.cell? ⟨g, 1, none⟩ = some (.string y) ∧ Below w.heap.size w w' := by
  obtain ⟨sv, rfl, hown, hb⟩ := h
  obtain ⟨g, cap, rfl⟩ : ∃ g cap, sv = .slice (some ⟨g, 0, none⟩) 2 cap := by
    rcases hown.2 with ⟨_, h⟩ | ⟨g, cap, cur, hv, _⟩
    · simp at h
    · exact ⟨g, cap, hv⟩
  have hown' : w'.ownsRow w.heap.size 9 1 (.slice (some ⟨g, 0, none⟩) 2 cap) 2 [.string x, .string y] := hown
  exact ⟨g, cap, rfl, by rw [hown'.cellAt 0 (by omega)]; rfl, by rw [hown'.cellAt 1 (by omega)]; rfl, hb⟩

set_option maxRecDepth 100000 in
set_option maxHeartbeats 4000000 in
theorem begun_any (w : World) (hg : Handle w) : Calls Tryd.prog 9 #[] w fun e w' => e = .returned (.bool true) ∧ Below w.heap.size w w' := by
  have HG := Lib.hid hg
  clear hg
  have mE := methodError
  have HN := Lib.hid (New_some 4 ⟨#[98]⟩ w (by decide))
  have B1 : Below w.heap.size w (w.alloc (.cells #[.int .i64 4, .string ⟨#[98]⟩, .nilIface] 51)) := (Below.refl _ _).alloc (Nat.le_refl _) _
  have F1 : FaultAt (w.alloc (.cells #[.int .i64 4, .string ⟨#[98]⟩, .nilIface] 51)) w.heap.size 4 ⟨#[98]⟩ .nilIface := by show (w.heap.push _)[w.heap.size]? = _; simp
  have HW := Lib.hid (Wrap_of ⟨#[97]⟩ _ _ 4 _ (Code_fault w.heap.size 4 _ (HG.out.below B1 HG.out.pos) F1.cell0))
  have HB1 := Lib.hid B1
  have HF1 := Lib.hid F1
  clear B1 F1
  go_enter Tryd.func9, Tryd.ntmps9
  go_wp2_with (first | (go_at_call 15; refine (HN.out).mono ?_; rintro e' w' ⟨rfl, rfl⟩) | (go_at_call 13; refine (HW.out).mono ?_; rintro e' W2 ⟨b1, rfl, hle, hF2, hB2⟩; have HLE := Lib.hid hle; have HF2 := Lib.hid hF2; have HB2 := Lib.hid hB2; clear hle hF2 hB2))
  have B2 : Below w.heap.size w W2 := HB1.out.trans (HB2.out.mono HB1.out.size)
  have F0 : FaultAt W2 w.heap.size 4 ⟨#[98]⟩ .nilIface := HF1.out.below HB2.out HF1.out.lt
  have CH : Chain W2 (.iface 40 (.pointer (some ⟨b1, 0, none⟩))) W2.heap.size [(b1, 4, ⟨#[97]⟩), (w.heap.size, 4, ⟨#[98]⟩)] :=
    .link b1 4 _ _ _ _ HF2.out HF2.out.lt (.link w.heap.size 4 _ _ _ _ F0 (by have := HLE.out; simp at this; omega) (.none _))
  have HWh := Lib.hid (show Calls Tryd.prog 17 #[.iface 40 (.pointer (some ⟨b1, 0, none⟩))] W2 fun e w' => ∃ g cap, e = .returned (.slice (some ⟨g, 0, none⟩) 2 cap) ∧ w'.cell? ⟨g, 0, none⟩ = some (.string ⟨#[97]⟩) ∧ w'.cell? ⟨g, 1, none⟩ = some (.string ⟨#[98]⟩) ∧ Below W2.heap.size W2 w' from by
    have h := Where_chain _ _ _ W2 (HG.out.below B2 HG.out.pos) CH (Nat.le_refl _) (by simp)
    rw [ats_begun] at h
    exact h.mono fun _ _ h => h.two)
  have HB2w := Lib.hid B2
  have HCH := Lib.hid CH
  clear B2 F0 CH
  go_wp2_with (go_at_call 17; refine (HWh.out).mono ?_; rintro e' W3 ⟨g, cap, rfl, hc0, hc1, hb3⟩; have HB3 := Lib.hid hb3; clear hb3)
  have HCo := Lib.hid (Code_fault b1 4 W3 (HG.out.below (HB2w.out.trans (HB3.out.mono HB2w.out.size)) HG.out.pos) ((HF2.out.below HB3.out HF2.out.lt).cell0))
  go_wp2_with (go_at_call 16; refine (HCo.out).mono ?_; rintro e' W4 ⟨rfl, hb4⟩; have HB4 := Lib.hid hb4; clear hb4)
  have B24 : Below W2.heap.size W2 W4 := HB3.out.trans (HB4.out.mono HB3.out.size)
  have HE := Lib.hid (show Calls Tryd.prog 21 #[.pointer (some ⟨b1, 0, none⟩)] W4 fun e w' => e = .returned (.string ⟨#[97, 58, 32, 98, 58, 32, 101, 114, 114, 111, 114, 32, 52]⟩) ∧ Below W4.heap.size W4 w' from by
    have h := Error_chain b1 4 ⟨#[97]⟩ W2.heap.size [(w.heap.size, 4, ⟨#[98]⟩)] W4 (HG.out.below (HB2w.out.trans (B24.mono HB2w.out.size)) HG.out.pos) (HCH.out.keep B24 (Nat.le_refl _)) B24.size (by simp) (by
      intro x hx
      simp at hx
      rcases hx with rfl | rfl <;> exact (show (1 : Nat) ≤ 100000 by omega)) (by omega) (by omega)
    rw [ats_begun, text_begun] at h
    exact h)
  have HB24 := Lib.hid B24
  clear B24
  go_wp2_with (go_at_call 21; refine (HE.out).mono ?_; rintro e' W5 ⟨rfl, hb5⟩; have HB5 := Lib.hid hb5; clear hb5)
  have B25 : Below W2.heap.size W2 W5 := HB24.out.trans (HB5.out.mono HB24.out.size)
  have CH5 := HCH.out.keep B25 (Nat.le_refl _)
  have F1 : FaultAt W5 b1 4 ⟨#[97]⟩ _ := HF2.out.below B25 HF2.out.lt
  have F0 : FaultAt W5 w.heap.size 4 ⟨#[98]⟩ .nilIface := ((HF1.out.below HB2.out HF1.out.lt).below B25 (Nat.lt_of_lt_of_le HF1.out.lt HB2.out.size))
  have lt01 : w.heap.size < b1 := by have := HLE.out; simp at this; omega
  have HI1 := Lib.hid (eIs_ans _ _ _ _ true W5 compPlain (isAns_code CH5 (by decide)))
  have HI2 := Lib.hid (eIs_ans _ _ _ _ false W5 compPlain (.on (tgt := .iface 64 (.int .i64 1)) b1 4 _ _ _ false F1 (by decide) (eq_types _ _ _ _ (by decide) W5) (eq_plain 4 1 W5) (by simp [errM]; omega) (.last w.heap.size 4 _ F0 (by decide) (eq_types _ _ _ _ (by decide) W5) (eq_plain 4 1 W5))))
  have heq : (binOp .eql 27 (.iface 64 (.int .i64 3)) (.iface 64 (.int .i64 3))).run Tryd.prog W5 = .ok (.bool true) W5 := eq_plain 3 3 W5
  have HBe := Lib.hid (HB2w.out.trans (B25.mono HB2w.out.size))
  clear B25 CH5 F1 F0 lt01
  go_wp2_with (first | (go_at_call 19; refine (Of_some _ _ (by decide)).mono ?_; rintro e' w' ⟨rfl, rfl⟩) | (go_at_call 18; refine (HI1.out).mono ?_; rintro e' w' ⟨rfl, rfl⟩; clear HI1) | (go_at_call 18; refine (HI2.out).mono ?_; rintro e' w' ⟨rfl, rfl⟩; clear HI2) | (go_at_call 19; refine (Of_none _).mono ?_; rintro e' w' ⟨rfl, rfl⟩))
  go_ret
  exact ⟨rfl, HBe.out⟩
end Go.Proofs.YtglcmbpgnehinaaDoor.flt
