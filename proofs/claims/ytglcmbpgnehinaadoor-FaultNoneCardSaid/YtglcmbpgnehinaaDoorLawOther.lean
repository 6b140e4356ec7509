/-
  FaultOther answers true for every number and every text. Conditions: errors.errorType holds its handle; the text is no longer than a string may be.
-/
import Derived.Test.YtglcmbpgnehinaaDoorLawKit
namespace Go.Proofs.YtglcmbpgnehinaaDoor.flt
open Go.RowKit Go.Extern.Stop Go.Stop Go.Extern

/-- Where's answer, where no place is told. -/
theorem Places.zero {w w' : World} {e : Ending} (h : Places w [] e w') : ∃ ao cap, e = .returned (.slice ao 0 cap) ∧ Below w.heap.size w w' := by
  obtain ⟨sv, rfl, hown, hb⟩ := h
  obtain ⟨ao, cap, rfl⟩ := own_shape hown
  exact ⟨ao, cap, rfl, hb⟩
theorem ats_nil : ats [] = [] := rfl

theorem Where_zero (v : Value) (B : Nat) (w : World) (hg : Handle w) (h : Chain w v B []) (hB : B ≤ w.heap.size) : Calls Tryd.prog 17 #[v] w fun e w' => ∃ ao cap, e = .returned (.slice ao 0 cap) ∧ Below w.heap.size w w' := by
  have h := Where_chain v B [] w hg h hB (by simp)
  rw [ats_nil] at h
  exact h.mono fun _ _ h => h.zero

set_option maxRecDepth 100000 in
set_option maxHeartbeats 4000000 in
theorem FaultOther_walk (n : Int) (a : ByteArray) (w : World) (hg : Handle w) (ha : a.size ≤ maxLen) : Calls Tryd.prog 3 #[.int .i64 n, .string a] w fun e w' => e = .returned (.bool true) ∧ Below w.heap.size w w' := by
  have HG := Lib.hid hg
  have HN := Lib.hid (code_any n)
  have n0 := codeOf_ne n
  have HTA := Lib.hid (Text20 a ha)
  generalize codeOf n = c at *
  generalize cut a 20 = s at *
  have N0 := Lib.hid n0
  clear hg n0 ha
  go_enter Tryd.func3, Tryd.ntmps3
  go_wp2_with (go_at_call 9; refine (begun_any w HG.out).mono ?_; rintro e' W ⟨rfl, hb⟩; have HB := Lib.hid hb; clear hb)
  have HGW := Lib.hid (HG.out.below HB.out HG.out.pos)
  -- x, up
  have HE := Lib.hid (eNew_any ⟨#[97, 110, 111, 116, 104, 101, 114]⟩ W)
  have B1 : Below W.heap.size W (W.alloc (.cells #[.string ⟨#[97, 110, 111, 116, 104, 101, 114]⟩] 49)) := (Below.refl _ _).alloc (Nat.le_refl _) _
  have HW := Lib.hid (Wrap_of s _ _ 1 _ (Code_other (.pointer (some ⟨W.heap.size, 0, none⟩)) _ (HGW.out.below B1 HGW.out.pos)))
  have HB1 := Lib.hid B1
  clear B1
  go_wp2_with (first | (go_at_call 10; refine (HN.out _).mono ?_; rintro e' w' ⟨rfl, rfl⟩) | (go_at_call 11; refine (HTA.out _).mono ?_; rintro e' w' ⟨rfl, rfl⟩; clear HTA) | (go_at_call 12; refine (HE.out).mono ?_; rintro e' w' ⟨rfl, rfl⟩; clear HE) | (go_at_call 13; refine (HW.out).mono ?_; rintro e' W2 ⟨b1, rfl, hle, hF2, hB2⟩; have HLE := Lib.hid hle; have HF2 := Lib.hid hF2; have HB2 := Lib.hid hB2; clear hle hF2 hB2 HW))
  -- both
  have HB02 := Lib.hid (show Below W.heap.size W W2 from HB1.out.trans (HB2.out.mono HB1.out.size))
  have HNw := Lib.hid (New_some c s W2 N0.out)
  have hc0 : ((W2.alloc (.cells #[.int .i64 c, .string s, .nilIface] 51)).alloc (.cells #[.iface 47 (.pointer (some ⟨W.heap.size, 0, none⟩)), .iface 40 (.pointer (some ⟨W2.heap.size, 0, none⟩))] 27)).cell? ⟨W2.heap.size + 1, 0, none⟩ = some (.iface 47 (.pointer (some ⟨W.heap.size, 0, none⟩))) := by
    rw [World.cell?_alloc_at _ _ _ _ (by simp)]; rfl
  have hc1 : ((W2.alloc (.cells #[.int .i64 c, .string s, .nilIface] 51)).alloc (.cells #[.iface 47 (.pointer (some ⟨W.heap.size, 0, none⟩)), .iface 40 (.pointer (some ⟨W2.heap.size, 0, none⟩))] 27)).cell? ⟨W2.heap.size + 1, 1, none⟩ = some (.iface 40 (.pointer (some ⟨W2.heap.size, 0, none⟩))) := by
    rw [World.cell?_alloc_at _ _ _ _ (by simp)]; rfl
  have HJ := Lib.hid (eJoin_two (W2.heap.size + 1) _ _ _ _ _ hc0 hc1)
  have HB24 := Lib.hid (show Below W2.heap.size W2 ((W2.alloc (.cells #[.int .i64 c, .string s, .nilIface] 51)).alloc (.cells #[.iface 47 (.pointer (some ⟨W.heap.size, 0, none⟩)), .iface 40 (.pointer (some ⟨W2.heap.size, 0, none⟩))] 27)) from ((Below.refl _ _).alloc (Nat.le_refl _) _).alloc (by simp) _)
  have HF4 := Lib.hid (show FaultAt ((W2.alloc (.cells #[.int .i64 c, .string s, .nilIface] 51)).alloc (.cells #[.iface 47 (.pointer (some ⟨W.heap.size, 0, none⟩)), .iface 40 (.pointer (some ⟨W2.heap.size, 0, none⟩))] 27)) W2.heap.size c s .nilIface from by
    show ((W2.heap.push _).push _)[W2.heap.size]? = _
    rw [Array.getElem?_push, if_neg (by simp)]; simp)
  clear hc0 hc1
  go_wp2_with (first | (go_at_call 15; refine (HNw.out).mono ?_; rintro e' w' ⟨rfl, rfl⟩; clear HNw) | (go_at_call 14; refine (HJ.out).mono ?_; rintro e' W5 ⟨j, rfl, hJ5, hb5⟩; have HJ5 := Lib.hid hJ5; have HB5 := Lib.hid hb5; clear hJ5 hb5 HJ))
  -- the last test
  have HB25 := Lib.hid (show Below W2.heap.size W2 W5 from HB24.out.trans (HB5.out.mono HB24.out.size))
  have HF5 := Lib.hid (show FaultAt W5 W2.heap.size c s .nilIface from HF4.out.below HB5.out HF4.out.lt)
  have HB05 := Lib.hid (show Below W.heap.size W W5 from HB02.out.trans (HB25.out.mono HB02.out.size))
  have HC1 := Lib.hid (Code_other (.pointer (some ⟨W.heap.size, 0, none⟩)) W5 (HGW.out.below HB05.out HGW.out.pos))
  go_wp2_with (go_at_call 16; refine (HC1.out).mono ?_; rintro e' W6 ⟨rfl, hb6⟩; have HB6 := Lib.hid hb6; clear hb6 HC1)
  have HB06 := Lib.hid (show Below W.heap.size W W6 from HB05.out.trans (HB6.out.mono HB05.out.size))
  have HWh1 := Lib.hid (Where_zero _ (W.heap.size + 1) W6 (HGW.out.below HB06.out HGW.out.pos) (.other ⟨W.heap.size, 0, none⟩ _ (by simp)) (by have := HB1.out.size; have h2 := HB2.out.size; have h3 := HB25.out.size; have h4 := HB6.out.size; simp at *; omega))
  go_wp2_with (go_at_call 17; refine (HWh1.out).mono ?_; rintro e' W7 ⟨ao, cap, rfl, hb7⟩; have HB7 := Lib.hid hb7; clear hb7 HWh1)
  have HB57 := Lib.hid (show Below W5.heap.size W5 W7 from HB6.out.trans (HB7.out.mono HB6.out.size))
  have HB27 := Lib.hid (show Below W2.heap.size W2 W7 from HB25.out.trans (HB57.out.mono HB25.out.size))
  have HB07 := Lib.hid (show Below W.heap.size W W7 from HB02.out.trans (HB27.out.mono HB02.out.size))
  have HC2 := Lib.hid (Code_fault b1 1 W7 (HGW.out.below HB07.out HGW.out.pos) (HF2.out.below HB27.out HF2.out.lt).cell0)
  go_wp2_with (go_at_call 16; refine (HC2.out).mono ?_; rintro e' W8 ⟨rfl, hb8⟩; have HB8 := Lib.hid hb8; clear hb8 HC2)
  have HB58 := Lib.hid (show Below W5.heap.size W5 W8 from HB57.out.trans (HB8.out.mono HB57.out.size))
  have HB28 := Lib.hid (show Below W2.heap.size W2 W8 from HB25.out.trans (HB58.out.mono HB25.out.size))
  have HB08 := Lib.hid (show Below W.heap.size W W8 from HB02.out.trans (HB28.out.mono HB02.out.size))
  have HI1 := Lib.hid (eIs_ans 47 (.pointer (some ⟨W.heap.size, 0, none⟩)) _ _ true W8 compOther (.on b1 1 s _ _ true (HF2.out.below HB28.out HF2.out.lt) (by decide) (eq_types _ _ _ _ (by decide) W8) (eq_types _ _ _ _ (by decide) W8) (by have := HLE.out; simp [errM] at *; omega) (.other _ true (eq_other_same ⟨W.heap.size, 0, none⟩ W8))))
  obtain ⟨g, jcap, hj1, hj2, hj3⟩ := HJ5.out.below HB58.out
  have HC3 := Lib.hid (Code_join2 j g 2 jcap W2.heap.size _ c W8 (HGW.out.below HB08.out HGW.out.pos) hj1 (by omega) hj2 hj3 (HF5.out.below HB58.out HF5.out.lt).cell0)
  clear hj1 hj2 hj3
  go_wp2_with (first | (go_at_call 18; refine (HI1.out).mono ?_; rintro e' w' ⟨rfl, rfl⟩; clear HI1) | (go_at_call 16; refine (HC3.out).mono ?_; rintro e' W9 ⟨rfl, hb9⟩; have HB9 := Lib.hid hb9; clear hb9 HC3))
  have HB59 := Lib.hid (show Below W5.heap.size W5 W9 from HB58.out.trans (HB9.out.mono HB58.out.size))
  have HB09 := Lib.hid (show Below W.heap.size W W9 from HB05.out.trans (HB59.out.mono HB05.out.size))
  have HI2 := Lib.hid (eIs_join_second j _ _ _ _ 64 (.int .i64 c) W9 (HJ5.out.below HB59.out) compPlain (by decide) (.other _ false (eq_types _ _ _ _ (by decide) W9)) (isAns_code (.link W2.heap.size c s _ (W2.heap.size + 1) [] (HF5.out.below HB59.out HF5.out.lt) (by omega) (.none _)) N0.out))
  have HC4 := Lib.hid (Code_nil W9)
  go_wp2_with (first | (go_at_call 19; refine (Of_some c _ N0.out).mono ?_; rintro e' w' ⟨rfl, rfl⟩) | (go_at_call 18; refine (HI2.out).mono ?_; rintro e' w' ⟨rfl, rfl⟩; clear HI2) | (go_at_call 16; refine (HC4.out).mono ?_; rintro e' W10 ⟨rfl, hb10⟩; have HB10 := Lib.hid hb10; clear hb10 HC4))
  have HB010 := Lib.hid (show Below W.heap.size W W10 from HB09.out.trans (HB10.out.mono HB09.out.size))
  have HWh2 := Lib.hid (Where_zero _ 0 W10 (HGW.out.below HB010.out HGW.out.pos) (.none _) (Nat.zero_le _))
  go_wp2_with (go_at_call 17; refine (HWh2.out).mono ?_; rintro e' W11 ⟨ao2, cap2, rfl, hb11⟩; have HB11 := Lib.hid hb11; clear hb11 HWh2)
  go_wp2_with (first | (go_at_call 13; refine (Wrap_nil s _).mono ?_; rintro e' w' ⟨rfl, rfl⟩) | (go_at_call 15; refine (New_none s _).mono ?_; rintro e' w' ⟨rfl, rfl⟩))
  go_ret
  exact ⟨rfl, HB.out.trans ((HB010.out.trans (HB11.out.mono HB010.out.size)).mono HB.out.size)⟩
end Go.Proofs.YtglcmbpgnehinaaDoor.flt
