/-
  FaultJoin answers true for every two numbers and every two texts. Conditions: errors.errorType holds its handle; the texts are no longer than strings may be.
-/
import Derived.Test.YtglcmbpgnehinaaDoorLawKit
namespace Go.Proofs.YtglcmbpgnehinaaDoor.flt
open Go.RowKit Go.Extern.Stop Go.Stop Go.Extern

/-- A lone Fault of code c, asked for the plain code d. -/
theorem isAns_lone {w : World} {b : Nat} {c d : Int} {s : ByteArray} (h : FaultAt w b c s .nilIface) (h0 : (c == 0) = false) (hne : (c == d) = false) : IsAns w (.iface 64 (.int .i64 d)) (.iface 40 (.pointer (some ⟨b, 0, none⟩))) false :=
  .last b c s h h0 (eq_types _ _ _ _ (by decide) w) (by have := eq_plain c d w; rwa [hne] at this)

set_option maxRecDepth 100000 in
set_option maxHeartbeats 4000000 in
theorem FaultJoin_walk (n m : Int) (a b : ByteArray) (w : World) (hg : Handle w) (ha : a.size ≤ maxLen) (hb : b.size ≤ maxLen) : Calls Tryd.prog 8 #[.int .i64 n, .int .i64 m, .string a, .string b] w fun e w' => e = .returned (.bool true) ∧ Below w.heap.size w w' := by
  have HG := Lib.hid hg
  have HN := Lib.hid (code_any n)
  have HM := Lib.hid (code_any m)
  have HNa := Lib.hid (code_any n)
  have HMb := Lib.hid (code_any m)
  have HNc := Lib.hid (code_any n)
  have HNd := Lib.hid (code_any n)
  have n0 := codeOf_ne n
  have m0 := codeOf_ne m
  have HTA := Lib.hid (Text10 a ha)
  have HTB := Lib.hid (Text10 b hb)
  generalize codeOf n = c at *
  generalize codeOf m = d at *
  generalize cut a 10 = x at *
  generalize cut b 10 = y at *
  have N0 := Lib.hid n0
  have M0 := Lib.hid m0
  have C0 : (c != 0) = true := by simpa using n0
  clear hg n0 m0 ha hb
  go_enter Tryd.func8, Tryd.ntmps8
  go_wp2_with (go_at_call 9; refine (begun_any w HG.out).mono ?_; rintro e' W ⟨rfl, hb⟩; have HB := Lib.hid hb; clear hb)
  have HGW := Lib.hid (HG.out.below HB.out HG.out.pos)
  have HN1 := Lib.hid (New_some c x W N0.out)
  have HN2 := Lib.hid (New_some d y (W.alloc (.cells #[.int .i64 c, .string x, .nilIface] 51)) M0.out)
  have hc0 : (((W.alloc (.cells #[.int .i64 c, .string x, .nilIface] 51)).alloc (.cells #[.int .i64 d, .string y, .nilIface] 51)).alloc (.cells #[.iface 40 (.pointer (some ⟨W.heap.size, 0, none⟩)), .iface 40 (.pointer (some ⟨W.heap.size + 1, 0, none⟩))] 27)).cell? ⟨W.heap.size + 1 + 1, 0, none⟩ = some (.iface 40 (.pointer (some ⟨W.heap.size, 0, none⟩))) := by
    rw [World.cell?_alloc_at _ _ _ _ (by simp)]; rfl
  have hc1 : (((W.alloc (.cells #[.int .i64 c, .string x, .nilIface] 51)).alloc (.cells #[.int .i64 d, .string y, .nilIface] 51)).alloc (.cells #[.iface 40 (.pointer (some ⟨W.heap.size, 0, none⟩)), .iface 40 (.pointer (some ⟨W.heap.size + 1, 0, none⟩))] 27)).cell? ⟨W.heap.size + 1 + 1, 1, none⟩ = some (.iface 40 (.pointer (some ⟨W.heap.size + 1, 0, none⟩))) := by
    rw [World.cell?_alloc_at _ _ _ _ (by simp)]; rfl
  have HJ := Lib.hid (eJoin_two (W.heap.size + 1 + 1) _ _ _ _ _ hc0 hc1)
  have HB03 := Lib.hid (show Below W.heap.size W (((W.alloc (.cells #[.int .i64 c, .string x, .nilIface] 51)).alloc (.cells #[.int .i64 d, .string y, .nilIface] 51)).alloc (.cells #[.iface 40 (.pointer (some ⟨W.heap.size, 0, none⟩)), .iface 40 (.pointer (some ⟨W.heap.size + 1, 0, none⟩))] 27)) from (((Below.refl _ _).alloc (Nat.le_refl _) _).alloc (by simp) _).alloc (by simp; omega) _)
  have HFx := Lib.hid (show FaultAt (((W.alloc (.cells #[.int .i64 c, .string x, .nilIface] 51)).alloc (.cells #[.int .i64 d, .string y, .nilIface] 51)).alloc (.cells #[.iface 40 (.pointer (some ⟨W.heap.size, 0, none⟩)), .iface 40 (.pointer (some ⟨W.heap.size + 1, 0, none⟩))] 27)) W.heap.size c x .nilIface from by
    show (((W.heap.push _).push _).push _)[W.heap.size]? = _
    rw [Array.getElem?_push, if_neg (by simp; omega), Array.getElem?_push, if_neg (by simp)]; simp)
  have HFy := Lib.hid (show FaultAt (((W.alloc (.cells #[.int .i64 c, .string x, .nilIface] 51)).alloc (.cells #[.int .i64 d, .string y, .nilIface] 51)).alloc (.cells #[.iface 40 (.pointer (some ⟨W.heap.size, 0, none⟩)), .iface 40 (.pointer (some ⟨W.heap.size + 1, 0, none⟩))] 27)) (W.heap.size + 1) d y .nilIface from by
    show (((W.heap.push _).push _).push _)[W.heap.size + 1]? = _
    rw [Array.getElem?_push, if_neg (by simp), Array.getElem?_push, if_pos (by simp)])
  clear hc0 hc1
  go_wp2_with (first | (go_at_call 10; refine (HN.out _).mono ?_; rintro e' w' ⟨rfl, rfl⟩; clear HN) | (go_at_call 10; refine (HM.out _).mono ?_; rintro e' w' ⟨rfl, rfl⟩; clear HM) | (go_at_call 11; refine (HTA.out _).mono ?_; rintro e' w' ⟨rfl, rfl⟩; clear HTA) | (go_at_call 11; refine (HTB.out _).mono ?_; rintro e' w' ⟨rfl, rfl⟩; clear HTB) | (go_at_call 15; refine (HN1.out).mono ?_; rintro e' w' ⟨rfl, rfl⟩; clear HN1) | (go_at_call 15; refine (HN2.out).mono ?_; rintro e' w' ⟨rfl, rfl⟩; clear HN2) | (go_at_call 14; refine (HJ.out).mono ?_; rintro e' W4 ⟨j, rfl, hJ4, hb4⟩; have HJ4 := Lib.hid hJ4; have HB4 := Lib.hid hb4; clear hJ4 hb4 HJ))
  have HB04 := Lib.hid (show Below W.heap.size W W4 from HB03.out.trans (HB4.out.mono HB03.out.size))
  have HX4 := Lib.hid (show FaultAt W4 W.heap.size c x .nilIface from HFx.out.below HB4.out HFx.out.lt)
  have HY4 := Lib.hid (show FaultAt W4 (W.heap.size + 1) d y .nilIface from HFy.out.below HB4.out HFy.out.lt)
  have HI1 := Lib.hid (eIs_join_first j _ _ _ 40 (.pointer (some ⟨W.heap.size, 0, none⟩)) W4 HJ4.out compFault (by decide) (.same _ (eq_fault_same _ W4)))
  have HI2 := Lib.hid (eIs_join_second j _ _ _ _ 40 (.pointer (some ⟨W.heap.size + 1, 0, none⟩)) W4 HJ4.out compFault (by decide) (.last _ c x HX4.out N0.out (eq_fault_other _ _ _ _ _ _ _ _ W4 HX4.out HY4.out (by omega)) (eq_types _ _ _ _ (by decide) W4)) (.same _ (eq_fault_same _ W4)))
  have HI3 := Lib.hid (eIs_join_first j _ _ _ 64 (.int .i64 c) W4 HJ4.out compPlain (by decide) (isAns_code (.link W.heap.size c x _ (W.heap.size + 1) [] HX4.out (by omega) (.none _)) N0.out))
  have HI4 : Hid (Calls Tryd.prog 18 #[.iface 53 (.pointer (some ⟨j, 0, none⟩)), .iface 64 (.int .i64 d)] W4 fun e w' => e = .returned (.bool true) ∧ W4 = w') := by
    by_cases h : c = d
    · have HX := HX4.out
      have hn := N0.out
      rw [h] at HX hn
      exact eIs_join_first j _ _ _ 64 (.int .i64 d) W4 HJ4.out compPlain (by decide) (isAns_code (.link W.heap.size d x _ (W.heap.size + 1) [] HX (by omega) (.none _)) hn)
    · exact eIs_join_second j _ _ _ _ 64 (.int .i64 d) W4 HJ4.out compPlain (by decide) (isAns_lone HX4.out N0.out (by simpa using h)) (isAns_code (.link (W.heap.size + 1) d y _ (W.heap.size + 2) [] HY4.out (by omega) (.none _)) M0.out)
  obtain ⟨g, jcap, hj1, hj2, hj3⟩ := HJ4.out
  have HC := Lib.hid (Code_join1 j g 2 jcap W.heap.size c W4 (HGW.out.below HB04.out HGW.out.pos) hj1 (by omega) hj2 HX4.out.cell0)
  clear hj1 hj2 hj3
  go_wp2_with (first | (go_at_call 10; refine (HNa.out _).mono ?_; rintro e' w' ⟨rfl, rfl⟩; clear HNa) | (go_at_call 10; refine (HMb.out _).mono ?_; rintro e' w' ⟨rfl, rfl⟩; clear HMb) | (go_at_call 19; refine (Of_some _ _ (by first | exact N0.out | exact M0.out)).mono ?_; rintro e' w' ⟨rfl, rfl⟩) | (go_at_call 18; refine (HI1.out).mono ?_; rintro e' w' ⟨rfl, rfl⟩; clear HI1) | (go_at_call 18; refine (HI2.out).mono ?_; rintro e' w' ⟨rfl, rfl⟩; clear HI2) | (go_at_call 18; refine (HI3.out).mono ?_; rintro e' w' ⟨rfl, rfl⟩; clear HI3) | (go_at_call 18; refine (HI4.out).mono ?_; rintro e' w' ⟨rfl, rfl⟩; clear HI4) | (go_at_call 16; refine (HC.out).mono ?_; rintro e' W5 ⟨rfl, hb5⟩; have HB5 := Lib.hid hb5; clear hb5 HC))
  have HB05 := Lib.hid (show Below W.heap.size W W5 from HB04.out.trans (HB5.out.mono HB04.out.size))
  have HX5 := Lib.hid (show FaultAt W5 W.heap.size c x .nilIface from HX4.out.below HB5.out HX4.out.lt)
  have HE := Lib.hid (eNew_any ⟨#[120]⟩ W5)
  have HB6 := Lib.hid (show Below W5.heap.size W5 (W5.alloc (.cells #[.string ⟨#[120]⟩] 49)) from (Below.refl _ _).alloc (Nat.le_refl _) _)
  have HI5 := Lib.hid (eIs_ans 47 (.pointer (some ⟨W5.heap.size, 0, none⟩)) 40 (.pointer (some ⟨W.heap.size, 0, none⟩)) false (W5.alloc (.cells #[.string ⟨#[120]⟩] 49)) compOther
    (.last _ c x (HX5.out.below HB6.out HX5.out.lt) N0.out (eq_types _ _ _ _ (by decide) _) (eq_types _ _ _ _ (by decide) _)))
  go_wp2_with (first | (go_at_call 10; refine (HNc.out _).mono ?_; rintro e' w' ⟨rfl, rfl⟩; clear HNc) | (go_at_call 10; refine (HNd.out _).mono ?_; rintro e' w' ⟨rfl, rfl⟩; clear HNd) | (go_at_call 12; refine (HE.out).mono ?_; rintro e' w' ⟨rfl, rfl⟩; clear HE) | (go_at_call 18; refine (HI5.out).mono ?_; rintro e' w' ⟨rfl, rfl⟩; clear HI5))
  go_ret
  exact ⟨rfl, HB.out.trans ((HB05.out.trans (HB6.out.mono HB05.out.size)).mono HB.out.size)⟩
end Go.Proofs.YtglcmbpgnehinaaDoor.flt
