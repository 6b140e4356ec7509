/-
  The steps of the walks, part 4: C6HoliShift.
-/
import Derived.Test.YtlhmfgbaefaneabGreatDoorTie
import Derived.Test.YtlhmfgbaefaneabGreatDoorCards
import Derived.ProofKit
import Derived.Carry
import Derived.OpenShut
import Derived.SizedLaws
import Derived.Test.YtlhmfgbaefaneabGreatDoorB01
import Derived.Test.YtlhmfgbaefaneabGreatDoorB02
import Derived.Test.YtlhmfgbaefaneabGreatDoorB03
import Derived.Test.YtlhmfgbaefaneabGreatDoorB04
import Derived.Test.YtlhmfgbaefaneabGreatDoorB05
import Derived.Test.YtlhmfgbaefaneabGreatDoorB06
import Derived.Test.YtlhmfgbaefaneabGreatDoorB07
import Derived.Test.YtlhmfgbaefaneabGreatDoorB08
import Derived.Test.YtlhmfgbaefaneabGreatDoorB09
import Derived.Test.YtlhmfgbaefaneabGreatDoorB10
import Derived.Test.YtlhmfgbaefaneabGreatDoorB11
import Derived.Test.YtlhmfgbaefaneabGreatDoorB12
import Derived.Test.YtlhmfgbaefaneabGreatDoorB13
import Derived.Test.YtlhmfgbaefaneabGreatDoorB14
import Derived.Test.YtlhmfgbaefaneabGreatDoorB15
import Derived.Test.YtlhmfgbaefaneabGreatDoorB16
import Derived.Test.YtlhmfgbaefaneabGreatDoorB17
import Derived.Test.YtlhmfgbaefaneabGreatDoorB18
import Derived.Test.YtlhmfgbaefaneabGreatDoorB19
import Derived.Test.YtlhmfgbaefaneabGreatDoorB20
import Derived.Test.YtlhmfgbaefaneabGreatDoorB21
import Derived.Test.YtlhmfgbaefaneabGreatDoorB22
import Derived.Test.YtlhmfgbaefaneabGreatDoorB23
import Derived.Test.YtlhmfgbaefaneabGreatDoorB24
import Derived.Test.YtlhmfgbaefaneabGreatDoorB25
import Derived.Test.YtlhmfgbaefaneabGreatDoorB26
import Derived.Test.YtlhmfgbaefaneabGreatDoorB27
import Derived.Test.YtlhmfgbaefaneabGreatDoorB28
import Derived.Test.YtlhmfgbaefaneabGreatDoorB29
import Derived.Test.YtlhmfgbaefaneabGreatDoorB30
import Derived.Test.YtlhmfgbaefaneabGreatDoorB31
import Derived.Test.YtlhmfgbaefaneabGreatDoorB32
import Derived.Test.YtlhmfgbaefaneabGreatDoorB33
import Derived.Test.YtlhmfgbaefaneabGreatDoorB34
import Derived.Test.YtlhmfgbaefaneabGreatDoorB35
import Derived.Test.YtlhmfgbaefaneabGreatDoorB36
import Derived.Test.YtlhmfgbaefaneabGreatDoorB37
import Derived.Test.YtlhmfgbaefaneabGreatDoorB38
import Derived.Test.YtlhmfgbaefaneabGreatDoorB39
import Derived.Test.YtlhmfgbaefaneabGreatDoorB40
import Derived.Test.YtlhmfgbaefaneabGreatDoorLHoliShift01
import Derived.Test.YtlhmfgbaefaneabGreatDoorLHoliShift02
import Derived.Test.YtlhmfgbaefaneabGreatDoorLHoliShift03
import Derived.Test.YtlhmfgbaefaneabGreatDoorLaw6Facts
namespace Go.Proofs.YtlhmfgbaefaneabGreatDoor.law6
open Go.ChangeShapes Go.WideShapes Go.RowKit
open Go.ChangeMaps (open_string shut_string)
set_option maxRecDepth 100000 in
theorem holiShift_lifted (os : Os) (started : os.Started) (H : Type) (enc : TypeId × Value → H) :
    ReturnsInHanded {} Tryz.checked os 11 .any (fun w args => (Rows.holiShiftSpec.pre enc Tryz.prog Tryz.f11 [] false w args ∧ laidMetH Tryz.prog Rows.holiShiftRow.laid w) ∧ sizedMet enc Tryz.prog Tryz.f11 (OpenSpec.ofChange Rows.holiShiftSpec) false w args)
      (Rows.holiShiftSpec.post enc Tryz.prog Tryz.f11 false true false false) := by
  refine returnsInHanded_of_change_and (C := Tryz.checked) (X := fun w _ => laidMetH Tryz.prog Rows.holiShiftRow.laid w) (fun _ _ _ hh h => h.of_heap hh) own started (by kernel_rfl) Tryz.func11
    (ChangeSpec.witness_at (enc := enc) (C := Tryz.checked) (os := os) (X := fun w _ => laidMetH Tryz.prog Rows.holiShiftRow.laid w) false (laidWorld os) #[.int .i64 0, .int .i64 0, .int .i64 0] 8 (laidWorld_os os) (laid_vars os _) (laid_rest os _) (by kernel_rfl) (by kernel_rfl) (by kernel_rfl) (laidWorld_met os _)) ?_
  intro W base args ds gs before hval0 hW _ hsz hL _
  have hval : ∀ (j : Nat) t v, Tryz.f11.params[j]? = some t → args[j]? = some v → Value.okWide Tryz.prog W .any base t v := hval0
  have hW' := hW
  obtain ⟨p, q, hA00, hV0, rfl, hfz, hnd⟩ := hW
  have hlt : ∀ x ∈ p, x.block < W.heap.size := fun x hx => hW'.lt x (List.mem_append_left _ hx)
  have hstay : ∃ ps, ∀ W', Below W.heap.size W W' → DataW.TrodAll enc Tryz.prog W' 0 (fun b => decide (b < W.heap.size)) true Tryz.f11.params.toList args.toList ds ps :=
    ⟨p, fun W' hb => args_stay (by rw [Tryz.params11]; simp) hA00 hlt hb⟩
  have hA0 : DataW.TrodAll enc Tryz.prog W 0 (fun _ => true) true Tryz.f11.params.toList args.toList ds p := hA00
  have hV : DataW.TrodVars enc Tryz.prog W (fun _ => true) [] gs q := hV0
  rw [Tryz.params11] at hA0 hval hsz
  obtain ⟨v0, w0, d0, e0, p0, q0, g0, rfl, rfl, h0, hA1⟩ := trodAll_cons hA0
  obtain ⟨v1, w1, d1, e1, p1, q1, g1, rfl, rfl, h1, hA2⟩ := trodAll_cons hA1
  obtain ⟨v2, w2, d2, e2, p2, q2, g2, rfl, rfl, h2, hA3⟩ := trodAll_cons hA2
  obtain ⟨g3, rfl, rfl⟩ := trodAll_nil hA3
  obtain rfl : args = #[v0, v1, v2] := by cases args; simp_all
  obtain ⟨a0, rfl, rfl, rfl, u0⟩ := open_int Tryz.underlying3 (hval 0 3 v0 rfl rfl) h0
  obtain ⟨a1, rfl, rfl, rfl, u1⟩ := open_int Tryz.underlying3 (hval 1 3 v1 rfl rfl) h1
  obtain ⟨a2, rfl, rfl, rfl, u2⟩ := open_int Tryz.underlying3 (hval 2 3 v2 rfl rfl) h2
  have y0 := bounds_i64 u0
  have y1 := bounds_i64 u1
  have y2 := bounds_i64 u2
  have hL' : laidMet Tryz.prog laidL W ∧ handlesMet Tryz.prog [("errors.errorType", Rows.laid_errors_errorType)] W := hL
  have hg := wd_of hL'.1 hL'.2
  obtain ⟨rfl, rfl⟩ : gs = [] ∧ q = [] := by
    cases gs with
    | nil => exact ⟨rfl, hV⟩
    | cons g r => exact absurd hV (by intro h; cases h)
  have e1 : Rows.holiShiftSpec.fn H ([.lit (.int .i64 a0), .lit (.int .i64 a1), .lit (.int .i64 a2)] ++ []) = { results := [.lit (.bool true)], args := [.lit (.int .i64 a0), .lit (.int .i64 a1), .lit (.int .i64 a2)] } := by simp [Rows.holiShiftSpec]
  refine (HoliShift_walk begun_all holi.hol_c a0 a1 a2 y2.1 (by omega) W hg).mono fun e W' ⟨he, hb⟩ => ?_
  subst he
  obtain ⟨ps, hs⟩ := hstay
  refine ⟨_, rfl, _, _, _, [], ps, [], hW', ?_, ?_, ?_, hb.frame _, fun h => by cases h⟩
  · rw [e1]; exact trodAll_mk1 (shut_bool Tryz.underlying4 true)
  · rw [e1]; exact hs W' hb
  · rw [e1]; rfl
theorem holiShift_c0 : (Rows.holiShiftRow.wf (OpenSpec.ofChange Rows.holiShiftSpec)) = true := by kernel_rfl
theorem holiShift_c3 : (Tryz.f11.params.all (Tryz.prog.readableRec ·)) = true := by kernel_rfl
theorem holiShift_c4 : (namedTie Tryz.prog Rows.holiShiftRow.named Rows.holiShiftSpec.vars) = true := by kernel_rfl
theorem holiShift_c5 : ((Rows.holiShiftRow.stops == [])) = true := by kernel_rfl
theorem holiShift_c7 : ((Rows.holiShiftRow.knobs == [])) = true := by kernel_rfl
theorem holiShift_c9 : ((Rows.holiShiftRow.inPlace == Tryz.prog.inPlace 11)) = true := by kernel_rfl
theorem holiShift_c10 : ((Rows.holiShiftRow.unfollowed == Tryz.prog.unfollowed 11)) = true := by kernel_rfl
theorem holiShift_c11 : ((Rows.holiShiftRow.recurses == Tryz.prog.recurses 11)) = true := by kernel_rfl
theorem holiShift_c12 : ((Rows.holiShiftRow.named == Tryz.prog.varsNamed 11)) = true := by kernel_rfl
theorem holiShift_c13 : ((Rows.holiShiftRow.maps == (Tryz.f11.params.toList ++ Rows.holiShiftSpec.plain.varTypes Tryz.prog).any (Tryz.prog.mapsRec ·))) = true := by kernel_rfl
theorem holiShift_c14 : ((Rows.holiShiftRow.ifaces == (Tryz.f11.params.toList ++ Rows.holiShiftSpec.plain.varTypes Tryz.prog).any (Tryz.prog.ifacesRec ·))) = true := by kernel_rfl
theorem holiShift_c15 : ((Rows.holiShiftRow.mapsOut == Tryz.prog.mapsAmong Tryz.f11.resultTypes.toList)) = true := by kernel_rfl
theorem holiShift_c16 : ((Rows.holiShiftRow.loops == (Tryz.f11.params.toList ++ Rows.holiShiftSpec.plain.varTypes Tryz.prog).any (Tryz.prog.loopsFrom ·))) = true := by kernel_rfl
theorem holiShift_c17 : ((Rows.holiShiftRow.wideKeys == (Tryz.f11.params.toList ++ Rows.holiShiftSpec.plain.varTypes Tryz.prog ++ Tryz.f11.resultTypes.toList).any (Tryz.prog.wideKeysFrom ·))) = true := by kernel_rfl
theorem holiShift_c18 : (Rows.holiShiftSpec.vars.all (Tryz.prog.varReadable ·)) = true := by kernel_rfl
theorem holiShift_c19 : (Tryz.f11.resultTypes.all (fun t => Tryz.prog.readableRec t && decide (t < Tryz.prog.types.size))) = true := by kernel_rfl
theorem holiShift_c20 : ((Rows.holiShiftRow.ifacesOut == Tryz.f11.resultTypes.toList.any (Tryz.prog.ifacesRec ·))) = true := by kernel_rfl
theorem holiShift_c21 : ((Rows.holiShiftRow.loopsOut == Tryz.f11.resultTypes.toList.any (Tryz.prog.loopsFrom ·))) = true := by kernel_rfl
theorem holiShift_c23 : (Rows.holiShiftRow.shortTexts.isNone) = true := by kernel_rfl
theorem holiShift_c28 : ((Rows.holiShiftRow.kinds == (if Rows.holiShiftRow.domain.isEmpty then [] else Tryz.f11.params.toList.map fun t => match Tryz.prog.underlying t with | some (.int k) => some k | _ => none))) = true := by kernel_rfl
theorem holiShift_c29 : ((Rows.holiShiftRow.pinned == Rows.holiShiftRow.pinnedBy)) = true := by kernel_rfl
theorem holiShift_c30 : ((Rows.holiShiftRow.veiled == (Tryz.f11.params.toList ++ Rows.holiShiftSpec.plain.varTypes Tryz.prog ++ Tryz.f11.resultTypes.toList).any (Tryz.prog.veiledRec ·))) = true := by kernel_rfl
theorem holiShift_c31 : (Rows.holiShiftRow.veiledFits Tryz.prog Tryz.f11.params.toList (Tryz.f11.params.toList ++ Rows.holiShiftSpec.plain.varTypes Tryz.prog ++ Tryz.f11.resultTypes.toList)) = true := by kernel_rfl
set_option maxRecDepth 100000 in
theorem holiShift_facts : joinedFacts Tryz.prog 11 Tryz.f11 Rows.holiShiftSpec Rows.holiShiftRow = true := by
  unfold joinedFacts
  exact band (band (band (band (band (band (band (band (band (band (band (band (band (band (band (band (band (band (band (band (band (band (band (band (band (band (band (band (band (band (band holiShift_c0 fact_c1) fact_c2) holiShift_c3) holiShift_c4) holiShift_c5) fact_c6) holiShift_c7) fact_c8) holiShift_c9) holiShift_c10) holiShift_c11) holiShift_c12) holiShift_c13) holiShift_c14) holiShift_c15) holiShift_c16) holiShift_c17) holiShift_c18) holiShift_c19) holiShift_c20) holiShift_c21) fact_c22) holiShift_c23) fact_c24) fact_c25) fact_c26) fact_c27) holiShift_c28) holiShift_c29) holiShift_c30) holiShift_c31
theorem holiShift_goes : false = Rows.holiShiftRow.goesBy Tryz.prog := by kernel_rfl
theorem holiShift_holds : Rows.HoliShiftSaid :=
  OpenClaim.holds_of_wide 11 Tryz.f11 rfl rfl rfl rfl rfl rfl rfl ⟨rfl, rfl, rfl, rfl, rfl⟩ rfl rfl rfl rfl rfl (by kernel_rfl) Tryz.func11 holiShift_facts
    (of_decide_eq_true (by kernel_rfl)) (by unfold Func.isWrapper; rw [if_neg (of_decide_eq_false (by kernel_rfl))]; exact ⟨rfl, rfl⟩)
    (fun os started H enc _ => holiShift_lifted os started H enc)
theorem holiShift_plain (f : FuncId) (fn : Func) (hf : Tryz.pinned.checked.prog.funcNamed "rentier/rentierlaw6.HoliShift" = some f) (hfn : Tryz.pinned.checked.prog.funcs[f]? = some fn) :
    true = Tryz.pinned.checked.prog.looks [] ∧ ∀ (j : Nat) t, fn.params[j]? = some t → Tryz.pinned.checked.prog.wantsStandIn t = false := by
  obtain rfl : f = 11 := Option.some.inj ((show Tryz.prog.funcNamed "rentier/rentierlaw6.HoliShift" = some 11 by kernel_rfl).symm.trans hf) |>.symm
  obtain rfl : fn = Tryz.f11 := (Option.some.inj (Tryz.func11.symm.trans hfn)).symm
  refine ⟨by kernel_rfl, fun j t ht => ?_⟩
  rw [Tryz.params11] at ht
  have hm := Array.mem_of_getElem? ht
  simp at hm
  have t_i : Tryz.pinned.checked.prog.wantsStandIn 3 = false := by kernel_rfl
  rcases hm with rfl
  exact t_i
theorem holiShift_card : Rows.HoliShiftCardSaid :=
  Claim7.holds_tied_plain_at .later [] _ _ _ _ (holiShift_holds) (fun _ h => by cases h) (by kernel_rfl) (fun _ h => by cases h) holiShift_row_tie rfl ⟨rfl, rfl⟩ (by kernel_rfl) rfl holiShift_plain holiShift_goes
end Go.Proofs.YtlhmfgbaefaneabGreatDoor.law6
