/-
  RatTexts: for every number, number, number the statement's function answers true; the arguments read as before; nothing that was there has turned. The variables that the row lists start as the program's text lays them: the card ties that.
-/
import Derived.Test.YtfpooimjjpamoaaGreatDoorTie
import Derived.Test.YtfpooimjjpamoaaGreatDoorCards
import Derived.ProofKit
import Derived.Carry
import Derived.OpenShut
import Derived.SizedLaws
import Derived.Test.YtfpooimjjpamoaaGreatDoorLwRatTexts
import Derived.Test.YtfpooimjjpamoaaGreatDoorB23
import Derived.Test.YtfpooimjjpamoaaGreatDoorLaid2B
import Derived.Test.YtfpooimjjpamoaaGreatDoorLaw2Facts
namespace Go.Proofs.YtfpooimjjpamoaaGreatDoor.law2
open Go.ChangeShapes Go.WideShapes Go.RowKit
open Go.ChangeMaps (open_string shut_string)
set_option maxRecDepth 100000 in
theorem ratTexts_lifted (os : Os) (started : os.Started) (H : Type) (enc : TypeId × Value → H) :
    ReturnsInHanded {} Tryz.checked os 21 .any (fun w args => (Rows.ratTextsSpec.pre enc Tryz.prog Tryz.f21 [] false w args ∧ laidMetH Tryz.prog Rows.ratTextsRow.laid w) ∧ sizedMet enc Tryz.prog Tryz.f21 (OpenSpec.ofChange Rows.ratTextsSpec) false w args)
      (Rows.ratTextsSpec.post enc Tryz.prog Tryz.f21 false true false false) := by
  refine returnsInHanded_of_change_and (C := Tryz.checked) (X := fun w _ => laidMetH Tryz.prog Rows.ratTextsRow.laid w) (fun _ _ _ hh h => h.of_heap hh) own started (by kernel_rfl) Tryz.func21
    (ChangeSpec.witness_at (enc := enc) (C := Tryz.checked) (os := os) (X := fun w _ => laidMetH Tryz.prog Rows.ratTextsRow.laid w) false (laidWorld os) #[.int .i64 0, .int .i64 0, .int .i64 0] 8 (laidWorld_os os) (laid_vars os _) (laid_rest os _) (by kernel_rfl) (by kernel_rfl) (by kernel_rfl) (laidWorld_met os _)) ?_
  intro W base args ds gs before hval0 hW _ hsz hL _
  have hval : ∀ (j : Nat) t v, Tryz.f21.params[j]? = some t → args[j]? = some v → Value.okWide Tryz.prog W .any base t v := hval0
  have hW' := hW
  obtain ⟨p, q, hA00, hV0, rfl, hfz, hnd⟩ := hW
  have hA0 : DataW.TrodAll enc Tryz.prog W 0 (fun _ => true) true Tryz.f21.params.toList args.toList ds p := hA00
  have hV : DataW.TrodVars enc Tryz.prog W (fun _ => true) [] gs q := hV0
  rw [Tryz.params21] at hA0 hval hsz
  obtain ⟨v0, r0, d0, e0, p0, q0, g0, rfl, rfl, h0, hA1⟩ := trodAll_cons hA0
  obtain ⟨v1, r1, d1, e1, p1, q1, g1, rfl, rfl, h1, hA2⟩ := trodAll_cons hA1
  obtain ⟨v2, r2, d2, e2, p2, q2, g2, rfl, rfl, h2, hA3⟩ := trodAll_cons hA2
  obtain ⟨g3, rfl, rfl⟩ := trodAll_nil hA3
  obtain rfl : args = #[v0, v1, v2] := by cases args; simp_all
  obtain ⟨a0, rfl, rfl, rfl, w0⟩ := open_int Tryz.underlying2 (hval 0 2 v0 rfl rfl) h0
  obtain ⟨a1, rfl, rfl, rfl, w1⟩ := open_int Tryz.underlying2 (hval 1 2 v1 rfl rfl) h1
  obtain ⟨a2, rfl, rfl, rfl, w2⟩ := open_int Tryz.underlying3 (hval 2 3 v2 rfl rfl) h2
  have y0 := bounds_i64 w0
  have y1 := bounds_i64 w1
  have y2 := bounds_i64 w2
  have hL' : laidMet Tryz.prog laidL W ∧ handlesMet Tryz.prog [("errors.errorType", Rows.laid_errors_errorType)] W := hL
  have hg := handle_of hL'.2
  obtain ⟨rfl, rfl⟩ : gs = [] ∧ q = [] := by
    cases gs with
    | nil => exact ⟨rfl, hV⟩
    | cons g r => exact absurd hV (by intro h; cases h)
  have e1 : Rows.ratTextsSpec.fn H ([.lit (.int .i64 a0), .lit (.int .i64 a1), .lit (.int .i64 a2)] ++ []) = { results := [.lit (.bool true)], args := [.lit (.int .i64 a0), .lit (.int .i64 a1), .lit (.int .i64 a2)] } := by simp [Rows.ratTextsSpec]
  refine (LwRatTexts begun_all a0 y0.1 (by omega) a1 y1.1 (by omega) a2 y2.1 (by omega) W hg).mono fun e W' ⟨he, hb⟩ => ?_
  subst he
  refine ⟨_, rfl, _, _, _, [], [], [], hW', ?_, ?_, ?_, hb.frame _, fun h => by cases h⟩
  · rw [e1]; exact trodAll_mk1 (shut_bool Tryz.underlying4 true)
  · rw [e1]; exact trodAll_cons_mk (shut_int Tryz.underlying2 w0) (trodAll_cons_mk (shut_int Tryz.underlying2 w1) (trodAll_cons_mk (shut_int Tryz.underlying3 w2) trodAll_mk0))
  · rw [e1]; rfl
theorem ratTexts_c0 : (Rows.ratTextsRow.wf (OpenSpec.ofChange Rows.ratTextsSpec)) = true := by kernel_rfl
theorem ratTexts_c3 : (Tryz.f21.params.all (Tryz.prog.readableRec ·)) = true := by kernel_rfl
theorem ratTexts_c4 : (namedTie Tryz.prog Rows.ratTextsRow.named Rows.ratTextsSpec.vars) = true := by kernel_rfl
theorem ratTexts_c5 : ((Rows.ratTextsRow.stops == [])) = true := by kernel_rfl
theorem ratTexts_c7 : ((Rows.ratTextsRow.knobs == [])) = true := by kernel_rfl
theorem ratTexts_c9 : ((Rows.ratTextsRow.inPlace == Tryz.prog.inPlace 21)) = true := by kernel_rfl
theorem ratTexts_c10 : ((Rows.ratTextsRow.unfollowed == Tryz.prog.unfollowed 21)) = true := by kernel_rfl
theorem ratTexts_c11 : ((Rows.ratTextsRow.recurses == Tryz.prog.recurses 21)) = true := by kernel_rfl
theorem ratTexts_c12 : ((Rows.ratTextsRow.named == Tryz.prog.varsNamed 21)) = true := by kernel_rfl
theorem ratTexts_c13 : ((Rows.ratTextsRow.maps == (Tryz.f21.params.toList ++ Rows.ratTextsSpec.plain.varTypes Tryz.prog).any (Tryz.prog.mapsRec ·))) = true := by kernel_rfl
theorem ratTexts_c14 : ((Rows.ratTextsRow.ifaces == (Tryz.f21.params.toList ++ Rows.ratTextsSpec.plain.varTypes Tryz.prog).any (Tryz.prog.ifacesRec ·))) = true := by kernel_rfl
theorem ratTexts_c15 : ((Rows.ratTextsRow.mapsOut == Tryz.prog.mapsAmong Tryz.f21.resultTypes.toList)) = true := by kernel_rfl
theorem ratTexts_c16 : ((Rows.ratTextsRow.loops == (Tryz.f21.params.toList ++ Rows.ratTextsSpec.plain.varTypes Tryz.prog).any (Tryz.prog.loopsFrom ·))) = true := by kernel_rfl
theorem ratTexts_c17 : ((Rows.ratTextsRow.wideKeys == (Tryz.f21.params.toList ++ Rows.ratTextsSpec.plain.varTypes Tryz.prog ++ Tryz.f21.resultTypes.toList).any (Tryz.prog.wideKeysFrom ·))) = true := by kernel_rfl
theorem ratTexts_c18 : (Rows.ratTextsSpec.vars.all (Tryz.prog.varReadable ·)) = true := by kernel_rfl
theorem ratTexts_c19 : (Tryz.f21.resultTypes.all (fun t => Tryz.prog.readableRec t && decide (t < Tryz.prog.types.size))) = true := by kernel_rfl
theorem ratTexts_c20 : ((Rows.ratTextsRow.ifacesOut == Tryz.f21.resultTypes.toList.any (Tryz.prog.ifacesRec ·))) = true := by kernel_rfl
theorem ratTexts_c21 : ((Rows.ratTextsRow.loopsOut == Tryz.f21.resultTypes.toList.any (Tryz.prog.loopsFrom ·))) = true := by kernel_rfl
theorem ratTexts_c23 : (Rows.ratTextsRow.shortTexts.isNone) = true := by kernel_rfl
theorem ratTexts_c28 : ((Rows.ratTextsRow.kinds == (if Rows.ratTextsRow.domain.isEmpty then [] else Tryz.f21.params.toList.map fun t => match Tryz.prog.underlying t with | some (.int k) => some k | _ => none))) = true := by kernel_rfl
theorem ratTexts_c29 : ((Rows.ratTextsRow.pinned == Rows.ratTextsRow.pinnedBy)) = true := by kernel_rfl
theorem ratTexts_c30 : ((Rows.ratTextsRow.veiled == (Tryz.f21.params.toList ++ Rows.ratTextsSpec.plain.varTypes Tryz.prog ++ Tryz.f21.resultTypes.toList).any (Tryz.prog.veiledRec ·))) = true := by kernel_rfl
theorem ratTexts_c31 : (Rows.ratTextsRow.veiledFits Tryz.prog Tryz.f21.params.toList (Tryz.f21.params.toList ++ Rows.ratTextsSpec.plain.varTypes Tryz.prog ++ Tryz.f21.resultTypes.toList)) = true := by kernel_rfl
set_option maxRecDepth 100000 in
theorem ratTexts_facts : joinedFacts Tryz.prog 21 Tryz.f21 Rows.ratTextsSpec Rows.ratTextsRow = true := by
  unfold joinedFacts
  exact band (band (band (band (band (band (band (band (band (band (band (band (band (band (band (band (band (band (band (band (band (band (band (band (band (band (band (band (band (band (band ratTexts_c0 fact_c1) fact_c2) ratTexts_c3) ratTexts_c4) ratTexts_c5) fact_c6) ratTexts_c7) fact_c8) ratTexts_c9) ratTexts_c10) ratTexts_c11) ratTexts_c12) ratTexts_c13) ratTexts_c14) ratTexts_c15) ratTexts_c16) ratTexts_c17) ratTexts_c18) ratTexts_c19) ratTexts_c20) ratTexts_c21) fact_c22) ratTexts_c23) fact_c24) fact_c25) fact_c26) fact_c27) ratTexts_c28) ratTexts_c29) ratTexts_c30) ratTexts_c31
theorem ratTexts_goes : false = Rows.ratTextsRow.goesBy Tryz.prog := by kernel_rfl
theorem ratTexts_holds : Rows.RatTextsSaid :=
  OpenClaim.holds_of_wide 21 Tryz.f21 rfl rfl rfl rfl rfl rfl rfl ⟨rfl, rfl, rfl, rfl, rfl⟩ rfl rfl rfl rfl rfl (by kernel_rfl) Tryz.func21 ratTexts_facts
    (of_decide_eq_true (by kernel_rfl)) (by unfold Func.isWrapper; rw [if_neg (of_decide_eq_false (by kernel_rfl))]; exact ⟨rfl, rfl⟩)
    (fun os started H enc _ => ratTexts_lifted os started H enc)
theorem ratTexts_plain (f : FuncId) (fn : Func) (hf : Tryz.pinned.checked.prog.funcNamed "rentier/rentierlaw2.RatTexts" = some f) (hfn : Tryz.pinned.checked.prog.funcs[f]? = some fn) :
    true = Tryz.pinned.checked.prog.looks [] ∧ ∀ (j : Nat) t, fn.params[j]? = some t → Tryz.pinned.checked.prog.wantsStandIn t = false := by
  obtain rfl : f = 21 := Option.some.inj ((show Tryz.prog.funcNamed "rentier/rentierlaw2.RatTexts" = some 21 by kernel_rfl).symm.trans hf) |>.symm
  obtain rfl : fn = Tryz.f21 := (Option.some.inj (Tryz.func21.symm.trans hfn)).symm
  refine ⟨by kernel_rfl, fun j t ht => ?_⟩
  rw [Tryz.params21] at ht
  have hm := Array.mem_of_getElem? ht
  simp at hm
  have t_i : Tryz.pinned.checked.prog.wantsStandIn 3 = false := by kernel_rfl
  have t_I : Tryz.pinned.checked.prog.wantsStandIn 2 = false := by kernel_rfl
  rcases hm with rfl | rfl <;> first | with_reducible exact t_i | with_reducible exact t_I
theorem ratTexts_card : Rows.RatTextsCardSaid :=
  Claim7.holds_tied_plain_at .later [] _ _ _ _ (ratTexts_holds) (fun _ h => by cases h) (by kernel_rfl) (fun _ h => by cases h) ratTexts_row_tie rfl ⟨rfl, rfl⟩ (by kernel_rfl) rfl ratTexts_plain ratTexts_goes
end Go.Proofs.YtfpooimjjpamoaaGreatDoor.law2
