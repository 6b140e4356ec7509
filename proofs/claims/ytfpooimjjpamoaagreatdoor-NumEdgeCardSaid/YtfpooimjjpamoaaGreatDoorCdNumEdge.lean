/-
  NumEdge: for every number the statement's function answers true; the arguments read as before; nothing that was there has turned. The variables that the row lists start as the program's text lays them: the card ties that.
-/
import Derived.Test.YtfpooimjjpamoaaGreatDoorTie
import Derived.Test.YtfpooimjjpamoaaGreatDoorCards
import Derived.ProofKit
import Derived.Carry
import Derived.OpenShut
import Derived.SizedLaws
import Derived.Test.YtfpooimjjpamoaaGreatDoorLwNumEdge
import Derived.Test.YtfpooimjjpamoaaGreatDoorA47
import Derived.Test.YtfpooimjjpamoaaGreatDoorLaid2
import Derived.Test.YtfpooimjjpamoaaGreatDoorLaw2Facts
namespace Go.Proofs.YtfpooimjjpamoaaGreatDoor.law2
open Go.ChangeShapes Go.WideShapes Go.RowKit
open Go.ChangeMaps (open_string shut_string)
set_option maxRecDepth 100000 in
theorem numEdge_lifted (os : Os) (started : os.Started) (H : Type) (enc : TypeId × Value → H) :
    ReturnsInHanded {} Tryz.checked os 19 .any (fun w args => (Rows.numEdgeSpec.pre enc Tryz.prog Tryz.f19 [] false w args ∧ laidMetH Tryz.prog Rows.numEdgeRow.laid w) ∧ sizedMet enc Tryz.prog Tryz.f19 (OpenSpec.ofChange Rows.numEdgeSpec) false w args)
      (Rows.numEdgeSpec.post enc Tryz.prog Tryz.f19 false true false false) := by
  refine returnsInHanded_of_change_and (C := Tryz.checked) (X := fun w _ => laidMetH Tryz.prog Rows.numEdgeRow.laid w) (fun _ _ _ hh h => h.of_heap hh) own started (by kernel_rfl) Tryz.func19
    (ChangeSpec.witness_at (enc := enc) (C := Tryz.checked) (os := os) (X := fun w _ => laidMetH Tryz.prog Rows.numEdgeRow.laid w) false (laidWorld os) #[.int .i64 0] 8 (laidWorld_os os) (laid_vars os _) (laid_rest os _) (by kernel_rfl) (by kernel_rfl) (by kernel_rfl) (laidWorld_met os _)) ?_
  intro W base args ds gs before hval0 hW _ hsz hL _
  have hval : ∀ (j : Nat) t v, Tryz.f19.params[j]? = some t → args[j]? = some v → Value.okWide Tryz.prog W .any base t v := hval0
  have hW' := hW
  obtain ⟨p, q, hA00, hV0, rfl, hfz, hnd⟩ := hW
  have hA0 : DataW.TrodAll enc Tryz.prog W 0 (fun _ => true) true Tryz.f19.params.toList args.toList ds p := hA00
  have hV : DataW.TrodVars enc Tryz.prog W (fun _ => true) [] gs q := hV0
  rw [Tryz.params19] at hA0 hval hsz
  obtain ⟨v0, r0, d0, e0, p0, q0, g0, rfl, rfl, h0, hA1⟩ := trodAll_cons hA0
  obtain ⟨g1, rfl, rfl⟩ := trodAll_nil hA1
  obtain rfl : args = #[v0] := by cases args; simp_all
  obtain ⟨a0, rfl, rfl, rfl, w0⟩ := open_int Tryz.underlying2 (hval 0 2 v0 rfl rfl) h0
  have y0 := bounds_i64 w0
  have hL' : laidMet Tryz.prog laidL W ∧ handlesMet Tryz.prog [("errors.errorType", Rows.laid_errors_errorType)] W := hL
  have hg := handle_of hL'.2
  obtain ⟨rfl, rfl⟩ : gs = [] ∧ q = [] := by
    cases gs with
    | nil => exact ⟨rfl, hV⟩
    | cons g r => exact absurd hV (by intro h; cases h)
  have e1 : Rows.numEdgeSpec.fn H ([.lit (.int .i64 a0)] ++ []) = { results := [.lit (.bool true)], args := [.lit (.int .i64 a0)] } := by simp [Rows.numEdgeSpec]
  refine (LwNumEdge begun_all a0 y0.1 (by omega) W hg).mono fun e W' ⟨he, hb⟩ => ?_
  subst he
  refine ⟨_, rfl, _, _, _, [], [], [], hW', ?_, ?_, ?_, hb.frame _, fun h => by cases h⟩
  · rw [e1]; exact trodAll_mk1 (shut_bool Tryz.underlying4 true)
  · rw [e1]; exact trodAll_cons_mk (shut_int Tryz.underlying2 w0) trodAll_mk0
  · rw [e1]; rfl
theorem numEdge_c0 : (Rows.numEdgeRow.wf (OpenSpec.ofChange Rows.numEdgeSpec)) = true := by kernel_rfl
theorem numEdge_c3 : (Tryz.f19.params.all (Tryz.prog.readableRec ·)) = true := by kernel_rfl
theorem numEdge_c4 : (namedTie Tryz.prog Rows.numEdgeRow.named Rows.numEdgeSpec.vars) = true := by kernel_rfl
theorem numEdge_c5 : ((Rows.numEdgeRow.stops == [])) = true := by kernel_rfl
theorem numEdge_c7 : ((Rows.numEdgeRow.knobs == [])) = true := by kernel_rfl
theorem numEdge_c9 : ((Rows.numEdgeRow.inPlace == Tryz.prog.inPlace 19)) = true := by kernel_rfl
theorem numEdge_c10 : ((Rows.numEdgeRow.unfollowed == Tryz.prog.unfollowed 19)) = true := by kernel_rfl
theorem numEdge_c11 : ((Rows.numEdgeRow.recurses == Tryz.prog.recurses 19)) = true := by kernel_rfl
theorem numEdge_c12 : ((Rows.numEdgeRow.named == Tryz.prog.varsNamed 19)) = true := by kernel_rfl
theorem numEdge_c13 : ((Rows.numEdgeRow.maps == (Tryz.f19.params.toList ++ Rows.numEdgeSpec.plain.varTypes Tryz.prog).any (Tryz.prog.mapsRec ·))) = true := by kernel_rfl
theorem numEdge_c14 : ((Rows.numEdgeRow.ifaces == (Tryz.f19.params.toList ++ Rows.numEdgeSpec.plain.varTypes Tryz.prog).any (Tryz.prog.ifacesRec ·))) = true := by kernel_rfl
theorem numEdge_c15 : ((Rows.numEdgeRow.mapsOut == Tryz.prog.mapsAmong Tryz.f19.resultTypes.toList)) = true := by kernel_rfl
theorem numEdge_c16 : ((Rows.numEdgeRow.loops == (Tryz.f19.params.toList ++ Rows.numEdgeSpec.plain.varTypes Tryz.prog).any (Tryz.prog.loopsFrom ·))) = true := by kernel_rfl
theorem numEdge_c17 : ((Rows.numEdgeRow.wideKeys == (Tryz.f19.params.toList ++ Rows.numEdgeSpec.plain.varTypes Tryz.prog ++ Tryz.f19.resultTypes.toList).any (Tryz.prog.wideKeysFrom ·))) = true := by kernel_rfl
theorem numEdge_c18 : (Rows.numEdgeSpec.vars.all (Tryz.prog.varReadable ·)) = true := by kernel_rfl
theorem numEdge_c19 : (Tryz.f19.resultTypes.all (fun t => Tryz.prog.readableRec t && decide (t < Tryz.prog.types.size))) = true := by kernel_rfl
theorem numEdge_c20 : ((Rows.numEdgeRow.ifacesOut == Tryz.f19.resultTypes.toList.any (Tryz.prog.ifacesRec ·))) = true := by kernel_rfl
theorem numEdge_c21 : ((Rows.numEdgeRow.loopsOut == Tryz.f19.resultTypes.toList.any (Tryz.prog.loopsFrom ·))) = true := by kernel_rfl
theorem numEdge_c23 : (Rows.numEdgeRow.shortTexts.isNone) = true := by kernel_rfl
theorem numEdge_c28 : ((Rows.numEdgeRow.kinds == (if Rows.numEdgeRow.domain.isEmpty then [] else Tryz.f19.params.toList.map fun t => match Tryz.prog.underlying t with | some (.int k) => some k | _ => none))) = true := by kernel_rfl
theorem numEdge_c29 : ((Rows.numEdgeRow.pinned == Rows.numEdgeRow.pinnedBy)) = true := by kernel_rfl
theorem numEdge_c30 : ((Rows.numEdgeRow.veiled == (Tryz.f19.params.toList ++ Rows.numEdgeSpec.plain.varTypes Tryz.prog ++ Tryz.f19.resultTypes.toList).any (Tryz.prog.veiledRec ·))) = true := by kernel_rfl
theorem numEdge_c31 : (Rows.numEdgeRow.veiledFits Tryz.prog Tryz.f19.params.toList (Tryz.f19.params.toList ++ Rows.numEdgeSpec.plain.varTypes Tryz.prog ++ Tryz.f19.resultTypes.toList)) = true := by kernel_rfl
set_option maxRecDepth 100000 in
theorem numEdge_facts : joinedFacts Tryz.prog 19 Tryz.f19 Rows.numEdgeSpec Rows.numEdgeRow = true := by
  unfold joinedFacts
  exact band (band (band (band (band (band (band (band (band (band (band (band (band (band (band (band (band (band (band (band (band (band (band (band (band (band (band (band (band (band (band numEdge_c0 fact_c1) fact_c2) numEdge_c3) numEdge_c4) numEdge_c5) fact_c6) numEdge_c7) fact_c8) numEdge_c9) numEdge_c10) numEdge_c11) numEdge_c12) numEdge_c13) numEdge_c14) numEdge_c15) numEdge_c16) numEdge_c17) numEdge_c18) numEdge_c19) numEdge_c20) numEdge_c21) fact_c22) numEdge_c23) fact_c24) fact_c25) fact_c26) fact_c27) numEdge_c28) numEdge_c29) numEdge_c30) numEdge_c31
theorem numEdge_goes : false = Rows.numEdgeRow.goesBy Tryz.prog := by kernel_rfl
theorem numEdge_holds : Rows.NumEdgeSaid :=
  OpenClaim.holds_of_wide 19 Tryz.f19 rfl rfl rfl rfl rfl rfl rfl ⟨rfl, rfl, rfl, rfl, rfl⟩ rfl rfl rfl rfl rfl (by kernel_rfl) Tryz.func19 numEdge_facts
    (of_decide_eq_true (by kernel_rfl)) (by unfold Func.isWrapper; rw [if_neg (of_decide_eq_false (by kernel_rfl))]; exact ⟨rfl, rfl⟩)
    (fun os started H enc _ => numEdge_lifted os started H enc)
theorem numEdge_plain (f : FuncId) (fn : Func) (hf : Tryz.pinned.checked.prog.funcNamed "rentier/rentierlaw2.NumEdge" = some f) (hfn : Tryz.pinned.checked.prog.funcs[f]? = some fn) :
    true = Tryz.pinned.checked.prog.looks [] ∧ ∀ (j : Nat) t, fn.params[j]? = some t → Tryz.pinned.checked.prog.wantsStandIn t = false := by
  obtain rfl : f = 19 := Option.some.inj ((show Tryz.prog.funcNamed "rentier/rentierlaw2.NumEdge" = some 19 by kernel_rfl).symm.trans hf) |>.symm
  obtain rfl : fn = Tryz.f19 := (Option.some.inj (Tryz.func19.symm.trans hfn)).symm
  refine ⟨by kernel_rfl, fun j t ht => ?_⟩
  rw [Tryz.params19] at ht
  have hm := Array.mem_of_getElem? ht
  simp at hm
  have t_I : Tryz.pinned.checked.prog.wantsStandIn 2 = false := by kernel_rfl
  rcases hm with rfl <;> exact t_I
theorem numEdge_card : Rows.NumEdgeCardSaid :=
  Claim7.holds_tied_plain_at .later [] _ _ _ _ (numEdge_holds) (fun _ h => by cases h) (by kernel_rfl) (fun _ h => by cases h) numEdge_row_tie rfl ⟨rfl, rfl⟩ (by kernel_rfl) rfl numEdge_plain numEdge_goes
end Go.Proofs.YtfpooimjjpamoaaGreatDoor.law2
