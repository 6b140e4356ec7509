/-
  DecHalf: for every number, number the statement's function answers true; the arguments read as before; nothing that was there has turned. The variables that the row lists start as the program's text lays them: the card ties that.
-/
import Derived.Test.YtfpooimjjpamoaaGreatDoorTie
import Derived.Test.YtfpooimjjpamoaaGreatDoorCards
import Derived.ProofKit
import Derived.Carry
import Derived.OpenShut
import Derived.SizedLaws
import Derived.Test.YtfpooimjjpamoaaGreatDoorLwDecHalf
import Derived.Test.YtfpooimjjpamoaaGreatDoorE23
import Derived.Test.YtfpooimjjpamoaaGreatDoorLaid2E
import Derived.Test.YtfpooimjjpamoaaGreatDoorLaw2Facts
namespace Go.Proofs.YtfpooimjjpamoaaGreatDoor.law2
open Go.ChangeShapes Go.WideShapes Go.RowKit
open Go.ChangeMaps (open_string shut_string)
set_option maxRecDepth 100000 in
theorem decHalf_lifted (os : Os) (started : os.Started) (H : Type) (enc : TypeId × Value → H) :
    ReturnsInHanded {} Tryz.checked os 22 .any (fun w args => (Rows.decHalfSpec.pre enc Tryz.prog Tryz.f22 [] false w args ∧ laidMetH Tryz.prog Rows.decHalfRow.laid w) ∧ sizedMet enc Tryz.prog Tryz.f22 (OpenSpec.ofChange Rows.decHalfSpec) false w args)
      (Rows.decHalfSpec.post enc Tryz.prog Tryz.f22 false true false false) := by
  refine returnsInHanded_of_change_and (C := Tryz.checked) (X := fun w _ => laidMetH Tryz.prog Rows.decHalfRow.laid w) (fun _ _ _ hh h => h.of_heap hh) own started (by kernel_rfl) Tryz.func22
    (ChangeSpec.witness_at (enc := enc) (C := Tryz.checked) (os := os) (X := fun w _ => laidMetH Tryz.prog Rows.decHalfRow.laid w) false (laidWorld os) #[.int .i64 0, .int .i64 0] 8 (laidWorld_os os) (laid_vars os _) (laid_rest os _) (by kernel_rfl) (by kernel_rfl) (by kernel_rfl) (laidWorld_met os _)) ?_
  intro W base args ds gs before hval0 hW _ hsz hL _
  have hval : ∀ (j : Nat) t v, Tryz.f22.params[j]? = some t → args[j]? = some v → Value.okWide Tryz.prog W .any base t v := hval0
  have hW' := hW
  obtain ⟨p, q, hA00, hV0, rfl, hfz, hnd⟩ := hW
  have hA0 : DataW.TrodAll enc Tryz.prog W 0 (fun _ => true) true Tryz.f22.params.toList args.toList ds p := hA00
  have hV : DataW.TrodVars enc Tryz.prog W (fun _ => true) [] gs q := hV0
  rw [Tryz.params22] at hA0 hval hsz
  obtain ⟨v0, r0, d0, e0, p0, q0, g0, rfl, rfl, h0, hA1⟩ := trodAll_cons hA0
  obtain ⟨v1, r1, d1, e1, p1, q1, g1, rfl, rfl, h1, hA2⟩ := trodAll_cons hA1
  obtain ⟨g2, rfl, rfl⟩ := trodAll_nil hA2
  obtain rfl : args = #[v0, v1] := by cases args; simp_all
  obtain ⟨a0, rfl, rfl, rfl, w0⟩ := open_int Tryz.underlying2 (hval 0 2 v0 rfl rfl) h0
  obtain ⟨a1, rfl, rfl, rfl, w1⟩ := open_int Tryz.underlying3 (hval 1 3 v1 rfl rfl) h1
  have y0 := bounds_i64 w0
  have y1 := bounds_i64 w1
  have hL' : laidMet Tryz.prog laidL W ∧ handlesMet Tryz.prog [("errors.errorType", Rows.laid_errors_errorType)] W := hL
  have hg := handle_of hL'.2
  obtain ⟨rfl, rfl⟩ : gs = [] ∧ q = [] := by
    cases gs with
    | nil => exact ⟨rfl, hV⟩
    | cons g r => exact absurd hV (by intro h; cases h)
  have e1 : Rows.decHalfSpec.fn H ([.lit (.int .i64 a0), .lit (.int .i64 a1)] ++ []) = { results := [.lit (.bool true)], args := [.lit (.int .i64 a0), .lit (.int .i64 a1)] } := by simp [Rows.decHalfSpec]
  refine (LwDecHalf begun_all a0 y0.1 (by omega) a1 y1.1 (by omega) W hg).mono fun e W' ⟨he, hb⟩ => ?_
  subst he
  refine ⟨_, rfl, _, _, _, [], [], [], hW', ?_, ?_, ?_, hb.frame _, fun h => by cases h⟩
  · rw [e1]; exact trodAll_mk1 (shut_bool Tryz.underlying4 true)
  · rw [e1]; exact trodAll_cons_mk (shut_int Tryz.underlying2 w0) (trodAll_cons_mk (shut_int Tryz.underlying3 w1) trodAll_mk0)
  · rw [e1]; rfl
theorem decHalf_c0 : (Rows.decHalfRow.wf (OpenSpec.ofChange Rows.decHalfSpec)) = true := by kernel_rfl
theorem decHalf_c3 : (Tryz.f22.params.all (Tryz.prog.readableRec ·)) = true := by kernel_rfl
theorem decHalf_c4 : (namedTie Tryz.prog Rows.decHalfRow.named Rows.decHalfSpec.vars) = true := by kernel_rfl
theorem decHalf_c5 : ((Rows.decHalfRow.stops == [])) = true := by kernel_rfl
theorem decHalf_c7 : ((Rows.decHalfRow.knobs == [])) = true := by kernel_rfl
theorem decHalf_c9 : ((Rows.decHalfRow.inPlace == Tryz.prog.inPlace 22)) = true := by kernel_rfl
theorem decHalf_c10 : ((Rows.decHalfRow.unfollowed == Tryz.prog.unfollowed 22)) = true := by kernel_rfl
theorem decHalf_c11 : ((Rows.decHalfRow.recurses == Tryz.prog.recurses 22)) = true := by kernel_rfl
theorem decHalf_c12 : ((Rows.decHalfRow.named == Tryz.prog.varsNamed 22)) = true := by kernel_rfl
theorem decHalf_c13 : ((Rows.decHalfRow.maps == (Tryz.f22.params.toList ++ Rows.decHalfSpec.plain.varTypes Tryz.prog).any (Tryz.prog.mapsRec ·))) = true := by kernel_rfl
theorem decHalf_c14 : ((Rows.decHalfRow.ifaces == (Tryz.f22.params.toList ++ Rows.decHalfSpec.plain.varTypes Tryz.prog).any (Tryz.prog.ifacesRec ·))) = true := by kernel_rfl
theorem decHalf_c15 : ((Rows.decHalfRow.mapsOut == Tryz.prog.mapsAmong Tryz.f22.resultTypes.toList)) = true := by kernel_rfl
theorem decHalf_c16 : ((Rows.decHalfRow.loops == (Tryz.f22.params.toList ++ Rows.decHalfSpec.plain.varTypes Tryz.prog).any (Tryz.prog.loopsFrom ·))) = true := by kernel_rfl
theorem decHalf_c17 : ((Rows.decHalfRow.wideKeys == (Tryz.f22.params.toList ++ Rows.decHalfSpec.plain.varTypes Tryz.prog ++ Tryz.f22.resultTypes.toList).any (Tryz.prog.wideKeysFrom ·))) = true := by kernel_rfl
theorem decHalf_c18 : (Rows.decHalfSpec.vars.all (Tryz.prog.varReadable ·)) = true := by kernel_rfl
theorem decHalf_c19 : (Tryz.f22.resultTypes.all (fun t => Tryz.prog.readableRec t && decide (t < Tryz.prog.types.size))) = true := by kernel_rfl
theorem decHalf_c20 : ((Rows.decHalfRow.ifacesOut == Tryz.f22.resultTypes.toList.any (Tryz.prog.ifacesRec ·))) = true := by kernel_rfl
theorem decHalf_c21 : ((Rows.decHalfRow.loopsOut == Tryz.f22.resultTypes.toList.any (Tryz.prog.loopsFrom ·))) = true := by kernel_rfl
theorem decHalf_c23 : (Rows.decHalfRow.shortTexts.isNone) = true := by kernel_rfl
theorem decHalf_c28 : ((Rows.decHalfRow.kinds == (if Rows.decHalfRow.domain.isEmpty then [] else Tryz.f22.params.toList.map fun t => match Tryz.prog.underlying t with | some (.int k) => some k | _ => none))) = true := by kernel_rfl
theorem decHalf_c29 : ((Rows.decHalfRow.pinned == Rows.decHalfRow.pinnedBy)) = true := by kernel_rfl
theorem decHalf_c30 : ((Rows.decHalfRow.veiled == (Tryz.f22.params.toList ++ Rows.decHalfSpec.plain.varTypes Tryz.prog ++ Tryz.f22.resultTypes.toList).any (Tryz.prog.veiledRec ·))) = true := by kernel_rfl
theorem decHalf_c31 : (Rows.decHalfRow.veiledFits Tryz.prog Tryz.f22.params.toList (Tryz.f22.params.toList ++ Rows.decHalfSpec.plain.varTypes Tryz.prog ++ Tryz.f22.resultTypes.toList)) = true := by kernel_rfl
set_option maxRecDepth 100000 in
theorem decHalf_facts : joinedFacts Tryz.prog 22 Tryz.f22 Rows.decHalfSpec Rows.decHalfRow = true := by
  unfold joinedFacts
  exact band (band (band (band (band (band (band (band (band (band (band (band (band (band (band (band (band (band (band (band (band (band (band (band (band (band (band (band (band (band (band decHalf_c0 fact_c1) fact_c2) decHalf_c3) decHalf_c4) decHalf_c5) fact_c6) decHalf_c7) fact_c8) decHalf_c9) decHalf_c10) decHalf_c11) decHalf_c12) decHalf_c13) decHalf_c14) decHalf_c15) decHalf_c16) decHalf_c17) decHalf_c18) decHalf_c19) decHalf_c20) decHalf_c21) fact_c22) decHalf_c23) fact_c24) fact_c25) fact_c26) fact_c27) decHalf_c28) decHalf_c29) decHalf_c30) decHalf_c31
theorem decHalf_goes : false = Rows.decHalfRow.goesBy Tryz.prog := by kernel_rfl
theorem decHalf_holds : Rows.DecHalfSaid :=
  OpenClaim.holds_of_wide 22 Tryz.f22 rfl rfl rfl rfl rfl rfl rfl ⟨rfl, rfl, rfl, rfl, rfl⟩ rfl rfl rfl rfl rfl (by kernel_rfl) Tryz.func22 decHalf_facts
    (of_decide_eq_true (by kernel_rfl)) (by unfold Func.isWrapper; rw [if_neg (of_decide_eq_false (by kernel_rfl))]; exact ⟨rfl, rfl⟩)
    (fun os started H enc _ => decHalf_lifted os started H enc)
theorem decHalf_plain (f : FuncId) (fn : Func) (hf : Tryz.pinned.checked.prog.funcNamed "rentier/rentierlaw2.DecHalf" = some f) (hfn : Tryz.pinned.checked.prog.funcs[f]? = some fn) :
    true = Tryz.pinned.checked.prog.looks [] ∧ ∀ (j : Nat) t, fn.params[j]? = some t → Tryz.pinned.checked.prog.wantsStandIn t = false := by
  obtain rfl : f = 22 := Option.some.inj ((show Tryz.prog.funcNamed "rentier/rentierlaw2.DecHalf" = some 22 by kernel_rfl).symm.trans hf) |>.symm
  obtain rfl : fn = Tryz.f22 := (Option.some.inj (Tryz.func22.symm.trans hfn)).symm
  refine ⟨by kernel_rfl, fun j t ht => ?_⟩
  rw [Tryz.params22] at ht
  have hm := Array.mem_of_getElem? ht
  simp at hm
  have t_i : Tryz.pinned.checked.prog.wantsStandIn 3 = false := by kernel_rfl
  have t_I : Tryz.pinned.checked.prog.wantsStandIn 2 = false := by kernel_rfl
  rcases hm with rfl | rfl <;> first | with_reducible exact t_i | with_reducible exact t_I
theorem decHalf_card : Rows.DecHalfCardSaid :=
  Claim7.holds_tied_plain_at .later [] _ _ _ _ (decHalf_holds) (fun _ h => by cases h) (by kernel_rfl) (fun _ h => by cases h) decHalf_row_tie rfl ⟨rfl, rfl⟩ (by kernel_rfl) rfl decHalf_plain decHalf_goes
end Go.Proofs.YtfpooimjjpamoaaGreatDoor.law2
