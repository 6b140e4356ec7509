/-
  DecNone: for every call the statement's function answers true; the arguments read as before; nothing that was there has turned. The variables that the row lists start as the program's text lays them: the card ties that.
-/
import Derived.Test.YtfpooimjjpamoaaGreatDoorTie
import Derived.Test.YtfpooimjjpamoaaGreatDoorCards
import Derived.ProofKit
import Derived.Carry
import Derived.OpenShut
import Derived.SizedLaws
import Derived.Test.YtfpooimjjpamoaaGreatDoorLwDecNone
import Derived.Test.YtfpooimjjpamoaaGreatDoorB23
import Derived.Test.YtfpooimjjpamoaaGreatDoorLaid2B
import Derived.Test.YtfpooimjjpamoaaGreatDoorLaw2Facts
namespace Go.Proofs.YtfpooimjjpamoaaGreatDoor.law2
open Go.ChangeShapes Go.WideShapes Go.RowKit
open Go.ChangeMaps (open_string shut_string)
set_option maxRecDepth 100000 in
theorem decNone_lifted (os : Os) (started : os.Started) (H : Type) (enc : TypeId × Value → H) :
    ReturnsInHanded {} Tryz.checked os 12 .any (fun w args => (Rows.decNoneSpec.pre enc Tryz.prog Tryz.f12 [] false w args ∧ laidMetH Tryz.prog Rows.decNoneRow.laid w) ∧ sizedMet enc Tryz.prog Tryz.f12 (OpenSpec.ofChange Rows.decNoneSpec) false w args)
      (Rows.decNoneSpec.post enc Tryz.prog Tryz.f12 false true false false) := by
  refine returnsInHanded_of_change_and (C := Tryz.checked) (X := fun w _ => laidMetH Tryz.prog Rows.decNoneRow.laid w) (fun _ _ _ hh h => h.of_heap hh) own started (by kernel_rfl) Tryz.func12
    (ChangeSpec.witness_at (enc := enc) (C := Tryz.checked) (os := os) (X := fun w _ => laidMetH Tryz.prog Rows.decNoneRow.laid w) false (laidWorld os) #[] 8 (laidWorld_os os) (laid_vars os _) (laid_rest os _) (by kernel_rfl) (by kernel_rfl) (by kernel_rfl) (laidWorld_met os _)) ?_
  intro W base args ds gs before hval0 hW _ hsz hL _
  have hval : ∀ (j : Nat) t v, Tryz.f12.params[j]? = some t → args[j]? = some v → Value.okWide Tryz.prog W .any base t v := hval0
  have hW' := hW
  obtain ⟨p, q, hA00, hV0, rfl, hfz, hnd⟩ := hW
  have hA0 : DataW.TrodAll enc Tryz.prog W 0 (fun _ => true) true Tryz.f12.params.toList args.toList ds p := hA00
  have hV : DataW.TrodVars enc Tryz.prog W (fun _ => true) [] gs q := hV0
  rw [Tryz.params12] at hA0 hval hsz
  obtain ⟨g0, rfl, rfl⟩ := trodAll_nil hA0
  obtain rfl : args = #[] := by cases args; simp_all
  have hL' : laidMet Tryz.prog laidL W ∧ handlesMet Tryz.prog [("errors.errorType", Rows.laid_errors_errorType)] W := hL
  have hg := handle_of hL'.2
  obtain ⟨rfl, rfl⟩ : gs = [] ∧ q = [] := by
    cases gs with
    | nil => exact ⟨rfl, hV⟩
    | cons g r => exact absurd hV (by intro h; cases h)
  have e1 : Rows.decNoneSpec.fn H ([] ++ []) = { results := [.lit (.bool true)], args := [] } := by simp [Rows.decNoneSpec]
  refine (LwDecNone begun_all  W hg).mono fun e W' ⟨he, hb⟩ => ?_
  subst he
  refine ⟨_, rfl, _, _, _, [], [], [], hW', ?_, ?_, ?_, hb.frame _, fun h => by cases h⟩
  · rw [e1]; exact trodAll_mk1 (shut_bool Tryz.underlying4 true)
  · rw [e1]; exact trodAll_mk0
  · rw [e1]; rfl
theorem decNone_c0 : (Rows.decNoneRow.wf (OpenSpec.ofChange Rows.decNoneSpec)) = true := by kernel_rfl
theorem decNone_c3 : (Tryz.f12.params.all (Tryz.prog.readableRec ·)) = true := by kernel_rfl
theorem decNone_c4 : (namedTie Tryz.prog Rows.decNoneRow.named Rows.decNoneSpec.vars) = true := by kernel_rfl
theorem decNone_c5 : ((Rows.decNoneRow.stops == [])) = true := by kernel_rfl
theorem decNone_c7 : ((Rows.decNoneRow.knobs == [])) = true := by kernel_rfl
theorem decNone_c9 : ((Rows.decNoneRow.inPlace == Tryz.prog.inPlace 12)) = true := by kernel_rfl
theorem decNone_c10 : ((Rows.decNoneRow.unfollowed == Tryz.prog.unfollowed 12)) = true := by kernel_rfl
theorem decNone_c11 : ((Rows.decNoneRow.recurses == Tryz.prog.recurses 12)) = true := by kernel_rfl
theorem decNone_c12 : ((Rows.decNoneRow.named == Tryz.prog.varsNamed 12)) = true := by kernel_rfl
theorem decNone_c13 : ((Rows.decNoneRow.maps == (Tryz.f12.params.toList ++ Rows.decNoneSpec.plain.varTypes Tryz.prog).any (Tryz.prog.mapsRec ·))) = true := by kernel_rfl
theorem decNone_c14 : ((Rows.decNoneRow.ifaces == (Tryz.f12.params.toList ++ Rows.decNoneSpec.plain.varTypes Tryz.prog).any (Tryz.prog.ifacesRec ·))) = true := by kernel_rfl
theorem decNone_c15 : ((Rows.decNoneRow.mapsOut == Tryz.prog.mapsAmong Tryz.f12.resultTypes.toList)) = true := by kernel_rfl
theorem decNone_c16 : ((Rows.decNoneRow.loops == (Tryz.f12.params.toList ++ Rows.decNoneSpec.plain.varTypes Tryz.prog).any (Tryz.prog.loopsFrom ·))) = true := by kernel_rfl
theorem decNone_c17 : ((Rows.decNoneRow.wideKeys == (Tryz.f12.params.toList ++ Rows.decNoneSpec.plain.varTypes Tryz.prog ++ Tryz.f12.resultTypes.toList).any (Tryz.prog.wideKeysFrom ·))) = true := by kernel_rfl
theorem decNone_c18 : (Rows.decNoneSpec.vars.all (Tryz.prog.varReadable ·)) = true := by kernel_rfl
theorem decNone_c19 : (Tryz.f12.resultTypes.all (fun t => Tryz.prog.readableRec t && decide (t < Tryz.prog.types.size))) = true := by kernel_rfl
theorem decNone_c20 : ((Rows.decNoneRow.ifacesOut == Tryz.f12.resultTypes.toList.any (Tryz.prog.ifacesRec ·))) = true := by kernel_rfl
theorem decNone_c21 : ((Rows.decNoneRow.loopsOut == Tryz.f12.resultTypes.toList.any (Tryz.prog.loopsFrom ·))) = true := by kernel_rfl
theorem decNone_c23 : (Rows.decNoneRow.shortTexts.isNone) = true := by kernel_rfl
theorem decNone_c28 : ((Rows.decNoneRow.kinds == (if Rows.decNoneRow.domain.isEmpty then [] else Tryz.f12.params.toList.map fun t => match Tryz.prog.underlying t with | some (.int k) => some k | _ => none))) = true := by kernel_rfl
theorem decNone_c29 : ((Rows.decNoneRow.pinned == Rows.decNoneRow.pinnedBy)) = true := by kernel_rfl
theorem decNone_c30 : ((Rows.decNoneRow.veiled == (Tryz.f12.params.toList ++ Rows.decNoneSpec.plain.varTypes Tryz.prog ++ Tryz.f12.resultTypes.toList).any (Tryz.prog.veiledRec ·))) = true := by kernel_rfl
theorem decNone_c31 : (Rows.decNoneRow.veiledFits Tryz.prog Tryz.f12.params.toList (Tryz.f12.params.toList ++ Rows.decNoneSpec.plain.varTypes Tryz.prog ++ Tryz.f12.resultTypes.toList)) = true := by kernel_rfl
set_option maxRecDepth 100000 in
theorem decNone_facts : joinedFacts Tryz.prog 12 Tryz.f12 Rows.decNoneSpec Rows.decNoneRow = true := by
  unfold joinedFacts
  exact band (band (band (band (band (band (band (band (band (band (band (band (band (band (band (band (band (band (band (band (band (band (band (band (band (band (band (band (band (band (band decNone_c0 fact_c1) fact_c2) decNone_c3) decNone_c4) decNone_c5) fact_c6) decNone_c7) fact_c8) decNone_c9) decNone_c10) decNone_c11) decNone_c12) decNone_c13) decNone_c14) decNone_c15) decNone_c16) decNone_c17) decNone_c18) decNone_c19) decNone_c20) decNone_c21) fact_c22) decNone_c23) fact_c24) fact_c25) fact_c26) fact_c27) decNone_c28) decNone_c29) decNone_c30) decNone_c31
theorem decNone_goes : false = Rows.decNoneRow.goesBy Tryz.prog := by kernel_rfl
theorem decNone_holds : Rows.DecNoneSaid :=
  OpenClaim.holds_of_wide 12 Tryz.f12 rfl rfl rfl rfl rfl rfl rfl ⟨rfl, rfl, rfl, rfl, rfl⟩ rfl rfl rfl rfl rfl (by kernel_rfl) Tryz.func12 decNone_facts
    (of_decide_eq_true (by kernel_rfl)) (by unfold Func.isWrapper; rw [if_neg (of_decide_eq_false (by kernel_rfl))]; exact ⟨rfl, rfl⟩)
    (fun os started H enc _ => decNone_lifted os started H enc)
theorem decNone_plain (f : FuncId) (fn : Func) (hf : Tryz.pinned.checked.prog.funcNamed "rentier/rentierlaw2.DecNone" = some f) (hfn : Tryz.pinned.checked.prog.funcs[f]? = some fn) :
    true = Tryz.pinned.checked.prog.looks [] ∧ ∀ (j : Nat) t, fn.params[j]? = some t → Tryz.pinned.checked.prog.wantsStandIn t = false := by
  obtain rfl : f = 12 := Option.some.inj ((show Tryz.prog.funcNamed "rentier/rentierlaw2.DecNone" = some 12 by kernel_rfl).symm.trans hf) |>.symm
  obtain rfl : fn = Tryz.f12 := (Option.some.inj (Tryz.func12.symm.trans hfn)).symm
  refine ⟨by kernel_rfl, fun j t ht => ?_⟩
  rw [Tryz.params12] at ht
  have hm := Array.mem_of_getElem? ht
  simp at hm
theorem decNone_card : Rows.DecNoneCardSaid :=
  Claim7.holds_tied_plain_at .later [] _ _ _ _ (decNone_holds) (fun _ h => by cases h) (by kernel_rfl) (fun _ h => by cases h) decNone_row_tie rfl ⟨rfl, rfl⟩ (by kernel_rfl) rfl decNone_plain decNone_goes
end Go.Proofs.YtfpooimjjpamoaaGreatDoor.law2
