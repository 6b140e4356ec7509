/-
  DecGet: for every text the statement's function answers true; the arguments read as before; nothing that was there has turned. The variables that the row lists start as the program's text lays them: the card ties that.
-/
import Derived.Test.YtfpooimjjpamoaaGreatDoorTie
import Derived.Test.YtfpooimjjpamoaaGreatDoorCards
import Derived.ProofKit
import Derived.Carry
import Derived.OpenShut
import Derived.SizedLaws
import Derived.Test.YtfpooimjjpamoaaGreatDoorLwDecGet
import Derived.Test.YtfpooimjjpamoaaGreatDoorF23
import Derived.Test.YtfpooimjjpamoaaGreatDoorLaid2F
import Derived.Test.YtfpooimjjpamoaaGreatDoorLaw2Facts
namespace Go.Proofs.YtfpooimjjpamoaaGreatDoor.law2
open Go.ChangeShapes Go.WideShapes Go.RowKit
open Go.ChangeMaps (open_string shut_string)
set_option maxRecDepth 100000 in
theorem decGet_lifted (os : Os) (started : os.Started) (H : Type) (enc : TypeId × Value → H) :
    ReturnsInHanded {} Tryz.checked os 9 .any (fun w args => (Rows.decGetSpec.pre enc Tryz.prog Tryz.f9 [] false w args ∧ laidMetH Tryz.prog Rows.decGetRow.laid w) ∧ sizedMet enc Tryz.prog Tryz.f9 (OpenSpec.ofChange Rows.decGetSpec) false w args)
      (Rows.decGetSpec.post enc Tryz.prog Tryz.f9 false true false false) := by
  refine returnsInHanded_of_change_and (C := Tryz.checked) (X := fun w _ => laidMetH Tryz.prog Rows.decGetRow.laid w) (fun _ _ _ hh h => h.of_heap hh) own started (by kernel_rfl) Tryz.func9
    (ChangeSpec.witness_at (enc := enc) (C := Tryz.checked) (os := os) (X := fun w _ => laidMetH Tryz.prog Rows.decGetRow.laid w) false (laidWorld os) #[.string ⟨#[]⟩] 8 (laidWorld_os os) (laid_vars os _) (laid_rest os _) (by kernel_rfl) (by kernel_rfl) (by kernel_rfl) (laidWorld_met os _)) ?_
  intro W base args ds gs before hval0 hW _ hsz hL _
  have hval : ∀ (j : Nat) t v, Tryz.f9.params[j]? = some t → args[j]? = some v → Value.okWide Tryz.prog W .any base t v := hval0
  have hW' := hW
  obtain ⟨p, q, hA00, hV0, rfl, hfz, hnd⟩ := hW
  have hA0 : DataW.TrodAll enc Tryz.prog W 0 (fun _ => true) true Tryz.f9.params.toList args.toList ds p := hA00
  have hV : DataW.TrodVars enc Tryz.prog W (fun _ => true) [] gs q := hV0
  rw [Tryz.params9] at hA0 hval hsz
  obtain ⟨v0, r0, d0, e0, p0, q0, g0, rfl, rfl, h0, hA1⟩ := trodAll_cons hA0
  obtain ⟨g1, rfl, rfl⟩ := trodAll_nil hA1
  obtain rfl : args = #[v0] := by cases args; simp_all
  obtain ⟨b0, rfl, rfl, rfl, w0⟩ := open_string Tryz.underlying9 (hval 0 9 v0 rfl rfl) h0
  have z0 : b0.data.toList.length ≤ reachBytes := sized_string hsz (j := 0) (t := 9) rfl rfl
  obtain ⟨a0, rfl⟩ : ∃ l, b0 = ref.str l := ⟨b0.data.toList, rfl⟩
  have z0 : a0.length ≤ 4611686018427387904 := Nat.le_trans z0 (by decide)
  have hL' : laidMet Tryz.prog laidL W ∧ handlesMet Tryz.prog [("errors.errorType", Rows.laid_errors_errorType)] W := hL
  have hg := handle_of hL'.2
  obtain ⟨rfl, rfl⟩ : gs = [] ∧ q = [] := by
    cases gs with
    | nil => exact ⟨rfl, hV⟩
    | cons g r => exact absurd hV (by intro h; cases h)
  have e1 : Rows.decGetSpec.fn H ([.lit (.string (ref.str a0).data.toList)] ++ []) = { results := [.lit (.bool true)], args := [.lit (.string (ref.str a0).data.toList)] } := by simp [Rows.decGetSpec]
  refine (LwDecGet begun_all a0 z0 W hg).mono fun e W' ⟨he, hb⟩ => ?_
  subst he
  refine ⟨_, rfl, _, _, _, [], [], [], hW', ?_, ?_, ?_, hb.frame _, fun h => by cases h⟩
  · rw [e1]; exact trodAll_mk1 (shut_bool Tryz.underlying4 true)
  · rw [e1]; exact trodAll_cons_mk (shut_string Tryz.underlying9 w0) trodAll_mk0
  · rw [e1]; rfl
theorem decGet_c0 : (Rows.decGetRow.wf (OpenSpec.ofChange Rows.decGetSpec)) = true := by kernel_rfl
theorem decGet_c3 : (Tryz.f9.params.all (Tryz.prog.readableRec ·)) = true := by kernel_rfl
theorem decGet_c4 : (namedTie Tryz.prog Rows.decGetRow.named Rows.decGetSpec.vars) = true := by kernel_rfl
theorem decGet_c5 : ((Rows.decGetRow.stops == [])) = true := by kernel_rfl
theorem decGet_c7 : ((Rows.decGetRow.knobs == [])) = true := by kernel_rfl
theorem decGet_c9 : ((Rows.decGetRow.inPlace == Tryz.prog.inPlace 9)) = true := by kernel_rfl
theorem decGet_c10 : ((Rows.decGetRow.unfollowed == Tryz.prog.unfollowed 9)) = true := by kernel_rfl
theorem decGet_c11 : ((Rows.decGetRow.recurses == Tryz.prog.recurses 9)) = true := by kernel_rfl
theorem decGet_c12 : ((Rows.decGetRow.named == Tryz.prog.varsNamed 9)) = true := by kernel_rfl
theorem decGet_c13 : ((Rows.decGetRow.maps == (Tryz.f9.params.toList ++ Rows.decGetSpec.plain.varTypes Tryz.prog).any (Tryz.prog.mapsRec ·))) = true := by kernel_rfl
theorem decGet_c14 : ((Rows.decGetRow.ifaces == (Tryz.f9.params.toList ++ Rows.decGetSpec.plain.varTypes Tryz.prog).any (Tryz.prog.ifacesRec ·))) = true := by kernel_rfl
theorem decGet_c15 : ((Rows.decGetRow.mapsOut == Tryz.prog.mapsAmong Tryz.f9.resultTypes.toList)) = true := by kernel_rfl
theorem decGet_c16 : ((Rows.decGetRow.loops == (Tryz.f9.params.toList ++ Rows.decGetSpec.plain.varTypes Tryz.prog).any (Tryz.prog.loopsFrom ·))) = true := by kernel_rfl
theorem decGet_c17 : ((Rows.decGetRow.wideKeys == (Tryz.f9.params.toList ++ Rows.decGetSpec.plain.varTypes Tryz.prog ++ Tryz.f9.resultTypes.toList).any (Tryz.prog.wideKeysFrom ·))) = true := by kernel_rfl
theorem decGet_c18 : (Rows.decGetSpec.vars.all (Tryz.prog.varReadable ·)) = true := by kernel_rfl
theorem decGet_c19 : (Tryz.f9.resultTypes.all (fun t => Tryz.prog.readableRec t && decide (t < Tryz.prog.types.size))) = true := by kernel_rfl
theorem decGet_c20 : ((Rows.decGetRow.ifacesOut == Tryz.f9.resultTypes.toList.any (Tryz.prog.ifacesRec ·))) = true := by kernel_rfl
theorem decGet_c21 : ((Rows.decGetRow.loopsOut == Tryz.f9.resultTypes.toList.any (Tryz.prog.loopsFrom ·))) = true := by kernel_rfl
theorem decGet_c23 : (Rows.decGetRow.shortTexts.isNone) = true := by kernel_rfl
theorem decGet_c28 : ((Rows.decGetRow.kinds == (if Rows.decGetRow.domain.isEmpty then [] else Tryz.f9.params.toList.map fun t => match Tryz.prog.underlying t with | some (.int k) => some k | _ => none))) = true := by kernel_rfl
theorem decGet_c29 : ((Rows.decGetRow.pinned == Rows.decGetRow.pinnedBy)) = true := by kernel_rfl
theorem decGet_c30 : ((Rows.decGetRow.veiled == (Tryz.f9.params.toList ++ Rows.decGetSpec.plain.varTypes Tryz.prog ++ Tryz.f9.resultTypes.toList).any (Tryz.prog.veiledRec ·))) = true := by kernel_rfl
theorem decGet_c31 : (Rows.decGetRow.veiledFits Tryz.prog Tryz.f9.params.toList (Tryz.f9.params.toList ++ Rows.decGetSpec.plain.varTypes Tryz.prog ++ Tryz.f9.resultTypes.toList)) = true := by kernel_rfl
set_option maxRecDepth 100000 in
theorem decGet_facts : joinedFacts Tryz.prog 9 Tryz.f9 Rows.decGetSpec Rows.decGetRow = true := by
  unfold joinedFacts
  exact band (band (band (band (band (band (band (band (band (band (band (band (band (band (band (band (band (band (band (band (band (band (band (band (band (band (band (band (band (band (band decGet_c0 fact_c1) fact_c2) decGet_c3) decGet_c4) decGet_c5) fact_c6) decGet_c7) fact_c8) decGet_c9) decGet_c10) decGet_c11) decGet_c12) decGet_c13) decGet_c14) decGet_c15) decGet_c16) decGet_c17) decGet_c18) decGet_c19) decGet_c20) decGet_c21) fact_c22) decGet_c23) fact_c24) fact_c25) fact_c26) fact_c27) decGet_c28) decGet_c29) decGet_c30) decGet_c31
theorem decGet_goes : false = Rows.decGetRow.goesBy Tryz.prog := by kernel_rfl
theorem decGet_holds : Rows.DecGetSaid :=
  OpenClaim.holds_of_wide 9 Tryz.f9 rfl rfl rfl rfl rfl rfl rfl ⟨rfl, rfl, rfl, rfl, rfl⟩ rfl rfl rfl rfl rfl (by kernel_rfl) Tryz.func9 decGet_facts
    (of_decide_eq_true (by kernel_rfl)) (by unfold Func.isWrapper; rw [if_neg (of_decide_eq_false (by kernel_rfl))]; exact ⟨rfl, rfl⟩)
    (fun os started H enc _ => decGet_lifted os started H enc)
theorem decGet_plain (f : FuncId) (fn : Func) (hf : Tryz.pinned.checked.prog.funcNamed "rentier/rentierlaw2.DecGet" = some f) (hfn : Tryz.pinned.checked.prog.funcs[f]? = some fn) :
    true = Tryz.pinned.checked.prog.looks [] ∧ ∀ (j : Nat) t, fn.params[j]? = some t → Tryz.pinned.checked.prog.wantsStandIn t = false := by
  obtain rfl : f = 9 := Option.some.inj ((show Tryz.prog.funcNamed "rentier/rentierlaw2.DecGet" = some 9 by kernel_rfl).symm.trans hf) |>.symm
  obtain rfl : fn = Tryz.f9 := (Option.some.inj (Tryz.func9.symm.trans hfn)).symm
  refine ⟨by kernel_rfl, fun j t ht => ?_⟩
  rw [Tryz.params9] at ht
  have hm := Array.mem_of_getElem? ht
  simp at hm
  have t_s : Tryz.pinned.checked.prog.wantsStandIn 9 = false := by kernel_rfl
  rcases hm with rfl <;> exact t_s
theorem decGet_card : Rows.DecGetCardSaid :=
  Claim7.holds_tied_plain_at .later [] _ _ _ _ (decGet_holds) (fun _ h => by cases h) (by kernel_rfl) (fun _ h => by cases h) decGet_row_tie rfl ⟨rfl, rfl⟩ (by kernel_rfl) rfl decGet_plain decGet_goes
end Go.Proofs.YtfpooimjjpamoaaGreatDoor.law2
