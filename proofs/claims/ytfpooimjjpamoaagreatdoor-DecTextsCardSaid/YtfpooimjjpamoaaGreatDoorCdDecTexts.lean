/-
  DecTexts: for every text, number the statement's function answers true; the arguments read as before; nothing that was there has turned. The variables that the row lists start as the program's text lays them: the card ties that.
-/
import Derived.Test.YtfpooimjjpamoaaGreatDoorTie
import Derived.Test.YtfpooimjjpamoaaGreatDoorCards
import Derived.ProofKit
import Derived.Carry
import Derived.OpenShut
import Derived.SizedLaws
import Derived.Test.YtfpooimjjpamoaaGreatDoorD00
import Derived.Test.YtfpooimjjpamoaaGreatDoorLwDecTexts
import Derived.Test.YtfpooimjjpamoaaGreatDoorF23
import Derived.Test.YtfpooimjjpamoaaGreatDoorLaid2D
import Derived.Test.YtfpooimjjpamoaaGreatDoorLaw2Facts
namespace Go.Proofs.YtfpooimjjpamoaaGreatDoor.law2
open Go.ChangeShapes Go.WideShapes Go.RowKit
open Go.ChangeMaps (open_string shut_string)
set_option maxRecDepth 100000 in
theorem decTexts_lifted (os : Os) (started : os.Started) (H : Type) (enc : TypeId × Value → H) :
    ReturnsInHanded {} Tryz.checked os 24 .any (fun w args => (Rows.decTextsSpec.pre enc Tryz.prog Tryz.f24 [] false w args ∧ laidMetH Tryz.prog Rows.decTextsRow.laid w) ∧ sizedMet enc Tryz.prog Tryz.f24 (OpenSpec.ofChange Rows.decTextsSpec) false w args)
      (Rows.decTextsSpec.post enc Tryz.prog Tryz.f24 false true false false) := by
  refine returnsInHanded_of_change_and (C := Tryz.checked) (X := fun w _ => laidMetH Tryz.prog Rows.decTextsRow.laid w) (fun _ _ _ hh h => h.of_heap hh) own started (by kernel_rfl) Tryz.func24
    (ChangeSpec.witness_at (enc := enc) (C := Tryz.checked) (os := os) (X := fun w _ => laidMetH Tryz.prog Rows.decTextsRow.laid w) false (laidWorld os) #[.string ⟨#[]⟩, .int .i64 0] 8 (laidWorld_os os) (laid_vars os _) (laid_rest os _) (by kernel_rfl) (by kernel_rfl) (by kernel_rfl) (laidWorld_met os _)) ?_
  intro W base args ds gs before hval0 hW _ hsz hL _
  have hval : ∀ (j : Nat) t v, Tryz.f24.params[j]? = some t → args[j]? = some v → Value.okWide Tryz.prog W .any base t v := hval0
  have hW' := hW
  obtain ⟨p, q, hA00, hV0, rfl, hfz, hnd⟩ := hW
  have hA0 : DataW.TrodAll enc Tryz.prog W 0 (fun _ => true) true Tryz.f24.params.toList args.toList ds p := hA00
  have hV : DataW.TrodVars enc Tryz.prog W (fun _ => true) [] gs q := hV0
  rw [Tryz.params24] at hA0 hval hsz
  obtain ⟨v0, r0, d0, e0, p0, q0, g0, rfl, rfl, h0, hA1⟩ := trodAll_cons hA0
  obtain ⟨v1, r1, d1, e1, p1, q1, g1, rfl, rfl, h1, hA2⟩ := trodAll_cons hA1
  obtain ⟨g2, rfl, rfl⟩ := trodAll_nil hA2
  obtain rfl : args = #[v0, v1] := by cases args; simp_all
  obtain ⟨b0, rfl, rfl, rfl, w0⟩ := open_string Tryz.underlying9 (hval 0 9 v0 rfl rfl) h0
  obtain ⟨a1, rfl, rfl, rfl, w1⟩ := open_int Tryz.underlying3 (hval 1 3 v1 rfl rfl) h1
  have z0 : b0.data.toList.length ≤ reachBytes := sized_string hsz (j := 0) (t := 9) rfl rfl
  obtain ⟨a0, rfl⟩ : ∃ l, b0 = ref.str l := ⟨b0.data.toList, rfl⟩
  have z0 : a0.length ≤ 4611686018427387904 := Nat.le_trans z0 (by decide)
  have y1 := bounds_i64 w1
  have hL' : laidMet Tryz.prog laidL W ∧ handlesMet Tryz.prog [("errors.errorType", Rows.laid_errors_errorType)] W := hL
  have hg := handle_of hL'.2
  obtain ⟨rfl, rfl⟩ : gs = [] ∧ q = [] := by
    cases gs with
    | nil => exact ⟨rfl, hV⟩
    | cons g r => exact absurd hV (by intro h; cases h)
  have e1 : Rows.decTextsSpec.fn H ([.lit (.string (ref.str a0).data.toList), .lit (.int .i64 a1)] ++ []) = { results := [.lit (.bool true)], args := [.lit (.string (ref.str a0).data.toList), .lit (.int .i64 a1)] } := by simp [Rows.decTextsSpec]
  refine (LwDecTexts begun_all a0 z0 a1 y1.1 (by omega) W hg).mono fun e W' ⟨he, hb⟩ => ?_
  subst he
  refine ⟨_, rfl, _, _, _, [], [], [], hW', ?_, ?_, ?_, hb.frame _, fun h => by cases h⟩
  · rw [e1]; exact trodAll_mk1 (shut_bool Tryz.underlying4 true)
  · rw [e1]; exact trodAll_cons_mk (shut_string Tryz.underlying9 w0) (trodAll_cons_mk (shut_int Tryz.underlying3 w1) trodAll_mk0)
  · rw [e1]; rfl
theorem decTexts_c0 : (Rows.decTextsRow.wf (OpenSpec.ofChange Rows.decTextsSpec)) = true := by kernel_rfl
theorem decTexts_c3 : (Tryz.f24.params.all (Tryz.prog.readableRec ·)) = true := by kernel_rfl
theorem decTexts_c4 : (namedTie Tryz.prog Rows.decTextsRow.named Rows.decTextsSpec.vars) = true := by kernel_rfl
theorem decTexts_c5 : ((Rows.decTextsRow.stops == [])) = true := by kernel_rfl
theorem decTexts_c7 : ((Rows.decTextsRow.knobs == [])) = true := by kernel_rfl
theorem decTexts_c9 : ((Rows.decTextsRow.inPlace == Tryz.prog.inPlace 24)) = true := by kernel_rfl
theorem decTexts_c10 : ((Rows.decTextsRow.unfollowed == Tryz.prog.unfollowed 24)) = true := by kernel_rfl
theorem decTexts_c11 : ((Rows.decTextsRow.recurses == Tryz.prog.recurses 24)) = true := by kernel_rfl
theorem decTexts_c12 : ((Rows.decTextsRow.named == Tryz.prog.varsNamed 24)) = true := by kernel_rfl
theorem decTexts_c13 : ((Rows.decTextsRow.maps == (Tryz.f24.params.toList ++ Rows.decTextsSpec.plain.varTypes Tryz.prog).any (Tryz.prog.mapsRec ·))) = true := by kernel_rfl
theorem decTexts_c14 : ((Rows.decTextsRow.ifaces == (Tryz.f24.params.toList ++ Rows.decTextsSpec.plain.varTypes Tryz.prog).any (Tryz.prog.ifacesRec ·))) = true := by kernel_rfl
theorem decTexts_c15 : ((Rows.decTextsRow.mapsOut == Tryz.prog.mapsAmong Tryz.f24.resultTypes.toList)) = true := by kernel_rfl
theorem decTexts_c16 : ((Rows.decTextsRow.loops == (Tryz.f24.params.toList ++ Rows.decTextsSpec.plain.varTypes Tryz.prog).any (Tryz.prog.loopsFrom ·))) = true := by kernel_rfl
theorem decTexts_c17 : ((Rows.decTextsRow.wideKeys == (Tryz.f24.params.toList ++ Rows.decTextsSpec.plain.varTypes Tryz.prog ++ Tryz.f24.resultTypes.toList).any (Tryz.prog.wideKeysFrom ·))) = true := by kernel_rfl
theorem decTexts_c18 : (Rows.decTextsSpec.vars.all (Tryz.prog.varReadable ·)) = true := by kernel_rfl
theorem decTexts_c19 : (Tryz.f24.resultTypes.all (fun t => Tryz.prog.readableRec t && decide (t < Tryz.prog.types.size))) = true := by kernel_rfl
theorem decTexts_c20 : ((Rows.decTextsRow.ifacesOut == Tryz.f24.resultTypes.toList.any (Tryz.prog.ifacesRec ·))) = true := by kernel_rfl
theorem decTexts_c21 : ((Rows.decTextsRow.loopsOut == Tryz.f24.resultTypes.toList.any (Tryz.prog.loopsFrom ·))) = true := by kernel_rfl
theorem decTexts_c23 : (Rows.decTextsRow.shortTexts.isNone) = true := by kernel_rfl
theorem decTexts_c28 : ((Rows.decTextsRow.kinds == (if Rows.decTextsRow.domain.isEmpty then [] else Tryz.f24.params.toList.map fun t => match Tryz.prog.underlying t with | some (.int k) => some k | _ => none))) = true := by kernel_rfl
theorem decTexts_c29 : ((Rows.decTextsRow.pinned == Rows.decTextsRow.pinnedBy)) = true := by kernel_rfl
theorem decTexts_c30 : ((Rows.decTextsRow.veiled == (Tryz.f24.params.toList ++ Rows.decTextsSpec.plain.varTypes Tryz.prog ++ Tryz.f24.resultTypes.toList).any (Tryz.prog.veiledRec ·))) = true := by kernel_rfl
theorem decTexts_c31 : (Rows.decTextsRow.veiledFits Tryz.prog Tryz.f24.params.toList (Tryz.f24.params.toList ++ Rows.decTextsSpec.plain.varTypes Tryz.prog ++ Tryz.f24.resultTypes.toList)) = true := by kernel_rfl
set_option maxRecDepth 100000 in
theorem decTexts_facts : joinedFacts Tryz.prog 24 Tryz.f24 Rows.decTextsSpec Rows.decTextsRow = true := by
  unfold joinedFacts
  exact band (band (band (band (band (band (band (band (band (band (band (band (band (band (band (band (band (band (band (band (band (band (band (band (band (band (band (band (band (band (band decTexts_c0 fact_c1) fact_c2) decTexts_c3) decTexts_c4) decTexts_c5) fact_c6) decTexts_c7) fact_c8) decTexts_c9) decTexts_c10) decTexts_c11) decTexts_c12) decTexts_c13) decTexts_c14) decTexts_c15) decTexts_c16) decTexts_c17) decTexts_c18) decTexts_c19) decTexts_c20) decTexts_c21) fact_c22) decTexts_c23) fact_c24) fact_c25) fact_c26) fact_c27) decTexts_c28) decTexts_c29) decTexts_c30) decTexts_c31
theorem decTexts_goes : false = Rows.decTextsRow.goesBy Tryz.prog := by kernel_rfl
theorem decTexts_holds : Rows.DecTextsSaid :=
  OpenClaim.holds_of_wide 24 Tryz.f24 rfl rfl rfl rfl rfl rfl rfl ⟨rfl, rfl, rfl, rfl, rfl⟩ rfl rfl rfl rfl rfl (by kernel_rfl) Tryz.func24 decTexts_facts
    (of_decide_eq_true (by kernel_rfl)) (by unfold Func.isWrapper; rw [if_neg (of_decide_eq_false (by kernel_rfl))]; exact ⟨rfl, rfl⟩)
    (fun os started H enc _ => decTexts_lifted os started H enc)
theorem decTexts_plain (f : FuncId) (fn : Func) (hf : Tryz.pinned.checked.prog.funcNamed "rentier/rentierlaw2.DecTexts" = some f) (hfn : Tryz.pinned.checked.prog.funcs[f]? = some fn) :
    true = Tryz.pinned.checked.prog.looks [] ∧ ∀ (j : Nat) t, fn.params[j]? = some t → Tryz.pinned.checked.prog.wantsStandIn t = false := by
  obtain rfl : f = 24 := Option.some.inj ((show Tryz.prog.funcNamed "rentier/rentierlaw2.DecTexts" = some 24 by kernel_rfl).symm.trans hf) |>.symm
  obtain rfl : fn = Tryz.f24 := (Option.some.inj (Tryz.func24.symm.trans hfn)).symm
  refine ⟨by kernel_rfl, fun j t ht => ?_⟩
  rw [Tryz.params24] at ht
  have hm := Array.mem_of_getElem? ht
  simp at hm
  have t_s : Tryz.pinned.checked.prog.wantsStandIn 9 = false := by kernel_rfl
  have t_i : Tryz.pinned.checked.prog.wantsStandIn 3 = false := by kernel_rfl
  rcases hm with rfl | rfl <;> first | with_reducible exact t_s | with_reducible exact t_i
theorem decTexts_card : Rows.DecTextsCardSaid :=
  Claim7.holds_tied_plain_at .later [] _ _ _ _ (decTexts_holds) (fun _ h => by cases h) (by kernel_rfl) (fun _ h => by cases h) decTexts_row_tie rfl ⟨rfl, rfl⟩ (by kernel_rfl) rfl decTexts_plain decTexts_goes
end Go.Proofs.YtfpooimjjpamoaaGreatDoor.law2
