/-
  NumText: for every text the statement's function answers true; the arguments read as before; nothing that was there has turned. The variables that the row lists start as the program's text lays them: the card ties that.
-/
import Derived.Test.YtfpooimjjpamoaaGreatDoorTie
import Derived.Test.YtfpooimjjpamoaaGreatDoorCards
import Derived.ProofKit
import Derived.Carry
import Derived.OpenShut
import Derived.SizedLaws
import Derived.Test.YtfpooimjjpamoaaGreatDoorLwNumText
import Derived.Test.YtfpooimjjpamoaaGreatDoorA47
import Derived.Test.YtfpooimjjpamoaaGreatDoorLaid2
import Derived.Test.YtfpooimjjpamoaaGreatDoorLaw2Facts
namespace Go.Proofs.YtfpooimjjpamoaaGreatDoor.law2
open Go.ChangeShapes Go.WideShapes Go.RowKit
open Go.ChangeMaps (open_string shut_string)
set_option maxRecDepth 100000 in
theorem numText_lifted (os : Os) (started : os.Started) (H : Type) (enc : TypeId × Value → H) :
    ReturnsInHanded {} Tryz.checked os 7 .any (fun w args => (Rows.numTextSpec.pre enc Tryz.prog Tryz.f7 [] false w args ∧ laidMetH Tryz.prog Rows.numTextRow.laid w) ∧ sizedMet enc Tryz.prog Tryz.f7 (OpenSpec.ofChange Rows.numTextSpec) false w args)
      (Rows.numTextSpec.post enc Tryz.prog Tryz.f7 false true false false) := by
  refine returnsInHanded_of_change_and (C := Tryz.checked) (X := fun w _ => laidMetH Tryz.prog Rows.numTextRow.laid w) (fun _ _ _ hh h => h.of_heap hh) own started (by kernel_rfl) Tryz.func7
    (ChangeSpec.witness_at (enc := enc) (C := Tryz.checked) (os := os) (X := fun w _ => laidMetH Tryz.prog Rows.numTextRow.laid w) false (laidWorld os) #[.string ⟨#[]⟩] 8 (laidWorld_os os) (laid_vars os _) (laid_rest os _) (by kernel_rfl) (by kernel_rfl) (by kernel_rfl) (laidWorld_met os _)) ?_
  intro W base args ds gs before hval0 hW _ hsz hL _
  have hval : ∀ (j : Nat) t v, Tryz.f7.params[j]? = some t → args[j]? = some v → Value.okWide Tryz.prog W .any base t v := hval0
  have hW' := hW
  obtain ⟨p, q, hA00, hV0, rfl, hfz, hnd⟩ := hW
  have hA0 : DataW.TrodAll enc Tryz.prog W 0 (fun _ => true) true Tryz.f7.params.toList args.toList ds p := hA00
  have hV : DataW.TrodVars enc Tryz.prog W (fun _ => true) [] gs q := hV0
  rw [Tryz.params7] at hA0 hval hsz
  obtain ⟨v0, r0, d0, e0, p0, q0, g0, rfl, rfl, h0, hA1⟩ := trodAll_cons hA0
  obtain ⟨g1, rfl, rfl⟩ := trodAll_nil hA1
  obtain rfl : args = #[v0] := by cases args; simp_all
  obtain ⟨b0, rfl, rfl, rfl, w0⟩ := open_string Tryz.underlying9 (hval 0 9 v0 rfl rfl) h0
  have z0 : b0.data.toList.length ≤ reachBytes := sized_string hsz (j := 0) (t := 9) rfl rfl
  obtain ⟨a0, rfl⟩ : ∃ l, b0 = ref.str l := ⟨b0.data.toList, rfl⟩
  have z0 : a0.length ≤ 4611686018427387904 := Nat.le_trans z0 (by decide)
  have hL' : laidMet Tryz.prog laidL W ∧ handlesMet Tryz.prog [("errors.errorType", Rows.laid_errors_errorType)] W := hL
  have hg := handle_of hL'.2
  obtain ⟨rfl, rfl⟩ : gs = [] ∧ q = [] := by
    cases gs with
    | nil => exact ⟨rfl, hV⟩
    | cons g r => exact absurd hV (by intro h; cases h)
  have e1 : Rows.numTextSpec.fn H ([.lit (.string (ref.str a0).data.toList)] ++ []) = { results := [.lit (.bool true)], args := [.lit (.string (ref.str a0).data.toList)] } := by simp [Rows.numTextSpec]
  refine (LwNumText begun_all a0 z0 W hg).mono fun e W' ⟨he, hb⟩ => ?_
  subst he
  refine ⟨_, rfl, _, _, _, [], [], [], hW', ?_, ?_, ?_, hb.frame _, fun h => by cases h⟩
  · rw [e1]; exact trodAll_mk1 (shut_bool Tryz.underlying4 true)
  · rw [e1]; exact trodAll_cons_mk (shut_string Tryz.underlying9 w0) trodAll_mk0
  · rw [e1]; rfl
theorem numText_c0 : (Rows.numTextRow.wf (OpenSpec.ofChange Rows.numTextSpec)) = true := by kernel_rfl
theorem numText_c3 : (Tryz.f7.params.all (Tryz.prog.readableRec ·)) = true := by kernel_rfl
theorem numText_c4 : (namedTie Tryz.prog Rows.numTextRow.named Rows.numTextSpec.vars) = true := by kernel_rfl
theorem numText_c5 : ((Rows.numTextRow.stops == [])) = true := by kernel_rfl
theorem numText_c7 : ((Rows.numTextRow.knobs == [])) = true := by kernel_rfl
theorem numText_c9 : ((Rows.numTextRow.inPlace == Tryz.prog.inPlace 7)) = true := by kernel_rfl
theorem numText_c10 : ((Rows.numTextRow.unfollowed == Tryz.prog.unfollowed 7)) = true := by kernel_rfl
theorem numText_c11 : ((Rows.numTextRow.recurses == Tryz.prog.recurses 7)) = true := by kernel_rfl
theorem numText_c12 : ((Rows.numTextRow.named == Tryz.prog.varsNamed 7)) = true := by kernel_rfl
theorem numText_c13 : ((Rows.numTextRow.maps == (Tryz.f7.params.toList ++ Rows.numTextSpec.plain.varTypes Tryz.prog).any (Tryz.prog.mapsRec ·))) = true := by kernel_rfl
theorem numText_c14 : ((Rows.numTextRow.ifaces == (Tryz.f7.params.toList ++ Rows.numTextSpec.plain.varTypes Tryz.prog).any (Tryz.prog.ifacesRec ·))) = true := by kernel_rfl
theorem numText_c15 : ((Rows.numTextRow.mapsOut == Tryz.prog.mapsAmong Tryz.f7.resultTypes.toList)) = true := by kernel_rfl
theorem numText_c16 : ((Rows.numTextRow.loops == (Tryz.f7.params.toList ++ Rows.numTextSpec.plain.varTypes Tryz.prog).any (Tryz.prog.loopsFrom ·))) = true := by kernel_rfl
theorem numText_c17 : ((Rows.numTextRow.wideKeys == (Tryz.f7.params.toList ++ Rows.numTextSpec.plain.varTypes Tryz.prog ++ Tryz.f7.resultTypes.toList).any (Tryz.prog.wideKeysFrom ·))) = true := by kernel_rfl
theorem numText_c18 : (Rows.numTextSpec.vars.all (Tryz.prog.varReadable ·)) = true := by kernel_rfl
theorem numText_c19 : (Tryz.f7.resultTypes.all (fun t => Tryz.prog.readableRec t && decide (t < Tryz.prog.types.size))) = true := by kernel_rfl
theorem numText_c20 : ((Rows.numTextRow.ifacesOut == Tryz.f7.resultTypes.toList.any (Tryz.prog.ifacesRec ·))) = true := by kernel_rfl
theorem numText_c21 : ((Rows.numTextRow.loopsOut == Tryz.f7.resultTypes.toList.any (Tryz.prog.loopsFrom ·))) = true := by kernel_rfl
theorem numText_c23 : (Rows.numTextRow.shortTexts.isNone) = true := by kernel_rfl
theorem numText_c28 : ((Rows.numTextRow.kinds == (if Rows.numTextRow.domain.isEmpty then [] else Tryz.f7.params.toList.map fun t => match Tryz.prog.underlying t with | some (.int k) => some k | _ => none))) = true := by kernel_rfl
theorem numText_c29 : ((Rows.numTextRow.pinned == Rows.numTextRow.pinnedBy)) = true := by kernel_rfl
theorem numText_c30 : ((Rows.numTextRow.veiled == (Tryz.f7.params.toList ++ Rows.numTextSpec.plain.varTypes Tryz.prog ++ Tryz.f7.resultTypes.toList).any (Tryz.prog.veiledRec ·))) = true := by kernel_rfl
theorem numText_c31 : (Rows.numTextRow.veiledFits Tryz.prog Tryz.f7.params.toList (Tryz.f7.params.toList ++ Rows.numTextSpec.plain.varTypes Tryz.prog ++ Tryz.f7.resultTypes.toList)) = true := by kernel_rfl
set_option maxRecDepth 100000 in
theorem numText_facts : joinedFacts Tryz.prog 7 Tryz.f7 Rows.numTextSpec Rows.numTextRow = true := by
  unfold joinedFacts
  exact band (band (band (band (band (band (band (band (band (band (band (band (band (band (band (band (band (band (band (band (band (band (band (band (band (band (band (band (band (band (band numText_c0 fact_c1) fact_c2) numText_c3) numText_c4) numText_c5) fact_c6) numText_c7) fact_c8) numText_c9) numText_c10) numText_c11) numText_c12) numText_c13) numText_c14) numText_c15) numText_c16) numText_c17) numText_c18) numText_c19) numText_c20) numText_c21) fact_c22) numText_c23) fact_c24) fact_c25) fact_c26) fact_c27) numText_c28) numText_c29) numText_c30) numText_c31
theorem numText_goes : false = Rows.numTextRow.goesBy Tryz.prog := by kernel_rfl
theorem numText_holds : Rows.NumTextSaid :=
  OpenClaim.holds_of_wide 7 Tryz.f7 rfl rfl rfl rfl rfl rfl rfl ⟨rfl, rfl, rfl, rfl, rfl⟩ rfl rfl rfl rfl rfl (by kernel_rfl) Tryz.func7 numText_facts
    (of_decide_eq_true (by kernel_rfl)) (by unfold Func.isWrapper; rw [if_neg (of_decide_eq_false (by kernel_rfl))]; exact ⟨rfl, rfl⟩)
    (fun os started H enc _ => numText_lifted os started H enc)
theorem numText_plain (f : FuncId) (fn : Func) (hf : Tryz.pinned.checked.prog.funcNamed "rentier/rentierlaw2.NumText" = some f) (hfn : Tryz.pinned.checked.prog.funcs[f]? = some fn) :
    true = Tryz.pinned.checked.prog.looks [] ∧ ∀ (j : Nat) t, fn.params[j]? = some t → Tryz.pinned.checked.prog.wantsStandIn t = false := by
  obtain rfl : f = 7 := Option.some.inj ((show Tryz.prog.funcNamed "rentier/rentierlaw2.NumText" = some 7 by kernel_rfl).symm.trans hf) |>.symm
  obtain rfl : fn = Tryz.f7 := (Option.some.inj (Tryz.func7.symm.trans hfn)).symm
  refine ⟨by kernel_rfl, fun j t ht => ?_⟩
  rw [Tryz.params7] at ht
  have hm := Array.mem_of_getElem? ht
  simp at hm
  have t_s : Tryz.pinned.checked.prog.wantsStandIn 9 = false := by kernel_rfl
  rcases hm with rfl <;> exact t_s
theorem numText_card : Rows.NumTextCardSaid :=
  Claim7.holds_tied_plain_at .later [] _ _ _ _ (numText_holds) (fun _ h => by cases h) (by kernel_rfl) (fun _ h => by cases h) numText_row_tie rfl ⟨rfl, rfl⟩ (by kernel_rfl) rfl numText_plain numText_goes
end Go.Proofs.YtfpooimjjpamoaaGreatDoor.law2
