/-
  RatText: for every text, number, number the statement's function answers true; the arguments read as before; nothing that was there has turned. The variables that the row lists start as the program's text lays them: the card ties that.
-/
import Derived.Test.YtfpooimjjpamoaaGreatDoorTie
import Derived.Test.YtfpooimjjpamoaaGreatDoorCards
import Derived.ProofKit
import Derived.Carry
import Derived.OpenShut
import Derived.SizedLaws
import Derived.Test.YtfpooimjjpamoaaGreatDoorLwRatText
import Derived.Test.YtfpooimjjpamoaaGreatDoorB23
import Derived.Test.YtfpooimjjpamoaaGreatDoorLaid2B
import Derived.Test.YtfpooimjjpamoaaGreatDoorLaw2Facts
namespace Go.Proofs.YtfpooimjjpamoaaGreatDoor.law2
open Go.ChangeShapes Go.WideShapes Go.RowKit
open Go.ChangeMaps (open_string shut_string)
set_option maxRecDepth 100000 in
theorem ratText_lifted (os : Os) (started : os.Started) (H : Type) (enc : TypeId × Value → H) :
    ReturnsInHanded {} Tryz.checked os 8 .any (fun w args => (Rows.ratTextSpec.pre enc Tryz.prog Tryz.f8 [] false w args ∧ laidMetH Tryz.prog Rows.ratTextRow.laid w) ∧ sizedMet enc Tryz.prog Tryz.f8 (OpenSpec.ofChange Rows.ratTextSpec) false w args)
      (Rows.ratTextSpec.post enc Tryz.prog Tryz.f8 false true false false) := by
  refine returnsInHanded_of_change_and (C := Tryz.checked) (X := fun w _ => laidMetH Tryz.prog Rows.ratTextRow.laid w) (fun _ _ _ hh h => h.of_heap hh) own started (by kernel_rfl) Tryz.func8
    (ChangeSpec.witness_at (enc := enc) (C := Tryz.checked) (os := os) (X := fun w _ => laidMetH Tryz.prog Rows.ratTextRow.laid w) false (laidWorld os) #[.string ⟨#[]⟩, .int .i64 0, .int .i64 0] 8 (laidWorld_os os) (laid_vars os _) (laid_rest os _) (by kernel_rfl) (by kernel_rfl) (by kernel_rfl) (laidWorld_met os _)) ?_
  intro W base args ds gs before hval0 hW _ hsz hL _
  have hval : ∀ (j : Nat) t v, Tryz.f8.params[j]? = some t → args[j]? = some v → Value.okWide Tryz.prog W .any base t v := hval0
  have hW' := hW
  obtain ⟨p, q, hA00, hV0, rfl, hfz, hnd⟩ := hW
  have hA0 : DataW.TrodAll enc Tryz.prog W 0 (fun _ => true) true Tryz.f8.params.toList args.toList ds p := hA00
  have hV : DataW.TrodVars enc Tryz.prog W (fun _ => true) [] gs q := hV0
  rw [Tryz.params8] at hA0 hval hsz
  obtain ⟨v0, r0, d0, e0, p0, q0, g0, rfl, rfl, h0, hA1⟩ := trodAll_cons hA0
  obtain ⟨v1, r1, d1, e1, p1, q1, g1, rfl, rfl, h1, hA2⟩ := trodAll_cons hA1
  obtain ⟨v2, r2, d2, e2, p2, q2, g2, rfl, rfl, h2, hA3⟩ := trodAll_cons hA2
  obtain ⟨g3, rfl, rfl⟩ := trodAll_nil hA3
  obtain rfl : args = #[v0, v1, v2] := by cases args; simp_all
  obtain ⟨b0, rfl, rfl, rfl, w0⟩ := open_string Tryz.underlying9 (hval 0 9 v0 rfl rfl) h0
  obtain ⟨a1, rfl, rfl, rfl, w1⟩ := open_int Tryz.underlying2 (hval 1 2 v1 rfl rfl) h1
  obtain ⟨a2, rfl, rfl, rfl, w2⟩ := open_int Tryz.underlying2 (hval 2 2 v2 rfl rfl) h2
  have z0 : b0.data.toList.length ≤ reachBytes := sized_string hsz (j := 0) (t := 9) rfl rfl
  obtain ⟨a0, rfl⟩ : ∃ l, b0 = ref.str l := ⟨b0.data.toList, rfl⟩
  have z0 : a0.length ≤ 4611686018427387904 := Nat.le_trans z0 (by decide)
  have y1 := bounds_i64 w1
  have y2 := bounds_i64 w2
  have hL' : laidMet Tryz.prog laidL W ∧ handlesMet Tryz.prog [("errors.errorType", Rows.laid_errors_errorType)] W := hL
  have hg := handle_of hL'.2
  obtain ⟨rfl, rfl⟩ : gs = [] ∧ q = [] := by
    cases gs with
    | nil => exact ⟨rfl, hV⟩
    | cons g r => exact absurd hV (by intro h; cases h)
  have e1 : Rows.ratTextSpec.fn H ([.lit (.string (ref.str a0).data.toList), .lit (.int .i64 a1), .lit (.int .i64 a2)] ++ []) = { results := [.lit (.bool true)], args := [.lit (.string (ref.str a0).data.toList), .lit (.int .i64 a1), .lit (.int .i64 a2)] } := by simp [Rows.ratTextSpec]
  refine (LwRatText begun_all a0 z0 a1 y1.1 (by omega) a2 y2.1 (by omega) W hg).mono fun e W' ⟨he, hb⟩ => ?_
  subst he
  refine ⟨_, rfl, _, _, _, [], [], [], hW', ?_, ?_, ?_, hb.frame _, fun h => by cases h⟩
  · rw [e1]; exact trodAll_mk1 (shut_bool Tryz.underlying4 true)
  · rw [e1]; exact trodAll_cons_mk (shut_string Tryz.underlying9 w0) (trodAll_cons_mk (shut_int Tryz.underlying2 w1) (trodAll_cons_mk (shut_int Tryz.underlying2 w2) trodAll_mk0))
  · rw [e1]; rfl
theorem ratText_c0 : (Rows.ratTextRow.wf (OpenSpec.ofChange Rows.ratTextSpec)) = true := by kernel_rfl
theorem ratText_c3 : (Tryz.f8.params.all (Tryz.prog.readableRec ·)) = true := by kernel_rfl
theorem ratText_c4 : (namedTie Tryz.prog Rows.ratTextRow.named Rows.ratTextSpec.vars) = true := by kernel_rfl
theorem ratText_c5 : ((Rows.ratTextRow.stops == [])) = true := by kernel_rfl
theorem ratText_c7 : ((Rows.ratTextRow.knobs == [])) = true := by kernel_rfl
theorem ratText_c9 : ((Rows.ratTextRow.inPlace == Tryz.prog.inPlace 8)) = true := by kernel_rfl
theorem ratText_c10 : ((Rows.ratTextRow.unfollowed == Tryz.prog.unfollowed 8)) = true := by kernel_rfl
theorem ratText_c11 : ((Rows.ratTextRow.recurses == Tryz.prog.recurses 8)) = true := by kernel_rfl
theorem ratText_c12 : ((Rows.ratTextRow.named == Tryz.prog.varsNamed 8)) = true := by kernel_rfl
theorem ratText_c13 : ((Rows.ratTextRow.maps == (Tryz.f8.params.toList ++ Rows.ratTextSpec.plain.varTypes Tryz.prog).any (Tryz.prog.mapsRec ·))) = true := by kernel_rfl
theorem ratText_c14 : ((Rows.ratTextRow.ifaces == (Tryz.f8.params.toList ++ Rows.ratTextSpec.plain.varTypes Tryz.prog).any (Tryz.prog.ifacesRec ·))) = true := by kernel_rfl
theorem ratText_c15 : ((Rows.ratTextRow.mapsOut == Tryz.prog.mapsAmong Tryz.f8.resultTypes.toList)) = true := by kernel_rfl
theorem ratText_c16 : ((Rows.ratTextRow.loops == (Tryz.f8.params.toList ++ Rows.ratTextSpec.plain.varTypes Tryz.prog).any (Tryz.prog.loopsFrom ·))) = true := by kernel_rfl
theorem ratText_c17 : ((Rows.ratTextRow.wideKeys == (Tryz.f8.params.toList ++ Rows.ratTextSpec.plain.varTypes Tryz.prog ++ Tryz.f8.resultTypes.toList).any (Tryz.prog.wideKeysFrom ·))) = true := by kernel_rfl
theorem ratText_c18 : (Rows.ratTextSpec.vars.all (Tryz.prog.varReadable ·)) = true := by kernel_rfl
theorem ratText_c19 : (Tryz.f8.resultTypes.all (fun t => Tryz.prog.readableRec t && decide (t < Tryz.prog.types.size))) = true := by kernel_rfl
theorem ratText_c20 : ((Rows.ratTextRow.ifacesOut == Tryz.f8.resultTypes.toList.any (Tryz.prog.ifacesRec ·))) = true := by kernel_rfl
theorem ratText_c21 : ((Rows.ratTextRow.loopsOut == Tryz.f8.resultTypes.toList.any (Tryz.prog.loopsFrom ·))) = true := by kernel_rfl
theorem ratText_c23 : (Rows.ratTextRow.shortTexts.isNone) = true := by kernel_rfl
theorem ratText_c28 : ((Rows.ratTextRow.kinds == (if Rows.ratTextRow.domain.isEmpty then [] else Tryz.f8.params.toList.map fun t => match Tryz.prog.underlying t with | some (.int k) => some k | _ => none))) = true := by kernel_rfl
theorem ratText_c29 : ((Rows.ratTextRow.pinned == Rows.ratTextRow.pinnedBy)) = true := by kernel_rfl
theorem ratText_c30 : ((Rows.ratTextRow.veiled == (Tryz.f8.params.toList ++ Rows.ratTextSpec.plain.varTypes Tryz.prog ++ Tryz.f8.resultTypes.toList).any (Tryz.prog.veiledRec ·))) = true := by kernel_rfl
theorem ratText_c31 : (Rows.ratTextRow.veiledFits Tryz.prog Tryz.f8.params.toList (Tryz.f8.params.toList ++ Rows.ratTextSpec.plain.varTypes Tryz.prog ++ Tryz.f8.resultTypes.toList)) = true := by kernel_rfl
set_option maxRecDepth 100000 in
theorem ratText_facts : joinedFacts Tryz.prog 8 Tryz.f8 Rows.ratTextSpec Rows.ratTextRow = true := by
  unfold joinedFacts
  exact band (band (band (band (band (band (band (band (band (band (band (band (band (band (band (band (band (band (band (band (band (band (band (band (band (band (band (band (band (band (band ratText_c0 fact_c1) fact_c2) ratText_c3) ratText_c4) ratText_c5) fact_c6) ratText_c7) fact_c8) ratText_c9) ratText_c10) ratText_c11) ratText_c12) ratText_c13) ratText_c14) ratText_c15) ratText_c16) ratText_c17) ratText_c18) ratText_c19) ratText_c20) ratText_c21) fact_c22) ratText_c23) fact_c24) fact_c25) fact_c26) fact_c27) ratText_c28) ratText_c29) ratText_c30) ratText_c31
theorem ratText_goes : false = Rows.ratTextRow.goesBy Tryz.prog := by kernel_rfl
theorem ratText_holds : Rows.RatTextSaid :=
  OpenClaim.holds_of_wide 8 Tryz.f8 rfl rfl rfl rfl rfl rfl rfl ⟨rfl, rfl, rfl, rfl, rfl⟩ rfl rfl rfl rfl rfl (by kernel_rfl) Tryz.func8 ratText_facts
    (of_decide_eq_true (by kernel_rfl)) (by unfold Func.isWrapper; rw [if_neg (of_decide_eq_false (by kernel_rfl))]; exact ⟨rfl, rfl⟩)
    (fun os started H enc _ => ratText_lifted os started H enc)
theorem ratText_plain (f : FuncId) (fn : Func) (hf : Tryz.pinned.checked.prog.funcNamed "rentier/rentierlaw2.RatText" = some f) (hfn : Tryz.pinned.checked.prog.funcs[f]? = some fn) :
    true = Tryz.pinned.checked.prog.looks [] ∧ ∀ (j : Nat) t, fn.params[j]? = some t → Tryz.pinned.checked.prog.wantsStandIn t = false := by
  obtain rfl : f = 8 := Option.some.inj ((show Tryz.prog.funcNamed "rentier/rentierlaw2.RatText" = some 8 by kernel_rfl).symm.trans hf) |>.symm
  obtain rfl : fn = Tryz.f8 := (Option.some.inj (Tryz.func8.symm.trans hfn)).symm
  refine ⟨by kernel_rfl, fun j t ht => ?_⟩
  rw [Tryz.params8] at ht
  have hm := Array.mem_of_getElem? ht
  simp at hm
  have t_s : Tryz.pinned.checked.prog.wantsStandIn 9 = false := by kernel_rfl
  have t_I : Tryz.pinned.checked.prog.wantsStandIn 2 = false := by kernel_rfl
  rcases hm with rfl | rfl <;> first | with_reducible exact t_s | with_reducible exact t_I
theorem ratText_card : Rows.RatTextCardSaid :=
  Claim7.holds_tied_plain_at .later [] _ _ _ _ (ratText_holds) (fun _ h => by cases h) (by kernel_rfl) (fun _ h => by cases h) ratText_row_tie rfl ⟨rfl, rfl⟩ (by kernel_rfl) rfl ratText_plain ratText_goes
end Go.Proofs.YtfpooimjjpamoaaGreatDoor.law2
