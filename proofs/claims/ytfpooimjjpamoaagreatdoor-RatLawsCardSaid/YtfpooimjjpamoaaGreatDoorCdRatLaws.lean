/-
  RatLaws: for every text, text, text, text, truth value, truth value the statement's function answers true; the arguments read as before; nothing that was there has turned. The variables that the row lists start as the program's text lays them: the card ties that.
-/
import Derived.Test.YtfpooimjjpamoaaGreatDoorTie
import Derived.Test.YtfpooimjjpamoaaGreatDoorCards
import Derived.ProofKit
import Derived.Carry
import Derived.OpenShut
import Derived.SizedLaws
import Derived.Test.YtfpooimjjpamoaaGreatDoorLwRatLaws
import Derived.Test.YtfpooimjjpamoaaGreatDoorB23
import Derived.Test.YtfpooimjjpamoaaGreatDoorLaid2B
import Derived.Test.YtfpooimjjpamoaaGreatDoorLaw2Facts
namespace Go.Proofs.YtfpooimjjpamoaaGreatDoor.law2
open Go.ChangeShapes Go.WideShapes Go.RowKit
open Go.ChangeMaps (open_string shut_string)
set_option maxRecDepth 100000 in
theorem ratLaws_lifted (os : Os) (started : os.Started) (H : Type) (enc : TypeId × Value → H) :
    ReturnsInHanded {} Tryz.checked os 20 .any (fun w args => (Rows.ratLawsSpec.pre enc Tryz.prog Tryz.f20 [] false w args ∧ laidMetH Tryz.prog Rows.ratLawsRow.laid w) ∧ sizedMet enc Tryz.prog Tryz.f20 (OpenSpec.ofChange Rows.ratLawsSpec) false w args)
      (Rows.ratLawsSpec.post enc Tryz.prog Tryz.f20 false true false false) := by
  refine returnsInHanded_of_change_and (C := Tryz.checked) (X := fun w _ => laidMetH Tryz.prog Rows.ratLawsRow.laid w) (fun _ _ _ hh h => h.of_heap hh) own started (by kernel_rfl) Tryz.func20
    (ChangeSpec.witness_at (enc := enc) (C := Tryz.checked) (os := os) (X := fun w _ => laidMetH Tryz.prog Rows.ratLawsRow.laid w) false (laidWorld os) #[.string ⟨#[]⟩, .string ⟨#[]⟩, .string ⟨#[]⟩, .string ⟨#[]⟩, .bool false, .bool false] 8 (laidWorld_os os) (laid_vars os _) (laid_rest os _) (by kernel_rfl) (by kernel_rfl) (by kernel_rfl) (laidWorld_met os _)) ?_
  intro W base args ds gs before hval0 hW _ hsz hL _
  have hval : ∀ (j : Nat) t v, Tryz.f20.params[j]? = some t → args[j]? = some v → Value.okWide Tryz.prog W .any base t v := hval0
  have hW' := hW
  obtain ⟨p, q, hA00, hV0, rfl, hfz, hnd⟩ := hW
  have hA0 : DataW.TrodAll enc Tryz.prog W 0 (fun _ => true) true Tryz.f20.params.toList args.toList ds p := hA00
  have hV : DataW.TrodVars enc Tryz.prog W (fun _ => true) [] gs q := hV0
  rw [Tryz.params20] at hA0 hval hsz
  obtain ⟨v0, r0, d0, e0, p0, q0, g0, rfl, rfl, h0, hA1⟩ := trodAll_cons hA0
  obtain ⟨v1, r1, d1, e1, p1, q1, g1, rfl, rfl, h1, hA2⟩ := trodAll_cons hA1
  obtain ⟨v2, r2, d2, e2, p2, q2, g2, rfl, rfl, h2, hA3⟩ := trodAll_cons hA2
  obtain ⟨v3, r3, d3, e3, p3, q3, g3, rfl, rfl, h3, hA4⟩ := trodAll_cons hA3
  obtain ⟨v4, r4, d4, e4, p4, q4, g4, rfl, rfl, h4, hA5⟩ := trodAll_cons hA4
  obtain ⟨v5, r5, d5, e5, p5, q5, g5, rfl, rfl, h5, hA6⟩ := trodAll_cons hA5
  obtain ⟨g6, rfl, rfl⟩ := trodAll_nil hA6
  obtain rfl : args = #[v0, v1, v2, v3, v4, v5] := by cases args; simp_all
  obtain ⟨b0, rfl, rfl, rfl, w0⟩ := open_string Tryz.underlying9 (hval 0 9 v0 rfl rfl) h0
  obtain ⟨b1, rfl, rfl, rfl, w1⟩ := open_string Tryz.underlying9 (hval 1 9 v1 rfl rfl) h1
  obtain ⟨b2, rfl, rfl, rfl, w2⟩ := open_string Tryz.underlying9 (hval 2 9 v2 rfl rfl) h2
  obtain ⟨b3, rfl, rfl, rfl, w3⟩ := open_string Tryz.underlying9 (hval 3 9 v3 rfl rfl) h3
  obtain ⟨a4, rfl, rfl, rfl⟩ := open_bool Tryz.underlying4 (hval 4 4 v4 rfl rfl) h4
  obtain ⟨a5, rfl, rfl, rfl⟩ := open_bool Tryz.underlying4 (hval 5 4 v5 rfl rfl) h5
  have z0 : b0.data.toList.length ≤ reachBytes := sized_string hsz (j := 0) (t := 9) rfl rfl
  obtain ⟨a0, rfl⟩ : ∃ l, b0 = ref.str l := ⟨b0.data.toList, rfl⟩
  have z0 : a0.length ≤ 4611686018427387904 := Nat.le_trans z0 (by decide)
  have z1 : b1.data.toList.length ≤ reachBytes := sized_string hsz (j := 1) (t := 9) rfl rfl
  obtain ⟨a1, rfl⟩ : ∃ l, b1 = ref.str l := ⟨b1.data.toList, rfl⟩
  have z1 : a1.length ≤ 4611686018427387904 := Nat.le_trans z1 (by decide)
  have z2 : b2.data.toList.length ≤ reachBytes := sized_string hsz (j := 2) (t := 9) rfl rfl
  obtain ⟨a2, rfl⟩ : ∃ l, b2 = ref.str l := ⟨b2.data.toList, rfl⟩
  have z2 : a2.length ≤ 4611686018427387904 := Nat.le_trans z2 (by decide)
  have z3 : b3.data.toList.length ≤ reachBytes := sized_string hsz (j := 3) (t := 9) rfl rfl
  obtain ⟨a3, rfl⟩ : ∃ l, b3 = ref.str l := ⟨b3.data.toList, rfl⟩
  have z3 : a3.length ≤ 4611686018427387904 := Nat.le_trans z3 (by decide)
  have hL' : laidMet Tryz.prog laidL W ∧ handlesMet Tryz.prog [("errors.errorType", Rows.laid_errors_errorType)] W := hL
  have hg := handle_of hL'.2
  obtain ⟨rfl, rfl⟩ : gs = [] ∧ q = [] := by
    cases gs with
    | nil => exact ⟨rfl, hV⟩
    | cons g r => exact absurd hV (by intro h; cases h)
  have e1 : Rows.ratLawsSpec.fn H ([.lit (.string (ref.str a0).data.toList), .lit (.string (ref.str a1).data.toList), .lit (.string (ref.str a2).data.toList), .lit (.string (ref.str a3).data.toList), .lit (.bool a4), .lit (.bool a5)] ++ []) = { results := [.lit (.bool true)], args := [.lit (.string (ref.str a0).data.toList), .lit (.string (ref.str a1).data.toList), .lit (.string (ref.str a2).data.toList), .lit (.string (ref.str a3).data.toList), .lit (.bool a4), .lit (.bool a5)] } := by simp [Rows.ratLawsSpec]
  refine (LwRatLaws begun_all a0 z0 a1 z1 a2 z2 a3 z3 a4 a5 W hg).mono fun e W' ⟨he, hb⟩ => ?_
  subst he
  refine ⟨_, rfl, _, _, _, [], [], [], hW', ?_, ?_, ?_, hb.frame _, fun h => by cases h⟩
  · rw [e1]; exact trodAll_mk1 (shut_bool Tryz.underlying4 true)
  · rw [e1]; exact trodAll_cons_mk (shut_string Tryz.underlying9 w0) (trodAll_cons_mk (shut_string Tryz.underlying9 w1) (trodAll_cons_mk (shut_string Tryz.underlying9 w2) (trodAll_cons_mk (shut_string Tryz.underlying9 w3) (trodAll_cons_mk (shut_bool Tryz.underlying4 a4) (trodAll_cons_mk (shut_bool Tryz.underlying4 a5) trodAll_mk0)))))
  · rw [e1]; rfl
theorem ratLaws_c0 : (Rows.ratLawsRow.wf (OpenSpec.ofChange Rows.ratLawsSpec)) = true := by kernel_rfl
theorem ratLaws_c3 : (Tryz.f20.params.all (Tryz.prog.readableRec ·)) = true := by kernel_rfl
theorem ratLaws_c4 : (namedTie Tryz.prog Rows.ratLawsRow.named Rows.ratLawsSpec.vars) = true := by kernel_rfl
theorem ratLaws_c5 : ((Rows.ratLawsRow.stops == [])) = true := by kernel_rfl
theorem ratLaws_c7 : ((Rows.ratLawsRow.knobs == [])) = true := by kernel_rfl
theorem ratLaws_c9 : ((Rows.ratLawsRow.inPlace == Tryz.prog.inPlace 20)) = true := by kernel_rfl
theorem ratLaws_c10 : ((Rows.ratLawsRow.unfollowed == Tryz.prog.unfollowed 20)) = true := by kernel_rfl
theorem ratLaws_c11 : ((Rows.ratLawsRow.recurses == Tryz.prog.recurses 20)) = true := by kernel_rfl
theorem ratLaws_c12 : ((Rows.ratLawsRow.named == Tryz.prog.varsNamed 20)) = true := by kernel_rfl
theorem ratLaws_c13 : ((Rows.ratLawsRow.maps == (Tryz.f20.params.toList ++ Rows.ratLawsSpec.plain.varTypes Tryz.prog).any (Tryz.prog.mapsRec ·))) = true := by kernel_rfl
theorem ratLaws_c14 : ((Rows.ratLawsRow.ifaces == (Tryz.f20.params.toList ++ Rows.ratLawsSpec.plain.varTypes Tryz.prog).any (Tryz.prog.ifacesRec ·))) = true := by kernel_rfl
theorem ratLaws_c15 : ((Rows.ratLawsRow.mapsOut == Tryz.prog.mapsAmong Tryz.f20.resultTypes.toList)) = true := by kernel_rfl
theorem ratLaws_c16 : ((Rows.ratLawsRow.loops == (Tryz.f20.params.toList ++ Rows.ratLawsSpec.plain.varTypes Tryz.prog).any (Tryz.prog.loopsFrom ·))) = true := by kernel_rfl
theorem ratLaws_c17 : ((Rows.ratLawsRow.wideKeys == (Tryz.f20.params.toList ++ Rows.ratLawsSpec.plain.varTypes Tryz.prog ++ Tryz.f20.resultTypes.toList).any (Tryz.prog.wideKeysFrom ·))) = true := by kernel_rfl
theorem ratLaws_c18 : (Rows.ratLawsSpec.vars.all (Tryz.prog.varReadable ·)) = true := by kernel_rfl
theorem ratLaws_c19 : (Tryz.f20.resultTypes.all (fun t => Tryz.prog.readableRec t && decide (t < Tryz.prog.types.size))) = true := by kernel_rfl
theorem ratLaws_c20 : ((Rows.ratLawsRow.ifacesOut == Tryz.f20.resultTypes.toList.any (Tryz.prog.ifacesRec ·))) = true := by kernel_rfl
theorem ratLaws_c21 : ((Rows.ratLawsRow.loopsOut == Tryz.f20.resultTypes.toList.any (Tryz.prog.loopsFrom ·))) = true := by kernel_rfl
theorem ratLaws_c23 : (Rows.ratLawsRow.shortTexts.isNone) = true := by kernel_rfl
theorem ratLaws_c28 : ((Rows.ratLawsRow.kinds == (if Rows.ratLawsRow.domain.isEmpty then [] else Tryz.f20.params.toList.map fun t => match Tryz.prog.underlying t with | some (.int k) => some k | _ => none))) = true := by kernel_rfl
theorem ratLaws_c29 : ((Rows.ratLawsRow.pinned == Rows.ratLawsRow.pinnedBy)) = true := by kernel_rfl
theorem ratLaws_c30 : ((Rows.ratLawsRow.veiled == (Tryz.f20.params.toList ++ Rows.ratLawsSpec.plain.varTypes Tryz.prog ++ Tryz.f20.resultTypes.toList).any (Tryz.prog.veiledRec ·))) = true := by kernel_rfl
theorem ratLaws_c31 : (Rows.ratLawsRow.veiledFits Tryz.prog Tryz.f20.params.toList (Tryz.f20.params.toList ++ Rows.ratLawsSpec.plain.varTypes Tryz.prog ++ Tryz.f20.resultTypes.toList)) = true := by kernel_rfl
set_option maxRecDepth 100000 in
theorem ratLaws_facts : joinedFacts Tryz.prog 20 Tryz.f20 Rows.ratLawsSpec Rows.ratLawsRow = true := by
  unfold joinedFacts
  exact band (band (band (band (band (band (band (band (band (band (band (band (band (band (band (band (band (band (band (band (band (band (band (band (band (band (band (band (band (band (band ratLaws_c0 fact_c1) fact_c2) ratLaws_c3) ratLaws_c4) ratLaws_c5) fact_c6) ratLaws_c7) fact_c8) ratLaws_c9) ratLaws_c10) ratLaws_c11) ratLaws_c12) ratLaws_c13) ratLaws_c14) ratLaws_c15) ratLaws_c16) ratLaws_c17) ratLaws_c18) ratLaws_c19) ratLaws_c20) ratLaws_c21) fact_c22) ratLaws_c23) fact_c24) fact_c25) fact_c26) fact_c27) ratLaws_c28) ratLaws_c29) ratLaws_c30) ratLaws_c31
theorem ratLaws_goes : false = Rows.ratLawsRow.goesBy Tryz.prog := by kernel_rfl
theorem ratLaws_holds : Rows.RatLawsSaid :=
  OpenClaim.holds_of_wide 20 Tryz.f20 rfl rfl rfl rfl rfl rfl rfl ⟨rfl, rfl, rfl, rfl, rfl⟩ rfl rfl rfl rfl rfl (by kernel_rfl) Tryz.func20 ratLaws_facts
    (of_decide_eq_true (by kernel_rfl)) (by unfold Func.isWrapper; rw [if_neg (of_decide_eq_false (by kernel_rfl))]; exact ⟨rfl, rfl⟩)
    (fun os started H enc _ => ratLaws_lifted os started H enc)
theorem ratLaws_plain (f : FuncId) (fn : Func) (hf : Tryz.pinned.checked.prog.funcNamed "rentier/rentierlaw2.RatLaws" = some f) (hfn : Tryz.pinned.checked.prog.funcs[f]? = some fn) :
    true = Tryz.pinned.checked.prog.looks [] ∧ ∀ (j : Nat) t, fn.params[j]? = some t → Tryz.pinned.checked.prog.wantsStandIn t = false := by
  obtain rfl : f = 20 := Option.some.inj ((show Tryz.prog.funcNamed "rentier/rentierlaw2.RatLaws" = some 20 by kernel_rfl).symm.trans hf) |>.symm
  obtain rfl : fn = Tryz.f20 := (Option.some.inj (Tryz.func20.symm.trans hfn)).symm
  refine ⟨by kernel_rfl, fun j t ht => ?_⟩
  rw [Tryz.params20] at ht
  have hm := Array.mem_of_getElem? ht
  simp at hm
  have t_s : Tryz.pinned.checked.prog.wantsStandIn 9 = false := by kernel_rfl
  have t_b : Tryz.pinned.checked.prog.wantsStandIn 4 = false := by kernel_rfl
  rcases hm with rfl | rfl <;> first | with_reducible exact t_s | with_reducible exact t_b
theorem ratLaws_card : Rows.RatLawsCardSaid :=
  Claim7.holds_tied_plain_at .later [] _ _ _ _ (ratLaws_holds) (fun _ h => by cases h) (by kernel_rfl) (fun _ h => by cases h) ratLaws_row_tie rfl ⟨rfl, rfl⟩ (by kernel_rfl) rfl ratLaws_plain ratLaws_goes
end Go.Proofs.YtfpooimjjpamoaaGreatDoor.law2
