/-
  DecRound: for every text, text, truth value, number, number the statement's function answers true; the arguments read as before; nothing that was there has turned. The variables that the row lists start as the program's text lays them: the card ties that.
-/
import Derived.Test.YtfpooimjjpamoaaGreatDoorTie
import Derived.Test.YtfpooimjjpamoaaGreatDoorCards
import Derived.ProofKit
import Derived.Carry
import Derived.OpenShut
import Derived.SizedLaws
import Derived.Test.YtfpooimjjpamoaaGreatDoorLwDecRound
import Derived.Test.YtfpooimjjpamoaaGreatDoorE23
import Derived.Test.YtfpooimjjpamoaaGreatDoorLaid2E
import Derived.Test.YtfpooimjjpamoaaGreatDoorLaw2Facts
namespace Go.Proofs.YtfpooimjjpamoaaGreatDoor.law2
open Go.ChangeShapes Go.WideShapes Go.RowKit
open Go.ChangeMaps (open_string shut_string)
set_option maxRecDepth 100000 in
theorem decRound_lifted (os : Os) (started : os.Started) (H : Type) (enc : TypeId × Value → H) :
    ReturnsInHanded {} Tryz.checked os 10 .any (fun w args => (Rows.decRoundSpec.pre enc Tryz.prog Tryz.f10 [] false w args ∧ laidMetH Tryz.prog Rows.decRoundRow.laid w) ∧ sizedMet enc Tryz.prog Tryz.f10 (OpenSpec.ofChange Rows.decRoundSpec) false w args)
      (Rows.decRoundSpec.post enc Tryz.prog Tryz.f10 false true false false) := by
  refine returnsInHanded_of_change_and (C := Tryz.checked) (X := fun w _ => laidMetH Tryz.prog Rows.decRoundRow.laid w) (fun _ _ _ hh h => h.of_heap hh) own started (by kernel_rfl) Tryz.func10
    (ChangeSpec.witness_at (enc := enc) (C := Tryz.checked) (os := os) (X := fun w _ => laidMetH Tryz.prog Rows.decRoundRow.laid w) false (laidWorld os) #[.string ⟨#[]⟩, .string ⟨#[]⟩, .bool false, .int .i64 0, .int .i64 0] 8 (laidWorld_os os) (laid_vars os _) (laid_rest os _) (by kernel_rfl) (by kernel_rfl) (by kernel_rfl) (laidWorld_met os _)) ?_
  intro W base args ds gs before hval0 hW _ hsz hL _
  have hval : ∀ (j : Nat) t v, Tryz.f10.params[j]? = some t → args[j]? = some v → Value.okWide Tryz.prog W .any base t v := hval0
  have hW' := hW
  obtain ⟨p, q, hA00, hV0, rfl, hfz, hnd⟩ := hW
  have hA0 : DataW.TrodAll enc Tryz.prog W 0 (fun _ => true) true Tryz.f10.params.toList args.toList ds p := hA00
  have hV : DataW.TrodVars enc Tryz.prog W (fun _ => true) [] gs q := hV0
  rw [Tryz.params10] at hA0 hval hsz
  obtain ⟨v0, r0, d0, e0, p0, q0, g0, rfl, rfl, h0, hA1⟩ := trodAll_cons hA0
  obtain ⟨v1, r1, d1, e1, p1, q1, g1, rfl, rfl, h1, hA2⟩ := trodAll_cons hA1
  obtain ⟨v2, r2, d2, e2, p2, q2, g2, rfl, rfl, h2, hA3⟩ := trodAll_cons hA2
  obtain ⟨v3, r3, d3, e3, p3, q3, g3, rfl, rfl, h3, hA4⟩ := trodAll_cons hA3
  obtain ⟨v4, r4, d4, e4, p4, q4, g4, rfl, rfl, h4, hA5⟩ := trodAll_cons hA4
  obtain ⟨g5, rfl, rfl⟩ := trodAll_nil hA5
  obtain rfl : args = #[v0, v1, v2, v3, v4] := by cases args; simp_all
  obtain ⟨b0, rfl, rfl, rfl, w0⟩ := open_string Tryz.underlying9 (hval 0 9 v0 rfl rfl) h0
  obtain ⟨b1, rfl, rfl, rfl, w1⟩ := open_string Tryz.underlying9 (hval 1 9 v1 rfl rfl) h1
  obtain ⟨a2, rfl, rfl, rfl⟩ := open_bool Tryz.underlying4 (hval 2 4 v2 rfl rfl) h2
  obtain ⟨a3, rfl, rfl, rfl, w3⟩ := open_int Tryz.underlying3 (hval 3 3 v3 rfl rfl) h3
  obtain ⟨a4, rfl, rfl, rfl, w4⟩ := open_int Tryz.underlying3 (hval 4 3 v4 rfl rfl) h4
  have z0 : b0.data.toList.length ≤ reachBytes := sized_string hsz (j := 0) (t := 9) rfl rfl
  obtain ⟨a0, rfl⟩ : ∃ l, b0 = ref.str l := ⟨b0.data.toList, rfl⟩
  have z0 : a0.length ≤ 4611686018427387904 := Nat.le_trans z0 (by decide)
  have z1 : b1.data.toList.length ≤ reachBytes := sized_string hsz (j := 1) (t := 9) rfl rfl
  obtain ⟨a1, rfl⟩ : ∃ l, b1 = ref.str l := ⟨b1.data.toList, rfl⟩
  have z1 : a1.length ≤ 4611686018427387904 := Nat.le_trans z1 (by decide)
  have y3 := bounds_i64 w3
  have y4 := bounds_i64 w4
  have hL' : laidMet Tryz.prog laidL W ∧ handlesMet Tryz.prog [("errors.errorType", Rows.laid_errors_errorType)] W := hL
  have hg := handle_of hL'.2
  obtain ⟨rfl, rfl⟩ : gs = [] ∧ q = [] := by
    cases gs with
    | nil => exact ⟨rfl, hV⟩
    | cons g r => exact absurd hV (by intro h; cases h)
  have e1 : Rows.decRoundSpec.fn H ([.lit (.string (ref.str a0).data.toList), .lit (.string (ref.str a1).data.toList), .lit (.bool a2), .lit (.int .i64 a3), .lit (.int .i64 a4)] ++ []) = { results := [.lit (.bool true)], args := [.lit (.string (ref.str a0).data.toList), .lit (.string (ref.str a1).data.toList), .lit (.bool a2), .lit (.int .i64 a3), .lit (.int .i64 a4)] } := by simp [Rows.decRoundSpec]
  refine (LwDecRound begun_all a0 z0 a1 z1 a2 a3 y3.1 (by omega) a4 y4.1 (by omega) W hg).mono fun e W' ⟨he, hb⟩ => ?_
  subst he
  refine ⟨_, rfl, _, _, _, [], [], [], hW', ?_, ?_, ?_, hb.frame _, fun h => by cases h⟩
  · rw [e1]; exact trodAll_mk1 (shut_bool Tryz.underlying4 true)
  · rw [e1]; exact trodAll_cons_mk (shut_string Tryz.underlying9 w0) (trodAll_cons_mk (shut_string Tryz.underlying9 w1) (trodAll_cons_mk (shut_bool Tryz.underlying4 a2) (trodAll_cons_mk (shut_int Tryz.underlying3 w3) (trodAll_cons_mk (shut_int Tryz.underlying3 w4) trodAll_mk0))))
  · rw [e1]; rfl
theorem decRound_c0 : (Rows.decRoundRow.wf (OpenSpec.ofChange Rows.decRoundSpec)) = true := by kernel_rfl
theorem decRound_c3 : (Tryz.f10.params.all (Tryz.prog.readableRec ·)) = true := by kernel_rfl
theorem decRound_c4 : (namedTie Tryz.prog Rows.decRoundRow.named Rows.decRoundSpec.vars) = true := by kernel_rfl
theorem decRound_c5 : ((Rows.decRoundRow.stops == [])) = true := by kernel_rfl
theorem decRound_c7 : ((Rows.decRoundRow.knobs == [])) = true := by kernel_rfl
theorem decRound_c9 : ((Rows.decRoundRow.inPlace == Tryz.prog.inPlace 10)) = true := by kernel_rfl
theorem decRound_c10 : ((Rows.decRoundRow.unfollowed == Tryz.prog.unfollowed 10)) = true := by kernel_rfl
theorem decRound_c11 : ((Rows.decRoundRow.recurses == Tryz.prog.recurses 10)) = true := by kernel_rfl
theorem decRound_c12 : ((Rows.decRoundRow.named == Tryz.prog.varsNamed 10)) = true := by kernel_rfl
theorem decRound_c13 : ((Rows.decRoundRow.maps == (Tryz.f10.params.toList ++ Rows.decRoundSpec.plain.varTypes Tryz.prog).any (Tryz.prog.mapsRec ·))) = true := by kernel_rfl
theorem decRound_c14 : ((Rows.decRoundRow.ifaces == (Tryz.f10.params.toList ++ Rows.decRoundSpec.plain.varTypes Tryz.prog).any (Tryz.prog.ifacesRec ·))) = true := by kernel_rfl
theorem decRound_c15 : ((Rows.decRoundRow.mapsOut == Tryz.prog.mapsAmong Tryz.f10.resultTypes.toList)) = true := by kernel_rfl
theorem decRound_c16 : ((Rows.decRoundRow.loops == (Tryz.f10.params.toList ++ Rows.decRoundSpec.plain.varTypes Tryz.prog).any (Tryz.prog.loopsFrom ·))) = true := by kernel_rfl
theorem decRound_c17 : ((Rows.decRoundRow.wideKeys == (Tryz.f10.params.toList ++ Rows.decRoundSpec.plain.varTypes Tryz.prog ++ Tryz.f10.resultTypes.toList).any (Tryz.prog.wideKeysFrom ·))) = true := by kernel_rfl
theorem decRound_c18 : (Rows.decRoundSpec.vars.all (Tryz.prog.varReadable ·)) = true := by kernel_rfl
theorem decRound_c19 : (Tryz.f10.resultTypes.all (fun t => Tryz.prog.readableRec t && decide (t < Tryz.prog.types.size))) = true := by kernel_rfl
theorem decRound_c20 : ((Rows.decRoundRow.ifacesOut == Tryz.f10.resultTypes.toList.any (Tryz.prog.ifacesRec ·))) = true := by kernel_rfl
theorem decRound_c21 : ((Rows.decRoundRow.loopsOut == Tryz.f10.resultTypes.toList.any (Tryz.prog.loopsFrom ·))) = true := by kernel_rfl
theorem decRound_c23 : (Rows.decRoundRow.shortTexts.isNone) = true := by kernel_rfl
theorem decRound_c28 : ((Rows.decRoundRow.kinds == (if Rows.decRoundRow.domain.isEmpty then [] else Tryz.f10.params.toList.map fun t => match Tryz.prog.underlying t with | some (.int k) => some k | _ => none))) = true := by kernel_rfl
theorem decRound_c29 : ((Rows.decRoundRow.pinned == Rows.decRoundRow.pinnedBy)) = true := by kernel_rfl
theorem decRound_c30 : ((Rows.decRoundRow.veiled == (Tryz.f10.params.toList ++ Rows.decRoundSpec.plain.varTypes Tryz.prog ++ Tryz.f10.resultTypes.toList).any (Tryz.prog.veiledRec ·))) = true := by kernel_rfl
theorem decRound_c31 : (Rows.decRoundRow.veiledFits Tryz.prog Tryz.f10.params.toList (Tryz.f10.params.toList ++ Rows.decRoundSpec.plain.varTypes Tryz.prog ++ Tryz.f10.resultTypes.toList)) = true := by kernel_rfl
set_option maxRecDepth 100000 in
theorem decRound_facts : joinedFacts Tryz.prog 10 Tryz.f10 Rows.decRoundSpec Rows.decRoundRow = true := by
  unfold joinedFacts
  exact band (band (band (band (band (band (band (band (band (band (band (band (band (band (band (band (band (band (band (band (band (band (band (band (band (band (band (band (band (band (band decRound_c0 fact_c1) fact_c2) decRound_c3) decRound_c4) decRound_c5) fact_c6) decRound_c7) fact_c8) decRound_c9) decRound_c10) decRound_c11) decRound_c12) decRound_c13) decRound_c14) decRound_c15) decRound_c16) decRound_c17) decRound_c18) decRound_c19) decRound_c20) decRound_c21) fact_c22) decRound_c23) fact_c24) fact_c25) fact_c26) fact_c27) decRound_c28) decRound_c29) decRound_c30) decRound_c31
theorem decRound_goes : false = Rows.decRoundRow.goesBy Tryz.prog := by kernel_rfl
theorem decRound_holds : Rows.DecRoundSaid :=
  OpenClaim.holds_of_wide 10 Tryz.f10 rfl rfl rfl rfl rfl rfl rfl ⟨rfl, rfl, rfl, rfl, rfl⟩ rfl rfl rfl rfl rfl (by kernel_rfl) Tryz.func10 decRound_facts
    (of_decide_eq_true (by kernel_rfl)) (by unfold Func.isWrapper; rw [if_neg (of_decide_eq_false (by kernel_rfl))]; exact ⟨rfl, rfl⟩)
    (fun os started H enc _ => decRound_lifted os started H enc)
theorem decRound_plain (f : FuncId) (fn : Func) (hf : Tryz.pinned.checked.prog.funcNamed "rentier/rentierlaw2.DecRound" = some f) (hfn : Tryz.pinned.checked.prog.funcs[f]? = some fn) :
    true = Tryz.pinned.checked.prog.looks [] ∧ ∀ (j : Nat) t, fn.params[j]? = some t → Tryz.pinned.checked.prog.wantsStandIn t = false := by
  obtain rfl : f = 10 := Option.some.inj ((show Tryz.prog.funcNamed "rentier/rentierlaw2.DecRound" = some 10 by kernel_rfl).symm.trans hf) |>.symm
  obtain rfl : fn = Tryz.f10 := (Option.some.inj (Tryz.func10.symm.trans hfn)).symm
  refine ⟨by kernel_rfl, fun j t ht => ?_⟩
  rw [Tryz.params10] at ht
  have hm := Array.mem_of_getElem? ht
  simp at hm
  have t_s : Tryz.pinned.checked.prog.wantsStandIn 9 = false := by kernel_rfl
  have t_i : Tryz.pinned.checked.prog.wantsStandIn 3 = false := by kernel_rfl
  have t_b : Tryz.pinned.checked.prog.wantsStandIn 4 = false := by kernel_rfl
  rcases hm with rfl | rfl | rfl <;> first | with_reducible exact t_s | with_reducible exact t_i | with_reducible exact t_b
theorem decRound_card : Rows.DecRoundCardSaid :=
  Claim7.holds_tied_plain_at .later [] _ _ _ _ (decRound_holds) (fun _ h => by cases h) (by kernel_rfl) (fun _ h => by cases h) decRound_row_tie rfl ⟨rfl, rfl⟩ (by kernel_rfl) rfl decRound_plain decRound_goes
end Go.Proofs.YtfpooimjjpamoaaGreatDoor.law2
