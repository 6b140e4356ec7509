/-
  DecPut: for every text, text, truth value, number the statement's function answers true; the arguments read as before; nothing that was there has turned. The variables that the row lists start as the program's text lays them: the card ties that.
-/
import Derived.Test.YtfpooimjjpamoaaGreatDoorTie
import Derived.Test.YtfpooimjjpamoaaGreatDoorCards
import Derived.ProofKit
import Derived.Carry
import Derived.OpenShut
import Derived.SizedLaws
import Derived.Test.YtfpooimjjpamoaaGreatDoorLwDecPut
import Derived.Test.YtfpooimjjpamoaaGreatDoorE23
import Derived.Test.YtfpooimjjpamoaaGreatDoorLaid2E
import Derived.Test.YtfpooimjjpamoaaGreatDoorLaw2Facts
namespace Go.Proofs.YtfpooimjjpamoaaGreatDoor.law2
open Go.ChangeShapes Go.WideShapes Go.RowKit
open Go.ChangeMaps (open_string shut_string)
set_option maxRecDepth 100000 in
theorem decPut_lifted (os : Os) (started : os.Started) (H : Type) (enc : TypeId × Value → H) :
    ReturnsInHanded {} Tryz.checked os 11 .any (fun w args => (Rows.decPutSpec.pre enc Tryz.prog Tryz.f11 [] false w args ∧ laidMetH Tryz.prog Rows.decPutRow.laid w) ∧ sizedMet enc Tryz.prog Tryz.f11 (OpenSpec.ofChange Rows.decPutSpec) false w args)
      (Rows.decPutSpec.post enc Tryz.prog Tryz.f11 false true false false) := by
  refine returnsInHanded_of_change_and (C := Tryz.checked) (X := fun w _ => laidMetH Tryz.prog Rows.decPutRow.laid w) (fun _ _ _ hh h => h.of_heap hh) own started (by kernel_rfl) Tryz.func11
    (ChangeSpec.witness_at (enc := enc) (C := Tryz.checked) (os := os) (X := fun w _ => laidMetH Tryz.prog Rows.decPutRow.laid w) false (laidWorld os) #[.string ⟨#[]⟩, .string ⟨#[]⟩, .bool false, .int .i64 0] 8 (laidWorld_os os) (laid_vars os _) (laid_rest os _) (by kernel_rfl) (by kernel_rfl) (by kernel_rfl) (laidWorld_met os _)) ?_
  intro W base args ds gs before hval0 hW _ hsz hL _
  have hval : ∀ (j : Nat) t v, Tryz.f11.params[j]? = some t → args[j]? = some v → Value.okWide Tryz.prog W .any base t v := hval0
  have hW' := hW
  obtain ⟨p, q, hA00, hV0, rfl, hfz, hnd⟩ := hW
  have hA0 : DataW.TrodAll enc Tryz.prog W 0 (fun _ => true) true Tryz.f11.params.toList args.toList ds p := hA00
  have hV : DataW.TrodVars enc Tryz.prog W (fun _ => true) [] gs q := hV0
  rw [Tryz.params11] at hA0 hval hsz
  obtain ⟨v0, r0, d0, e0, p0, q0, g0, rfl, rfl, h0, hA1⟩ := trodAll_cons hA0
  obtain ⟨v1, r1, d1, e1, p1, q1, g1, rfl, rfl, h1, hA2⟩ := trodAll_cons hA1
  obtain ⟨v2, r2, d2, e2, p2, q2, g2, rfl, rfl, h2, hA3⟩ := trodAll_cons hA2
  obtain ⟨v3, r3, d3, e3, p3, q3, g3, rfl, rfl, h3, hA4⟩ := trodAll_cons hA3
  obtain ⟨g4, rfl, rfl⟩ := trodAll_nil hA4
  obtain rfl : args = #[v0, v1, v2, v3] := by cases args; simp_all
  obtain ⟨b0, rfl, rfl, rfl, w0⟩ := open_string Tryz.underlying9 (hval 0 9 v0 rfl rfl) h0
  obtain ⟨b1, rfl, rfl, rfl, w1⟩ := open_string Tryz.underlying9 (hval 1 9 v1 rfl rfl) h1
  obtain ⟨a2, rfl, rfl, rfl⟩ := open_bool Tryz.underlying4 (hval 2 4 v2 rfl rfl) h2
  obtain ⟨a3, rfl, rfl, rfl, w3⟩ := open_int Tryz.underlying3 (hval 3 3 v3 rfl rfl) h3
  have z0 : b0.data.toList.length ≤ reachBytes := sized_string hsz (j := 0) (t := 9) rfl rfl
  obtain ⟨a0, rfl⟩ : ∃ l, b0 = ref.str l := ⟨b0.data.toList, rfl⟩
  have z0 : a0.length ≤ 4611686018427387904 := Nat.le_trans z0 (by decide)
  have z1 : b1.data.toList.length ≤ reachBytes := sized_string hsz (j := 1) (t := 9) rfl rfl
  obtain ⟨a1, rfl⟩ : ∃ l, b1 = ref.str l := ⟨b1.data.toList, rfl⟩
  have z1 : a1.length ≤ 4611686018427387904 := Nat.le_trans z1 (by decide)
  have y3 := bounds_i64 w3
  have hL' : laidMet Tryz.prog laidL W ∧ handlesMet Tryz.prog [("errors.errorType", Rows.laid_errors_errorType)] W := hL
  have hg := handle_of hL'.2
  obtain ⟨rfl, rfl⟩ : gs = [] ∧ q = [] := by
    cases gs with
    | nil => exact ⟨rfl, hV⟩
    | cons g r => exact absurd hV (by intro h; cases h)
  have e1 : Rows.decPutSpec.fn H ([.lit (.string (ref.str a0).data.toList), .lit (.string (ref.str a1).data.toList), .lit (.bool a2), .lit (.int .i64 a3)] ++ []) = { results := [.lit (.bool true)], args := [.lit (.string (ref.str a0).data.toList), .lit (.string (ref.str a1).data.toList), .lit (.bool a2), .lit (.int .i64 a3)] } := by simp [Rows.decPutSpec]
  refine (LwDecPut begun_all a0 z0 a1 z1 a2 a3 y3.1 (by omega) W hg).mono fun e W' ⟨he, hb⟩ => ?_
  subst he
  refine ⟨_, rfl, _, _, _, [], [], [], hW', ?_, ?_, ?_, hb.frame _, fun h => by cases h⟩
  · rw [e1]; exact trodAll_mk1 (shut_bool Tryz.underlying4 true)
  · rw [e1]; exact trodAll_cons_mk (shut_string Tryz.underlying9 w0) (trodAll_cons_mk (shut_string Tryz.underlying9 w1) (trodAll_cons_mk (shut_bool Tryz.underlying4 a2) (trodAll_cons_mk (shut_int Tryz.underlying3 w3) trodAll_mk0)))
  · rw [e1]; rfl
theorem decPut_c0 : (Rows.decPutRow.wf (OpenSpec.ofChange Rows.decPutSpec)) = true := by kernel_rfl
theorem decPut_c3 : (Tryz.f11.params.all (Tryz.prog.readableRec ·)) = true := by kernel_rfl
theorem decPut_c4 : (namedTie Tryz.prog Rows.decPutRow.named Rows.decPutSpec.vars) = true := by kernel_rfl
theorem decPut_c5 : ((Rows.decPutRow.stops == [])) = true := by kernel_rfl
theorem decPut_c7 : ((Rows.decPutRow.knobs == [])) = true := by kernel_rfl
theorem decPut_c9 : ((Rows.decPutRow.inPlace == Tryz.prog.inPlace 11)) = true := by kernel_rfl
theorem decPut_c10 : ((Rows.decPutRow.unfollowed == Tryz.prog.unfollowed 11)) = true := by kernel_rfl
theorem decPut_c11 : ((Rows.decPutRow.recurses == Tryz.prog.recurses 11)) = true := by kernel_rfl
theorem decPut_c12 : ((Rows.decPutRow.named == Tryz.prog.varsNamed 11)) = true := by kernel_rfl
theorem decPut_c13 : ((Rows.decPutRow.maps == (Tryz.f11.params.toList ++ Rows.decPutSpec.plain.varTypes Tryz.prog).any (Tryz.prog.mapsRec ·))) = true := by kernel_rfl
theorem decPut_c14 : ((Rows.decPutRow.ifaces == (Tryz.f11.params.toList ++ Rows.decPutSpec.plain.varTypes Tryz.prog).any (Tryz.prog.ifacesRec ·))) = true := by kernel_rfl
theorem decPut_c15 : ((Rows.decPutRow.mapsOut == Tryz.prog.mapsAmong Tryz.f11.resultTypes.toList)) = true := by kernel_rfl
theorem decPut_c16 : ((Rows.decPutRow.loops == (Tryz.f11.params.toList ++ Rows.decPutSpec.plain.varTypes Tryz.prog).any (Tryz.prog.loopsFrom ·))) = true := by kernel_rfl
theorem decPut_c17 : ((Rows.decPutRow.wideKeys == (Tryz.f11.params.toList ++ Rows.decPutSpec.plain.varTypes Tryz.prog ++ Tryz.f11.resultTypes.toList).any (Tryz.prog.wideKeysFrom ·))) = true := by kernel_rfl
theorem decPut_c18 : (Rows.decPutSpec.vars.all (Tryz.prog.varReadable ·)) = true := by kernel_rfl
theorem decPut_c19 : (Tryz.f11.resultTypes.all (fun t => Tryz.prog.readableRec t && decide (t < Tryz.prog.types.size))) = true := by kernel_rfl
theorem decPut_c20 : ((Rows.decPutRow.ifacesOut == Tryz.f11.resultTypes.toList.any (Tryz.prog.ifacesRec ·))) = true := by kernel_rfl
theorem decPut_c21 : ((Rows.decPutRow.loopsOut == Tryz.f11.resultTypes.toList.any (Tryz.prog.loopsFrom ·))) = true := by kernel_rfl
theorem decPut_c23 : (Rows.decPutRow.shortTexts.isNone) = true := by kernel_rfl
theorem decPut_c28 : ((Rows.decPutRow.kinds == (if Rows.decPutRow.domain.isEmpty then [] else Tryz.f11.params.toList.map fun t => match Tryz.prog.underlying t with | some (.int k) => some k | _ => none))) = true := by kernel_rfl
theorem decPut_c29 : ((Rows.decPutRow.pinned == Rows.decPutRow.pinnedBy)) = true := by kernel_rfl
theorem decPut_c30 : ((Rows.decPutRow.veiled == (Tryz.f11.params.toList ++ Rows.decPutSpec.plain.varTypes Tryz.prog ++ Tryz.f11.resultTypes.toList).any (Tryz.prog.veiledRec ·))) = true := by kernel_rfl
theorem decPut_c31 : (Rows.decPutRow.veiledFits Tryz.prog Tryz.f11.params.toList (Tryz.f11.params.toList ++ Rows.decPutSpec.plain.varTypes Tryz.prog ++ Tryz.f11.resultTypes.toList)) = true := by kernel_rfl
set_option maxRecDepth 100000 in
theorem decPut_facts : joinedFacts Tryz.prog 11 Tryz.f11 Rows.decPutSpec Rows.decPutRow = true := by
  unfold joinedFacts
  exact band (band (band (band (band (band (band (band (band (band (band (band (band (band (band (band (band (band (band (band (band (band (band (band (band (band (band (band (band (band (band decPut_c0 fact_c1) fact_c2) decPut_c3) decPut_c4) decPut_c5) fact_c6) decPut_c7) fact_c8) decPut_c9) decPut_c10) decPut_c11) decPut_c12) decPut_c13) decPut_c14) decPut_c15) decPut_c16) decPut_c17) decPut_c18) decPut_c19) decPut_c20) decPut_c21) fact_c22) decPut_c23) fact_c24) fact_c25) fact_c26) fact_c27) decPut_c28) decPut_c29) decPut_c30) decPut_c31
theorem decPut_goes : false = Rows.decPutRow.goesBy Tryz.prog := by kernel_rfl
theorem decPut_holds : Rows.DecPutSaid :=
  OpenClaim.holds_of_wide 11 Tryz.f11 rfl rfl rfl rfl rfl rfl rfl ⟨rfl, rfl, rfl, rfl, rfl⟩ rfl rfl rfl rfl rfl (by kernel_rfl) Tryz.func11 decPut_facts
    (of_decide_eq_true (by kernel_rfl)) (by unfold Func.isWrapper; rw [if_neg (of_decide_eq_false (by kernel_rfl))]; exact ⟨rfl, rfl⟩)
    (fun os started H enc _ => decPut_lifted os started H enc)
theorem decPut_plain (f : FuncId) (fn : Func) (hf : Tryz.pinned.checked.prog.funcNamed "rentier/rentierlaw2.DecPut" = some f) (hfn : Tryz.pinned.checked.prog.funcs[f]? = some fn) :
    true = Tryz.pinned.checked.prog.looks [] ∧ ∀ (j : Nat) t, fn.params[j]? = some t → Tryz.pinned.checked.prog.wantsStandIn t = false := by
  obtain rfl : f = 11 := Option.some.inj ((show Tryz.prog.funcNamed "rentier/rentierlaw2.DecPut" = some 11 by kernel_rfl).symm.trans hf) |>.symm
  obtain rfl : fn = Tryz.f11 := (Option.some.inj (Tryz.func11.symm.trans hfn)).symm
  refine ⟨by kernel_rfl, fun j t ht => ?_⟩
  rw [Tryz.params11] at ht
  have hm := Array.mem_of_getElem? ht
  simp at hm
  have t_s : Tryz.pinned.checked.prog.wantsStandIn 9 = false := by kernel_rfl
  have t_i : Tryz.pinned.checked.prog.wantsStandIn 3 = false := by kernel_rfl
  have t_b : Tryz.pinned.checked.prog.wantsStandIn 4 = false := by kernel_rfl
  rcases hm with rfl | rfl | rfl <;> first | with_reducible exact t_s | with_reducible exact t_i | with_reducible exact t_b
theorem decPut_card : Rows.DecPutCardSaid :=
  Claim7.holds_tied_plain_at .later [] _ _ _ _ (decPut_holds) (fun _ h => by cases h) (by kernel_rfl) (fun _ h => by cases h) decPut_row_tie rfl ⟨rfl, rfl⟩ (by kernel_rfl) rfl decPut_plain decPut_goes
end Go.Proofs.YtfpooimjjpamoaaGreatDoor.law2
