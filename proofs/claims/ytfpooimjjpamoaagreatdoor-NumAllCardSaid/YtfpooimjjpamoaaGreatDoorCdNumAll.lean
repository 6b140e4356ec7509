/-
  NumAll: for every text, text, truth value, truth value, number the statement's function answers true; the arguments read as before; nothing that was there has turned. The variables that the row lists start as the program's text lays them: the card ties that.
-/
import Derived.Test.YtfpooimjjpamoaaGreatDoorTie
import Derived.Test.YtfpooimjjpamoaaGreatDoorCards
import Derived.ProofKit
import Derived.Carry
import Derived.OpenShut
import Derived.SizedLaws
import Derived.Test.YtfpooimjjpamoaaGreatDoorLwNumAll
import Derived.Test.YtfpooimjjpamoaaGreatDoorM46
import Derived.Test.YtfpooimjjpamoaaGreatDoorLaid2M
import Derived.Test.YtfpooimjjpamoaaGreatDoorLaw2Facts
namespace Go.Proofs.YtfpooimjjpamoaaGreatDoor.law2
open Go.ChangeShapes Go.WideShapes Go.RowKit
open Go.ChangeMaps (open_string shut_string)
set_option maxRecDepth 100000 in
theorem numAll_lifted (os : Os) (started : os.Started) (H : Type) (enc : TypeId × Value → H) :
    ReturnsInHanded {} Tryz.checked os 6 .any (fun w args => (Rows.numAllSpec.pre enc Tryz.prog Tryz.f6 [] false w args ∧ laidMetH Tryz.prog Rows.numAllRow.laid w) ∧ sizedMet enc Tryz.prog Tryz.f6 (OpenSpec.ofChange Rows.numAllSpec) false w args)
      (Rows.numAllSpec.post enc Tryz.prog Tryz.f6 false true false false) := by
  refine returnsInHanded_of_change_and (C := Tryz.checked) (X := fun w _ => laidMetH Tryz.prog Rows.numAllRow.laid w) (fun _ _ _ hh h => h.of_heap hh) own started (by kernel_rfl) Tryz.func6
    (ChangeSpec.witness_at (enc := enc) (C := Tryz.checked) (os := os) (X := fun w _ => laidMetH Tryz.prog Rows.numAllRow.laid w) false (laidWorld os) #[.string ⟨#[]⟩, .string ⟨#[]⟩, .bool false, .bool false, .int .i64 0] 8 (laidWorld_os os) (laid_vars os _) (laid_rest os _) (by kernel_rfl) (by kernel_rfl) (by kernel_rfl) (laidWorld_met os _)) ?_
  intro W base args ds gs before hval0 hW _ hsz hL _
  have hval : ∀ (j : Nat) t v, Tryz.f6.params[j]? = some t → args[j]? = some v → Value.okWide Tryz.prog W .any base t v := hval0
  have hW' := hW
  obtain ⟨p, q, hA00, hV0, rfl, hfz, hnd⟩ := hW
  have hA0 : DataW.TrodAll enc Tryz.prog W 0 (fun _ => true) true Tryz.f6.params.toList args.toList ds p := hA00
  have hV : DataW.TrodVars enc Tryz.prog W (fun _ => true) [] gs q := hV0
  rw [Tryz.params6] at hA0 hval hsz
  obtain ⟨v0, r0, d0, e0, p0, q0, g0, rfl, rfl, h0, hA1⟩ := trodAll_cons hA0
  obtain ⟨v1, r1, d1, e1, p1, q1, g1, rfl, rfl, h1, hA2⟩ := trodAll_cons hA1
  obtain ⟨v2, r2, d2, e2, p2, q2, g2, rfl, rfl, h2, hA3⟩ := trodAll_cons hA2
  obtain ⟨v3, r3, d3, e3, p3, q3, g3, rfl, rfl, h3, hA4⟩ := trodAll_cons hA3
  obtain ⟨v4, r4, d4, e4, p4, q4, g4, rfl, rfl, h4, hA5⟩ := trodAll_cons hA4
  obtain ⟨g5, rfl, rfl⟩ := trodAll_nil hA5
  obtain rfl : args = #[v0, v1, v2, v3, v4] := by cases args; simp_all
  obtain ⟨b0, rfl, rfl, rfl, w0⟩ := open_string Tryz.underlying9 (hval 0 9 v0 rfl rfl) h0
  obtain ⟨b1, rfl, rfl, rfl, w1⟩ := open_string Tryz.underlying9 (hval 1 9 v1 rfl rfl) h1
  obtain ⟨a2, rfl, rfl, rfl⟩ := open_bool Tryz.underlying4 (hval 2 4 v2 rfl rfl) h2
  obtain ⟨a3, rfl, rfl, rfl⟩ := open_bool Tryz.underlying4 (hval 3 4 v3 rfl rfl) h3
  obtain ⟨a4, rfl, rfl, rfl, w4⟩ := open_int Tryz.underlying2 (hval 4 2 v4 rfl rfl) h4
  have z0 : b0.data.toList.length ≤ reachBytes := sized_string hsz (j := 0) (t := 9) rfl rfl
  obtain ⟨a0, rfl⟩ : ∃ l, b0 = ref.str l := ⟨b0.data.toList, rfl⟩
  have z0 : a0.length ≤ 4611686018427387904 := Nat.le_trans z0 (by decide)
  have z1 : b1.data.toList.length ≤ reachBytes := sized_string hsz (j := 1) (t := 9) rfl rfl
  obtain ⟨a1, rfl⟩ : ∃ l, b1 = ref.str l := ⟨b1.data.toList, rfl⟩
  have z1 : a1.length ≤ 4611686018427387904 := Nat.le_trans z1 (by decide)
  have y4 := bounds_i64 w4
  have hL' : laidMet Tryz.prog laidL W ∧ handlesMet Tryz.prog [("errors.errorType", Rows.laid_errors_errorType)] W := hL
  have hg := handle_of hL'.2
  obtain ⟨rfl, rfl⟩ : gs = [] ∧ q = [] := by
    cases gs with
    | nil => exact ⟨rfl, hV⟩
    | cons g r => exact absurd hV (by intro h; cases h)
  have e1 : Rows.numAllSpec.fn H ([.lit (.string (ref.str a0).data.toList), .lit (.string (ref.str a1).data.toList), .lit (.bool a2), .lit (.bool a3), .lit (.int .i64 a4)] ++ []) = { results := [.lit (.bool true)], args := [.lit (.string (ref.str a0).data.toList), .lit (.string (ref.str a1).data.toList), .lit (.bool a2), .lit (.bool a3), .lit (.int .i64 a4)] } := by simp [Rows.numAllSpec]
  refine (LwNumAll begun_all a0 z0 a1 z1 a2 a3 a4 y4.1 (by omega) W hg).mono fun e W' ⟨he, hb⟩ => ?_
  subst he
  refine ⟨_, rfl, _, _, _, [], [], [], hW', ?_, ?_, ?_, hb.frame _, fun h => by cases h⟩
  · rw [e1]; exact trodAll_mk1 (shut_bool Tryz.underlying4 true)
  · rw [e1]; exact trodAll_cons_mk (shut_string Tryz.underlying9 w0) (trodAll_cons_mk (shut_string Tryz.underlying9 w1) (trodAll_cons_mk (shut_bool Tryz.underlying4 a2) (trodAll_cons_mk (shut_bool Tryz.underlying4 a3) (trodAll_cons_mk (shut_int Tryz.underlying2 w4) trodAll_mk0))))
  · rw [e1]; rfl
theorem numAll_c0 : (Rows.numAllRow.wf (OpenSpec.ofChange Rows.numAllSpec)) = true := by kernel_rfl
theorem numAll_c3 : (Tryz.f6.params.all (Tryz.prog.readableRec ·)) = true := by kernel_rfl
theorem numAll_c4 : (namedTie Tryz.prog Rows.numAllRow.named Rows.numAllSpec.vars) = true := by kernel_rfl
theorem numAll_c5 : ((Rows.numAllRow.stops == [])) = true := by kernel_rfl
theorem numAll_c7 : ((Rows.numAllRow.knobs == [])) = true := by kernel_rfl
theorem numAll_c9 : ((Rows.numAllRow.inPlace == Tryz.prog.inPlace 6)) = true := by kernel_rfl
theorem numAll_c10 : ((Rows.numAllRow.unfollowed == Tryz.prog.unfollowed 6)) = true := by kernel_rfl
theorem numAll_c11 : ((Rows.numAllRow.recurses == Tryz.prog.recurses 6)) = true := by kernel_rfl
theorem numAll_c12 : ((Rows.numAllRow.named == Tryz.prog.varsNamed 6)) = true := by kernel_rfl
theorem numAll_c13 : ((Rows.numAllRow.maps == (Tryz.f6.params.toList ++ Rows.numAllSpec.plain.varTypes Tryz.prog).any (Tryz.prog.mapsRec ·))) = true := by kernel_rfl
theorem numAll_c14 : ((Rows.numAllRow.ifaces == (Tryz.f6.params.toList ++ Rows.numAllSpec.plain.varTypes Tryz.prog).any (Tryz.prog.ifacesRec ·))) = true := by kernel_rfl
theorem numAll_c15 : ((Rows.numAllRow.mapsOut == Tryz.prog.mapsAmong Tryz.f6.resultTypes.toList)) = true := by kernel_rfl
theorem numAll_c16 : ((Rows.numAllRow.loops == (Tryz.f6.params.toList ++ Rows.numAllSpec.plain.varTypes Tryz.prog).any (Tryz.prog.loopsFrom ·))) = true := by kernel_rfl
theorem numAll_c17 : ((Rows.numAllRow.wideKeys == (Tryz.f6.params.toList ++ Rows.numAllSpec.plain.varTypes Tryz.prog ++ Tryz.f6.resultTypes.toList).any (Tryz.prog.wideKeysFrom ·))) = true := by kernel_rfl
theorem numAll_c18 : (Rows.numAllSpec.vars.all (Tryz.prog.varReadable ·)) = true := by kernel_rfl
theorem numAll_c19 : (Tryz.f6.resultTypes.all (fun t => Tryz.prog.readableRec t && decide (t < Tryz.prog.types.size))) = true := by kernel_rfl
theorem numAll_c20 : ((Rows.numAllRow.ifacesOut == Tryz.f6.resultTypes.toList.any (Tryz.prog.ifacesRec ·))) = true := by kernel_rfl
theorem numAll_c21 : ((Rows.numAllRow.loopsOut == Tryz.f6.resultTypes.toList.any (Tryz.prog.loopsFrom ·))) = true := by kernel_rfl
theorem numAll_c23 : (Rows.numAllRow.shortTexts.isNone) = true := by kernel_rfl
theorem numAll_c28 : ((Rows.numAllRow.kinds == (if Rows.numAllRow.domain.isEmpty then [] else Tryz.f6.params.toList.map fun t => match Tryz.prog.underlying t with | some (.int k) => some k | _ => none))) = true := by kernel_rfl
theorem numAll_c29 : ((Rows.numAllRow.pinned == Rows.numAllRow.pinnedBy)) = true := by kernel_rfl
theorem numAll_c30 : ((Rows.numAllRow.veiled == (Tryz.f6.params.toList ++ Rows.numAllSpec.plain.varTypes Tryz.prog ++ Tryz.f6.resultTypes.toList).any (Tryz.prog.veiledRec ·))) = true := by kernel_rfl
theorem numAll_c31 : (Rows.numAllRow.veiledFits Tryz.prog Tryz.f6.params.toList (Tryz.f6.params.toList ++ Rows.numAllSpec.plain.varTypes Tryz.prog ++ Tryz.f6.resultTypes.toList)) = true := by kernel_rfl
set_option maxRecDepth 100000 in
theorem numAll_facts : joinedFacts Tryz.prog 6 Tryz.f6 Rows.numAllSpec Rows.numAllRow = true := by
  unfold joinedFacts
  exact band (band (band (band (band (band (band (band (band (band (band (band (band (band (band (band (band (band (band (band (band (band (band (band (band (band (band (band (band (band (band numAll_c0 fact_c1) fact_c2) numAll_c3) numAll_c4) numAll_c5) fact_c6) numAll_c7) fact_c8) numAll_c9) numAll_c10) numAll_c11) numAll_c12) numAll_c13) numAll_c14) numAll_c15) numAll_c16) numAll_c17) numAll_c18) numAll_c19) numAll_c20) numAll_c21) fact_c22) numAll_c23) fact_c24) fact_c25) fact_c26) fact_c27) numAll_c28) numAll_c29) numAll_c30) numAll_c31
theorem numAll_goes : false = Rows.numAllRow.goesBy Tryz.prog := by kernel_rfl
theorem numAll_holds : Rows.NumAllSaid :=
  OpenClaim.holds_of_wide 6 Tryz.f6 rfl rfl rfl rfl rfl rfl rfl ⟨rfl, rfl, rfl, rfl, rfl⟩ rfl rfl rfl rfl rfl (by kernel_rfl) Tryz.func6 numAll_facts
    (of_decide_eq_true (by kernel_rfl)) (by unfold Func.isWrapper; rw [if_neg (of_decide_eq_false (by kernel_rfl))]; exact ⟨rfl, rfl⟩)
    (fun os started H enc _ => numAll_lifted os started H enc)
theorem numAll_plain (f : FuncId) (fn : Func) (hf : Tryz.pinned.checked.prog.funcNamed "rentier/rentierlaw2.NumAll" = some f) (hfn : Tryz.pinned.checked.prog.funcs[f]? = some fn) :
    true = Tryz.pinned.checked.prog.looks [] ∧ ∀ (j : Nat) t, fn.params[j]? = some t → Tryz.pinned.checked.prog.wantsStandIn t = false := by
  obtain rfl : f = 6 := Option.some.inj ((show Tryz.prog.funcNamed "rentier/rentierlaw2.NumAll" = some 6 by kernel_rfl).symm.trans hf) |>.symm
  obtain rfl : fn = Tryz.f6 := (Option.some.inj (Tryz.func6.symm.trans hfn)).symm
  refine ⟨by kernel_rfl, fun j t ht => ?_⟩
  rw [Tryz.params6] at ht
  have hm := Array.mem_of_getElem? ht
  simp at hm
  have t_s : Tryz.pinned.checked.prog.wantsStandIn 9 = false := by kernel_rfl
  have t_I : Tryz.pinned.checked.prog.wantsStandIn 2 = false := by kernel_rfl
  have t_b : Tryz.pinned.checked.prog.wantsStandIn 4 = false := by kernel_rfl
  rcases hm with rfl | rfl | rfl <;> first | with_reducible exact t_s | with_reducible exact t_I | with_reducible exact t_b
theorem numAll_card : Rows.NumAllCardSaid :=
  Claim7.holds_tied_plain_at .later [] _ _ _ _ (numAll_holds) (fun _ h => by cases h) (by kernel_rfl) (fun _ h => by cases h) numAll_row_tie rfl ⟨rfl, rfl⟩ (by kernel_rfl) rfl numAll_plain numAll_goes
end Go.Proofs.YtfpooimjjpamoaaGreatDoor.law2
