/-
  NatCarry: for every number, number, truth value the statement's function answers true; the arguments read as before; nothing that was there has turned. The variables that the row lists start as the program's text lays them: the card ties that.
-/
import Derived.Test.YtfpooimjjpamoaaGreatDoorTie
import Derived.Test.YtfpooimjjpamoaaGreatDoorCards
import Derived.ProofKit
import Derived.Carry
import Derived.OpenShut
import Derived.SizedLaws
import Derived.Test.YtfpooimjjpamoaaGreatDoorLwNatCarry
import Derived.Test.YtfpooimjjpamoaaGreatDoorA47
import Derived.Test.YtfpooimjjpamoaaGreatDoorLaid2
import Derived.Test.YtfpooimjjpamoaaGreatDoorLaw2Facts
namespace Go.Proofs.YtfpooimjjpamoaaGreatDoor.law2
open Go.ChangeShapes Go.WideShapes Go.RowKit
open Go.ChangeMaps (open_string shut_string)
set_option maxRecDepth 100000 in
theorem natCarry_lifted (os : Os) (started : os.Started) (H : Type) (enc : TypeId × Value → H) :
    ReturnsInHanded {} Tryz.checked os 13 .any (fun w args => (Rows.natCarrySpec.pre enc Tryz.prog Tryz.f13 [] false w args ∧ laidMetH Tryz.prog Rows.natCarryRow.laid w) ∧ sizedMet enc Tryz.prog Tryz.f13 (OpenSpec.ofChange Rows.natCarrySpec) false w args)
      (Rows.natCarrySpec.post enc Tryz.prog Tryz.f13 false true false false) := by
  refine returnsInHanded_of_change_and (C := Tryz.checked) (X := fun w _ => laidMetH Tryz.prog Rows.natCarryRow.laid w) (fun _ _ _ hh h => h.of_heap hh) own started (by kernel_rfl) Tryz.func13
    (ChangeSpec.witness_at (enc := enc) (C := Tryz.checked) (os := os) (X := fun w _ => laidMetH Tryz.prog Rows.natCarryRow.laid w) false (laidWorld os) #[.int .i64 0, .int .i64 0, .bool false] 8 (laidWorld_os os) (laid_vars os _) (laid_rest os _) (by kernel_rfl) (by kernel_rfl) (by kernel_rfl) (laidWorld_met os _)) ?_
  intro W base args ds gs before hval0 hW _ hsz hL _
  have hval : ∀ (j : Nat) t v, Tryz.f13.params[j]? = some t → args[j]? = some v → Value.okWide Tryz.prog W .any base t v := hval0
  have hW' := hW
  obtain ⟨p, q, hA00, hV0, rfl, hfz, hnd⟩ := hW
  have hA0 : DataW.TrodAll enc Tryz.prog W 0 (fun _ => true) true Tryz.f13.params.toList args.toList ds p := hA00
  have hV : DataW.TrodVars enc Tryz.prog W (fun _ => true) [] gs q := hV0
  rw [Tryz.params13] at hA0 hval hsz
  obtain ⟨v0, r0, d0, e0, p0, q0, g0, rfl, rfl, h0, hA1⟩ := trodAll_cons hA0
  obtain ⟨v1, r1, d1, e1, p1, q1, g1, rfl, rfl, h1, hA2⟩ := trodAll_cons hA1
  obtain ⟨v2, r2, d2, e2, p2, q2, g2, rfl, rfl, h2, hA3⟩ := trodAll_cons hA2
  obtain ⟨g3, rfl, rfl⟩ := trodAll_nil hA3
  obtain rfl : args = #[v0, v1, v2] := by cases args; simp_all
  obtain ⟨a0, rfl, rfl, rfl, w0⟩ := open_int Tryz.underlying3 (hval 0 3 v0 rfl rfl) h0
  obtain ⟨a1, rfl, rfl, rfl, w1⟩ := open_int Tryz.underlying3 (hval 1 3 v1 rfl rfl) h1
  obtain ⟨a2, rfl, rfl, rfl⟩ := open_bool Tryz.underlying4 (hval 2 4 v2 rfl rfl) h2
  have y0 := bounds_i64 w0
  have y1 := bounds_i64 w1
  have hL' : laidMet Tryz.prog laidL W ∧ handlesMet Tryz.prog [("errors.errorType", Rows.laid_errors_errorType)] W := hL
  have hg := handle_of hL'.2
  obtain ⟨rfl, rfl⟩ : gs = [] ∧ q = [] := by
    cases gs with
    | nil => exact ⟨rfl, hV⟩
    | cons g r => exact absurd hV (by intro h; cases h)
  have e1 : Rows.natCarrySpec.fn H ([.lit (.int .i64 a0), .lit (.int .i64 a1), .lit (.bool a2)] ++ []) = { results := [.lit (.bool true)], args := [.lit (.int .i64 a0), .lit (.int .i64 a1), .lit (.bool a2)] } := by simp [Rows.natCarrySpec]
  refine (LwNatCarry begun_all a0 y0.1 (by omega) a1 y1.1 (by omega) a2 W hg).mono fun e W' ⟨he, hb⟩ => ?_
  subst he
  refine ⟨_, rfl, _, _, _, [], [], [], hW', ?_, ?_, ?_, hb.frame _, fun h => by cases h⟩
  · rw [e1]; exact trodAll_mk1 (shut_bool Tryz.underlying4 true)
  · rw [e1]; exact trodAll_cons_mk (shut_int Tryz.underlying3 w0) (trodAll_cons_mk (shut_int Tryz.underlying3 w1) (trodAll_cons_mk (shut_bool Tryz.underlying4 a2) trodAll_mk0))
  · rw [e1]; rfl
theorem natCarry_c0 : (Rows.natCarryRow.wf (OpenSpec.ofChange Rows.natCarrySpec)) = true := by kernel_rfl
theorem natCarry_c3 : (Tryz.f13.params.all (Tryz.prog.readableRec ·)) = true := by kernel_rfl
theorem natCarry_c4 : (namedTie Tryz.prog Rows.natCarryRow.named Rows.natCarrySpec.vars) = true := by kernel_rfl
theorem natCarry_c5 : ((Rows.natCarryRow.stops == [])) = true := by kernel_rfl
theorem natCarry_c7 : ((Rows.natCarryRow.knobs == [])) = true := by kernel_rfl
theorem natCarry_c9 : ((Rows.natCarryRow.inPlace == Tryz.prog.inPlace 13)) = true := by kernel_rfl
theorem natCarry_c10 : ((Rows.natCarryRow.unfollowed == Tryz.prog.unfollowed 13)) = true := by kernel_rfl
theorem natCarry_c11 : ((Rows.natCarryRow.recurses == Tryz.prog.recurses 13)) = true := by kernel_rfl
theorem natCarry_c12 : ((Rows.natCarryRow.named == Tryz.prog.varsNamed 13)) = true := by kernel_rfl
theorem natCarry_c13 : ((Rows.natCarryRow.maps == (Tryz.f13.params.toList ++ Rows.natCarrySpec.plain.varTypes Tryz.prog).any (Tryz.prog.mapsRec ·))) = true := by kernel_rfl
theorem natCarry_c14 : ((Rows.natCarryRow.ifaces == (Tryz.f13.params.toList ++ Rows.natCarrySpec.plain.varTypes Tryz.prog).any (Tryz.prog.ifacesRec ·))) = true := by kernel_rfl
theorem natCarry_c15 : ((Rows.natCarryRow.mapsOut == Tryz.prog.mapsAmong Tryz.f13.resultTypes.toList)) = true := by kernel_rfl
theorem natCarry_c16 : ((Rows.natCarryRow.loops == (Tryz.f13.params.toList ++ Rows.natCarrySpec.plain.varTypes Tryz.prog).any (Tryz.prog.loopsFrom ·))) = true := by kernel_rfl
theorem natCarry_c17 : ((Rows.natCarryRow.wideKeys == (Tryz.f13.params.toList ++ Rows.natCarrySpec.plain.varTypes Tryz.prog ++ Tryz.f13.resultTypes.toList).any (Tryz.prog.wideKeysFrom ·))) = true := by kernel_rfl
theorem natCarry_c18 : (Rows.natCarrySpec.vars.all (Tryz.prog.varReadable ·)) = true := by kernel_rfl
theorem natCarry_c19 : (Tryz.f13.resultTypes.all (fun t => Tryz.prog.readableRec t && decide (t < Tryz.prog.types.size))) = true := by kernel_rfl
theorem natCarry_c20 : ((Rows.natCarryRow.ifacesOut == Tryz.f13.resultTypes.toList.any (Tryz.prog.ifacesRec ·))) = true := by kernel_rfl
theorem natCarry_c21 : ((Rows.natCarryRow.loopsOut == Tryz.f13.resultTypes.toList.any (Tryz.prog.loopsFrom ·))) = true := by kernel_rfl
theorem natCarry_c23 : (Rows.natCarryRow.shortTexts.isNone) = true := by kernel_rfl
theorem natCarry_c28 : ((Rows.natCarryRow.kinds == (if Rows.natCarryRow.domain.isEmpty then [] else Tryz.f13.params.toList.map fun t => match Tryz.prog.underlying t with | some (.int k) => some k | _ => none))) = true := by kernel_rfl
theorem natCarry_c29 : ((Rows.natCarryRow.pinned == Rows.natCarryRow.pinnedBy)) = true := by kernel_rfl
theorem natCarry_c30 : ((Rows.natCarryRow.veiled == (Tryz.f13.params.toList ++ Rows.natCarrySpec.plain.varTypes Tryz.prog ++ Tryz.f13.resultTypes.toList).any (Tryz.prog.veiledRec ·))) = true := by kernel_rfl
theorem natCarry_c31 : (Rows.natCarryRow.veiledFits Tryz.prog Tryz.f13.params.toList (Tryz.f13.params.toList ++ Rows.natCarrySpec.plain.varTypes Tryz.prog ++ Tryz.f13.resultTypes.toList)) = true := by kernel_rfl
set_option maxRecDepth 100000 in
theorem natCarry_facts : joinedFacts Tryz.prog 13 Tryz.f13 Rows.natCarrySpec Rows.natCarryRow = true := by
  unfold joinedFacts
  exact band (band (band (band (band (band (band (band (band (band (band (band (band (band (band (band (band (band (band (band (band (band (band (band (band (band (band (band (band (band (band natCarry_c0 fact_c1) fact_c2) natCarry_c3) natCarry_c4) natCarry_c5) fact_c6) natCarry_c7) fact_c8) natCarry_c9) natCarry_c10) natCarry_c11) natCarry_c12) natCarry_c13) natCarry_c14) natCarry_c15) natCarry_c16) natCarry_c17) natCarry_c18) natCarry_c19) natCarry_c20) natCarry_c21) fact_c22) natCarry_c23) fact_c24) fact_c25) fact_c26) fact_c27) natCarry_c28) natCarry_c29) natCarry_c30) natCarry_c31
theorem natCarry_goes : false = Rows.natCarryRow.goesBy Tryz.prog := by kernel_rfl
theorem natCarry_holds : Rows.NatCarrySaid :=
  OpenClaim.holds_of_wide 13 Tryz.f13 rfl rfl rfl rfl rfl rfl rfl ⟨rfl, rfl, rfl, rfl, rfl⟩ rfl rfl rfl rfl rfl (by kernel_rfl) Tryz.func13 natCarry_facts
    (of_decide_eq_true (by kernel_rfl)) (by unfold Func.isWrapper; rw [if_neg (of_decide_eq_false (by kernel_rfl))]; exact ⟨rfl, rfl⟩)
    (fun os started H enc _ => natCarry_lifted os started H enc)
theorem natCarry_plain (f : FuncId) (fn : Func) (hf : Tryz.pinned.checked.prog.funcNamed "rentier/rentierlaw2.NatCarry" = some f) (hfn : Tryz.pinned.checked.prog.funcs[f]? = some fn) :
    true = Tryz.pinned.checked.prog.looks [] ∧ ∀ (j : Nat) t, fn.params[j]? = some t → Tryz.pinned.checked.prog.wantsStandIn t = false := by
  obtain rfl : f = 13 := Option.some.inj ((show Tryz.prog.funcNamed "rentier/rentierlaw2.NatCarry" = some 13 by kernel_rfl).symm.trans hf) |>.symm
  obtain rfl : fn = Tryz.f13 := (Option.some.inj (Tryz.func13.symm.trans hfn)).symm
  refine ⟨by kernel_rfl, fun j t ht => ?_⟩
  rw [Tryz.params13] at ht
  have hm := Array.mem_of_getElem? ht
  simp at hm
  have t_i : Tryz.pinned.checked.prog.wantsStandIn 3 = false := by kernel_rfl
  have t_b : Tryz.pinned.checked.prog.wantsStandIn 4 = false := by kernel_rfl
  rcases hm with rfl | rfl <;> first | with_reducible exact t_i | with_reducible exact t_b
theorem natCarry_card : Rows.NatCarryCardSaid :=
  Claim7.holds_tied_plain_at .later [] _ _ _ _ (natCarry_holds) (fun _ h => by cases h) (by kernel_rfl) (fun _ h => by cases h) natCarry_row_tie rfl ⟨rfl, rfl⟩ (by kernel_rfl) rfl natCarry_plain natCarry_goes
end Go.Proofs.YtfpooimjjpamoaaGreatDoor.law2
