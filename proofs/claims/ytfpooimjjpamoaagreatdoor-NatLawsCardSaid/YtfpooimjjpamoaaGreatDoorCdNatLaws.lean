/-
  NatLaws: for every text, text, text the statement's function answers true; the arguments read as before; nothing that was there has turned. The variables that the row lists start as the program's text lays them: the card ties that.
-/
import Derived.Test.YtfpooimjjpamoaaGreatDoorTie
import Derived.Test.YtfpooimjjpamoaaGreatDoorCards
import Derived.ProofKit
import Derived.Carry
import Derived.OpenShut
import Derived.SizedLaws
import Derived.Test.YtfpooimjjpamoaaGreatDoorLwNatLaws
import Derived.Test.YtfpooimjjpamoaaGreatDoorA47
import Derived.Test.YtfpooimjjpamoaaGreatDoorLaid2
import Derived.Test.YtfpooimjjpamoaaGreatDoorLaw2Facts
namespace Go.Proofs.YtfpooimjjpamoaaGreatDoor.law2
open Go.ChangeShapes Go.WideShapes Go.RowKit
open Go.ChangeMaps (open_string shut_string)
set_option maxRecDepth 100000 in
theorem natLaws_lifted (os : Os) (started : os.Started) (H : Type) (enc : TypeId × Value → H) :
    ReturnsInHanded {} Tryz.checked os 4 .any (fun w args => (Rows.natLawsSpec.pre enc Tryz.prog Tryz.f4 [] false w args ∧ laidMetH Tryz.prog Rows.natLawsRow.laid w) ∧ sizedMet enc Tryz.prog Tryz.f4 (OpenSpec.ofChange Rows.natLawsSpec) false w args)
      (Rows.natLawsSpec.post enc Tryz.prog Tryz.f4 false true false false) := by
  refine returnsInHanded_of_change_and (C := Tryz.checked) (X := fun w _ => laidMetH Tryz.prog Rows.natLawsRow.laid w) (fun _ _ _ hh h => h.of_heap hh) own started (by kernel_rfl) Tryz.func4
    (ChangeSpec.witness_at (enc := enc) (C := Tryz.checked) (os := os) (X := fun w _ => laidMetH Tryz.prog Rows.natLawsRow.laid w) false (laidWorld os) #[.string ⟨#[]⟩, .string ⟨#[]⟩, .string ⟨#[]⟩] 8 (laidWorld_os os) (laid_vars os _) (laid_rest os _) (by kernel_rfl) (by kernel_rfl) (by kernel_rfl) (laidWorld_met os _)) ?_
  intro W base args ds gs before hval0 hW _ hsz hL _
  have hval : ∀ (j : Nat) t v, Tryz.f4.params[j]? = some t → args[j]? = some v → Value.okWide Tryz.prog W .any base t v := hval0
  have hW' := hW
  obtain ⟨p, q, hA00, hV0, rfl, hfz, hnd⟩ := hW
  have hA0 : DataW.TrodAll enc Tryz.prog W 0 (fun _ => true) true Tryz.f4.params.toList args.toList ds p := hA00
  have hV : DataW.TrodVars enc Tryz.prog W (fun _ => true) [] gs q := hV0
  rw [Tryz.params4] at hA0 hval hsz
  obtain ⟨v0, r0, d0, e0, p0, q0, g0, rfl, rfl, h0, hA1⟩ := trodAll_cons hA0
  obtain ⟨v1, r1, d1, e1, p1, q1, g1, rfl, rfl, h1, hA2⟩ := trodAll_cons hA1
  obtain ⟨v2, r2, d2, e2, p2, q2, g2, rfl, rfl, h2, hA3⟩ := trodAll_cons hA2
  obtain ⟨g3, rfl, rfl⟩ := trodAll_nil hA3
  obtain rfl : args = #[v0, v1, v2] := by cases args; simp_all
  obtain ⟨b0, rfl, rfl, rfl, w0⟩ := open_string Tryz.underlying9 (hval 0 9 v0 rfl rfl) h0
  obtain ⟨b1, rfl, rfl, rfl, w1⟩ := open_string Tryz.underlying9 (hval 1 9 v1 rfl rfl) h1
  obtain ⟨b2, rfl, rfl, rfl, w2⟩ := open_string Tryz.underlying9 (hval 2 9 v2 rfl rfl) h2
  have z0 : b0.data.toList.length ≤ reachBytes := sized_string hsz (j := 0) (t := 9) rfl rfl
  obtain ⟨a0, rfl⟩ : ∃ l, b0 = ref.str l := ⟨b0.data.toList, rfl⟩
  have z0 : a0.length ≤ 4611686018427387904 := Nat.le_trans z0 (by decide)
  have z1 : b1.data.toList.length ≤ reachBytes := sized_string hsz (j := 1) (t := 9) rfl rfl
  obtain ⟨a1, rfl⟩ : ∃ l, b1 = ref.str l := ⟨b1.data.toList, rfl⟩
  have z1 : a1.length ≤ 4611686018427387904 := Nat.le_trans z1 (by decide)
  have z2 : b2.data.toList.length ≤ reachBytes := sized_string hsz (j := 2) (t := 9) rfl rfl
  obtain ⟨a2, rfl⟩ : ∃ l, b2 = ref.str l := ⟨b2.data.toList, rfl⟩
  have z2 : a2.length ≤ 4611686018427387904 := Nat.le_trans z2 (by decide)
  have hL' : laidMet Tryz.prog laidL W ∧ handlesMet Tryz.prog [("errors.errorType", Rows.laid_errors_errorType)] W := hL
  have hg := handle_of hL'.2
  obtain ⟨rfl, rfl⟩ : gs = [] ∧ q = [] := by
    cases gs with
    | nil => exact ⟨rfl, hV⟩
    | cons g r => exact absurd hV (by intro h; cases h)
  have e1 : Rows.natLawsSpec.fn H ([.lit (.string (ref.str a0).data.toList), .lit (.string (ref.str a1).data.toList), .lit (.string (ref.str a2).data.toList)] ++ []) = { results := [.lit (.bool true)], args := [.lit (.string (ref.str a0).data.toList), .lit (.string (ref.str a1).data.toList), .lit (.string (ref.str a2).data.toList)] } := by simp [Rows.natLawsSpec]
  refine (LwNatLaws begun_all a0 z0 a1 z1 a2 z2 W hg).mono fun e W' ⟨he, hb⟩ => ?_
  subst he
  refine ⟨_, rfl, _, _, _, [], [], [], hW', ?_, ?_, ?_, hb.frame _, fun h => by cases h⟩
  · rw [e1]; exact trodAll_mk1 (shut_bool Tryz.underlying4 true)
  · rw [e1]; exact trodAll_cons_mk (shut_string Tryz.underlying9 w0) (trodAll_cons_mk (shut_string Tryz.underlying9 w1) (trodAll_cons_mk (shut_string Tryz.underlying9 w2) trodAll_mk0))
  · rw [e1]; rfl
theorem natLaws_c0 : (Rows.natLawsRow.wf (OpenSpec.ofChange Rows.natLawsSpec)) = true := by kernel_rfl
theorem natLaws_c3 : (Tryz.f4.params.all (Tryz.prog.readableRec ·)) = true := by kernel_rfl
theorem natLaws_c4 : (namedTie Tryz.prog Rows.natLawsRow.named Rows.natLawsSpec.vars) = true := by kernel_rfl
theorem natLaws_c5 : ((Rows.natLawsRow.stops == [])) = true := by kernel_rfl
theorem natLaws_c7 : ((Rows.natLawsRow.knobs == [])) = true := by kernel_rfl
theorem natLaws_c9 : ((Rows.natLawsRow.inPlace == Tryz.prog.inPlace 4)) = true := by kernel_rfl
theorem natLaws_c10 : ((Rows.natLawsRow.unfollowed == Tryz.prog.unfollowed 4)) = true := by kernel_rfl
theorem natLaws_c11 : ((Rows.natLawsRow.recurses == Tryz.prog.recurses 4)) = true := by kernel_rfl
theorem natLaws_c12 : ((Rows.natLawsRow.named == Tryz.prog.varsNamed 4)) = true := by kernel_rfl
theorem natLaws_c13 : ((Rows.natLawsRow.maps == (Tryz.f4.params.toList ++ Rows.natLawsSpec.plain.varTypes Tryz.prog).any (Tryz.prog.mapsRec ·))) = true := by kernel_rfl
theorem natLaws_c14 : ((Rows.natLawsRow.ifaces == (Tryz.f4.params.toList ++ Rows.natLawsSpec.plain.varTypes Tryz.prog).any (Tryz.prog.ifacesRec ·))) = true := by kernel_rfl
theorem natLaws_c15 : ((Rows.natLawsRow.mapsOut == Tryz.prog.mapsAmong Tryz.f4.resultTypes.toList)) = true := by kernel_rfl
theorem natLaws_c16 : ((Rows.natLawsRow.loops == (Tryz.f4.params.toList ++ Rows.natLawsSpec.plain.varTypes Tryz.prog).any (Tryz.prog.loopsFrom ·))) = true := by kernel_rfl
theorem natLaws_c17 : ((Rows.natLawsRow.wideKeys == (Tryz.f4.params.toList ++ Rows.natLawsSpec.plain.varTypes Tryz.prog ++ Tryz.f4.resultTypes.toList).any (Tryz.prog.wideKeysFrom ·))) = true := by kernel_rfl
theorem natLaws_c18 : (Rows.natLawsSpec.vars.all (Tryz.prog.varReadable ·)) = true := by kernel_rfl
theorem natLaws_c19 : (Tryz.f4.resultTypes.all (fun t => Tryz.prog.readableRec t && decide (t < Tryz.prog.types.size))) = true := by kernel_rfl
theorem natLaws_c20 : ((Rows.natLawsRow.ifacesOut == Tryz.f4.resultTypes.toList.any (Tryz.prog.ifacesRec ·))) = true := by kernel_rfl
theorem natLaws_c21 : ((Rows.natLawsRow.loopsOut == Tryz.f4.resultTypes.toList.any (Tryz.prog.loopsFrom ·))) = true := by kernel_rfl
theorem natLaws_c23 : (Rows.natLawsRow.shortTexts.isNone) = true := by kernel_rfl
theorem natLaws_c28 : ((Rows.natLawsRow.kinds == (if Rows.natLawsRow.domain.isEmpty then [] else Tryz.f4.params.toList.map fun t => match Tryz.prog.underlying t with | some (.int k) => some k | _ => none))) = true := by kernel_rfl
theorem natLaws_c29 : ((Rows.natLawsRow.pinned == Rows.natLawsRow.pinnedBy)) = true := by kernel_rfl
theorem natLaws_c30 : ((Rows.natLawsRow.veiled == (Tryz.f4.params.toList ++ Rows.natLawsSpec.plain.varTypes Tryz.prog ++ Tryz.f4.resultTypes.toList).any (Tryz.prog.veiledRec ·))) = true := by kernel_rfl
theorem natLaws_c31 : (Rows.natLawsRow.veiledFits Tryz.prog Tryz.f4.params.toList (Tryz.f4.params.toList ++ Rows.natLawsSpec.plain.varTypes Tryz.prog ++ Tryz.f4.resultTypes.toList)) = true := by kernel_rfl
set_option maxRecDepth 100000 in
theorem natLaws_facts : joinedFacts Tryz.prog 4 Tryz.f4 Rows.natLawsSpec Rows.natLawsRow = true := by
  unfold joinedFacts
  exact band (band (band (band (band (band (band (band (band (band (band (band (band (band (band (band (band (band (band (band (band (band (band (band (band (band (band (band (band (band (band natLaws_c0 fact_c1) fact_c2) natLaws_c3) natLaws_c4) natLaws_c5) fact_c6) natLaws_c7) fact_c8) natLaws_c9) natLaws_c10) natLaws_c11) natLaws_c12) natLaws_c13) natLaws_c14) natLaws_c15) natLaws_c16) natLaws_c17) natLaws_c18) natLaws_c19) natLaws_c20) natLaws_c21) fact_c22) natLaws_c23) fact_c24) fact_c25) fact_c26) fact_c27) natLaws_c28) natLaws_c29) natLaws_c30) natLaws_c31
theorem natLaws_goes : false = Rows.natLawsRow.goesBy Tryz.prog := by kernel_rfl
theorem natLaws_holds : Rows.NatLawsSaid :=
  OpenClaim.holds_of_wide 4 Tryz.f4 rfl rfl rfl rfl rfl rfl rfl ⟨rfl, rfl, rfl, rfl, rfl⟩ rfl rfl rfl rfl rfl (by kernel_rfl) Tryz.func4 natLaws_facts
    (of_decide_eq_true (by kernel_rfl)) (by unfold Func.isWrapper; rw [if_neg (of_decide_eq_false (by kernel_rfl))]; exact ⟨rfl, rfl⟩)
    (fun os started H enc _ => natLaws_lifted os started H enc)
theorem natLaws_plain (f : FuncId) (fn : Func) (hf : Tryz.pinned.checked.prog.funcNamed "rentier/rentierlaw2.NatLaws" = some f) (hfn : Tryz.pinned.checked.prog.funcs[f]? = some fn) :
    true = Tryz.pinned.checked.prog.looks [] ∧ ∀ (j : Nat) t, fn.params[j]? = some t → Tryz.pinned.checked.prog.wantsStandIn t = false := by
  obtain rfl : f = 4 := Option.some.inj ((show Tryz.prog.funcNamed "rentier/rentierlaw2.NatLaws" = some 4 by kernel_rfl).symm.trans hf) |>.symm
  obtain rfl : fn = Tryz.f4 := (Option.some.inj (Tryz.func4.symm.trans hfn)).symm
  refine ⟨by kernel_rfl, fun j t ht => ?_⟩
  rw [Tryz.params4] at ht
  have hm := Array.mem_of_getElem? ht
  simp at hm
  have t_s : Tryz.pinned.checked.prog.wantsStandIn 9 = false := by kernel_rfl
  rcases hm with rfl
  exact t_s
theorem natLaws_card : Rows.NatLawsCardSaid :=
  Claim7.holds_tied_plain_at .later [] _ _ _ _ (natLaws_holds) (fun _ h => by cases h) (by kernel_rfl) (fun _ h => by cases h) natLaws_row_tie rfl ⟨rfl, rfl⟩ (by kernel_rfl) rfl natLaws_plain natLaws_goes
end Go.Proofs.YtfpooimjjpamoaaGreatDoor.law2
