/-
  NatGcd: for every text, text, text the statement's function answers true; the arguments read as before; nothing that was there has turned. The variables that the row lists start as the program's text lays them: the card ties that.
-/
import Derived.Test.YtfpooimjjpamoaaGreatDoorTie
import Derived.Test.YtfpooimjjpamoaaGreatDoorCards
import Derived.ProofKit
import Derived.Carry
import Derived.OpenShut
import Derived.SizedLaws
import Derived.Test.YtfpooimjjpamoaaGreatDoorLwNatGcd
import Derived.Test.YtfpooimjjpamoaaGreatDoorA47
import Derived.Test.YtfpooimjjpamoaaGreatDoorLaid2
import Derived.Test.YtfpooimjjpamoaaGreatDoorLaw2Facts
namespace Go.Proofs.YtfpooimjjpamoaaGreatDoor.law2
open Go.ChangeShapes Go.WideShapes Go.RowKit
open Go.ChangeMaps (open_string shut_string)
set_option maxRecDepth 100000 in
theorem natGcd_lifted (os : Os) (started : os.Started) (H : Type) (enc : TypeId × Value → H) :
    ReturnsInHanded {} Tryz.checked os 15 .any (fun w args => (Rows.natGcdSpec.pre enc Tryz.prog Tryz.f15 [] false w args ∧ laidMetH Tryz.prog Rows.natGcdRow.laid w) ∧ sizedMet enc Tryz.prog Tryz.f15 (OpenSpec.ofChange Rows.natGcdSpec) false w args)
      (Rows.natGcdSpec.post enc Tryz.prog Tryz.f15 false true false false) := by
  refine returnsInHanded_of_change_and (C := Tryz.checked) (X := fun w _ => laidMetH Tryz.prog Rows.natGcdRow.laid w) (fun _ _ _ hh h => h.of_heap hh) own started (by kernel_rfl) Tryz.func15
    (ChangeSpec.witness_at (enc := enc) (C := Tryz.checked) (os := os) (X := fun w _ => laidMetH Tryz.prog Rows.natGcdRow.laid w) false (laidWorld os) #[.string ⟨#[]⟩, .string ⟨#[]⟩, .string ⟨#[]⟩] 8 (laidWorld_os os) (laid_vars os _) (laid_rest os _) (by kernel_rfl) (by kernel_rfl) (by kernel_rfl) (laidWorld_met os _)) ?_
  intro W base args ds gs before hval0 hW _ hsz hL _
  have hval : ∀ (j : Nat) t v, Tryz.f15.params[j]? = some t → args[j]? = some v → Value.okWide Tryz.prog W .any base t v := hval0
  have hW' := hW
  obtain ⟨p, q, hA00, hV0, rfl, hfz, hnd⟩ := hW
  have hA0 : DataW.TrodAll enc Tryz.prog W 0 (fun _ => true) true Tryz.f15.params.toList args.toList ds p := hA00
  have hV : DataW.TrodVars enc Tryz.prog W (fun _ => true) [] gs q := hV0
  rw [Tryz.params15] at hA0 hval hsz
  obtain ⟨v0, r0, d0, e0, p0, q0, g0, rfl, rfl, h0, hA1⟩ := trodAll_cons hA0
  obtain ⟨v1, r1, d1, e1, p1, q1, g1, rfl, rfl, h1, hA2⟩ := trodAll_cons hA1
  obtain ⟨v2, r2, d2, e2, p2, q2, g2, rfl, rfl, h2, hA3⟩ := trodAll_cons hA2
  obtain ⟨g3, rfl, rfl⟩ := trodAll_nil hA3
  obtain rfl : args = #[v0, v1, v2] := by cases args; simp_all
  obtain ⟨b0, rfl, rfl, rfl, w0⟩ := open_string Tryz.underlying9 (hval 0 9 v0 rfl rfl) h0
  obtain ⟨b1, rfl, rfl, rfl, w1⟩ := open_string Tryz.underlying9 (hval 1 9 v1 rfl rfl) h1
  obtain ⟨b2, rfl, rfl, rfl, w2⟩ := open_string Tryz.underlying9 (hval 2 9 v2 rfl rfl) h2
  have z0 : b0.data.toList.length ≤ reachBytes := sized_string hsz (j := 0) (t := 9) rfl rfl
  obtain ⟨a0, rfl⟩ : ∃ l, b0 = ref.str l := ⟨b0.data.toList, rfl⟩
  have z0 : a0.length ≤ 4611686018427387904 := Nat.le_trans z0 (by decide)
  have z1 : b1.data.toList.length ≤ reachBytes := sized_string hsz (j := 1) (t := 9) rfl rfl
  obtain ⟨a1, rfl⟩ : ∃ l, b1 = ref.str l := ⟨b1.data.toList, rfl⟩
  have z1 : a1.length ≤ 4611686018427387904 := Nat.le_trans z1 (by decide)
  have z2 : b2.data.toList.length ≤ reachBytes := sized_string hsz (j := 2) (t := 9) rfl rfl
  obtain ⟨a2, rfl⟩ : ∃ l, b2 = ref.str l := ⟨b2.data.toList, rfl⟩
  have z2 : a2.length ≤ 4611686018427387904 := Nat.le_trans z2 (by decide)
  have hL' : laidMet Tryz.prog laidL W ∧ handlesMet Tryz.prog [("errors.errorType", Rows.laid_errors_errorType)] W := hL
  have hg := handle_of hL'.2
  obtain ⟨rfl, rfl⟩ : gs = [] ∧ q = [] := by
    cases gs with
    | nil => exact ⟨rfl, hV⟩
    | cons g r => exact absurd hV (by intro h; cases h)
  have e1 : Rows.natGcdSpec.fn H ([.lit (.string (ref.str a0).data.toList), .lit (.string (ref.str a1).data.toList), .lit (.string (ref.str a2).data.toList)] ++ []) = { results := [.lit (.bool true)], args := [.lit (.string (ref.str a0).data.toList), .lit (.string (ref.str a1).data.toList), .lit (.string (ref.str a2).data.toList)] } := by simp [Rows.natGcdSpec]
  refine (LwNatGcd begun_all a0 z0 a1 z1 a2 z2 W hg).mono fun e W' ⟨he, hb⟩ => ?_
  subst he
  refine ⟨_, rfl, _, _, _, [], [], [], hW', ?_, ?_, ?_, hb.frame _, fun h => by cases h⟩
  · rw [e1]; exact trodAll_mk1 (shut_bool Tryz.underlying4 true)
  · rw [e1]; exact trodAll_cons_mk (shut_string Tryz.underlying9 w0) (trodAll_cons_mk (shut_string Tryz.underlying9 w1) (trodAll_cons_mk (shut_string Tryz.underlying9 w2) trodAll_mk0))
  · rw [e1]; rfl
theorem natGcd_c0 : (Rows.natGcdRow.wf (OpenSpec.ofChange Rows.natGcdSpec)) = true := by kernel_rfl
theorem natGcd_c3 : (Tryz.f15.params.all (Tryz.prog.readableRec ·)) = true := by kernel_rfl
theorem natGcd_c4 : (namedTie Tryz.prog Rows.natGcdRow.named Rows.natGcdSpec.vars) = true := by kernel_rfl
theorem natGcd_c5 : ((Rows.natGcdRow.stops == [])) = true := by kernel_rfl
theorem natGcd_c7 : ((Rows.natGcdRow.knobs == [])) = true := by kernel_rfl
theorem natGcd_c9 : ((Rows.natGcdRow.inPlace == Tryz.prog.inPlace 15)) = true := by kernel_rfl
theorem natGcd_c10 : ((Rows.natGcdRow.unfollowed == Tryz.prog.unfollowed 15)) = true := by kernel_rfl
theorem natGcd_c11 : ((Rows.natGcdRow.recurses == Tryz.prog.recurses 15)) = true := by kernel_rfl
theorem natGcd_c12 : ((Rows.natGcdRow.named == Tryz.prog.varsNamed 15)) = true := by kernel_rfl
theorem natGcd_c13 : ((Rows.natGcdRow.maps == (Tryz.f15.params.toList ++ Rows.natGcdSpec.plain.varTypes Tryz.prog).any (Tryz.prog.mapsRec ·))) = true := by kernel_rfl
theorem natGcd_c14 : ((Rows.natGcdRow.ifaces == (Tryz.f15.params.toList ++ Rows.natGcdSpec.plain.varTypes Tryz.prog).any (Tryz.prog.ifacesRec ·))) = true := by kernel_rfl
theorem natGcd_c15 : ((Rows.natGcdRow.mapsOut == Tryz.prog.mapsAmong Tryz.f15.resultTypes.toList)) = true := by kernel_rfl
theorem natGcd_c16 : ((Rows.natGcdRow.loops == (Tryz.f15.params.toList ++ Rows.natGcdSpec.plain.varTypes Tryz.prog).any (Tryz.prog.loopsFrom ·))) = true := by kernel_rfl
theorem natGcd_c17 : ((Rows.natGcdRow.wideKeys == (Tryz.f15.params.toList ++ Rows.natGcdSpec.plain.varTypes Tryz.prog ++ Tryz.f15.resultTypes.toList).any (Tryz.prog.wideKeysFrom ·))) = true := by kernel_rfl
theorem natGcd_c18 : (Rows.natGcdSpec.vars.all (Tryz.prog.varReadable ·)) = true := by kernel_rfl
theorem natGcd_c19 : (Tryz.f15.resultTypes.all (fun t => Tryz.prog.readableRec t && decide (t < Tryz.prog.types.size))) = true := by kernel_rfl
theorem natGcd_c20 : ((Rows.natGcdRow.ifacesOut == Tryz.f15.resultTypes.toList.any (Tryz.prog.ifacesRec ·))) = true := by kernel_rfl
theorem natGcd_c21 : ((Rows.natGcdRow.loopsOut == Tryz.f15.resultTypes.toList.any (Tryz.prog.loopsFrom ·))) = true := by kernel_rfl
theorem natGcd_c23 : (Rows.natGcdRow.shortTexts.isNone) = true := by kernel_rfl
theorem natGcd_c28 : ((Rows.natGcdRow.kinds == (if Rows.natGcdRow.domain.isEmpty then [] else Tryz.f15.params.toList.map fun t => match Tryz.prog.underlying t with | some (.int k) => some k | _ => none))) = true := by kernel_rfl
theorem natGcd_c29 : ((Rows.natGcdRow.pinned == Rows.natGcdRow.pinnedBy)) = true := by kernel_rfl
theorem natGcd_c30 : ((Rows.natGcdRow.veiled == (Tryz.f15.params.toList ++ Rows.natGcdSpec.plain.varTypes Tryz.prog ++ Tryz.f15.resultTypes.toList).any (Tryz.prog.veiledRec ·))) = true := by kernel_rfl
theorem natGcd_c31 : (Rows.natGcdRow.veiledFits Tryz.prog Tryz.f15.params.toList (Tryz.f15.params.toList ++ Rows.natGcdSpec.plain.varTypes Tryz.prog ++ Tryz.f15.resultTypes.toList)) = true := by kernel_rfl
set_option maxRecDepth 100000 in
theorem natGcd_facts : joinedFacts Tryz.prog 15 Tryz.f15 Rows.natGcdSpec Rows.natGcdRow = true := by
  unfold joinedFacts
  exact band (band (band (band (band (band (band (band (band (band (band (band (band (band (band (band (band (band (band (band (band (band (band (band (band (band (band (band (band (band (band natGcd_c0 fact_c1) fact_c2) natGcd_c3) natGcd_c4) natGcd_c5) fact_c6) natGcd_c7) fact_c8) natGcd_c9) natGcd_c10) natGcd_c11) natGcd_c12) natGcd_c13) natGcd_c14) natGcd_c15) natGcd_c16) natGcd_c17) natGcd_c18) natGcd_c19) natGcd_c20) natGcd_c21) fact_c22) natGcd_c23) fact_c24) fact_c25) fact_c26) fact_c27) natGcd_c28) natGcd_c29) natGcd_c30) natGcd_c31
theorem natGcd_goes : false = Rows.natGcdRow.goesBy Tryz.prog := by kernel_rfl
theorem natGcd_holds : Rows.NatGcdSaid :=
  OpenClaim.holds_of_wide 15 Tryz.f15 rfl rfl rfl rfl rfl rfl rfl ⟨rfl, rfl, rfl, rfl, rfl⟩ rfl rfl rfl rfl rfl (by kernel_rfl) Tryz.func15 natGcd_facts
    (of_decide_eq_true (by kernel_rfl)) (by unfold Func.isWrapper; rw [if_neg (of_decide_eq_false (by kernel_rfl))]; exact ⟨rfl, rfl⟩)
    (fun os started H enc _ => natGcd_lifted os started H enc)
theorem natGcd_plain (f : FuncId) (fn : Func) (hf : Tryz.pinned.checked.prog.funcNamed "rentier/rentierlaw2.NatGcd" = some f) (hfn : Tryz.pinned.checked.prog.funcs[f]? = some fn) :
    true = Tryz.pinned.checked.prog.looks [] ∧ ∀ (j : Nat) t, fn.params[j]? = some t → Tryz.pinned.checked.prog.wantsStandIn t = false := by
  obtain rfl : f = 15 := Option.some.inj ((show Tryz.prog.funcNamed "rentier/rentierlaw2.NatGcd" = some 15 by kernel_rfl).symm.trans hf) |>.symm
  obtain rfl : fn = Tryz.f15 := (Option.some.inj (Tryz.func15.symm.trans hfn)).symm
  refine ⟨by kernel_rfl, fun j t ht => ?_⟩
  rw [Tryz.params15] at ht
  have hm := Array.mem_of_getElem? ht
  simp at hm
  have t_s : Tryz.pinned.checked.prog.wantsStandIn 9 = false := by kernel_rfl
  rcases hm with rfl
  exact t_s
theorem natGcd_card : Rows.NatGcdCardSaid :=
  Claim7.holds_tied_plain_at .later [] _ _ _ _ (natGcd_holds) (fun _ h => by cases h) (by kernel_rfl) (fun _ h => by cases h) natGcd_row_tie rfl ⟨rfl, rfl⟩ (by kernel_rfl) rfl natGcd_plain natGcd_goes
end Go.Proofs.YtfpooimjjpamoaaGreatDoor.law2
