/-
  NatAll: for every text, text the statement's function answers true; the arguments read as before; nothing that was there has turned. The variables that the row lists start as the program's text lays them: the card ties that.
-/
import Derived.Test.YtfpooimjjpamoaaGreatDoorTie
import Derived.Test.YtfpooimjjpamoaaGreatDoorCards
import Derived.ProofKit
import Derived.Carry
import Derived.OpenShut
import Derived.SizedLaws
import Derived.Test.YtfpooimjjpamoaaGreatDoorLwNatAll
import Derived.Test.YtfpooimjjpamoaaGreatDoorA47
import Derived.Test.YtfpooimjjpamoaaGreatDoorLaid2
import Derived.Test.YtfpooimjjpamoaaGreatDoorLaw2Facts
namespace Go.Proofs.YtfpooimjjpamoaaGreatDoor.law2
open Go.ChangeShapes Go.WideShapes Go.RowKit
open Go.ChangeMaps (open_string shut_string)
set_option maxRecDepth 100000 in
theorem natAll_lifted (os : Os) (started : os.Started) (H : Type) (enc : TypeId × Value → H) :
    ReturnsInHanded {} Tryz.checked os 3 .any (fun w args => (Rows.natAllSpec.pre enc Tryz.prog Tryz.f3 [] false w args ∧ laidMetH Tryz.prog Rows.natAllRow.laid w) ∧ sizedMet enc Tryz.prog Tryz.f3 (OpenSpec.ofChange Rows.natAllSpec) false w args)
      (Rows.natAllSpec.post enc Tryz.prog Tryz.f3 false true false false) := by
  refine returnsInHanded_of_change_and (C := Tryz.checked) (X := fun w _ => laidMetH Tryz.prog Rows.natAllRow.laid w) (fun _ _ _ hh h => h.of_heap hh) own started (by kernel_rfl) Tryz.func3
    (ChangeSpec.witness_at (enc := enc) (C := Tryz.checked) (os := os) (X := fun w _ => laidMetH Tryz.prog Rows.natAllRow.laid w) false (laidWorld os) #[.string ⟨#[]⟩, .string ⟨#[]⟩] 8 (laidWorld_os os) (laid_vars os _) (laid_rest os _) (by kernel_rfl) (by kernel_rfl) (by kernel_rfl) (laidWorld_met os _)) ?_
  intro W base args ds gs before hval0 hW _ hsz hL _
  have hval : ∀ (j : Nat) t v, Tryz.f3.params[j]? = some t → args[j]? = some v → Value.okWide Tryz.prog W .any base t v := hval0
  have hW' := hW
  obtain ⟨p, q, hA00, hV0, rfl, hfz, hnd⟩ := hW
  have hA0 : DataW.TrodAll enc Tryz.prog W 0 (fun _ => true) true Tryz.f3.params.toList args.toList ds p := hA00
  have hV : DataW.TrodVars enc Tryz.prog W (fun _ => true) [] gs q := hV0
  rw [Tryz.params3] at hA0 hval hsz
  obtain ⟨v0, r0, d0, e0, p0, q0, g0, rfl, rfl, h0, hA1⟩ := trodAll_cons hA0
  obtain ⟨v1, r1, d1, e1, p1, q1, g1, rfl, rfl, h1, hA2⟩ := trodAll_cons hA1
  obtain ⟨g2, rfl, rfl⟩ := trodAll_nil hA2
  obtain rfl : args = #[v0, v1] := by cases args; simp_all
  obtain ⟨b0, rfl, rfl, rfl, w0⟩ := open_string Tryz.underlying9 (hval 0 9 v0 rfl rfl) h0
  obtain ⟨b1, rfl, rfl, rfl, w1⟩ := open_string Tryz.underlying9 (hval 1 9 v1 rfl rfl) h1
  have z0 : b0.data.toList.length ≤ reachBytes := sized_string hsz (j := 0) (t := 9) rfl rfl
  obtain ⟨a0, rfl⟩ : ∃ l, b0 = ref.str l := ⟨b0.data.toList, rfl⟩
  have z0 : a0.length ≤ 4611686018427387904 := Nat.le_trans z0 (by decide)
  have z1 : b1.data.toList.length ≤ reachBytes := sized_string hsz (j := 1) (t := 9) rfl rfl
  obtain ⟨a1, rfl⟩ : ∃ l, b1 = ref.str l := ⟨b1.data.toList, rfl⟩
  have z1 : a1.length ≤ 4611686018427387904 := Nat.le_trans z1 (by decide)
  have hL' : laidMet Tryz.prog laidL W ∧ handlesMet Tryz.prog [("errors.errorType", Rows.laid_errors_errorType)] W := hL
  have hg := handle_of hL'.2
  obtain ⟨rfl, rfl⟩ : gs = [] ∧ q = [] := by
    cases gs with
    | nil => exact ⟨rfl, hV⟩
    | cons g r => exact absurd hV (by intro h; cases h)
  have e1 : Rows.natAllSpec.fn H ([.lit (.string (ref.str a0).data.toList), .lit (.string (ref.str a1).data.toList)] ++ []) = { results := [.lit (.bool true)], args := [.lit (.string (ref.str a0).data.toList), .lit (.string (ref.str a1).data.toList)] } := by simp [Rows.natAllSpec]
  refine (LwNatAll begun_all a0 z0 a1 z1 W hg).mono fun e W' ⟨he, hb⟩ => ?_
  subst he
  refine ⟨_, rfl, _, _, _, [], [], [], hW', ?_, ?_, ?_, hb.frame _, fun h => by cases h⟩
  · rw [e1]; exact trodAll_mk1 (shut_bool Tryz.underlying4 true)
  · rw [e1]; exact trodAll_cons_mk (shut_string Tryz.underlying9 w0) (trodAll_cons_mk (shut_string Tryz.underlying9 w1) trodAll_mk0)
  · rw [e1]; rfl
theorem natAll_c0 : (Rows.natAllRow.wf (OpenSpec.ofChange Rows.natAllSpec)) = true := by kernel_rfl
theorem natAll_c3 : (Tryz.f3.params.all (Tryz.prog.readableRec ·)) = true := by kernel_rfl
theorem natAll_c4 : (namedTie Tryz.prog Rows.natAllRow.named Rows.natAllSpec.vars) = true := by kernel_rfl
theorem natAll_c5 : ((Rows.natAllRow.stops == [])) = true := by kernel_rfl
theorem natAll_c7 : ((Rows.natAllRow.knobs == [])) = true := by kernel_rfl
theorem natAll_c9 : ((Rows.natAllRow.inPlace == Tryz.prog.inPlace 3)) = true := by kernel_rfl
theorem natAll_c10 : ((Rows.natAllRow.unfollowed == Tryz.prog.unfollowed 3)) = true := by kernel_rfl
theorem natAll_c11 : ((Rows.natAllRow.recurses == Tryz.prog.recurses 3)) = true := by kernel_rfl
theorem natAll_c12 : ((Rows.natAllRow.named == Tryz.prog.varsNamed 3)) = true := by kernel_rfl
theorem natAll_c13 : ((Rows.natAllRow.maps == (Tryz.f3.params.toList ++ Rows.natAllSpec.plain.varTypes Tryz.prog).any (Tryz.prog.mapsRec ·))) = true := by kernel_rfl
theorem natAll_c14 : ((Rows.natAllRow.ifaces == (Tryz.f3.params.toList ++ Rows.natAllSpec.plain.varTypes Tryz.prog).any (Tryz.prog.ifacesRec ·))) = true := by kernel_rfl
theorem natAll_c15 : ((Rows.natAllRow.mapsOut == Tryz.prog.mapsAmong Tryz.f3.resultTypes.toList)) = true := by kernel_rfl
theorem natAll_c16 : ((Rows.natAllRow.loops == (Tryz.f3.params.toList ++ Rows.natAllSpec.plain.varTypes Tryz.prog).any (Tryz.prog.loopsFrom ·))) = true := by kernel_rfl
theorem natAll_c17 : ((Rows.natAllRow.wideKeys == (Tryz.f3.params.toList ++ Rows.natAllSpec.plain.varTypes Tryz.prog ++ Tryz.f3.resultTypes.toList).any (Tryz.prog.wideKeysFrom ·))) = true := by kernel_rfl
theorem natAll_c18 : (Rows.natAllSpec.vars.all (Tryz.prog.varReadable ·)) = true := by kernel_rfl
theorem natAll_c19 : (Tryz.f3.resultTypes.all (fun t => Tryz.prog.readableRec t && decide (t < Tryz.prog.types.size))) = true := by kernel_rfl
theorem natAll_c20 : ((Rows.natAllRow.ifacesOut == Tryz.f3.resultTypes.toList.any (Tryz.prog.ifacesRec ·))) = true := by kernel_rfl
theorem natAll_c21 : ((Rows.natAllRow.loopsOut == Tryz.f3.resultTypes.toList.any (Tryz.prog.loopsFrom ·))) = true := by kernel_rfl
theorem natAll_c23 : (Rows.natAllRow.shortTexts.isNone) = true := by kernel_rfl
theorem natAll_c28 : ((Rows.natAllRow.kinds == (if Rows.natAllRow.domain.isEmpty then [] else Tryz.f3.params.toList.map fun t => match Tryz.prog.underlying t with | some (.int k) => some k | _ => none))) = true := by kernel_rfl
theorem natAll_c29 : ((Rows.natAllRow.pinned == Rows.natAllRow.pinnedBy)) = true := by kernel_rfl
theorem natAll_c30 : ((Rows.natAllRow.veiled == (Tryz.f3.params.toList ++ Rows.natAllSpec.plain.varTypes Tryz.prog ++ Tryz.f3.resultTypes.toList).any (Tryz.prog.veiledRec ·))) = true := by kernel_rfl
theorem natAll_c31 : (Rows.natAllRow.veiledFits Tryz.prog Tryz.f3.params.toList (Tryz.f3.params.toList ++ Rows.natAllSpec.plain.varTypes Tryz.prog ++ Tryz.f3.resultTypes.toList)) = true := by kernel_rfl
set_option maxRecDepth 100000 in
theorem natAll_facts : joinedFacts Tryz.prog 3 Tryz.f3 Rows.natAllSpec Rows.natAllRow = true := by
  unfold joinedFacts
  exact band (band (band (band (band (band (band (band (band (band (band (band (band (band (band (band (band (band (band (band (band (band (band (band (band (band (band (band (band (band (band natAll_c0 fact_c1) fact_c2) natAll_c3) natAll_c4) natAll_c5) fact_c6) natAll_c7) fact_c8) natAll_c9) natAll_c10) natAll_c11) natAll_c12) natAll_c13) natAll_c14) natAll_c15) natAll_c16) natAll_c17) natAll_c18) natAll_c19) natAll_c20) natAll_c21) fact_c22) natAll_c23) fact_c24) fact_c25) fact_c26) fact_c27) natAll_c28) natAll_c29) natAll_c30) natAll_c31
theorem natAll_goes : false = Rows.natAllRow.goesBy Tryz.prog := by kernel_rfl
theorem natAll_holds : Rows.NatAllSaid :=
  OpenClaim.holds_of_wide 3 Tryz.f3 rfl rfl rfl rfl rfl rfl rfl ⟨rfl, rfl, rfl, rfl, rfl⟩ rfl rfl rfl rfl rfl (by kernel_rfl) Tryz.func3 natAll_facts
    (of_decide_eq_true (by kernel_rfl)) (by unfold Func.isWrapper; rw [if_neg (of_decide_eq_false (by kernel_rfl))]; exact ⟨rfl, rfl⟩)
    (fun os started H enc _ => natAll_lifted os started H enc)
theorem natAll_plain (f : FuncId) (fn : Func) (hf : Tryz.pinned.checked.prog.funcNamed "rentier/rentierlaw2.NatAll" = some f) (hfn : Tryz.pinned.checked.prog.funcs[f]? = some fn) :
    true = Tryz.pinned.checked.prog.looks [] ∧ ∀ (j : Nat) t, fn.params[j]? = some t → Tryz.pinned.checked.prog.wantsStandIn t = false := by
  obtain rfl : f = 3 := Option.some.inj ((show Tryz.prog.funcNamed "rentier/rentierlaw2.NatAll" = some 3 by kernel_rfl).symm.trans hf) |>.symm
  obtain rfl : fn = Tryz.f3 := (Option.some.inj (Tryz.func3.symm.trans hfn)).symm
  refine ⟨by kernel_rfl, fun j t ht => ?_⟩
  rw [Tryz.params3] at ht
  have hm := Array.mem_of_getElem? ht
  simp at hm
  have t_s : Tryz.pinned.checked.prog.wantsStandIn 9 = false := by kernel_rfl
  rcases hm with rfl
  exact t_s
theorem natAll_card : Rows.NatAllCardSaid :=
  Claim7.holds_tied_plain_at .later [] _ _ _ _ (natAll_holds) (fun _ h => by cases h) (by kernel_rfl) (fun _ h => by cases h) natAll_row_tie rfl ⟨rfl, rfl⟩ (by kernel_rfl) rfl natAll_plain natAll_goes
end Go.Proofs.YtfpooimjjpamoaaGreatDoor.law2
