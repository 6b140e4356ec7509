/-
  NatText: for every text, number the statement's function answers true; the arguments read as before; nothing that was there has turned. The variables that the row lists start as the program's text lays them: the card ties that.
-/
import Derived.Test.YtfpooimjjpamoaaGreatDoorTie
import Derived.Test.YtfpooimjjpamoaaGreatDoorCards
import Derived.ProofKit
import Derived.Carry
import Derived.OpenShut
import Derived.SizedLaws
import Derived.Test.YtfpooimjjpamoaaGreatDoorLwNatText
import Derived.Test.YtfpooimjjpamoaaGreatDoorA47
import Derived.Test.YtfpooimjjpamoaaGreatDoorLaid2
import Derived.Test.YtfpooimjjpamoaaGreatDoorLaw2Facts
namespace Go.Proofs.YtfpooimjjpamoaaGreatDoor.law2
open Go.ChangeShapes Go.WideShapes Go.RowKit
open Go.ChangeMaps (open_string shut_string)
set_option maxRecDepth 100000 in
theorem natText_lifted (os : Os) (started : os.Started) (H : Type) (enc : TypeId × Value → H) :
    ReturnsInHanded {} Tryz.checked os 5 .any (fun w args => (Rows.natTextSpec.pre enc Tryz.prog Tryz.f5 [] false w args ∧ laidMetH Tryz.prog Rows.natTextRow.laid w) ∧ sizedMet enc Tryz.prog Tryz.f5 (OpenSpec.ofChange Rows.natTextSpec) false w args)
      (Rows.natTextSpec.post enc Tryz.prog Tryz.f5 false true false false) := by
  refine returnsInHanded_of_change_and (C := Tryz.checked) (X := fun w _ => laidMetH Tryz.prog Rows.natTextRow.laid w) (fun _ _ _ hh h => h.of_heap hh) own started (by kernel_rfl) Tryz.func5
    (ChangeSpec.witness_at (enc := enc) (C := Tryz.checked) (os := os) (X := fun w _ => laidMetH Tryz.prog Rows.natTextRow.laid w) false (laidWorld os) #[.string ⟨#[]⟩, .int .u64 0] 8 (laidWorld_os os) (laid_vars os _) (laid_rest os _) (by kernel_rfl) (by kernel_rfl) (by kernel_rfl) (laidWorld_met os _)) ?_
  intro W base args ds gs before hval0 hW _ hsz hL _
  have hval : ∀ (j : Nat) t v, Tryz.f5.params[j]? = some t → args[j]? = some v → Value.okWide Tryz.prog W .any base t v := hval0
  have hW' := hW
  obtain ⟨p, q, hA00, hV0, rfl, hfz, hnd⟩ := hW
  have hA0 : DataW.TrodAll enc Tryz.prog W 0 (fun _ => true) true Tryz.f5.params.toList args.toList ds p := hA00
  have hV : DataW.TrodVars enc Tryz.prog W (fun _ => true) [] gs q := hV0
  rw [Tryz.params5] at hA0 hval hsz
  obtain ⟨v0, r0, d0, e0, p0, q0, g0, rfl, rfl, h0, hA1⟩ := trodAll_cons hA0
  obtain ⟨v1, r1, d1, e1, p1, q1, g1, rfl, rfl, h1, hA2⟩ := trodAll_cons hA1
  obtain ⟨g2, rfl, rfl⟩ := trodAll_nil hA2
  obtain rfl : args = #[v0, v1] := by cases args; simp_all
  obtain ⟨b0, rfl, rfl, rfl, w0⟩ := open_string Tryz.underlying9 (hval 0 9 v0 rfl rfl) h0
  obtain ⟨a1, rfl, rfl, rfl, w1⟩ := open_int Tryz.underlying45 (hval 1 45 v1 rfl rfl) h1
  have z0 : b0.data.toList.length ≤ reachBytes := sized_string hsz (j := 0) (t := 9) rfl rfl
  obtain ⟨a0, rfl⟩ : ∃ l, b0 = ref.str l := ⟨b0.data.toList, rfl⟩
  have z0 : a0.length ≤ 4611686018427387904 := Nat.le_trans z0 (by decide)
  have y1 := bounds_u64 w1
  obtain ⟨m1, rfl⟩ := Int.eq_ofNat_of_zero_le y1.1
  have hL' : laidMet Tryz.prog laidL W ∧ handlesMet Tryz.prog [("errors.errorType", Rows.laid_errors_errorType)] W := hL
  have hg := handle_of hL'.2
  obtain ⟨rfl, rfl⟩ : gs = [] ∧ q = [] := by
    cases gs with
    | nil => exact ⟨rfl, hV⟩
    | cons g r => exact absurd hV (by intro h; cases h)
  have e1 : Rows.natTextSpec.fn H ([.lit (.string (ref.str a0).data.toList), .lit (.int .u64 ((m1 : Nat) : Int))] ++ []) = { results := [.lit (.bool true)], args := [.lit (.string (ref.str a0).data.toList), .lit (.int .u64 ((m1 : Nat) : Int))] } := by simp [Rows.natTextSpec]
  refine (LwNatText begun_all a0 z0 m1 (by omega) W hg).mono fun e W' ⟨he, hb⟩ => ?_
  subst he
  refine ⟨_, rfl, _, _, _, [], [], [], hW', ?_, ?_, ?_, hb.frame _, fun h => by cases h⟩
  · rw [e1]; exact trodAll_mk1 (shut_bool Tryz.underlying4 true)
  · rw [e1]; exact trodAll_cons_mk (shut_string Tryz.underlying9 w0) (trodAll_cons_mk (shut_int Tryz.underlying45 w1) trodAll_mk0)
  · rw [e1]; rfl
theorem natText_c0 : (Rows.natTextRow.wf (OpenSpec.ofChange Rows.natTextSpec)) = true := by kernel_rfl
theorem natText_c3 : (Tryz.f5.params.all (Tryz.prog.readableRec ·)) = true := by kernel_rfl
theorem natText_c4 : (namedTie Tryz.prog Rows.natTextRow.named Rows.natTextSpec.vars) = true := by kernel_rfl
theorem natText_c5 : ((Rows.natTextRow.stops == [])) = true := by kernel_rfl
theorem natText_c7 : ((Rows.natTextRow.knobs == [])) = true := by kernel_rfl
theorem natText_c9 : ((Rows.natTextRow.inPlace == Tryz.prog.inPlace 5)) = true := by kernel_rfl
theorem natText_c10 : ((Rows.natTextRow.unfollowed == Tryz.prog.unfollowed 5)) = true := by kernel_rfl
theorem natText_c11 : ((Rows.natTextRow.recurses == Tryz.prog.recurses 5)) = true := by kernel_rfl
theorem natText_c12 : ((Rows.natTextRow.named == Tryz.prog.varsNamed 5)) = true := by kernel_rfl
theorem natText_c13 : ((Rows.natTextRow.maps == (Tryz.f5.params.toList ++ Rows.natTextSpec.plain.varTypes Tryz.prog).any (Tryz.prog.mapsRec ·))) = true := by kernel_rfl
theorem natText_c14 : ((Rows.natTextRow.ifaces == (Tryz.f5.params.toList ++ Rows.natTextSpec.plain.varTypes Tryz.prog).any (Tryz.prog.ifacesRec ·))) = true := by kernel_rfl
theorem natText_c15 : ((Rows.natTextRow.mapsOut == Tryz.prog.mapsAmong Tryz.f5.resultTypes.toList)) = true := by kernel_rfl
theorem natText_c16 : ((Rows.natTextRow.loops == (Tryz.f5.params.toList ++ Rows.natTextSpec.plain.varTypes Tryz.prog).any (Tryz.prog.loopsFrom ·))) = true := by kernel_rfl
theorem natText_c17 : ((Rows.natTextRow.wideKeys == (Tryz.f5.params.toList ++ Rows.natTextSpec.plain.varTypes Tryz.prog ++ Tryz.f5.resultTypes.toList).any (Tryz.prog.wideKeysFrom ·))) = true := by kernel_rfl
theorem natText_c18 : (Rows.natTextSpec.vars.all (Tryz.prog.varReadable ·)) = true := by kernel_rfl
theorem natText_c19 : (Tryz.f5.resultTypes.all (fun t => Tryz.prog.readableRec t && decide (t < Tryz.prog.types.size))) = true := by kernel_rfl
theorem natText_c20 : ((Rows.natTextRow.ifacesOut == Tryz.f5.resultTypes.toList.any (Tryz.prog.ifacesRec ·))) = true := by kernel_rfl
theorem natText_c21 : ((Rows.natTextRow.loopsOut == Tryz.f5.resultTypes.toList.any (Tryz.prog.loopsFrom ·))) = true := by kernel_rfl
theorem natText_c23 : (Rows.natTextRow.shortTexts.isNone) = true := by kernel_rfl
theorem natText_c28 : ((Rows.natTextRow.kinds == (if Rows.natTextRow.domain.isEmpty then [] else Tryz.f5.params.toList.map fun t => match Tryz.prog.underlying t with | some (.int k) => some k | _ => none))) = true := by kernel_rfl
theorem natText_c29 : ((Rows.natTextRow.pinned == Rows.natTextRow.pinnedBy)) = true := by kernel_rfl
theorem natText_c30 : ((Rows.natTextRow.veiled == (Tryz.f5.params.toList ++ Rows.natTextSpec.plain.varTypes Tryz.prog ++ Tryz.f5.resultTypes.toList).any (Tryz.prog.veiledRec ·))) = true := by kernel_rfl
theorem natText_c31 : (Rows.natTextRow.veiledFits Tryz.prog Tryz.f5.params.toList (Tryz.f5.params.toList ++ Rows.natTextSpec.plain.varTypes Tryz.prog ++ Tryz.f5.resultTypes.toList)) = true := by kernel_rfl
set_option maxRecDepth 100000 in
theorem natText_facts : joinedFacts Tryz.prog 5 Tryz.f5 Rows.natTextSpec Rows.natTextRow = true := by
  unfold joinedFacts
  exact band (band (band (band (band (band (band (band (band (band (band (band (band (band (band (band (band (band (band (band (band (band (band (band (band (band (band (band (band (band (band natText_c0 fact_c1) fact_c2) natText_c3) natText_c4) natText_c5) fact_c6) natText_c7) fact_c8) natText_c9) natText_c10) natText_c11) natText_c12) natText_c13) natText_c14) natText_c15) natText_c16) natText_c17) natText_c18) natText_c19) natText_c20) natText_c21) fact_c22) natText_c23) fact_c24) fact_c25) fact_c26) fact_c27) natText_c28) natText_c29) natText_c30) natText_c31
theorem natText_goes : false = Rows.natTextRow.goesBy Tryz.prog := by kernel_rfl
theorem natText_holds : Rows.NatTextSaid :=
  OpenClaim.holds_of_wide 5 Tryz.f5 rfl rfl rfl rfl rfl rfl rfl ⟨rfl, rfl, rfl, rfl, rfl⟩ rfl rfl rfl rfl rfl (by kernel_rfl) Tryz.func5 natText_facts
    (of_decide_eq_true (by kernel_rfl)) (by unfold Func.isWrapper; rw [if_neg (of_decide_eq_false (by kernel_rfl))]; exact ⟨rfl, rfl⟩)
    (fun os started H enc _ => natText_lifted os started H enc)
theorem natText_plain (f : FuncId) (fn : Func) (hf : Tryz.pinned.checked.prog.funcNamed "rentier/rentierlaw2.NatText" = some f) (hfn : Tryz.pinned.checked.prog.funcs[f]? = some fn) :
    true = Tryz.pinned.checked.prog.looks [] ∧ ∀ (j : Nat) t, fn.params[j]? = some t → Tryz.pinned.checked.prog.wantsStandIn t = false := by
  obtain rfl : f = 5 := Option.some.inj ((show Tryz.prog.funcNamed "rentier/rentierlaw2.NatText" = some 5 by kernel_rfl).symm.trans hf) |>.symm
  obtain rfl : fn = Tryz.f5 := (Option.some.inj (Tryz.func5.symm.trans hfn)).symm
  refine ⟨by kernel_rfl, fun j t ht => ?_⟩
  rw [Tryz.params5] at ht
  have hm := Array.mem_of_getElem? ht
  simp at hm
  have t_s : Tryz.pinned.checked.prog.wantsStandIn 9 = false := by kernel_rfl
  have t_u : Tryz.pinned.checked.prog.wantsStandIn 45 = false := by kernel_rfl
  rcases hm with rfl | rfl <;> first | with_reducible exact t_s | with_reducible exact t_u
theorem natText_card : Rows.NatTextCardSaid :=
  Claim7.holds_tied_plain_at .later [] _ _ _ _ (natText_holds) (fun _ h => by cases h) (by kernel_rfl) (fun _ h => by cases h) natText_row_tie rfl ⟨rfl, rfl⟩ (by kernel_rfl) rfl natText_plain natText_goes
end Go.Proofs.YtfpooimjjpamoaaGreatDoor.law2
