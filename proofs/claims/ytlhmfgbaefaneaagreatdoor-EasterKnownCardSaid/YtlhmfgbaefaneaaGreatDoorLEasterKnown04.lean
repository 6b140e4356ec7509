/-
  The steps of the walks, part 4: C6EasterKnown.
-/
import Derived.Test.YtlhmfgbaefaneaaGreatDoorTie
import Derived.Test.YtlhmfgbaefaneaaGreatDoorCards
import Derived.ProofKit
import Derived.Carry
import Derived.OpenShut
import Derived.SizedLaws
import Derived.Test.YtlhmfgbaefaneaaGreatDoorB01
import Derived.Test.YtlhmfgbaefaneaaGreatDoorB02
import Derived.Test.YtlhmfgbaefaneaaGreatDoorB03
import Derived.Test.YtlhmfgbaefaneaaGreatDoorB04
import Derived.Test.YtlhmfgbaefaneaaGreatDoorB05
import Derived.Test.YtlhmfgbaefaneaaGreatDoorB06
import Derived.Test.YtlhmfgbaefaneaaGreatDoorB07
import Derived.Test.YtlhmfgbaefaneaaGreatDoorB08
import Derived.Test.YtlhmfgbaefaneaaGreatDoorB09
import Derived.Test.YtlhmfgbaefaneaaGreatDoorB10
import Derived.Test.YtlhmfgbaefaneaaGreatDoorB11
import Derived.Test.YtlhmfgbaefaneaaGreatDoorB12
import Derived.Test.YtlhmfgbaefaneaaGreatDoorB13
import Derived.Test.YtlhmfgbaefaneaaGreatDoorB14
import Derived.Test.YtlhmfgbaefaneaaGreatDoorB15
import Derived.Test.YtlhmfgbaefaneaaGreatDoorB16
import Derived.Test.YtlhmfgbaefaneaaGreatDoorB17
import Derived.Test.YtlhmfgbaefaneaaGreatDoorB18
import Derived.Test.YtlhmfgbaefaneaaGreatDoorB19
import Derived.Test.YtlhmfgbaefaneaaGreatDoorB20
import Derived.Test.YtlhmfgbaefaneaaGreatDoorB21
import Derived.Test.YtlhmfgbaefaneaaGreatDoorB22
import Derived.Test.YtlhmfgbaefaneaaGreatDoorLEasterKnown02
import Derived.Test.YtlhmfgbaefaneaaGreatDoorLEasterKnown03
import Derived.Test.YtlhmfgbaefaneaaGreatDoorLaw6Facts
namespace Go.Proofs.YtlhmfgbaefaneaaGreatDoor.law6
open Go.ChangeShapes Go.WideShapes Go.RowKit
open Go.ChangeMaps (open_string shut_string)
set_option maxRecDepth 100000 in
theorem easterKnown_lifted (os : Os) (started : os.Started) (H : Type) (enc : TypeId × Value → H) :
    ReturnsInHanded {} Tryz.checked os 9 .any (fun w args => (Rows.easterKnownSpec.pre enc Tryz.prog Tryz.f9 [] false w args ∧ laidMetH Tryz.prog Rows.easterKnownRow.laid w) ∧ sizedMet enc Tryz.prog Tryz.f9 (OpenSpec.ofChange Rows.easterKnownSpec) false w args)
      (Rows.easterKnownSpec.post enc Tryz.prog Tryz.f9 false true false false) := by
  refine returnsInHanded_of_change_and (C := Tryz.checked) (X := fun w _ => laidMetH Tryz.prog Rows.easterKnownRow.laid w) (fun _ _ _ hh h => h.of_heap hh) own started (by kernel_rfl) Tryz.func9
    (ChangeSpec.witness_at (enc := enc) (C := Tryz.checked) (os := os) (X := fun w _ => laidMetH Tryz.prog Rows.easterKnownRow.laid w) false (laidWorld os) #[] 8 (laidWorld_os os) (laid_vars os _) (laid_rest os _) (by kernel_rfl) (by kernel_rfl) (by kernel_rfl) (laidWorld_met os _)) ?_
  intro W base args ds gs before hval0 hW _ hsz hL _
  have hval : ∀ (j : Nat) t v, Tryz.f9.params[j]? = some t → args[j]? = some v → Value.okWide Tryz.prog W .any base t v := hval0
  have hW' := hW
  obtain ⟨p, q, hA00, hV0, rfl, hfz, hnd⟩ := hW
  have hlt : ∀ x ∈ p, x.block < W.heap.size := fun x hx => hW'.lt x (List.mem_append_left _ hx)
  have hstay : ∃ ps, ∀ W', Below W.heap.size W W' → DataW.TrodAll enc Tryz.prog W' 0 (fun b => decide (b < W.heap.size)) true Tryz.f9.params.toList args.toList ds ps :=
    ⟨p, fun W' hb => args_stay (by rw [Tryz.params9]; simp) hA00 hlt hb⟩
  have hA0 : DataW.TrodAll enc Tryz.prog W 0 (fun _ => true) true Tryz.f9.params.toList args.toList ds p := hA00
  have hV : DataW.TrodVars enc Tryz.prog W (fun _ => true) [] gs q := hV0
  rw [Tryz.params9] at hA0 hval hsz
  obtain ⟨g0, rfl, rfl⟩ := trodAll_nil hA0
  obtain rfl : args = #[] := by cases args; simp_all
  have hL' : laidMet Tryz.prog laidL W ∧ handlesMet Tryz.prog [("errors.errorType", Rows.laid_errors_errorType)] W := hL
  have hg := wd_of hL'.1 hL'.2
  obtain ⟨rfl, rfl⟩ : gs = [] ∧ q = [] := by
    cases gs with
    | nil => exact ⟨rfl, hV⟩
    | cons g r => exact absurd hV (by intro h; cases h)
  have e1 : Rows.easterKnownSpec.fn H ([] ++ []) = { results := [.lit (.bool true)], args := [] } := by simp [Rows.easterKnownSpec]
  refine (EasterKnown_walk begun_all easter.eas_c W hg).mono fun e W' ⟨he, hb⟩ => ?_
  subst he
  obtain ⟨ps, hs⟩ := hstay
  refine ⟨_, rfl, _, _, _, [], ps, [], hW', ?_, ?_, ?_, hb.frame _, fun h => by cases h⟩
  · rw [e1]; exact trodAll_mk1 (shut_bool Tryz.underlying4 true)
  · rw [e1]; exact hs W' hb
  · rw [e1]; rfl
theorem easterKnown_c0 : (Rows.easterKnownRow.wf (OpenSpec.ofChange Rows.easterKnownSpec)) = true := by kernel_rfl
theorem easterKnown_c3 : (Tryz.f9.params.all (Tryz.prog.readableRec ·)) = true := by kernel_rfl
theorem easterKnown_c4 : (namedTie Tryz.prog Rows.easterKnownRow.named Rows.easterKnownSpec.vars) = true := by kernel_rfl
theorem easterKnown_c5 : ((Rows.easterKnownRow.stops == [])) = true := by kernel_rfl
theorem easterKnown_c7 : ((Rows.easterKnownRow.knobs == [])) = true := by kernel_rfl
theorem easterKnown_c9 : ((Rows.easterKnownRow.inPlace == Tryz.prog.inPlace 9)) = true := by kernel_rfl
theorem easterKnown_c10 : ((Rows.easterKnownRow.unfollowed == Tryz.prog.unfollowed 9)) = true := by kernel_rfl
theorem easterKnown_c11 : ((Rows.easterKnownRow.recurses == Tryz.prog.recurses 9)) = true := by kernel_rfl
theorem easterKnown_c12 : ((Rows.easterKnownRow.named == Tryz.prog.varsNamed 9)) = true := by kernel_rfl
theorem easterKnown_c13 : ((Rows.easterKnownRow.maps == (Tryz.f9.params.toList ++ Rows.easterKnownSpec.plain.varTypes Tryz.prog).any (Tryz.prog.mapsRec ·))) = true := by kernel_rfl
theorem easterKnown_c14 : ((Rows.easterKnownRow.ifaces == (Tryz.f9.params.toList ++ Rows.easterKnownSpec.plain.varTypes Tryz.prog).any (Tryz.prog.ifacesRec ·))) = true := by kernel_rfl
theorem easterKnown_c15 : ((Rows.easterKnownRow.mapsOut == Tryz.prog.mapsAmong Tryz.f9.resultTypes.toList)) = true := by kernel_rfl
theorem easterKnown_c16 : ((Rows.easterKnownRow.loops == (Tryz.f9.params.toList ++ Rows.easterKnownSpec.plain.varTypes Tryz.prog).any (Tryz.prog.loopsFrom ·))) = true := by kernel_rfl
theorem easterKnown_c17 : ((Rows.easterKnownRow.wideKeys == (Tryz.f9.params.toList ++ Rows.easterKnownSpec.plain.varTypes Tryz.prog ++ Tryz.f9.resultTypes.toList).any (Tryz.prog.wideKeysFrom ·))) = true := by kernel_rfl
theorem easterKnown_c18 : (Rows.easterKnownSpec.vars.all (Tryz.prog.varReadable ·)) = true := by kernel_rfl
theorem easterKnown_c19 : (Tryz.f9.resultTypes.all (fun t => Tryz.prog.readableRec t && decide (t < Tryz.prog.types.size))) = true := by kernel_rfl
theorem easterKnown_c20 : ((Rows.easterKnownRow.ifacesOut == Tryz.f9.resultTypes.toList.any (Tryz.prog.ifacesRec ·))) = true := by kernel_rfl
theorem easterKnown_c21 : ((Rows.easterKnownRow.loopsOut == Tryz.f9.resultTypes.toList.any (Tryz.prog.loopsFrom ·))) = true := by kernel_rfl
theorem easterKnown_c23 : (Rows.easterKnownRow.shortTexts.isNone) = true := by kernel_rfl
theorem easterKnown_c28 : ((Rows.easterKnownRow.kinds == (if Rows.easterKnownRow.domain.isEmpty then [] else Tryz.f9.params.toList.map fun t => match Tryz.prog.underlying t with | some (.int k) => some k | _ => none))) = true := by kernel_rfl
theorem easterKnown_c29 : ((Rows.easterKnownRow.pinned == Rows.easterKnownRow.pinnedBy)) = true := by kernel_rfl
theorem easterKnown_c30 : ((Rows.easterKnownRow.veiled == (Tryz.f9.params.toList ++ Rows.easterKnownSpec.plain.varTypes Tryz.prog ++ Tryz.f9.resultTypes.toList).any (Tryz.prog.veiledRec ·))) = true := by kernel_rfl
theorem easterKnown_c31 : (Rows.easterKnownRow.veiledFits Tryz.prog Tryz.f9.params.toList (Tryz.f9.params.toList ++ Rows.easterKnownSpec.plain.varTypes Tryz.prog ++ Tryz.f9.resultTypes.toList)) = true := by kernel_rfl
set_option maxRecDepth 100000 in
theorem easterKnown_facts : joinedFacts Tryz.prog 9 Tryz.f9 Rows.easterKnownSpec Rows.easterKnownRow = true := by
  unfold joinedFacts
  exact band (band (band (band (band (band (band (band (band (band (band (band (band (band (band (band (band (band (band (band (band (band (band (band (band (band (band (band (band (band (band easterKnown_c0 fact_c1) fact_c2) easterKnown_c3) easterKnown_c4) easterKnown_c5) fact_c6) easterKnown_c7) fact_c8) easterKnown_c9) easterKnown_c10) easterKnown_c11) easterKnown_c12) easterKnown_c13) easterKnown_c14) easterKnown_c15) easterKnown_c16) easterKnown_c17) easterKnown_c18) easterKnown_c19) easterKnown_c20) easterKnown_c21) fact_c22) easterKnown_c23) fact_c24) fact_c25) fact_c26) fact_c27) easterKnown_c28) easterKnown_c29) easterKnown_c30) easterKnown_c31
theorem easterKnown_goes : false = Rows.easterKnownRow.goesBy Tryz.prog := by kernel_rfl
theorem easterKnown_holds : Rows.EasterKnownSaid :=
  OpenClaim.holds_of_wide 9 Tryz.f9 rfl rfl rfl rfl rfl rfl rfl ⟨rfl, rfl, rfl, rfl, rfl⟩ rfl rfl rfl rfl rfl (by kernel_rfl) Tryz.func9 easterKnown_facts
    (of_decide_eq_true (by kernel_rfl)) (by unfold Func.isWrapper; rw [if_neg (of_decide_eq_false (by kernel_rfl))]; exact ⟨rfl, rfl⟩)
    (fun os started H enc _ => easterKnown_lifted os started H enc)
theorem easterKnown_plain (f : FuncId) (fn : Func) (hf : Tryz.pinned.checked.prog.funcNamed "rentier/rentierlaw6.EasterKnown" = some f) (hfn : Tryz.pinned.checked.prog.funcs[f]? = some fn) :
    true = Tryz.pinned.checked.prog.looks [] ∧ ∀ (j : Nat) t, fn.params[j]? = some t → Tryz.pinned.checked.prog.wantsStandIn t = false := by
  obtain rfl : f = 9 := Option.some.inj ((show Tryz.prog.funcNamed "rentier/rentierlaw6.EasterKnown" = some 9 by kernel_rfl).symm.trans hf) |>.symm
  obtain rfl : fn = Tryz.f9 := (Option.some.inj (Tryz.func9.symm.trans hfn)).symm
  refine ⟨by kernel_rfl, fun j t ht => ?_⟩
  rw [Tryz.params9] at ht
  have hm := Array.mem_of_getElem? ht
  simp at hm
theorem easterKnown_card : Rows.EasterKnownCardSaid :=
  Claim7.holds_tied_plain_at .later [] _ _ _ _ (easterKnown_holds) (fun _ h => by cases h) (by kernel_rfl) (fun _ h => by cases h) easterKnown_row_tie rfl ⟨rfl, rfl⟩ (by kernel_rfl) rfl easterKnown_plain easterKnown_goes
end Go.Proofs.YtlhmfgbaefaneaaGreatDoor.law6
