/-
  The steps of the walks, part 4: C6CalNew.
-/
import Derived.Test.YtlhmfgbaefaneaaGreatDoorTie
import Derived.Test.YtlhmfgbaefaneaaGreatDoorCards
import Derived.ProofKit
import Derived.Carry
import Derived.OpenShut
import Derived.SizedLaws
import Derived.Test.YtlhmfgbaefaneaaGreatDoorB01
import Derived.Test.YtlhmfgbaefaneaaGreatDoorB02
import Derived.Test.YtlhmfgbaefaneaaGreatDoorB03
import Derived.Test.YtlhmfgbaefaneaaGreatDoorB04
import Derived.Test.YtlhmfgbaefaneaaGreatDoorB05
import Derived.Test.YtlhmfgbaefaneaaGreatDoorB06
import Derived.Test.YtlhmfgbaefaneaaGreatDoorB07
import Derived.Test.YtlhmfgbaefaneaaGreatDoorB08
import Derived.Test.YtlhmfgbaefaneaaGreatDoorB09
import Derived.Test.YtlhmfgbaefaneaaGreatDoorB10
import Derived.Test.YtlhmfgbaefaneaaGreatDoorB11
import Derived.Test.YtlhmfgbaefaneaaGreatDoorB12
import Derived.Test.YtlhmfgbaefaneaaGreatDoorB13
import Derived.Test.YtlhmfgbaefaneaaGreatDoorB14
import Derived.Test.YtlhmfgbaefaneaaGreatDoorB15
import Derived.Test.YtlhmfgbaefaneaaGreatDoorB16
import Derived.Test.YtlhmfgbaefaneaaGreatDoorB17
import Derived.Test.YtlhmfgbaefaneaaGreatDoorB18
import Derived.Test.YtlhmfgbaefaneaaGreatDoorB19
import Derived.Test.YtlhmfgbaefaneaaGreatDoorB20
import Derived.Test.YtlhmfgbaefaneaaGreatDoorB21
import Derived.Test.YtlhmfgbaefaneaaGreatDoorB22
import Derived.Test.YtlhmfgbaefaneaaGreatDoorLCalNew01
import Derived.Test.YtlhmfgbaefaneaaGreatDoorLCalNew02
import Derived.Test.YtlhmfgbaefaneaaGreatDoorLCalNew03
import Derived.Test.YtlhmfgbaefaneaaGreatDoorLaw6Facts
namespace Go.Proofs.YtlhmfgbaefaneaaGreatDoor.law6
open Go.ChangeShapes Go.WideShapes Go.RowKit
open Go.ChangeMaps (open_string shut_string)
set_option maxRecDepth 100000 in
theorem calNew_lifted (os : Os) (started : os.Started) (H : Type) (enc : TypeId × Value → H) :
    ReturnsInHanded {} Tryz.checked os 10 .any (fun w args => (Rows.calNewSpec.pre enc Tryz.prog Tryz.f10 [] false w args ∧ laidMetH Tryz.prog Rows.calNewRow.laid w) ∧ sizedMet enc Tryz.prog Tryz.f10 (OpenSpec.ofChange Rows.calNewSpec) false w args)
      (Rows.calNewSpec.post enc Tryz.prog Tryz.f10 false true false false) := by
  refine returnsInHanded_of_change_and (C := Tryz.checked) (X := fun w _ => laidMetH Tryz.prog Rows.calNewRow.laid w) (fun _ _ _ hh h => h.of_heap hh) own started (by kernel_rfl) Tryz.func10
    (ChangeSpec.witness_at (enc := enc) (C := Tryz.checked) (os := os) (X := fun w _ => laidMetH Tryz.prog Rows.calNewRow.laid w) false (laidWorld os) #[.slice none 0 0, .slice none 0 0] 8 (laidWorld_os os) (laid_vars os _) (laid_rest os _) (by kernel_rfl) (by kernel_rfl) (by kernel_rfl) (laidWorld_met os _)) ?_
  intro W base args ds gs before hval0 hW _ hsz hL _
  have hval : ∀ (j : Nat) t v, Tryz.f10.params[j]? = some t → args[j]? = some v → Value.okWide Tryz.prog W .any base t v := hval0
  have hW' := hW
  obtain ⟨p, q, hA00, hV0, rfl, hfz, hnd⟩ := hW
  have hlt : ∀ x ∈ p, x.block < W.heap.size := fun x hx => hW'.lt x (List.mem_append_left _ hx)
  have hstay : ∃ ps, ∀ W', Below W.heap.size W W' → DataW.TrodAll enc Tryz.prog W' 0 (fun b => decide (b < W.heap.size)) true Tryz.f10.params.toList args.toList ds ps :=
    ⟨p, fun W' hb => args_stay (by rw [Tryz.params10]; simp) hA00 hlt hb⟩
  have hA0 : DataW.TrodAll enc Tryz.prog W 0 (fun _ => true) true Tryz.f10.params.toList args.toList ds p := hA00
  have hV : DataW.TrodVars enc Tryz.prog W (fun _ => true) [] gs q := hV0
  rw [Tryz.params10] at hA0 hval hsz
  obtain ⟨v0, w0, d0, e0, p0, q0, g0, rfl, rfl, h0, hA1⟩ := trodAll_cons hA0
  obtain ⟨v1, w1, d1, e1, p1, q1, g1, rfl, rfl, h1, hA2⟩ := trodAll_cons hA1
  obtain ⟨g2, rfl, rfl⟩ := trodAll_nil hA2
  obtain rfl : args = #[v0, v1] := by cases args; simp_all
  obtain ⟨a0, r0, ao0, k0, rfl, kl0⟩ := rules_in (hval 0 53 v0 rfl rfl) h0 (fun es ss hd => long_of (sized_slice hsz (j := 0) (t := 53) rfl (by rw [hd]; rfl) Tryz.underlying53) (by kernel_rfl))
  obtain ⟨a1, r1, ao1, k1, rfl, kl1⟩ := ints_in (hval 1 54 v1 rfl rfl) h1 (fun es ss hd => long_of (sized_slice hsz (j := 1) (t := 54) rfl (by rw [hd]; rfl) Tryz.underlying54) (by kernel_rfl))
  have hL' : laidMet Tryz.prog laidL W ∧ handlesMet Tryz.prog [("errors.errorType", Rows.laid_errors_errorType)] W := hL
  have hg := wd_of hL'.1 hL'.2
  obtain ⟨rfl, rfl⟩ : gs = [] ∧ q = [] := by
    cases gs with
    | nil => exact ⟨rfl, hV⟩
    | cons g r => exact absurd hV (by intro h; cases h)
  have e1 : Rows.calNewSpec.fn H ([d0, d1] ++ []) = { results := [.lit (.bool true)], args := [d0, d1] } := by simp [Rows.calNewSpec]
  refine (CalNew_walk begun_all cal.cal_c ao0 ao1 a0.length k0 a1.length k1 a0 a1 kl0 kl1 W hg r0 r1).mono fun e W' ⟨he, hb⟩ => ?_
  subst he
  obtain ⟨ps, hs⟩ := hstay
  refine ⟨_, rfl, _, _, _, [], ps, [], hW', ?_, ?_, ?_, hb.frame _, fun h => by cases h⟩
  · rw [e1]; exact trodAll_mk1 (shut_bool Tryz.underlying4 true)
  · rw [e1]; exact hs W' hb
  · rw [e1]; rfl
theorem calNew_c0 : (Rows.calNewRow.wf (OpenSpec.ofChange Rows.calNewSpec)) = true := by kernel_rfl
theorem calNew_c3 : (Tryz.f10.params.all (Tryz.prog.readableRec ·)) = true := by kernel_rfl
theorem calNew_c4 : (namedTie Tryz.prog Rows.calNewRow.named Rows.calNewSpec.vars) = true := by kernel_rfl
theorem calNew_c5 : ((Rows.calNewRow.stops == [])) = true := by kernel_rfl
theorem calNew_c7 : ((Rows.calNewRow.knobs == [])) = true := by kernel_rfl
theorem calNew_c9 : ((Rows.calNewRow.inPlace == Tryz.prog.inPlace 10)) = true := by kernel_rfl
theorem calNew_c10 : ((Rows.calNewRow.unfollowed == Tryz.prog.unfollowed 10)) = true := by kernel_rfl
theorem calNew_c11 : ((Rows.calNewRow.recurses == Tryz.prog.recurses 10)) = true := by kernel_rfl
theorem calNew_c12 : ((Rows.calNewRow.named == Tryz.prog.varsNamed 10)) = true := by kernel_rfl
theorem calNew_c13 : ((Rows.calNewRow.maps == (Tryz.f10.params.toList ++ Rows.calNewSpec.plain.varTypes Tryz.prog).any (Tryz.prog.mapsRec ·))) = true := by kernel_rfl
theorem calNew_c14 : ((Rows.calNewRow.ifaces == (Tryz.f10.params.toList ++ Rows.calNewSpec.plain.varTypes Tryz.prog).any (Tryz.prog.ifacesRec ·))) = true := by kernel_rfl
theorem calNew_c15 : ((Rows.calNewRow.mapsOut == Tryz.prog.mapsAmong Tryz.f10.resultTypes.toList)) = true := by kernel_rfl
theorem calNew_c16 : ((Rows.calNewRow.loops == (Tryz.f10.params.toList ++ Rows.calNewSpec.plain.varTypes Tryz.prog).any (Tryz.prog.loopsFrom ·))) = true := by kernel_rfl
theorem calNew_c17 : ((Rows.calNewRow.wideKeys == (Tryz.f10.params.toList ++ Rows.calNewSpec.plain.varTypes Tryz.prog ++ Tryz.f10.resultTypes.toList).any (Tryz.prog.wideKeysFrom ·))) = true := by kernel_rfl
theorem calNew_c18 : (Rows.calNewSpec.vars.all (Tryz.prog.varReadable ·)) = true := by kernel_rfl
theorem calNew_c19 : (Tryz.f10.resultTypes.all (fun t => Tryz.prog.readableRec t && decide (t < Tryz.prog.types.size))) = true := by kernel_rfl
theorem calNew_c20 : ((Rows.calNewRow.ifacesOut == Tryz.f10.resultTypes.toList.any (Tryz.prog.ifacesRec ·))) = true := by kernel_rfl
theorem calNew_c21 : ((Rows.calNewRow.loopsOut == Tryz.f10.resultTypes.toList.any (Tryz.prog.loopsFrom ·))) = true := by kernel_rfl
theorem calNew_c23 : (Rows.calNewRow.shortTexts.isNone) = true := by kernel_rfl
theorem calNew_c28 : ((Rows.calNewRow.kinds == (if Rows.calNewRow.domain.isEmpty then [] else Tryz.f10.params.toList.map fun t => match Tryz.prog.underlying t with | some (.int k) => some k | _ => none))) = true := by kernel_rfl
theorem calNew_c29 : ((Rows.calNewRow.pinned == Rows.calNewRow.pinnedBy)) = true := by kernel_rfl
theorem calNew_c30 : ((Rows.calNewRow.veiled == (Tryz.f10.params.toList ++ Rows.calNewSpec.plain.varTypes Tryz.prog ++ Tryz.f10.resultTypes.toList).any (Tryz.prog.veiledRec ·))) = true := by kernel_rfl
theorem calNew_c31 : (Rows.calNewRow.veiledFits Tryz.prog Tryz.f10.params.toList (Tryz.f10.params.toList ++ Rows.calNewSpec.plain.varTypes Tryz.prog ++ Tryz.f10.resultTypes.toList)) = true := by kernel_rfl
set_option maxRecDepth 100000 in
theorem calNew_facts : joinedFacts Tryz.prog 10 Tryz.f10 Rows.calNewSpec Rows.calNewRow = true := by
  unfold joinedFacts
  exact band (band (band (band (band (band (band (band (band (band (band (band (band (band (band (band (band (band (band (band (band (band (band (band (band (band (band (band (band (band (band calNew_c0 fact_c1) fact_c2) calNew_c3) calNew_c4) calNew_c5) fact_c6) calNew_c7) fact_c8) calNew_c9) calNew_c10) calNew_c11) calNew_c12) calNew_c13) calNew_c14) calNew_c15) calNew_c16) calNew_c17) calNew_c18) calNew_c19) calNew_c20) calNew_c21) fact_c22) calNew_c23) fact_c24) fact_c25) fact_c26) fact_c27) calNew_c28) calNew_c29) calNew_c30) calNew_c31
theorem calNew_goes : false = Rows.calNewRow.goesBy Tryz.prog := by kernel_rfl
theorem calNew_holds : Rows.CalNewSaid :=
  OpenClaim.holds_of_wide 10 Tryz.f10 rfl rfl rfl rfl rfl rfl rfl ⟨rfl, rfl, rfl, rfl, rfl⟩ rfl rfl rfl rfl rfl (by kernel_rfl) Tryz.func10 calNew_facts
    (of_decide_eq_true (by kernel_rfl)) (by unfold Func.isWrapper; rw [if_neg (of_decide_eq_false (by kernel_rfl))]; exact ⟨rfl, rfl⟩)
    (fun os started H enc _ => calNew_lifted os started H enc)
theorem calNew_plain (f : FuncId) (fn : Func) (hf : Tryz.pinned.checked.prog.funcNamed "rentier/rentierlaw6.CalNew" = some f) (hfn : Tryz.pinned.checked.prog.funcs[f]? = some fn) :
    true = Tryz.pinned.checked.prog.looks [] ∧ ∀ (j : Nat) t, fn.params[j]? = some t → Tryz.pinned.checked.prog.wantsStandIn t = false := by
  obtain rfl : f = 10 := Option.some.inj ((show Tryz.prog.funcNamed "rentier/rentierlaw6.CalNew" = some 10 by kernel_rfl).symm.trans hf) |>.symm
  obtain rfl : fn = Tryz.f10 := (Option.some.inj (Tryz.func10.symm.trans hfn)).symm
  refine ⟨by kernel_rfl, fun j t ht => ?_⟩
  rw [Tryz.params10] at ht
  have hm := Array.mem_of_getElem? ht
  simp at hm
  have t_R : Tryz.pinned.checked.prog.wantsStandIn 53 = false := by kernel_rfl
  have t_L : Tryz.pinned.checked.prog.wantsStandIn 54 = false := by kernel_rfl
  rcases hm with rfl | rfl <;> first | with_reducible exact t_R | with_reducible exact t_L
theorem calNew_card : Rows.CalNewCardSaid :=
  Claim7.holds_tied_plain_at .later [] _ _ _ _ (calNew_holds) (fun _ h => by cases h) (by kernel_rfl) (fun _ h => by cases h) calNew_row_tie rfl ⟨rfl, rfl⟩ (by kernel_rfl) rfl calNew_plain calNew_goes
end Go.Proofs.YtlhmfgbaefaneaaGreatDoor.law6
