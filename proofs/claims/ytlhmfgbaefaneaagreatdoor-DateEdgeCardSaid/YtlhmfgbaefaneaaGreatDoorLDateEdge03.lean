/-
  The steps of the walks, part 3: C6DateEdge.
-/
import Derived.Test.YtlhmfgbaefaneaaGreatDoorTie
import Derived.Test.YtlhmfgbaefaneaaGreatDoorCards
import Derived.ProofKit
import Derived.Carry
import Derived.OpenShut
import Derived.SizedLaws
import Derived.Test.YtlhmfgbaefaneaaGreatDoorB01
import Derived.Test.YtlhmfgbaefaneaaGreatDoorB02
import Derived.Test.YtlhmfgbaefaneaaGreatDoorB03
import Derived.Test.YtlhmfgbaefaneaaGreatDoorB04
import Derived.Test.YtlhmfgbaefaneaaGreatDoorB05
import Derived.Test.YtlhmfgbaefaneaaGreatDoorB06
import Derived.Test.YtlhmfgbaefaneaaGreatDoorB07
import Derived.Test.YtlhmfgbaefaneaaGreatDoorB08
import Derived.Test.YtlhmfgbaefaneaaGreatDoorB09
import Derived.Test.YtlhmfgbaefaneaaGreatDoorB10
import Derived.Test.YtlhmfgbaefaneaaGreatDoorB11
import Derived.Test.YtlhmfgbaefaneaaGreatDoorB12
import Derived.Test.YtlhmfgbaefaneaaGreatDoorB13
import Derived.Test.YtlhmfgbaefaneaaGreatDoorB14
import Derived.Test.YtlhmfgbaefaneaaGreatDoorB15
import Derived.Test.YtlhmfgbaefaneaaGreatDoorB16
import Derived.Test.YtlhmfgbaefaneaaGreatDoorB17
import Derived.Test.YtlhmfgbaefaneaaGreatDoorB18
import Derived.Test.YtlhmfgbaefaneaaGreatDoorB19
import Derived.Test.YtlhmfgbaefaneaaGreatDoorB20
import Derived.Test.YtlhmfgbaefaneaaGreatDoorB21
import Derived.Test.YtlhmfgbaefaneaaGreatDoorB22
import Derived.Test.YtlhmfgbaefaneaaGreatDoorLDateEdge01
import Derived.Test.YtlhmfgbaefaneaaGreatDoorLDateEdge02
import Derived.Test.YtlhmfgbaefaneaaGreatDoorLaw6Facts
namespace Go.Proofs.YtlhmfgbaefaneaaGreatDoor.law6
open Go.ChangeShapes Go.WideShapes Go.RowKit
open Go.ChangeMaps (open_string shut_string)
set_option maxRecDepth 100000 in
theorem dateEdge_lifted (os : Os) (started : os.Started) (H : Type) (enc : TypeId × Value → H) :
    ReturnsInHanded {} Tryz.checked os 4 .any (fun w args => (Rows.dateEdgeSpec.pre enc Tryz.prog Tryz.f4 [] false w args ∧ laidMetH Tryz.prog Rows.dateEdgeRow.laid w) ∧ sizedMet enc Tryz.prog Tryz.f4 (OpenSpec.ofChange Rows.dateEdgeSpec) false w args)
      (Rows.dateEdgeSpec.post enc Tryz.prog Tryz.f4 false true false false) := by
  refine returnsInHanded_of_change_and (C := Tryz.checked) (X := fun w _ => laidMetH Tryz.prog Rows.dateEdgeRow.laid w) (fun _ _ _ hh h => h.of_heap hh) own started (by kernel_rfl) Tryz.func4
    (ChangeSpec.witness_at (enc := enc) (C := Tryz.checked) (os := os) (X := fun w _ => laidMetH Tryz.prog Rows.dateEdgeRow.laid w) false (laidWorld os) #[.int .i64 0, .int .i64 0, .int .i64 0] 8 (laidWorld_os os) (laid_vars os _) (laid_rest os _) (by kernel_rfl) (by kernel_rfl) (by kernel_rfl) (laidWorld_met os _)) ?_
  intro W base args ds gs before hval0 hW _ hsz hL _
  have hval : ∀ (j : Nat) t v, Tryz.f4.params[j]? = some t → args[j]? = some v → Value.okWide Tryz.prog W .any base t v := hval0
  have hW' := hW
  obtain ⟨p, q, hA00, hV0, rfl, hfz, hnd⟩ := hW
  have hlt : ∀ x ∈ p, x.block < W.heap.size := fun x hx => hW'.lt x (List.mem_append_left _ hx)
  have hstay : ∃ ps, ∀ W', Below W.heap.size W W' → DataW.TrodAll enc Tryz.prog W' 0 (fun b => decide (b < W.heap.size)) true Tryz.f4.params.toList args.toList ds ps :=
    ⟨p, fun W' hb => args_stay (by rw [Tryz.params4]; simp) hA00 hlt hb⟩
  have hA0 : DataW.TrodAll enc Tryz.prog W 0 (fun _ => true) true Tryz.f4.params.toList args.toList ds p := hA00
  have hV : DataW.TrodVars enc Tryz.prog W (fun _ => true) [] gs q := hV0
  rw [Tryz.params4] at hA0 hval hsz
  obtain ⟨v0, w0, d0, e0, p0, q0, g0, rfl, rfl, h0, hA1⟩ := trodAll_cons hA0
  obtain ⟨v1, w1, d1, e1, p1, q1, g1, rfl, rfl, h1, hA2⟩ := trodAll_cons hA1
  obtain ⟨v2, w2, d2, e2, p2, q2, g2, rfl, rfl, h2, hA3⟩ := trodAll_cons hA2
  obtain ⟨g3, rfl, rfl⟩ := trodAll_nil hA3
  obtain rfl : args = #[v0, v1, v2] := by cases args; simp_all
  obtain ⟨a0, rfl, rfl, rfl, u0⟩ := open_int Tryz.underlying3 (hval 0 3 v0 rfl rfl) h0
  obtain ⟨a1, rfl, rfl, rfl, u1⟩ := open_int Tryz.underlying3 (hval 1 3 v1 rfl rfl) h1
  obtain ⟨a2, rfl, rfl, rfl, u2⟩ := open_int Tryz.underlying3 (hval 2 3 v2 rfl rfl) h2
  have y0 := bounds_i64 u0
  have y1 := bounds_i64 u1
  have y2 := bounds_i64 u2
  have hL' : laidMet Tryz.prog laidL W ∧ handlesMet Tryz.prog [("errors.errorType", Rows.laid_errors_errorType)] W := hL
  have hg := wd_of hL'.1 hL'.2
  obtain ⟨rfl, rfl⟩ : gs = [] ∧ q = [] := by
    cases gs with
    | nil => exact ⟨rfl, hV⟩
    | cons g r => exact absurd hV (by intro h; cases h)
  have e1 : Rows.dateEdgeSpec.fn H ([.lit (.int .i64 a0), .lit (.int .i64 a1), .lit (.int .i64 a2)] ++ []) = { results := [.lit (.bool true)], args := [.lit (.int .i64 a0), .lit (.int .i64 a1), .lit (.int .i64 a2)] } := by simp [Rows.dateEdgeSpec]
  refine (DateEdge_walk begun_all a0 y0.1 (by omega) a1 a2 W hg).mono fun e W' ⟨he, hb⟩ => ?_
  subst he
  obtain ⟨ps, hs⟩ := hstay
  refine ⟨_, rfl, _, _, _, [], ps, [], hW', ?_, ?_, ?_, hb.frame _, fun h => by cases h⟩
  · rw [e1]; exact trodAll_mk1 (shut_bool Tryz.underlying4 true)
  · rw [e1]; exact hs W' hb
  · rw [e1]; rfl
theorem dateEdge_c0 : (Rows.dateEdgeRow.wf (OpenSpec.ofChange Rows.dateEdgeSpec)) = true := by kernel_rfl
theorem dateEdge_c3 : (Tryz.f4.params.all (Tryz.prog.readableRec ·)) = true := by kernel_rfl
theorem dateEdge_c4 : (namedTie Tryz.prog Rows.dateEdgeRow.named Rows.dateEdgeSpec.vars) = true := by kernel_rfl
theorem dateEdge_c5 : ((Rows.dateEdgeRow.stops == [])) = true := by kernel_rfl
theorem dateEdge_c7 : ((Rows.dateEdgeRow.knobs == [])) = true := by kernel_rfl
theorem dateEdge_c9 : ((Rows.dateEdgeRow.inPlace == Tryz.prog.inPlace 4)) = true := by kernel_rfl
theorem dateEdge_c10 : ((Rows.dateEdgeRow.unfollowed == Tryz.prog.unfollowed 4)) = true := by kernel_rfl
theorem dateEdge_c11 : ((Rows.dateEdgeRow.recurses == Tryz.prog.recurses 4)) = true := by kernel_rfl
theorem dateEdge_c12 : ((Rows.dateEdgeRow.named == Tryz.prog.varsNamed 4)) = true := by kernel_rfl
theorem dateEdge_c13 : ((Rows.dateEdgeRow.maps == (Tryz.f4.params.toList ++ Rows.dateEdgeSpec.plain.varTypes Tryz.prog).any (Tryz.prog.mapsRec ·))) = true := by kernel_rfl
theorem dateEdge_c14 : ((Rows.dateEdgeRow.ifaces == (Tryz.f4.params.toList ++ Rows.dateEdgeSpec.plain.varTypes Tryz.prog).any (Tryz.prog.ifacesRec ·))) = true := by kernel_rfl
theorem dateEdge_c15 : ((Rows.dateEdgeRow.mapsOut == Tryz.prog.mapsAmong Tryz.f4.resultTypes.toList)) = true := by kernel_rfl
theorem dateEdge_c16 : ((Rows.dateEdgeRow.loops == (Tryz.f4.params.toList ++ Rows.dateEdgeSpec.plain.varTypes Tryz.prog).any (Tryz.prog.loopsFrom ·))) = true := by kernel_rfl
theorem dateEdge_c17 : ((Rows.dateEdgeRow.wideKeys == (Tryz.f4.params.toList ++ Rows.dateEdgeSpec.plain.varTypes Tryz.prog ++ Tryz.f4.resultTypes.toList).any (Tryz.prog.wideKeysFrom ·))) = true := by kernel_rfl
theorem dateEdge_c18 : (Rows.dateEdgeSpec.vars.all (Tryz.prog.varReadable ·)) = true := by kernel_rfl
theorem dateEdge_c19 : (Tryz.f4.resultTypes.all (fun t => Tryz.prog.readableRec t && decide (t < Tryz.prog.types.size))) = true := by kernel_rfl
theorem dateEdge_c20 : ((Rows.dateEdgeRow.ifacesOut == Tryz.f4.resultTypes.toList.any (Tryz.prog.ifacesRec ·))) = true := by kernel_rfl
theorem dateEdge_c21 : ((Rows.dateEdgeRow.loopsOut == Tryz.f4.resultTypes.toList.any (Tryz.prog.loopsFrom ·))) = true := by kernel_rfl
theorem dateEdge_c23 : (Rows.dateEdgeRow.shortTexts.isNone) = true := by kernel_rfl
theorem dateEdge_c28 : ((Rows.dateEdgeRow.kinds == (if Rows.dateEdgeRow.domain.isEmpty then [] else Tryz.f4.params.toList.map fun t => match Tryz.prog.underlying t with | some (.int k) => some k | _ => none))) = true := by kernel_rfl
theorem dateEdge_c29 : ((Rows.dateEdgeRow.pinned == Rows.dateEdgeRow.pinnedBy)) = true := by kernel_rfl
theorem dateEdge_c30 : ((Rows.dateEdgeRow.veiled == (Tryz.f4.params.toList ++ Rows.dateEdgeSpec.plain.varTypes Tryz.prog ++ Tryz.f4.resultTypes.toList).any (Tryz.prog.veiledRec ·))) = true := by kernel_rfl
theorem dateEdge_c31 : (Rows.dateEdgeRow.veiledFits Tryz.prog Tryz.f4.params.toList (Tryz.f4.params.toList ++ Rows.dateEdgeSpec.plain.varTypes Tryz.prog ++ Tryz.f4.resultTypes.toList)) = true := by kernel_rfl
set_option maxRecDepth 100000 in
theorem dateEdge_facts : joinedFacts Tryz.prog 4 Tryz.f4 Rows.dateEdgeSpec Rows.dateEdgeRow = true := by
  unfold joinedFacts
  exact band (band (band (band (band (band (band (band (band (band (band (band (band (band (band (band (band (band (band (band (band (band (band (band (band (band (band (band (band (band (band dateEdge_c0 fact_c1) fact_c2) dateEdge_c3) dateEdge_c4) dateEdge_c5) fact_c6) dateEdge_c7) fact_c8) dateEdge_c9) dateEdge_c10) dateEdge_c11) dateEdge_c12) dateEdge_c13) dateEdge_c14) dateEdge_c15) dateEdge_c16) dateEdge_c17) dateEdge_c18) dateEdge_c19) dateEdge_c20) dateEdge_c21) fact_c22) dateEdge_c23) fact_c24) fact_c25) fact_c26) fact_c27) dateEdge_c28) dateEdge_c29) dateEdge_c30) dateEdge_c31
theorem dateEdge_goes : false = Rows.dateEdgeRow.goesBy Tryz.prog := by kernel_rfl
theorem dateEdge_holds : Rows.DateEdgeSaid :=
  OpenClaim.holds_of_wide 4 Tryz.f4 rfl rfl rfl rfl rfl rfl rfl ⟨rfl, rfl, rfl, rfl, rfl⟩ rfl rfl rfl rfl rfl (by kernel_rfl) Tryz.func4 dateEdge_facts
    (of_decide_eq_true (by kernel_rfl)) (by unfold Func.isWrapper; rw [if_neg (of_decide_eq_false (by kernel_rfl))]; exact ⟨rfl, rfl⟩)
    (fun os started H enc _ => dateEdge_lifted os started H enc)
theorem dateEdge_plain (f : FuncId) (fn : Func) (hf : Tryz.pinned.checked.prog.funcNamed "rentier/rentierlaw6.DateEdge" = some f) (hfn : Tryz.pinned.checked.prog.funcs[f]? = some fn) :
    true = Tryz.pinned.checked.prog.looks [] ∧ ∀ (j : Nat) t, fn.params[j]? = some t → Tryz.pinned.checked.prog.wantsStandIn t = false := by
  obtain rfl : f = 4 := Option.some.inj ((show Tryz.prog.funcNamed "rentier/rentierlaw6.DateEdge" = some 4 by kernel_rfl).symm.trans hf) |>.symm
  obtain rfl : fn = Tryz.f4 := (Option.some.inj (Tryz.func4.symm.trans hfn)).symm
  refine ⟨by kernel_rfl, fun j t ht => ?_⟩
  rw [Tryz.params4] at ht
  have hm := Array.mem_of_getElem? ht
  simp at hm
  have t_i : Tryz.pinned.checked.prog.wantsStandIn 3 = false := by kernel_rfl
  rcases hm with rfl
  exact t_i
theorem dateEdge_card : Rows.DateEdgeCardSaid :=
  Claim7.holds_tied_plain_at .later [] _ _ _ _ (dateEdge_holds) (fun _ h => by cases h) (by kernel_rfl) (fun _ h => by cases h) dateEdge_row_tie rfl ⟨rfl, rfl⟩ (by kernel_rfl) rfl dateEdge_plain dateEdge_goes
end Go.Proofs.YtlhmfgbaefaneaaGreatDoor.law6
