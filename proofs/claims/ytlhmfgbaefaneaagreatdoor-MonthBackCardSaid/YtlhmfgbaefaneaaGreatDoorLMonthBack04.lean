/-
  The steps of the walks, part 4: C6MonthBack.
-/
import Derived.Test.YtlhmfgbaefaneaaGreatDoorTie
import Derived.Test.YtlhmfgbaefaneaaGreatDoorCards
import Derived.ProofKit
import Derived.Carry
import Derived.OpenShut
import Derived.SizedLaws
import Derived.Test.YtlhmfgbaefaneaaGreatDoorB01
import Derived.Test.YtlhmfgbaefaneaaGreatDoorB02
import Derived.Test.YtlhmfgbaefaneaaGreatDoorB03
import Derived.Test.YtlhmfgbaefaneaaGreatDoorB04
import Derived.Test.YtlhmfgbaefaneaaGreatDoorB05
import Derived.Test.YtlhmfgbaefaneaaGreatDoorB06
import Derived.Test.YtlhmfgbaefaneaaGreatDoorB07
import Derived.Test.YtlhmfgbaefaneaaGreatDoorB08
import Derived.Test.YtlhmfgbaefaneaaGreatDoorB09
import Derived.Test.YtlhmfgbaefaneaaGreatDoorB10
import Derived.Test.YtlhmfgbaefaneaaGreatDoorB11
import Derived.Test.YtlhmfgbaefaneaaGreatDoorB12
import Derived.Test.YtlhmfgbaefaneaaGreatDoorB13
import Derived.Test.YtlhmfgbaefaneaaGreatDoorB14
import Derived.Test.YtlhmfgbaefaneaaGreatDoorB15
import Derived.Test.YtlhmfgbaefaneaaGreatDoorB16
import Derived.Test.YtlhmfgbaefaneaaGreatDoorB17
import Derived.Test.YtlhmfgbaefaneaaGreatDoorB18
import Derived.Test.YtlhmfgbaefaneaaGreatDoorB19
import Derived.Test.YtlhmfgbaefaneaaGreatDoorB20
import Derived.Test.YtlhmfgbaefaneaaGreatDoorB21
import Derived.Test.YtlhmfgbaefaneaaGreatDoorB22
import Derived.Test.YtlhmfgbaefaneaaGreatDoorLMonthBack02
import Derived.Test.YtlhmfgbaefaneaaGreatDoorLMonthBack03
import Derived.Test.YtlhmfgbaefaneaaGreatDoorLaw6Facts
namespace Go.Proofs.YtlhmfgbaefaneaaGreatDoor.law6
open Go.ChangeShapes Go.WideShapes Go.RowKit
open Go.ChangeMaps (open_string shut_string)
set_option maxRecDepth 100000 in
theorem monthBack_lifted (os : Os) (started : os.Started) (H : Type) (enc : TypeId × Value → H) :
    ReturnsInHanded {} Tryz.checked os 7 .any (fun w args => (Rows.monthBackSpec.pre enc Tryz.prog Tryz.f7 [] false w args ∧ laidMetH Tryz.prog Rows.monthBackRow.laid w) ∧ sizedMet enc Tryz.prog Tryz.f7 (OpenSpec.ofChange Rows.monthBackSpec) false w args)
      (Rows.monthBackSpec.post enc Tryz.prog Tryz.f7 false true false false) := by
  refine returnsInHanded_of_change_and (C := Tryz.checked) (X := fun w _ => laidMetH Tryz.prog Rows.monthBackRow.laid w) (fun _ _ _ hh h => h.of_heap hh) own started (by kernel_rfl) Tryz.func7
    (ChangeSpec.witness_at (enc := enc) (C := Tryz.checked) (os := os) (X := fun w _ => laidMetH Tryz.prog Rows.monthBackRow.laid w) false (laidWorld os) #[.int .i64 0, .int .i64 0, .bool false] 8 (laidWorld_os os) (laid_vars os _) (laid_rest os _) (by kernel_rfl) (by kernel_rfl) (by kernel_rfl) (laidWorld_met os _)) ?_
  intro W base args ds gs before hval0 hW _ hsz hL _
  have hval : ∀ (j : Nat) t v, Tryz.f7.params[j]? = some t → args[j]? = some v → Value.okWide Tryz.prog W .any base t v := hval0
  have hW' := hW
  obtain ⟨p, q, hA00, hV0, rfl, hfz, hnd⟩ := hW
  have hlt : ∀ x ∈ p, x.block < W.heap.size := fun x hx => hW'.lt x (List.mem_append_left _ hx)
  have hstay : ∃ ps, ∀ W', Below W.heap.size W W' → DataW.TrodAll enc Tryz.prog W' 0 (fun b => decide (b < W.heap.size)) true Tryz.f7.params.toList args.toList ds ps :=
    ⟨p, fun W' hb => args_stay (by rw [Tryz.params7]; simp) hA00 hlt hb⟩
  have hA0 : DataW.TrodAll enc Tryz.prog W 0 (fun _ => true) true Tryz.f7.params.toList args.toList ds p := hA00
  have hV : DataW.TrodVars enc Tryz.prog W (fun _ => true) [] gs q := hV0
  rw [Tryz.params7] at hA0 hval hsz
  obtain ⟨v0, w0, d0, e0, p0, q0, g0, rfl, rfl, h0, hA1⟩ := trodAll_cons hA0
  obtain ⟨v1, w1, d1, e1, p1, q1, g1, rfl, rfl, h1, hA2⟩ := trodAll_cons hA1
  obtain ⟨v2, w2, d2, e2, p2, q2, g2, rfl, rfl, h2, hA3⟩ := trodAll_cons hA2
  obtain ⟨g3, rfl, rfl⟩ := trodAll_nil hA3
  obtain rfl : args = #[v0, v1, v2] := by cases args; simp_all
  obtain ⟨a0, rfl, rfl, rfl, u0⟩ := open_int Tryz.underlying3 (hval 0 3 v0 rfl rfl) h0
  obtain ⟨a1, rfl, rfl, rfl, u1⟩ := open_int Tryz.underlying3 (hval 1 3 v1 rfl rfl) h1
  obtain ⟨a2, rfl, rfl, rfl⟩ := open_bool Tryz.underlying4 (hval 2 4 v2 rfl rfl) h2
  have y0 := bounds_i64 u0
  have y1 := bounds_i64 u1
  have hL' : laidMet Tryz.prog laidL W ∧ handlesMet Tryz.prog [("errors.errorType", Rows.laid_errors_errorType)] W := hL
  have hg := wd_of hL'.1 hL'.2
  obtain ⟨rfl, rfl⟩ : gs = [] ∧ q = [] := by
    cases gs with
    | nil => exact ⟨rfl, hV⟩
    | cons g r => exact absurd hV (by intro h; cases h)
  have e1 : Rows.monthBackSpec.fn H ([.lit (.int .i64 a0), .lit (.int .i64 a1), .lit (.bool a2)] ++ []) = { results := [.lit (.bool true)], args := [.lit (.int .i64 a0), .lit (.int .i64 a1), .lit (.bool a2)] } := by simp [Rows.monthBackSpec]
  refine (MonthBack_walk begun_all month.mon_c a0 y0.1 (by omega) a1 y1.1 (by omega) a2 W hg).mono fun e W' ⟨he, hb⟩ => ?_
  subst he
  obtain ⟨ps, hs⟩ := hstay
  refine ⟨_, rfl, _, _, _, [], ps, [], hW', ?_, ?_, ?_, hb.frame _, fun h => by cases h⟩
  · rw [e1]; exact trodAll_mk1 (shut_bool Tryz.underlying4 true)
  · rw [e1]; exact hs W' hb
  · rw [e1]; rfl
theorem monthBack_c0 : (Rows.monthBackRow.wf (OpenSpec.ofChange Rows.monthBackSpec)) = true := by kernel_rfl
theorem monthBack_c3 : (Tryz.f7.params.all (Tryz.prog.readableRec ·)) = true := by kernel_rfl
theorem monthBack_c4 : (namedTie Tryz.prog Rows.monthBackRow.named Rows.monthBackSpec.vars) = true := by kernel_rfl
theorem monthBack_c5 : ((Rows.monthBackRow.stops == [])) = true := by kernel_rfl
theorem monthBack_c7 : ((Rows.monthBackRow.knobs == [])) = true := by kernel_rfl
theorem monthBack_c9 : ((Rows.monthBackRow.inPlace == Tryz.prog.inPlace 7)) = true := by kernel_rfl
theorem monthBack_c10 : ((Rows.monthBackRow.unfollowed == Tryz.prog.unfollowed 7)) = true := by kernel_rfl
theorem monthBack_c11 : ((Rows.monthBackRow.recurses == Tryz.prog.recurses 7)) = true := by kernel_rfl
theorem monthBack_c12 : ((Rows.monthBackRow.named == Tryz.prog.varsNamed 7)) = true := by kernel_rfl
theorem monthBack_c13 : ((Rows.monthBackRow.maps == (Tryz.f7.params.toList ++ Rows.monthBackSpec.plain.varTypes Tryz.prog).any (Tryz.prog.mapsRec ·))) = true := by kernel_rfl
theorem monthBack_c14 : ((Rows.monthBackRow.ifaces == (Tryz.f7.params.toList ++ Rows.monthBackSpec.plain.varTypes Tryz.prog).any (Tryz.prog.ifacesRec ·))) = true := by kernel_rfl
theorem monthBack_c15 : ((Rows.monthBackRow.mapsOut == Tryz.prog.mapsAmong Tryz.f7.resultTypes.toList)) = true := by kernel_rfl
theorem monthBack_c16 : ((Rows.monthBackRow.loops == (Tryz.f7.params.toList ++ Rows.monthBackSpec.plain.varTypes Tryz.prog).any (Tryz.prog.loopsFrom ·))) = true := by kernel_rfl
theorem monthBack_c17 : ((Rows.monthBackRow.wideKeys == (Tryz.f7.params.toList ++ Rows.monthBackSpec.plain.varTypes Tryz.prog ++ Tryz.f7.resultTypes.toList).any (Tryz.prog.wideKeysFrom ·))) = true := by kernel_rfl
theorem monthBack_c18 : (Rows.monthBackSpec.vars.all (Tryz.prog.varReadable ·)) = true := by kernel_rfl
theorem monthBack_c19 : (Tryz.f7.resultTypes.all (fun t => Tryz.prog.readableRec t && decide (t < Tryz.prog.types.size))) = true := by kernel_rfl
theorem monthBack_c20 : ((Rows.monthBackRow.ifacesOut == Tryz.f7.resultTypes.toList.any (Tryz.prog.ifacesRec ·))) = true := by kernel_rfl
theorem monthBack_c21 : ((Rows.monthBackRow.loopsOut == Tryz.f7.resultTypes.toList.any (Tryz.prog.loopsFrom ·))) = true := by kernel_rfl
theorem monthBack_c23 : (Rows.monthBackRow.shortTexts.isNone) = true := by kernel_rfl
theorem monthBack_c28 : ((Rows.monthBackRow.kinds == (if Rows.monthBackRow.domain.isEmpty then [] else Tryz.f7.params.toList.map fun t => match Tryz.prog.underlying t with | some (.int k) => some k | _ => none))) = true := by kernel_rfl
theorem monthBack_c29 : ((Rows.monthBackRow.pinned == Rows.monthBackRow.pinnedBy)) = true := by kernel_rfl
theorem monthBack_c30 : ((Rows.monthBackRow.veiled == (Tryz.f7.params.toList ++ Rows.monthBackSpec.plain.varTypes Tryz.prog ++ Tryz.f7.resultTypes.toList).any (Tryz.prog.veiledRec ·))) = true := by kernel_rfl
theorem monthBack_c31 : (Rows.monthBackRow.veiledFits Tryz.prog Tryz.f7.params.toList (Tryz.f7.params.toList ++ Rows.monthBackSpec.plain.varTypes Tryz.prog ++ Tryz.f7.resultTypes.toList)) = true := by kernel_rfl
set_option maxRecDepth 100000 in
theorem monthBack_facts : joinedFacts Tryz.prog 7 Tryz.f7 Rows.monthBackSpec Rows.monthBackRow = true := by
  unfold joinedFacts
  exact band (band (band (band (band (band (band (band (band (band (band (band (band (band (band (band (band (band (band (band (band (band (band (band (band (band (band (band (band (band (band monthBack_c0 fact_c1) fact_c2) monthBack_c3) monthBack_c4) monthBack_c5) fact_c6) monthBack_c7) fact_c8) monthBack_c9) monthBack_c10) monthBack_c11) monthBack_c12) monthBack_c13) monthBack_c14) monthBack_c15) monthBack_c16) monthBack_c17) monthBack_c18) monthBack_c19) monthBack_c20) monthBack_c21) fact_c22) monthBack_c23) fact_c24) fact_c25) fact_c26) fact_c27) monthBack_c28) monthBack_c29) monthBack_c30) monthBack_c31
theorem monthBack_goes : false = Rows.monthBackRow.goesBy Tryz.prog := by kernel_rfl
theorem monthBack_holds : Rows.MonthBackSaid :=
  OpenClaim.holds_of_wide 7 Tryz.f7 rfl rfl rfl rfl rfl rfl rfl ⟨rfl, rfl, rfl, rfl, rfl⟩ rfl rfl rfl rfl rfl (by kernel_rfl) Tryz.func7 monthBack_facts
    (of_decide_eq_true (by kernel_rfl)) (by unfold Func.isWrapper; rw [if_neg (of_decide_eq_false (by kernel_rfl))]; exact ⟨rfl, rfl⟩)
    (fun os started H enc _ => monthBack_lifted os started H enc)
theorem monthBack_plain (f : FuncId) (fn : Func) (hf : Tryz.pinned.checked.prog.funcNamed "rentier/rentierlaw6.MonthBack" = some f) (hfn : Tryz.pinned.checked.prog.funcs[f]? = some fn) :
    true = Tryz.pinned.checked.prog.looks [] ∧ ∀ (j : Nat) t, fn.params[j]? = some t → Tryz.pinned.checked.prog.wantsStandIn t = false := by
  obtain rfl : f = 7 := Option.some.inj ((show Tryz.prog.funcNamed "rentier/rentierlaw6.MonthBack" = some 7 by kernel_rfl).symm.trans hf) |>.symm
  obtain rfl : fn = Tryz.f7 := (Option.some.inj (Tryz.func7.symm.trans hfn)).symm
  refine ⟨by kernel_rfl, fun j t ht => ?_⟩
  rw [Tryz.params7] at ht
  have hm := Array.mem_of_getElem? ht
  simp at hm
  have t_i : Tryz.pinned.checked.prog.wantsStandIn 3 = false := by kernel_rfl
  have t_b : Tryz.pinned.checked.prog.wantsStandIn 4 = false := by kernel_rfl
  rcases hm with rfl | rfl <;> first | with_reducible exact t_i | with_reducible exact t_b
theorem monthBack_card : Rows.MonthBackCardSaid :=
  Claim7.holds_tied_plain_at .later [] _ _ _ _ (monthBack_holds) (fun _ h => by cases h) (by kernel_rfl) (fun _ h => by cases h) monthBack_row_tie rfl ⟨rfl, rfl⟩ (by kernel_rfl) rfl monthBack_plain monthBack_goes
end Go.Proofs.YtlhmfgbaefaneaaGreatDoor.law6
