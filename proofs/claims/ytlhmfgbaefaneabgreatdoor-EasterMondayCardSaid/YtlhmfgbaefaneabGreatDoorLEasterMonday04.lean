/-
  The steps of the walks, part 4: C6EasterMonday.
-/
import Derived.Test.YtlhmfgbaefaneabGreatDoorTie
import Derived.Test.YtlhmfgbaefaneabGreatDoorCards
import Derived.ProofKit
import Derived.Carry
import Derived.OpenShut
import Derived.SizedLaws
import Derived.Test.YtlhmfgbaefaneabGreatDoorB01
import Derived.Test.YtlhmfgbaefaneabGreatDoorB02
import Derived.Test.YtlhmfgbaefaneabGreatDoorB03
import Derived.Test.YtlhmfgbaefaneabGreatDoorB04
import Derived.Test.YtlhmfgbaefaneabGreatDoorB05
import Derived.Test.YtlhmfgbaefaneabGreatDoorB06
import Derived.Test.YtlhmfgbaefaneabGreatDoorB07
import Derived.Test.YtlhmfgbaefaneabGreatDoorB08
import Derived.Test.YtlhmfgbaefaneabGreatDoorB09
import Derived.Test.YtlhmfgbaefaneabGreatDoorB10
import Derived.Test.YtlhmfgbaefaneabGreatDoorB11
import Derived.Test.YtlhmfgbaefaneabGreatDoorB12
import Derived.Test.YtlhmfgbaefaneabGreatDoorB13
import Derived.Test.YtlhmfgbaefaneabGreatDoorB14
import Derived.Test.YtlhmfgbaefaneabGreatDoorB15
import Derived.Test.YtlhmfgbaefaneabGreatDoorB16
import Derived.Test.YtlhmfgbaefaneabGreatDoorB17
import Derived.Test.YtlhmfgbaefaneabGreatDoorB18
import Derived.Test.YtlhmfgbaefaneabGreatDoorB19
import Derived.Test.YtlhmfgbaefaneabGreatDoorB20
import Derived.Test.YtlhmfgbaefaneabGreatDoorB21
import Derived.Test.YtlhmfgbaefaneabGreatDoorB22
import Derived.Test.YtlhmfgbaefaneabGreatDoorB23
import Derived.Test.YtlhmfgbaefaneabGreatDoorB24
import Derived.Test.YtlhmfgbaefaneabGreatDoorB25
import Derived.Test.YtlhmfgbaefaneabGreatDoorB26
import Derived.Test.YtlhmfgbaefaneabGreatDoorB27
import Derived.Test.YtlhmfgbaefaneabGreatDoorB28
import Derived.Test.YtlhmfgbaefaneabGreatDoorB29
import Derived.Test.YtlhmfgbaefaneabGreatDoorB30
import Derived.Test.YtlhmfgbaefaneabGreatDoorB31
import Derived.Test.YtlhmfgbaefaneabGreatDoorB32
import Derived.Test.YtlhmfgbaefaneabGreatDoorB33
import Derived.Test.YtlhmfgbaefaneabGreatDoorB34
import Derived.Test.YtlhmfgbaefaneabGreatDoorB35
import Derived.Test.YtlhmfgbaefaneabGreatDoorB36
import Derived.Test.YtlhmfgbaefaneabGreatDoorB37
import Derived.Test.YtlhmfgbaefaneabGreatDoorB38
import Derived.Test.YtlhmfgbaefaneabGreatDoorB39
import Derived.Test.YtlhmfgbaefaneabGreatDoorB40
import Derived.Test.YtlhmfgbaefaneabGreatDoorLEasterMonday01
import Derived.Test.YtlhmfgbaefaneabGreatDoorLEasterMonday02
import Derived.Test.YtlhmfgbaefaneabGreatDoorLEasterMonday03
import Derived.Test.YtlhmfgbaefaneabGreatDoorLaw6Facts
namespace Go.Proofs.YtlhmfgbaefaneabGreatDoor.law6
open Go.ChangeShapes Go.WideShapes Go.RowKit
open Go.ChangeMaps (open_string shut_string)
set_option maxRecDepth 100000 in
theorem easterMonday_lifted (os : Os) (started : os.Started) (H : Type) (enc : TypeId × Value → H) :
    ReturnsInHanded {} Tryz.checked os 9 .any (fun w args => (Rows.easterMondaySpec.pre enc Tryz.prog Tryz.f9 [] false w args ∧ laidMetH Tryz.prog Rows.easterMondayRow.laid w) ∧ sizedMet enc Tryz.prog Tryz.f9 (OpenSpec.ofChange Rows.easterMondaySpec) false w args)
      (Rows.easterMondaySpec.post enc Tryz.prog Tryz.f9 false true false false) := by
  refine returnsInHanded_of_change_and (C := Tryz.checked) (X := fun w _ => laidMetH Tryz.prog Rows.easterMondayRow.laid w) (fun _ _ _ hh h => h.of_heap hh) own started (by kernel_rfl) Tryz.func9
    (ChangeSpec.witness_at (enc := enc) (C := Tryz.checked) (os := os) (X := fun w _ => laidMetH Tryz.prog Rows.easterMondayRow.laid w) false (laidWorld os) #[.int .i64 0, .int .i64 0] 8 (laidWorld_os os) (laid_vars os _) (laid_rest os _) (by kernel_rfl) (by kernel_rfl) (by kernel_rfl) (laidWorld_met os _)) ?_
  intro W base args ds gs before hval0 hW _ hsz hL _
  have hval : ∀ (j : Nat) t v, Tryz.f9.params[j]? = some t → args[j]? = some v → Value.okWide Tryz.prog W .any base t v := hval0
  have hW' := hW
  obtain ⟨p, q, hA00, hV0, rfl, hfz, hnd⟩ := hW
  have hlt : ∀ x ∈ p, x.block < W.heap.size := fun x hx => hW'.lt x (List.mem_append_left _ hx)
  have hstay : ∃ ps, ∀ W', Below W.heap.size W W' → DataW.TrodAll enc Tryz.prog W' 0 (fun b => decide (b < W.heap.size)) true Tryz.f9.params.toList args.toList ds ps :=
    ⟨p, fun W' hb => args_stay (by rw [Tryz.params9]; simp) hA00 hlt hb⟩
  have hA0 : DataW.TrodAll enc Tryz.prog W 0 (fun _ => true) true Tryz.f9.params.toList args.toList ds p := hA00
  have hV : DataW.TrodVars enc Tryz.prog W (fun _ => true) [] gs q := hV0
  rw [Tryz.params9] at hA0 hval hsz
  obtain ⟨v0, w0, d0, e0, p0, q0, g0, rfl, rfl, h0, hA1⟩ := trodAll_cons hA0
  obtain ⟨v1, w1, d1, e1, p1, q1, g1, rfl, rfl, h1, hA2⟩ := trodAll_cons hA1
  obtain ⟨g2, rfl, rfl⟩ := trodAll_nil hA2
  obtain rfl : args = #[v0, v1] := by cases args; simp_all
  obtain ⟨a0, rfl, rfl, rfl, u0⟩ := open_int Tryz.underlying3 (hval 0 3 v0 rfl rfl) h0
  obtain ⟨a1, rfl, rfl, rfl, u1⟩ := open_int Tryz.underlying3 (hval 1 3 v1 rfl rfl) h1
  have y0 := bounds_i64 u0
  have y1 := bounds_i64 u1
  have hL' : laidMet Tryz.prog laidL W ∧ handlesMet Tryz.prog [("errors.errorType", Rows.laid_errors_errorType)] W := hL
  have hg := wd_of hL'.1 hL'.2
  obtain ⟨rfl, rfl⟩ : gs = [] ∧ q = [] := by
    cases gs with
    | nil => exact ⟨rfl, hV⟩
    | cons g r => exact absurd hV (by intro h; cases h)
  have e1 : Rows.easterMondaySpec.fn H ([.lit (.int .i64 a0), .lit (.int .i64 a1)] ++ []) = { results := [.lit (.bool true)], args := [.lit (.int .i64 a0), .lit (.int .i64 a1)] } := by simp [Rows.easterMondaySpec]
  refine (EasterMonday_walk begun_all easter.eas_c holi.hol_c a0 a1 W hg).mono fun e W' ⟨he, hb⟩ => ?_
  subst he
  obtain ⟨ps, hs⟩ := hstay
  refine ⟨_, rfl, _, _, _, [], ps, [], hW', ?_, ?_, ?_, hb.frame _, fun h => by cases h⟩
  · rw [e1]; exact trodAll_mk1 (shut_bool Tryz.underlying4 true)
  · rw [e1]; exact hs W' hb
  · rw [e1]; rfl
theorem easterMonday_c0 : (Rows.easterMondayRow.wf (OpenSpec.ofChange Rows.easterMondaySpec)) = true := by kernel_rfl
theorem easterMonday_c3 : (Tryz.f9.params.all (Tryz.prog.readableRec ·)) = true := by kernel_rfl
theorem easterMonday_c4 : (namedTie Tryz.prog Rows.easterMondayRow.named Rows.easterMondaySpec.vars) = true := by kernel_rfl
theorem easterMonday_c5 : ((Rows.easterMondayRow.stops == [])) = true := by kernel_rfl
theorem easterMonday_c7 : ((Rows.easterMondayRow.knobs == [])) = true := by kernel_rfl
theorem easterMonday_c9 : ((Rows.easterMondayRow.inPlace == Tryz.prog.inPlace 9)) = true := by kernel_rfl
theorem easterMonday_c10 : ((Rows.easterMondayRow.unfollowed == Tryz.prog.unfollowed 9)) = true := by kernel_rfl
theorem easterMonday_c11 : ((Rows.easterMondayRow.recurses == Tryz.prog.recurses 9)) = true := by kernel_rfl
theorem easterMonday_c12 : ((Rows.easterMondayRow.named == Tryz.prog.varsNamed 9)) = true := by kernel_rfl
theorem easterMonday_c13 : ((Rows.easterMondayRow.maps == (Tryz.f9.params.toList ++ Rows.easterMondaySpec.plain.varTypes Tryz.prog).any (Tryz.prog.mapsRec ·))) = true := by kernel_rfl
theorem easterMonday_c14 : ((Rows.easterMondayRow.ifaces == (Tryz.f9.params.toList ++ Rows.easterMondaySpec.plain.varTypes Tryz.prog).any (Tryz.prog.ifacesRec ·))) = true := by kernel_rfl
theorem easterMonday_c15 : ((Rows.easterMondayRow.mapsOut == Tryz.prog.mapsAmong Tryz.f9.resultTypes.toList)) = true := by kernel_rfl
theorem easterMonday_c16 : ((Rows.easterMondayRow.loops == (Tryz.f9.params.toList ++ Rows.easterMondaySpec.plain.varTypes Tryz.prog).any (Tryz.prog.loopsFrom ·))) = true := by kernel_rfl
theorem easterMonday_c17 : ((Rows.easterMondayRow.wideKeys == (Tryz.f9.params.toList ++ Rows.easterMondaySpec.plain.varTypes Tryz.prog ++ Tryz.f9.resultTypes.toList).any (Tryz.prog.wideKeysFrom ·))) = true := by kernel_rfl
theorem easterMonday_c18 : (Rows.easterMondaySpec.vars.all (Tryz.prog.varReadable ·)) = true := by kernel_rfl
theorem easterMonday_c19 : (Tryz.f9.resultTypes.all (fun t => Tryz.prog.readableRec t && decide (t < Tryz.prog.types.size))) = true := by kernel_rfl
theorem easterMonday_c20 : ((Rows.easterMondayRow.ifacesOut == Tryz.f9.resultTypes.toList.any (Tryz.prog.ifacesRec ·))) = true := by kernel_rfl
theorem easterMonday_c21 : ((Rows.easterMondayRow.loopsOut == Tryz.f9.resultTypes.toList.any (Tryz.prog.loopsFrom ·))) = true := by kernel_rfl
theorem easterMonday_c23 : (Rows.easterMondayRow.shortTexts.isNone) = true := by kernel_rfl
theorem easterMonday_c28 : ((Rows.easterMondayRow.kinds == (if Rows.easterMondayRow.domain.isEmpty then [] else Tryz.f9.params.toList.map fun t => match Tryz.prog.underlying t with | some (.int k) => some k | _ => none))) = true := by kernel_rfl
theorem easterMonday_c29 : ((Rows.easterMondayRow.pinned == Rows.easterMondayRow.pinnedBy)) = true := by kernel_rfl
theorem easterMonday_c30 : ((Rows.easterMondayRow.veiled == (Tryz.f9.params.toList ++ Rows.easterMondaySpec.plain.varTypes Tryz.prog ++ Tryz.f9.resultTypes.toList).any (Tryz.prog.veiledRec ·))) = true := by kernel_rfl
theorem easterMonday_c31 : (Rows.easterMondayRow.veiledFits Tryz.prog Tryz.f9.params.toList (Tryz.f9.params.toList ++ Rows.easterMondaySpec.plain.varTypes Tryz.prog ++ Tryz.f9.resultTypes.toList)) = true := by kernel_rfl
set_option maxRecDepth 100000 in
theorem easterMonday_facts : joinedFacts Tryz.prog 9 Tryz.f9 Rows.easterMondaySpec Rows.easterMondayRow = true := by
  unfold joinedFacts
  exact band (band (band (band (band (band (band (band (band (band (band (band (band (band (band (band (band (band (band (band (band (band (band (band (band (band (band (band (band (band (band easterMonday_c0 fact_c1) fact_c2) easterMonday_c3) easterMonday_c4) easterMonday_c5) fact_c6) easterMonday_c7) fact_c8) easterMonday_c9) easterMonday_c10) easterMonday_c11) easterMonday_c12) easterMonday_c13) easterMonday_c14) easterMonday_c15) easterMonday_c16) easterMonday_c17) easterMonday_c18) easterMonday_c19) easterMonday_c20) easterMonday_c21) fact_c22) easterMonday_c23) fact_c24) fact_c25) fact_c26) fact_c27) easterMonday_c28) easterMonday_c29) easterMonday_c30) easterMonday_c31
theorem easterMonday_goes : false = Rows.easterMondayRow.goesBy Tryz.prog := by kernel_rfl
theorem easterMonday_holds : Rows.EasterMondaySaid :=
  OpenClaim.holds_of_wide 9 Tryz.f9 rfl rfl rfl rfl rfl rfl rfl ⟨rfl, rfl, rfl, rfl, rfl⟩ rfl rfl rfl rfl rfl (by kernel_rfl) Tryz.func9 easterMonday_facts
    (of_decide_eq_true (by kernel_rfl)) (by unfold Func.isWrapper; rw [if_neg (of_decide_eq_false (by kernel_rfl))]; exact ⟨rfl, rfl⟩)
    (fun os started H enc _ => easterMonday_lifted os started H enc)
theorem easterMonday_plain (f : FuncId) (fn : Func) (hf : Tryz.pinned.checked.prog.funcNamed "rentier/rentierlaw6.EasterMonday" = some f) (hfn : Tryz.pinned.checked.prog.funcs[f]? = some fn) :
    true = Tryz.pinned.checked.prog.looks [] ∧ ∀ (j : Nat) t, fn.params[j]? = some t → Tryz.pinned.checked.prog.wantsStandIn t = false := by
  obtain rfl : f = 9 := Option.some.inj ((show Tryz.prog.funcNamed "rentier/rentierlaw6.EasterMonday" = some 9 by kernel_rfl).symm.trans hf) |>.symm
  obtain rfl : fn = Tryz.f9 := (Option.some.inj (Tryz.func9.symm.trans hfn)).symm
  refine ⟨by kernel_rfl, fun j t ht => ?_⟩
  rw [Tryz.params9] at ht
  have hm := Array.mem_of_getElem? ht
  simp at hm
  have t_i : Tryz.pinned.checked.prog.wantsStandIn 3 = false := by kernel_rfl
  rcases hm with rfl
  exact t_i
theorem easterMonday_card : Rows.EasterMondayCardSaid :=
  Claim7.holds_tied_plain_at .later [] _ _ _ _ (easterMonday_holds) (fun _ h => by cases h) (by kernel_rfl) (fun _ h => by cases h) easterMonday_row_tie rfl ⟨rfl, rfl⟩ (by kernel_rfl) rfl easterMonday_plain easterMonday_goes
end Go.Proofs.YtlhmfgbaefaneabGreatDoor.law6
