/-
  NatDigit: for every number, number, number, number the statement's function answers true; the arguments read as before; nothing that was there has turned. The variables that the row lists start as the program's text lays them: the card ties that.
-/
import Derived.Test.YtfpooimjjpamoaaGreatDoorTie
import Derived.Test.YtfpooimjjpamoaaGreatDoorCards
import Derived.ProofKit
import Derived.Carry
import Derived.OpenShut
import Derived.SizedLaws
import Derived.Test.YtfpooimjjpamoaaGreatDoorLwNatDigit
import Derived.Test.YtfpooimjjpamoaaGreatDoorA47
import Derived.Test.YtfpooimjjpamoaaGreatDoorLaid2
import Derived.Test.YtfpooimjjpamoaaGreatDoorLaw2Facts
namespace Go.Proofs.YtfpooimjjpamoaaGreatDoor.law2
open Go.ChangeShapes Go.WideShapes Go.RowKit
open Go.ChangeMaps (open_string shut_string)
set_option maxRecDepth 100000 in
theorem natDigit_lifted (os : Os) (started : os.Started) (H : Type) (enc : TypeId × Value → H) :
    ReturnsInHanded {} Tryz.checked os 14 .any (fun w args => (Rows.natDigitSpec.pre enc Tryz.prog Tryz.f14 [] false w args ∧ laidMetH Tryz.prog Rows.natDigitRow.laid w) ∧ sizedMet enc Tryz.prog Tryz.f14 (OpenSpec.ofChange Rows.natDigitSpec) false w args)
      (Rows.natDigitSpec.post enc Tryz.prog Tryz.f14 false true false false) := by
  refine returnsInHanded_of_change_and (C := Tryz.checked) (X := fun w _ => laidMetH Tryz.prog Rows.natDigitRow.laid w) (fun _ _ _ hh h => h.of_heap hh) own started (by kernel_rfl) Tryz.func14
    (ChangeSpec.witness_at (enc := enc) (C := Tryz.checked) (os := os) (X := fun w _ => laidMetH Tryz.prog Rows.natDigitRow.laid w) false (laidWorld os) #[.int .u64 0, .int .u64 0, .int .i64 0, .int .i64 0] 8 (laidWorld_os os) (laid_vars os _) (laid_rest os _) (by kernel_rfl) (by kernel_rfl) (by kernel_rfl) (laidWorld_met os _)) ?_
  intro W base args ds gs before hval0 hW _ hsz hL _
  have hval : ∀ (j : Nat) t v, Tryz.f14.params[j]? = some t → args[j]? = some v → Value.okWide Tryz.prog W .any base t v := hval0
  have hW' := hW
  obtain ⟨p, q, hA00, hV0, rfl, hfz, hnd⟩ := hW
  have hA0 : DataW.TrodAll enc Tryz.prog W 0 (fun _ => true) true Tryz.f14.params.toList args.toList ds p := hA00
  have hV : DataW.TrodVars enc Tryz.prog W (fun _ => true) [] gs q := hV0
  rw [Tryz.params14] at hA0 hval hsz
  obtain ⟨v0, r0, d0, e0, p0, q0, g0, rfl, rfl, h0, hA1⟩ := trodAll_cons hA0
  obtain ⟨v1, r1, d1, e1, p1, q1, g1, rfl, rfl, h1, hA2⟩ := trodAll_cons hA1
  obtain ⟨v2, r2, d2, e2, p2, q2, g2, rfl, rfl, h2, hA3⟩ := trodAll_cons hA2
  obtain ⟨v3, r3, d3, e3, p3, q3, g3, rfl, rfl, h3, hA4⟩ := trodAll_cons hA3
  obtain ⟨g4, rfl, rfl⟩ := trodAll_nil hA4
  obtain rfl : args = #[v0, v1, v2, v3] := by cases args; simp_all
  obtain ⟨a0, rfl, rfl, rfl, w0⟩ := open_int Tryz.underlying45 (hval 0 45 v0 rfl rfl) h0
  obtain ⟨a1, rfl, rfl, rfl, w1⟩ := open_int Tryz.underlying45 (hval 1 45 v1 rfl rfl) h1
  obtain ⟨a2, rfl, rfl, rfl, w2⟩ := open_int Tryz.underlying3 (hval 2 3 v2 rfl rfl) h2
  obtain ⟨a3, rfl, rfl, rfl, w3⟩ := open_int Tryz.underlying3 (hval 3 3 v3 rfl rfl) h3
  have y0 := bounds_u64 w0
  obtain ⟨m0, rfl⟩ := Int.eq_ofNat_of_zero_le y0.1
  have y1 := bounds_u64 w1
  obtain ⟨m1, rfl⟩ := Int.eq_ofNat_of_zero_le y1.1
  have y2 := bounds_i64 w2
  have y3 := bounds_i64 w3
  have hL' : laidMet Tryz.prog laidL W ∧ handlesMet Tryz.prog [("errors.errorType", Rows.laid_errors_errorType)] W := hL
  have hg := handle_of hL'.2
  obtain ⟨rfl, rfl⟩ : gs = [] ∧ q = [] := by
    cases gs with
    | nil => exact ⟨rfl, hV⟩
    | cons g r => exact absurd hV (by intro h; cases h)
  have e1 : Rows.natDigitSpec.fn H ([.lit (.int .u64 ((m0 : Nat) : Int)), .lit (.int .u64 ((m1 : Nat) : Int)), .lit (.int .i64 a2), .lit (.int .i64 a3)] ++ []) = { results := [.lit (.bool true)], args := [.lit (.int .u64 ((m0 : Nat) : Int)), .lit (.int .u64 ((m1 : Nat) : Int)), .lit (.int .i64 a2), .lit (.int .i64 a3)] } := by simp [Rows.natDigitSpec]
  refine (LwNatDigit begun_all m0 (by omega) m1 (by omega) a2 y2.1 (by omega) a3 y3.1 (by omega) W hg).mono fun e W' ⟨he, hb⟩ => ?_
  subst he
  refine ⟨_, rfl, _, _, _, [], [], [], hW', ?_, ?_, ?_, hb.frame _, fun h => by cases h⟩
  · rw [e1]; exact trodAll_mk1 (shut_bool Tryz.underlying4 true)
  · rw [e1]; exact trodAll_cons_mk (shut_int Tryz.underlying45 w0) (trodAll_cons_mk (shut_int Tryz.underlying45 w1) (trodAll_cons_mk (shut_int Tryz.underlying3 w2) (trodAll_cons_mk (shut_int Tryz.underlying3 w3) trodAll_mk0)))
  · rw [e1]; rfl
theorem natDigit_c0 : (Rows.natDigitRow.wf (OpenSpec.ofChange Rows.natDigitSpec)) = true := by kernel_rfl
theorem natDigit_c3 : (Tryz.f14.params.all (Tryz.prog.readableRec ·)) = true := by kernel_rfl
theorem natDigit_c4 : (namedTie Tryz.prog Rows.natDigitRow.named Rows.natDigitSpec.vars) = true := by kernel_rfl
theorem natDigit_c5 : ((Rows.natDigitRow.stops == [])) = true := by kernel_rfl
theorem natDigit_c7 : ((Rows.natDigitRow.knobs == [])) = true := by kernel_rfl
theorem natDigit_c9 : ((Rows.natDigitRow.inPlace == Tryz.prog.inPlace 14)) = true := by kernel_rfl
theorem natDigit_c10 : ((Rows.natDigitRow.unfollowed == Tryz.prog.unfollowed 14)) = true := by kernel_rfl
theorem natDigit_c11 : ((Rows.natDigitRow.recurses == Tryz.prog.recurses 14)) = true := by kernel_rfl
theorem natDigit_c12 : ((Rows.natDigitRow.named == Tryz.prog.varsNamed 14)) = true := by kernel_rfl
theorem natDigit_c13 : ((Rows.natDigitRow.maps == (Tryz.f14.params.toList ++ Rows.natDigitSpec.plain.varTypes Tryz.prog).any (Tryz.prog.mapsRec ·))) = true := by kernel_rfl
theorem natDigit_c14 : ((Rows.natDigitRow.ifaces == (Tryz.f14.params.toList ++ Rows.natDigitSpec.plain.varTypes Tryz.prog).any (Tryz.prog.ifacesRec ·))) = true := by kernel_rfl
theorem natDigit_c15 : ((Rows.natDigitRow.mapsOut == Tryz.prog.mapsAmong Tryz.f14.resultTypes.toList)) = true := by kernel_rfl
theorem natDigit_c16 : ((Rows.natDigitRow.loops == (Tryz.f14.params.toList ++ Rows.natDigitSpec.plain.varTypes Tryz.prog).any (Tryz.prog.loopsFrom ·))) = true := by kernel_rfl
theorem natDigit_c17 : ((Rows.natDigitRow.wideKeys == (Tryz.f14.params.toList ++ Rows.natDigitSpec.plain.varTypes Tryz.prog ++ Tryz.f14.resultTypes.toList).any (Tryz.prog.wideKeysFrom ·))) = true := by kernel_rfl
theorem natDigit_c18 : (Rows.natDigitSpec.vars.all (Tryz.prog.varReadable ·)) = true := by kernel_rfl
theorem natDigit_c19 : (Tryz.f14.resultTypes.all (fun t => Tryz.prog.readableRec t && decide (t < Tryz.prog.types.size))) = true := by kernel_rfl
theorem natDigit_c20 : ((Rows.natDigitRow.ifacesOut == Tryz.f14.resultTypes.toList.any (Tryz.prog.ifacesRec ·))) = true := by kernel_rfl
theorem natDigit_c21 : ((Rows.natDigitRow.loopsOut == Tryz.f14.resultTypes.toList.any (Tryz.prog.loopsFrom ·))) = true := by kernel_rfl
theorem natDigit_c23 : (Rows.natDigitRow.shortTexts.isNone) = true := by kernel_rfl
theorem natDigit_c28 : ((Rows.natDigitRow.kinds == (if Rows.natDigitRow.domain.isEmpty then [] else Tryz.f14.params.toList.map fun t => match Tryz.prog.underlying t with | some (.int k) => some k | _ => none))) = true := by kernel_rfl
theorem natDigit_c29 : ((Rows.natDigitRow.pinned == Rows.natDigitRow.pinnedBy)) = true := by kernel_rfl
theorem natDigit_c30 : ((Rows.natDigitRow.veiled == (Tryz.f14.params.toList ++ Rows.natDigitSpec.plain.varTypes Tryz.prog ++ Tryz.f14.resultTypes.toList).any (Tryz.prog.veiledRec ·))) = true := by kernel_rfl
theorem natDigit_c31 : (Rows.natDigitRow.veiledFits Tryz.prog Tryz.f14.params.toList (Tryz.f14.params.toList ++ Rows.natDigitSpec.plain.varTypes Tryz.prog ++ Tryz.f14.resultTypes.toList)) = true := by kernel_rfl
set_option maxRecDepth 100000 in
theorem natDigit_facts : joinedFacts Tryz.prog 14 Tryz.f14 Rows.natDigitSpec Rows.natDigitRow = true := by
  unfold joinedFacts
  exact band (band (band (band (band (band (band (band (band (band (band (band (band (band (band (band (band (band (band (band (band (band (band (band (band (band (band (band (band (band (band natDigit_c0 fact_c1) fact_c2) natDigit_c3) natDigit_c4) natDigit_c5) fact_c6) natDigit_c7) fact_c8) natDigit_c9) natDigit_c10) natDigit_c11) natDigit_c12) natDigit_c13) natDigit_c14) natDigit_c15) natDigit_c16) natDigit_c17) natDigit_c18) natDigit_c19) natDigit_c20) natDigit_c21) fact_c22) natDigit_c23) fact_c24) fact_c25) fact_c26) fact_c27) natDigit_c28) natDigit_c29) natDigit_c30) natDigit_c31
theorem natDigit_goes : false = Rows.natDigitRow.goesBy Tryz.prog := by kernel_rfl
theorem natDigit_holds : Rows.NatDigitSaid :=
  OpenClaim.holds_of_wide 14 Tryz.f14 rfl rfl rfl rfl rfl rfl rfl ⟨rfl, rfl, rfl, rfl, rfl⟩ rfl rfl rfl rfl rfl (by kernel_rfl) Tryz.func14 natDigit_facts
    (of_decide_eq_true (by kernel_rfl)) (by unfold Func.isWrapper; rw [if_neg (of_decide_eq_false (by kernel_rfl))]; exact ⟨rfl, rfl⟩)
    (fun os started H enc _ => natDigit_lifted os started H enc)
theorem natDigit_plain (f : FuncId) (fn : Func) (hf : Tryz.pinned.checked.prog.funcNamed "rentier/rentierlaw2.NatDigit" = some f) (hfn : Tryz.pinned.checked.prog.funcs[f]? = some fn) :
    true = Tryz.pinned.checked.prog.looks [] ∧ ∀ (j : Nat) t, fn.params[j]? = some t → Tryz.pinned.checked.prog.wantsStandIn t = false := by
  obtain rfl : f = 14 := Option.some.inj ((show Tryz.prog.funcNamed "rentier/rentierlaw2.NatDigit" = some 14 by kernel_rfl).symm.trans hf) |>.symm
  obtain rfl : fn = Tryz.f14 := (Option.some.inj (Tryz.func14.symm.trans hfn)).symm
  refine ⟨by kernel_rfl, fun j t ht => ?_⟩
  rw [Tryz.params14] at ht
  have hm := Array.mem_of_getElem? ht
  simp at hm
  have t_i : Tryz.pinned.checked.prog.wantsStandIn 3 = false := by kernel_rfl
  have t_u : Tryz.pinned.checked.prog.wantsStandIn 45 = false := by kernel_rfl
  rcases hm with rfl | rfl <;> first | with_reducible exact t_i | with_reducible exact t_u
theorem natDigit_card : Rows.NatDigitCardSaid :=
  Claim7.holds_tied_plain_at .later [] _ _ _ _ (natDigit_holds) (fun _ h => by cases h) (by kernel_rfl) (fun _ h => by cases h) natDigit_row_tie rfl ⟨rfl, rfl⟩ (by kernel_rfl) rfl natDigit_plain natDigit_goes
end Go.Proofs.YtfpooimjjpamoaaGreatDoor.law2
