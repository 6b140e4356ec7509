/-
  NatLong: for every number, byte the statement's function answers true; the arguments read as before; nothing that was there has turned. The variables that the row lists start as the program's text lays them: the card ties that.
-/
import Derived.Test.YtfpooimjjpamoaaGreatDoorTie
import Derived.Test.YtfpooimjjpamoaaGreatDoorCards
import Derived.ProofKit
import Derived.Carry
import Derived.OpenShut
import Derived.SizedLaws
import Derived.Test.YtfpooimjjpamoaaGreatDoorLwNatLong
import Derived.Test.YtfpooimjjpamoaaGreatDoorA47
import Derived.Test.YtfpooimjjpamoaaGreatDoorLaid2
import Derived.Test.YtfpooimjjpamoaaGreatDoorLaw2Facts
namespace Go.Proofs.YtfpooimjjpamoaaGreatDoor.law2
open Go.ChangeShapes Go.WideShapes Go.RowKit
open Go.ChangeMaps (open_string shut_string)
set_option maxRecDepth 100000 in
theorem natLong_lifted (os : Os) (started : os.Started) (H : Type) (enc : TypeId × Value → H) :
    ReturnsInHanded {} Tryz.checked os 16 .any (fun w args => (Rows.natLongSpec.pre enc Tryz.prog Tryz.f16 [] false w args ∧ laidMetH Tryz.prog Rows.natLongRow.laid w) ∧ sizedMet enc Tryz.prog Tryz.f16 (OpenSpec.ofChange Rows.natLongSpec) false w args)
      (Rows.natLongSpec.post enc Tryz.prog Tryz.f16 false true false false) := by
  refine returnsInHanded_of_change_and (C := Tryz.checked) (X := fun w _ => laidMetH Tryz.prog Rows.natLongRow.laid w) (fun _ _ _ hh h => h.of_heap hh) own started (by kernel_rfl) Tryz.func16
    (ChangeSpec.witness_at (enc := enc) (C := Tryz.checked) (os := os) (X := fun w _ => laidMetH Tryz.prog Rows.natLongRow.laid w) false (laidWorld os) #[.int .i64 0, .int .u8 0] 8 (laidWorld_os os) (laid_vars os _) (laid_rest os _) (by kernel_rfl) (by kernel_rfl) (by kernel_rfl) (laidWorld_met os _)) ?_
  intro W base args ds gs before hval0 hW _ hsz hL _
  have hval : ∀ (j : Nat) t v, Tryz.f16.params[j]? = some t → args[j]? = some v → Value.okWide Tryz.prog W .any base t v := hval0
  have hW' := hW
  obtain ⟨p, q, hA00, hV0, rfl, hfz, hnd⟩ := hW
  have hA0 : DataW.TrodAll enc Tryz.prog W 0 (fun _ => true) true Tryz.f16.params.toList args.toList ds p := hA00
  have hV : DataW.TrodVars enc Tryz.prog W (fun _ => true) [] gs q := hV0
  rw [Tryz.params16] at hA0 hval hsz
  obtain ⟨v0, r0, d0, e0, p0, q0, g0, rfl, rfl, h0, hA1⟩ := trodAll_cons hA0
  obtain ⟨v1, r1, d1, e1, p1, q1, g1, rfl, rfl, h1, hA2⟩ := trodAll_cons hA1
  obtain ⟨g2, rfl, rfl⟩ := trodAll_nil hA2
  obtain rfl : args = #[v0, v1] := by cases args; simp_all
  obtain ⟨a0, rfl, rfl, rfl, w0⟩ := open_int Tryz.underlying3 (hval 0 3 v0 rfl rfl) h0
  obtain ⟨a1, rfl, rfl, rfl, w1⟩ := open_int Tryz.underlying5 (hval 1 5 v1 rfl rfl) h1
  have y0 := bounds_i64 w0
  have y1 := bounds_u8 w1
  obtain ⟨m1, rfl⟩ := Int.eq_ofNat_of_zero_le y1.1
  have hL' : laidMet Tryz.prog laidL W ∧ handlesMet Tryz.prog [("errors.errorType", Rows.laid_errors_errorType)] W := hL
  have hg := handle_of hL'.2
  obtain ⟨rfl, rfl⟩ : gs = [] ∧ q = [] := by
    cases gs with
    | nil => exact ⟨rfl, hV⟩
    | cons g r => exact absurd hV (by intro h; cases h)
  have e1 : Rows.natLongSpec.fn H ([.lit (.int .i64 a0), .lit (.int .u8 ((m1 : Nat) : Int))] ++ []) = { results := [.lit (.bool true)], args := [.lit (.int .i64 a0), .lit (.int .u8 ((m1 : Nat) : Int))] } := by simp [Rows.natLongSpec]
  refine (LwNatLong begun_all a0 y0.1 (by omega) m1 (by omega) W hg).mono fun e W' ⟨he, hb⟩ => ?_
  subst he
  refine ⟨_, rfl, _, _, _, [], [], [], hW', ?_, ?_, ?_, hb.frame _, fun h => by cases h⟩
  · rw [e1]; exact trodAll_mk1 (shut_bool Tryz.underlying4 true)
  · rw [e1]; exact trodAll_cons_mk (shut_int Tryz.underlying3 w0) (trodAll_cons_mk (shut_int Tryz.underlying5 w1) trodAll_mk0)
  · rw [e1]; rfl
theorem natLong_c0 : (Rows.natLongRow.wf (OpenSpec.ofChange Rows.natLongSpec)) = true := by kernel_rfl
theorem natLong_c3 : (Tryz.f16.params.all (Tryz.prog.readableRec ·)) = true := by kernel_rfl
theorem natLong_c4 : (namedTie Tryz.prog Rows.natLongRow.named Rows.natLongSpec.vars) = true := by kernel_rfl
theorem natLong_c5 : ((Rows.natLongRow.stops == [])) = true := by kernel_rfl
theorem natLong_c7 : ((Rows.natLongRow.knobs == [])) = true := by kernel_rfl
theorem natLong_c9 : ((Rows.natLongRow.inPlace == Tryz.prog.inPlace 16)) = true := by kernel_rfl
theorem natLong_c10 : ((Rows.natLongRow.unfollowed == Tryz.prog.unfollowed 16)) = true := by kernel_rfl
theorem natLong_c11 : ((Rows.natLongRow.recurses == Tryz.prog.recurses 16)) = true := by kernel_rfl
theorem natLong_c12 : ((Rows.natLongRow.named == Tryz.prog.varsNamed 16)) = true := by kernel_rfl
theorem natLong_c13 : ((Rows.natLongRow.maps == (Tryz.f16.params.toList ++ Rows.natLongSpec.plain.varTypes Tryz.prog).any (Tryz.prog.mapsRec ·))) = true := by kernel_rfl
theorem natLong_c14 : ((Rows.natLongRow.ifaces == (Tryz.f16.params.toList ++ Rows.natLongSpec.plain.varTypes Tryz.prog).any (Tryz.prog.ifacesRec ·))) = true := by kernel_rfl
theorem natLong_c15 : ((Rows.natLongRow.mapsOut == Tryz.prog.mapsAmong Tryz.f16.resultTypes.toList)) = true := by kernel_rfl
theorem natLong_c16 : ((Rows.natLongRow.loops == (Tryz.f16.params.toList ++ Rows.natLongSpec.plain.varTypes Tryz.prog).any (Tryz.prog.loopsFrom ·))) = true := by kernel_rfl
theorem natLong_c17 : ((Rows.natLongRow.wideKeys == (Tryz.f16.params.toList ++ Rows.natLongSpec.plain.varTypes Tryz.prog ++ Tryz.f16.resultTypes.toList).any (Tryz.prog.wideKeysFrom ·))) = true := by kernel_rfl
theorem natLong_c18 : (Rows.natLongSpec.vars.all (Tryz.prog.varReadable ·)) = true := by kernel_rfl
theorem natLong_c19 : (Tryz.f16.resultTypes.all (fun t => Tryz.prog.readableRec t && decide (t < Tryz.prog.types.size))) = true := by kernel_rfl
theorem natLong_c20 : ((Rows.natLongRow.ifacesOut == Tryz.f16.resultTypes.toList.any (Tryz.prog.ifacesRec ·))) = true := by kernel_rfl
theorem natLong_c21 : ((Rows.natLongRow.loopsOut == Tryz.f16.resultTypes.toList.any (Tryz.prog.loopsFrom ·))) = true := by kernel_rfl
theorem natLong_c23 : (Rows.natLongRow.shortTexts.isNone) = true := by kernel_rfl
theorem natLong_c28 : ((Rows.natLongRow.kinds == (if Rows.natLongRow.domain.isEmpty then [] else Tryz.f16.params.toList.map fun t => match Tryz.prog.underlying t with | some (.int k) => some k | _ => none))) = true := by kernel_rfl
theorem natLong_c29 : ((Rows.natLongRow.pinned == Rows.natLongRow.pinnedBy)) = true := by kernel_rfl
theorem natLong_c30 : ((Rows.natLongRow.veiled == (Tryz.f16.params.toList ++ Rows.natLongSpec.plain.varTypes Tryz.prog ++ Tryz.f16.resultTypes.toList).any (Tryz.prog.veiledRec ·))) = true := by kernel_rfl
theorem natLong_c31 : (Rows.natLongRow.veiledFits Tryz.prog Tryz.f16.params.toList (Tryz.f16.params.toList ++ Rows.natLongSpec.plain.varTypes Tryz.prog ++ Tryz.f16.resultTypes.toList)) = true := by kernel_rfl
set_option maxRecDepth 100000 in
theorem natLong_facts : joinedFacts Tryz.prog 16 Tryz.f16 Rows.natLongSpec Rows.natLongRow = true := by
  unfold joinedFacts
  exact band (band (band (band (band (band (band (band (band (band (band (band (band (band (band (band (band (band (band (band (band (band (band (band (band (band (band (band (band (band (band natLong_c0 fact_c1) fact_c2) natLong_c3) natLong_c4) natLong_c5) fact_c6) natLong_c7) fact_c8) natLong_c9) natLong_c10) natLong_c11) natLong_c12) natLong_c13) natLong_c14) natLong_c15) natLong_c16) natLong_c17) natLong_c18) natLong_c19) natLong_c20) natLong_c21) fact_c22) natLong_c23) fact_c24) fact_c25) fact_c26) fact_c27) natLong_c28) natLong_c29) natLong_c30) natLong_c31
theorem natLong_goes : false = Rows.natLongRow.goesBy Tryz.prog := by kernel_rfl
theorem natLong_holds : Rows.NatLongSaid :=
  OpenClaim.holds_of_wide 16 Tryz.f16 rfl rfl rfl rfl rfl rfl rfl ⟨rfl, rfl, rfl, rfl, rfl⟩ rfl rfl rfl rfl rfl (by kernel_rfl) Tryz.func16 natLong_facts
    (of_decide_eq_true (by kernel_rfl)) (by unfold Func.isWrapper; rw [if_neg (of_decide_eq_false (by kernel_rfl))]; exact ⟨rfl, rfl⟩)
    (fun os started H enc _ => natLong_lifted os started H enc)
theorem natLong_plain (f : FuncId) (fn : Func) (hf : Tryz.pinned.checked.prog.funcNamed "rentier/rentierlaw2.NatLong" = some f) (hfn : Tryz.pinned.checked.prog.funcs[f]? = some fn) :
    true = Tryz.pinned.checked.prog.looks [] ∧ ∀ (j : Nat) t, fn.params[j]? = some t → Tryz.pinned.checked.prog.wantsStandIn t = false := by
  obtain rfl : f = 16 := Option.some.inj ((show Tryz.prog.funcNamed "rentier/rentierlaw2.NatLong" = some 16 by kernel_rfl).symm.trans hf) |>.symm
  obtain rfl : fn = Tryz.f16 := (Option.some.inj (Tryz.func16.symm.trans hfn)).symm
  refine ⟨by kernel_rfl, fun j t ht => ?_⟩
  rw [Tryz.params16] at ht
  have hm := Array.mem_of_getElem? ht
  simp at hm
  have t_i : Tryz.pinned.checked.prog.wantsStandIn 3 = false := by kernel_rfl
  have t_c : Tryz.pinned.checked.prog.wantsStandIn 5 = false := by kernel_rfl
  rcases hm with rfl | rfl <;> first | with_reducible exact t_i | with_reducible exact t_c
theorem natLong_card : Rows.NatLongCardSaid :=
  Claim7.holds_tied_plain_at .later [] _ _ _ _ (natLong_holds) (fun _ h => by cases h) (by kernel_rfl) (fun _ h => by cases h) natLong_row_tie rfl ⟨rfl, rfl⟩ (by kernel_rfl) rfl natLong_plain natLong_goes
end Go.Proofs.YtfpooimjjpamoaaGreatDoor.law2
