/-
  The steps of the walks, part 4: Read, RefMul, Laid6, Stay6, Arg6, C6MonthAll.
-/
import Derived.Test.YtlhmfgbaefaneaaGreatDoorProg
import Derived.WalkKit
import Derived.WalkSpells
import Derived.Lib.Hide
import Derived.OwnWalk
import Derived.Below
import Derived.Carry
import Derived.Outline
import Derived.Laws.MakeOwn
import Derived.Test.YtlhmfgbaefaneaaGreatDoorRows
import Derived.Lib.LaidU8
import Derived.ChangeSame
import Derived.ChangeVars
import Derived.JoinedOf
import Derived.RowKit
import Derived.RowKitTokens
import Derived.LaidLaws
import Derived.LaidHandle
import Derived.Stop.Joined
import Derived.Lay
import Derived.ReadAgain
import Derived.ChangeBears
import Derived.Deep.Slices
import Derived.ChangeArms
import Derived.OpenShut
import Derived.ProofKit
import Derived.Test.YtlhmfgbaefaneaaGreatDoorTie
import Derived.Test.YtlhmfgbaefaneaaGreatDoorCards
import Derived.SizedLaws
import Derived.Test.YtlhmfgbaefaneaaGreatDoorB01
import Derived.Test.YtlhmfgbaefaneaaGreatDoorB02
import Derived.Test.YtlhmfgbaefaneaaGreatDoorB03
import Derived.Test.YtlhmfgbaefaneaaGreatDoorB04
import Derived.Test.YtlhmfgbaefaneaaGreatDoorB05
import Derived.Test.YtlhmfgbaefaneaaGreatDoorB06
import Derived.Test.YtlhmfgbaefaneaaGreatDoorB07
import Derived.Test.YtlhmfgbaefaneaaGreatDoorB08
import Derived.Test.YtlhmfgbaefaneaaGreatDoorB09
import Derived.Test.YtlhmfgbaefaneaaGreatDoorB10
import Derived.Test.YtlhmfgbaefaneaaGreatDoorB11
import Derived.Test.YtlhmfgbaefaneaaGreatDoorB12
import Derived.Test.YtlhmfgbaefaneaaGreatDoorB13
import Derived.Test.YtlhmfgbaefaneaaGreatDoorB14
import Derived.Test.YtlhmfgbaefaneaaGreatDoorB15
import Derived.Test.YtlhmfgbaefaneaaGreatDoorB16
import Derived.Test.YtlhmfgbaefaneaaGreatDoorB17
import Derived.Test.YtlhmfgbaefaneaaGreatDoorB18
import Derived.Test.YtlhmfgbaefaneaaGreatDoorB19
import Derived.Test.YtlhmfgbaefaneaaGreatDoorB20
import Derived.Test.YtlhmfgbaefaneaaGreatDoorB21
import Derived.Test.YtlhmfgbaefaneaaGreatDoorB22
import Derived.Test.YtlhmfgbaefaneaaGreatDoorLMonthAll02
import Derived.Test.YtlhmfgbaefaneaaGreatDoorLaw6Facts
import Derived.Test.YtlhmfgbaefaneaaGreatDoorLMonthAll03
namespace Go.Proofs.YtlhmfgbaefaneaaGreatDoor.ref
open Go.RowKit
theorem Reads.of_own {w : World} {base : Nat} {sv : Value} {l : List Nat} (h : w.ownsRow base 104 1 sv l.length (l.map fun d => Value.int .u64 (d : Nat))) : Reads w sv l := by
  rcases h.2 with ⟨rfl, hl⟩ | ⟨g, cap, cur, rfl, _, _, hnc, hcm, _, _⟩
  · exact ⟨none, 0, by rw [hl], ⟨by omega, fun _ => rfl⟩, Nat.zero_le _, Or.inl (List.eq_nil_of_length_eq_zero hl)⟩
  · refine ⟨some ⟨g, 0, none⟩, cap, rfl, ⟨hnc, fun h => by cases h⟩, hcm, Or.inr ⟨g, rfl, fun k hk => ?_⟩⟩
    rw [h.cellAt k (by omega)]
    exact dg_map hk _
end Go.Proofs.YtlhmfgbaefaneaaGreatDoor.ref
namespace Go.Proofs.YtlhmfgbaefaneaaGreatDoor.ref
open Go.RowKit
theorem Own.reads {w : World} {base g cap : Nat} {o : List Nat} (h : Own w base g cap o) : Reads w (.slice (some ⟨g, 0, none⟩) o.length cap) o := Reads.of_own h
end Go.Proofs.YtlhmfgbaefaneaaGreatDoor.ref
namespace Go.Proofs.YtlhmfgbaefaneaaGreatDoor.law6
open Go Go.ChangeShapes Go.WideShapes Go.RowKit Go.Lib Go.Proofs.YtlhmfgbaefaneaaGreatDoor.date
theorem own : ownKnob Tryz.prog.godebug = none := by kernel_rfl
theorem et : Tryz.prog.globalNamed "errors.errorType" = some 1 := by kernel_rfl
theorem rt : (Tryz.prog.cutTypes.find? (·.1 == "internal/reflectlite.rtype")).map (·.2) = some 258 := by kernel_rfl
theorem oneRow : ((List.range 333).filter fun t => Tryz.prog.rowNamed t [101, 114, 114, 111, 114]) = [28] := by kernel_rfl
theorem tsize : Tryz.prog.types.size = 333 := by kernel_rfl
theorem handle_of {W : World} (h : handlesMet Tryz.prog [("errors.errorType", Rows.laid_errors_errorType)] W) : flt.Handle W := by
  obtain ⟨name, u, ty, e1, e2, e3, e4, e5⟩ := h _ (List.mem_singleton.2 rfl)
  have en : name = [101, 114, 114, 111, 114] := (Option.some.inj e1).symm
  subst en
  obtain rfl := Option.some.inj (rt.symm.trans e2)
  have hm : ty ∈ (List.range 333).filter fun t => Tryz.prog.rowNamed t [101, 114, 114, 111, 114] := List.mem_filter.2 ⟨List.mem_range.2 (by rw [← tsize]; exact e3), e4⟩
  rw [oneRow] at hm
  obtain rfl := List.mem_singleton.1 hm
  have hh : typeHandle Tryz.prog 28 = .pointer (some ⟨10, 28, none⟩) := by kernel_rfl
  rw [hh] at e5
  unfold flt.Handle
  simpa using World.var?_cell et e5 0
def laidL : List (String × DataW Unit) := (Rows.dateAllRow.laid).filter fun x => x.2.handleName?.isNone
theorem in_pow : ("internal/strconv.uint64pow10", tabData .u64 pow10Tab) ∈ laidL := by
  unfold laidL
  refine List.mem_filter.2 ⟨?_, rfl⟩
  repeat (first | exact .head _ | refine .tail _ ?_)
theorem in_len : ("rentier/date.lengths", tabData .i64 [31, 28, 31, 30, 31, 30, 31, 31, 30, 31, 30, 31]) ∈ laidL := by
  unfold laidL
  refine List.mem_filter.2 ⟨?_, rfl⟩
  repeat (first | exact .head _ | refine .tail _ ?_)
theorem tab_of {W : World} {n : String} {k : IntKind} {zs : List Int} {g t e c : Nat} (h : VarReads Tryz.prog W n (tabData k zs)) (hg : Tryz.prog.globalNamed n = some g) (hty : (Tryz.prog.globals[g]?).map (·.type) = some t) (ht : Tryz.prog.underlying t = some (.array c e)) (he : Tryz.prog.underlying e = some (.int k)) (hce : Tryz.prog.cellsOf e = 1) (hct : Tryz.prog.cellsOf t = c) :
    ∃ u fr, W.heap[g]? = some (.cells (zs.map fun z => Value.int k z).toArray u fr) := by
  obtain ⟨g', t', cs, fuel, p, hg', ht', hvar, hd⟩ := h
  obtain rfl := Option.some.inj (hg.symm.trans hg')
  obtain rfl := Option.some.inj (hty.symm.trans ht')
  have hc := cells_of_tab ht he hce hct hd
  unfold World.var? at hvar
  rw [hg, Option.bind_some] at hvar
  split at hvar
  · rename_i cs' u fr hh
    cases hvar
    refine ⟨u, fr, ?_⟩
    rw [hh, ← hc]
  · cases hvar
theorem wd_of {W : World} (hL : laidMet Tryz.prog laidL W) (hH : handlesMet Tryz.prog [("errors.errorType", Rows.laid_errors_errorType)] W) : Wd W := by
  obtain ⟨u1, f1, h1⟩ := tab_of (laidMet.reads hL in_pow) (g := 2) (t := 285) (e := 104) (c := 20) (by kernel_rfl) (by kernel_rfl) (by kernel_rfl) (by kernel_rfl) (by kernel_rfl) (by kernel_rfl)
  obtain ⟨u2, f2, h2⟩ := tab_of (laidMet.reads hL in_len) (g := 0) (t := 102) (e := 3) (c := 12) (by kernel_rfl) (by kernel_rfl) (by kernel_rfl) (by kernel_rfl) (by kernel_rfl) (by kernel_rfl)
  refine ⟨handle_of hH, fun i hi => ?_, ⟨u1, f1, h1⟩⟩
  rw [cell_of_row _ _ i _ _ f2 h2]
  match i, hi with
  | 0, _ | 1, _ | 2, _ | 3, _ | 4, _ | 5, _ | 6, _ | 7, _ | 8, _ | 9, _ | 10, _ | 11, _ => rfl
noncomputable def laidBase (os : Os) : World :=
  { World.holding Tryz.prog os ⟨#[], #[], []⟩ with heap := (World.holding Tryz.prog os ⟨#[], #[], []⟩).heap.modify 1 fun
      | .cells _ t frozen => .cells #[.iface 258 (.agg #[.pointer (some ⟨10, 28, none⟩)])] t frozen
      | o => o }
noncomputable def laidWorld (os : Os) : World := (laidBase os).layVars Tryz.prog laidL
theorem laidWorld_os (os : Os) : (laidWorld os).os = os := World.layVars_os _ _ _
theorem laidWorld_met (os : Os) (args : Array Value) : laidMetH Tryz.prog Rows.dateAllRow.laid ((laidWorld os).forCall (fun _ _ => 0) ⟨#[], args, []⟩).memory := by
  refine laidMetH_of_parts ?_ (by kernel_rfl)
  have e1 : (laidL.filter fun x => (laidL.map (·.1)).contains x.1) = laidL := List.filter_eq_self.2 fun x hx => List.contains_iff_mem.2 (List.mem_map.2 ⟨x, hx, rfl⟩)
  have e2 : (laidL.filter fun x => !(laidL.map (·.1)).contains x.1) = [] := List.filter_eq_nil_iff.2 fun x hx => by rw [List.contains_iff_mem.2 (List.mem_map.2 ⟨x, hx, rfl⟩)]; simp
  have h : laidMet Tryz.prog laidL (laidWorld os) := laidMet_layVars (w0 := laidBase os) (laidL.map (·.1)) [] (by rw [e1]; rfl) (by rw [e1]; kernel_rfl) (by rw [e1]; kernel_rfl) (by rw [e2]; exact LaidIn.none)
  exact h.of_heap (by simp [World.memory, World.forCall, Input.heap])
theorem laid_vars (os : Os) (args : Array Value) : ((laidWorld os).forCall (fun _ _ => 0) ⟨#[], args, []⟩).variablesB Tryz.checked.prog = true := by kernel_rfl
theorem laid_rest (os : Os) (args : Array Value) : (((laidWorld os).forCall (fun _ _ => 0) ⟨#[], args, []⟩).heap.toList.drop Tryz.checked.prog.globals.size).take ((begin Tryz.checked.prog (fun _ _ => 0) default).world.heap.size - Tryz.checked.prog.globals.size) =
      (begin Tryz.checked.prog (fun _ _ => 0) default).world.heap.toList.drop Tryz.checked.prog.globals.size := by kernel_rfl
end Go.Proofs.YtlhmfgbaefaneaaGreatDoor.law6
namespace Go.Proofs.YtlhmfgbaefaneaaGreatDoor.law6
open Go Go.ChangeShapes Go.RowKit
theorem kids : Kids Tryz.prog (· < Tryz.prog.types.size) := kids_rows fact_c1 fact_c2
theorem full : ∀ t e, t < Tryz.prog.types.size → Tryz.prog.underlying t = some (.slice e) → 0 < Tryz.prog.cellsOf e := slices_full_of Tryz.prog (by kernel_rfl)
section
variable {H : Type} {enc : TypeId × Value → H} {P : Program} {W W' : World} {base : Nat} {sp : Nat → Bool} {held : Bool}
theorem trod_all_carry (hs : ∀ p : MemPlace, p.block < W.heap.size → W.sameAt W' p) : ∀ {ts : List TypeId} {vs : List Value} {ds : List (DataW H)} {ps : List MemPlace}, DataW.TrodAll enc P W base sp held ts vs ds ps → (∀ p ∈ ps, p.block < W.heap.size) → DataW.TrodAll enc P W' base sp held ts vs ds ps
  | [], [], [], _, h, _ => h
  | _ :: _, _ :: _, _ :: _, _, ⟨p, q, ⟨n, h1⟩, h2, e⟩, hp => ⟨p, q, ⟨n, DataW.trod_carry n _ _ _ h1 fun x hx => hs x (hp x (by rw [e]; exact List.mem_append_left _ hx))⟩, trod_all_carry hs h2 (fun x hx => hp x (by rw [e]; exact List.mem_append_right _ hx)), e⟩
theorem places_stay (hb : Below W.heap.size W W') (p : MemPlace) (hp : p.block < W.heap.size) : W.sameAt W' p := by
  cases p with
  | cell b off => exact hb.cell (p := ⟨b, off, none⟩) hp
  | map b => exact hb.block b hp
theorem args_stay {ts : List TypeId} {vs : List Value} {ds : List (DataW H)} {ps : List MemPlace} (hT : ∀ t ∈ ts, t < Tryz.prog.types.size) (h : DataW.TrodAll enc Tryz.prog W 0 (fun _ => true) true ts vs ds ps) (hp : ∀ p ∈ ps, p.block < W.heap.size) (hb : Below W.heap.size W W') :
    DataW.TrodAll enc Tryz.prog W' 0 (fun b => decide (b < W.heap.size)) true ts vs ds ps :=
  trod_all_carry (places_stay hb) (h.respare kids full hT fun p h1 => decide_eq_true (hp p h1)) hp
end
end Go.Proofs.YtlhmfgbaefaneaaGreatDoor.law6
namespace Go.Proofs.YtlhmfgbaefaneaaGreatDoor.law6
open Go Go.ChangeShapes Go.WideShapes Go.RowKit Go.Deep
open Go.Proofs.YtlhmfgbaefaneaaGreatDoor.ref6 (Rule)
instance : Inhabited Rule := ⟨⟨0, 0, 0, 0, 0, false⟩⟩
section
set_option maxRecDepth 100000
variable {H : Type} {enc : TypeId × Value → H} {W : World} {base : Nat} {sp : Nat → Bool} {held : Bool}
end
end Go.Proofs.YtlhmfgbaefaneaaGreatDoor.law6
namespace Go.Proofs.YtlhmfgbaefaneaaGreatDoor.law6
open Go.ChangeShapes Go.WideShapes Go.RowKit
open Go.ChangeMaps (open_string shut_string)
set_option maxRecDepth 100000 in
theorem monthAll_lifted (os : Os) (started : os.Started) (H : Type) (enc : TypeId × Value → H) :
    ReturnsInHanded {} Tryz.checked os 6 .any (fun w args => (Rows.monthAllSpec.pre enc Tryz.prog Tryz.f6 [] false w args ∧ laidMetH Tryz.prog Rows.monthAllRow.laid w) ∧ sizedMet enc Tryz.prog Tryz.f6 (OpenSpec.ofChange Rows.monthAllSpec) false w args)
      (Rows.monthAllSpec.post enc Tryz.prog Tryz.f6 false true false false) := by
  refine returnsInHanded_of_change_and (C := Tryz.checked) (X := fun w _ => laidMetH Tryz.prog Rows.monthAllRow.laid w) (fun _ _ _ hh h => h.of_heap hh) own started (by kernel_rfl) Tryz.func6
    (ChangeSpec.witness_at (enc := enc) (C := Tryz.checked) (os := os) (X := fun w _ => laidMetH Tryz.prog Rows.monthAllRow.laid w) false (laidWorld os) #[.int .i64 0, .int .i64 0, .bool false, .int .i64 0, .int .i64 0, .int .i64 0] 8 (laidWorld_os os) (laid_vars os _) (laid_rest os _) (by kernel_rfl) (by kernel_rfl) (by kernel_rfl) (laidWorld_met os _)) ?_
  intro W base args ds gs before hval0 hW _ hsz hL _
  have hval : ∀ (j : Nat) t v, Tryz.f6.params[j]? = some t → args[j]? = some v → Value.okWide Tryz.prog W .any base t v := hval0
  have hW' := hW
  obtain ⟨p, q, hA00, hV0, rfl, hfz, hnd⟩ := hW
  have hlt : ∀ x ∈ p, x.block < W.heap.size := fun x hx => hW'.lt x (List.mem_append_left _ hx)
  have hstay : ∃ ps, ∀ W', Below W.heap.size W W' → DataW.TrodAll enc Tryz.prog W' 0 (fun b => decide (b < W.heap.size)) true Tryz.f6.params.toList args.toList ds ps :=
    ⟨p, fun W' hb => args_stay (by rw [Tryz.params6]; simp) hA00 hlt hb⟩
  have hA0 : DataW.TrodAll enc Tryz.prog W 0 (fun _ => true) true Tryz.f6.params.toList args.toList ds p := hA00
  have hV : DataW.TrodVars enc Tryz.prog W (fun _ => true) [] gs q := hV0
  rw [Tryz.params6] at hA0 hval hsz
  obtain ⟨v0, w0, d0, e0, p0, q0, g0, rfl, rfl, h0, hA1⟩ := trodAll_cons hA0
  obtain ⟨v1, w1, d1, e1, p1, q1, g1, rfl, rfl, h1, hA2⟩ := trodAll_cons hA1
  obtain ⟨v2, w2, d2, e2, p2, q2, g2, rfl, rfl, h2, hA3⟩ := trodAll_cons hA2
  obtain ⟨v3, w3, d3, e3, p3, q3, g3, rfl, rfl, h3, hA4⟩ := trodAll_cons hA3
  obtain ⟨v4, w4, d4, e4, p4, q4, g4, rfl, rfl, h4, hA5⟩ := trodAll_cons hA4
  obtain ⟨v5, w5, d5, e5, p5, q5, g5, rfl, rfl, h5, hA6⟩ := trodAll_cons hA5
  obtain ⟨g6, rfl, rfl⟩ := trodAll_nil hA6
  obtain rfl : args = #[v0, v1, v2, v3, v4, v5] := by cases args; simp_all
  obtain ⟨a0, rfl, rfl, rfl, u0⟩ := open_int Tryz.underlying3 (hval 0 3 v0 rfl rfl) h0
  obtain ⟨a1, rfl, rfl, rfl, u1⟩ := open_int Tryz.underlying3 (hval 1 3 v1 rfl rfl) h1
  obtain ⟨a2, rfl, rfl, rfl⟩ := open_bool Tryz.underlying4 (hval 2 4 v2 rfl rfl) h2
  obtain ⟨a3, rfl, rfl, rfl, u3⟩ := open_int Tryz.underlying3 (hval 3 3 v3 rfl rfl) h3
  obtain ⟨a4, rfl, rfl, rfl, u4⟩ := open_int Tryz.underlying3 (hval 4 3 v4 rfl rfl) h4
  obtain ⟨a5, rfl, rfl, rfl, u5⟩ := open_int Tryz.underlying3 (hval 5 3 v5 rfl rfl) h5
  have y0 := bounds_i64 u0
  have y1 := bounds_i64 u1
  have y3 := bounds_i64 u3
  have y4 := bounds_i64 u4
  have y5 := bounds_i64 u5
  have hL' : laidMet Tryz.prog laidL W ∧ handlesMet Tryz.prog [("errors.errorType", Rows.laid_errors_errorType)] W := hL
  have hg := wd_of hL'.1 hL'.2
  obtain ⟨rfl, rfl⟩ : gs = [] ∧ q = [] := by
    cases gs with
    | nil => exact ⟨rfl, hV⟩
    | cons g r => exact absurd hV (by intro h; cases h)
  have e1 : Rows.monthAllSpec.fn H ([.lit (.int .i64 a0), .lit (.int .i64 a1), .lit (.bool a2), .lit (.int .i64 a3), .lit (.int .i64 a4), .lit (.int .i64 a5)] ++ []) = { results := [.lit (.bool true)], args := [.lit (.int .i64 a0), .lit (.int .i64 a1), .lit (.bool a2), .lit (.int .i64 a3), .lit (.int .i64 a4), .lit (.int .i64 a5)] } := by simp [Rows.monthAllSpec]
  refine (MonthAll_walk begun_all month.mon_c a0 y0.1 (by omega) a1 y1.1 (by omega) a2 a3 a4 a5 W hg).mono fun e W' ⟨he, hb⟩ => ?_
  subst he
  obtain ⟨ps, hs⟩ := hstay
  refine ⟨_, rfl, _, _, _, [], ps, [], hW', ?_, ?_, ?_, hb.frame _, fun h => by cases h⟩
  · rw [e1]; exact trodAll_mk1 (shut_bool Tryz.underlying4 true)
  · rw [e1]; exact hs W' hb
  · rw [e1]; rfl
theorem monthAll_c0 : (Rows.monthAllRow.wf (OpenSpec.ofChange Rows.monthAllSpec)) = true := by kernel_rfl
theorem monthAll_c3 : (Tryz.f6.params.all (Tryz.prog.readableRec ·)) = true := by kernel_rfl
theorem monthAll_c4 : (namedTie Tryz.prog Rows.monthAllRow.named Rows.monthAllSpec.vars) = true := by kernel_rfl
theorem monthAll_c5 : ((Rows.monthAllRow.stops == [])) = true := by kernel_rfl
theorem monthAll_c7 : ((Rows.monthAllRow.knobs == [])) = true := by kernel_rfl
theorem monthAll_c9 : ((Rows.monthAllRow.inPlace == Tryz.prog.inPlace 6)) = true := by kernel_rfl
theorem monthAll_c10 : ((Rows.monthAllRow.unfollowed == Tryz.prog.unfollowed 6)) = true := by kernel_rfl
theorem monthAll_c11 : ((Rows.monthAllRow.recurses == Tryz.prog.recurses 6)) = true := by kernel_rfl
theorem monthAll_c12 : ((Rows.monthAllRow.named == Tryz.prog.varsNamed 6)) = true := by kernel_rfl
theorem monthAll_c13 : ((Rows.monthAllRow.maps == (Tryz.f6.params.toList ++ Rows.monthAllSpec.plain.varTypes Tryz.prog).any (Tryz.prog.mapsRec ·))) = true := by kernel_rfl
theorem monthAll_c14 : ((Rows.monthAllRow.ifaces == (Tryz.f6.params.toList ++ Rows.monthAllSpec.plain.varTypes Tryz.prog).any (Tryz.prog.ifacesRec ·))) = true := by kernel_rfl
theorem monthAll_c15 : ((Rows.monthAllRow.mapsOut == Tryz.prog.mapsAmong Tryz.f6.resultTypes.toList)) = true := by kernel_rfl
theorem monthAll_c16 : ((Rows.monthAllRow.loops == (Tryz.f6.params.toList ++ Rows.monthAllSpec.plain.varTypes Tryz.prog).any (Tryz.prog.loopsFrom ·))) = true := by kernel_rfl
theorem monthAll_c17 : ((Rows.monthAllRow.wideKeys == (Tryz.f6.params.toList ++ Rows.monthAllSpec.plain.varTypes Tryz.prog ++ Tryz.f6.resultTypes.toList).any (Tryz.prog.wideKeysFrom ·))) = true := by kernel_rfl
theorem monthAll_c18 : (Rows.monthAllSpec.vars.all (Tryz.prog.varReadable ·)) = true := by kernel_rfl
theorem monthAll_c19 : (Tryz.f6.resultTypes.all (fun t => Tryz.prog.readableRec t && decide (t < Tryz.prog.types.size))) = true := by kernel_rfl
theorem monthAll_c20 : ((Rows.monthAllRow.ifacesOut == Tryz.f6.resultTypes.toList.any (Tryz.prog.ifacesRec ·))) = true := by kernel_rfl
theorem monthAll_c21 : ((Rows.monthAllRow.loopsOut == Tryz.f6.resultTypes.toList.any (Tryz.prog.loopsFrom ·))) = true := by kernel_rfl
theorem monthAll_c23 : (Rows.monthAllRow.shortTexts.isNone) = true := by kernel_rfl
theorem monthAll_c28 : ((Rows.monthAllRow.kinds == (if Rows.monthAllRow.domain.isEmpty then [] else Tryz.f6.params.toList.map fun t => match Tryz.prog.underlying t with | some (.int k) => some k | _ => none))) = true := by kernel_rfl
theorem monthAll_c29 : ((Rows.monthAllRow.pinned == Rows.monthAllRow.pinnedBy)) = true := by kernel_rfl
theorem monthAll_c30 : ((Rows.monthAllRow.veiled == (Tryz.f6.params.toList ++ Rows.monthAllSpec.plain.varTypes Tryz.prog ++ Tryz.f6.resultTypes.toList).any (Tryz.prog.veiledRec ·))) = true := by kernel_rfl
theorem monthAll_c31 : (Rows.monthAllRow.veiledFits Tryz.prog Tryz.f6.params.toList (Tryz.f6.params.toList ++ Rows.monthAllSpec.plain.varTypes Tryz.prog ++ Tryz.f6.resultTypes.toList)) = true := by kernel_rfl
set_option maxRecDepth 100000 in
theorem monthAll_facts : joinedFacts Tryz.prog 6 Tryz.f6 Rows.monthAllSpec Rows.monthAllRow = true := by
  unfold joinedFacts
  exact band (band (band (band (band (band (band (band (band (band (band (band (band (band (band (band (band (band (band (band (band (band (band (band (band (band (band (band (band (band (band monthAll_c0 fact_c1) fact_c2) monthAll_c3) monthAll_c4) monthAll_c5) fact_c6) monthAll_c7) fact_c8) monthAll_c9) monthAll_c10) monthAll_c11) monthAll_c12) monthAll_c13) monthAll_c14) monthAll_c15) monthAll_c16) monthAll_c17) monthAll_c18) monthAll_c19) monthAll_c20) monthAll_c21) fact_c22) monthAll_c23) fact_c24) fact_c25) fact_c26) fact_c27) monthAll_c28) monthAll_c29) monthAll_c30) monthAll_c31
theorem monthAll_goes : false = Rows.monthAllRow.goesBy Tryz.prog := by kernel_rfl
theorem monthAll_holds : Rows.MonthAllSaid :=
  OpenClaim.holds_of_wide 6 Tryz.f6 rfl rfl rfl rfl rfl rfl rfl ⟨rfl, rfl, rfl, rfl, rfl⟩ rfl rfl rfl rfl rfl (by kernel_rfl) Tryz.func6 monthAll_facts
    (of_decide_eq_true (by kernel_rfl)) (by unfold Func.isWrapper; rw [if_neg (of_decide_eq_false (by kernel_rfl))]; exact ⟨rfl, rfl⟩)
    (fun os started H enc _ => monthAll_lifted os started H enc)
theorem monthAll_plain (f : FuncId) (fn : Func) (hf : Tryz.pinned.checked.prog.funcNamed "rentier/rentierlaw6.MonthAll" = some f) (hfn : Tryz.pinned.checked.prog.funcs[f]? = some fn) :
    true = Tryz.pinned.checked.prog.looks [] ∧ ∀ (j : Nat) t, fn.params[j]? = some t → Tryz.pinned.checked.prog.wantsStandIn t = false := by
  obtain rfl : f = 6 := Option.some.inj ((show Tryz.prog.funcNamed "rentier/rentierlaw6.MonthAll" = some 6 by kernel_rfl).symm.trans hf) |>.symm
  obtain rfl : fn = Tryz.f6 := (Option.some.inj (Tryz.func6.symm.trans hfn)).symm
  refine ⟨by kernel_rfl, fun j t ht => ?_⟩
  rw [Tryz.params6] at ht
  have hm := Array.mem_of_getElem? ht
  simp at hm
  have t_i : Tryz.pinned.checked.prog.wantsStandIn 3 = false := by kernel_rfl
  have t_b : Tryz.pinned.checked.prog.wantsStandIn 4 = false := by kernel_rfl
  rcases hm with rfl | rfl | rfl <;> first | with_reducible exact t_i | with_reducible exact t_b
theorem monthAll_card : Rows.MonthAllCardSaid :=
  Claim7.holds_tied_plain_at .later [] _ _ _ _ (monthAll_holds) (fun _ h => by cases h) (by kernel_rfl) (fun _ h => by cases h) monthAll_row_tie rfl ⟨rfl, rfl⟩ (by kernel_rfl) rfl monthAll_plain monthAll_goes
end Go.Proofs.YtlhmfgbaefaneaaGreatDoor.law6
