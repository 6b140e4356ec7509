/-
  The steps of the walks, part 3: Read, RefMul, Laid6, Stay6, Arg6.
-/
import Derived.Test.YtlhmfgbaefaneaaGreatDoorProg
import Derived.WalkKit
import Derived.WalkSpells
import Derived.Lib.Hide
import Derived.OwnWalk
import Derived.Below
import Derived.Carry
import Derived.Outline
import Derived.Laws.MakeOwn
import Derived.Test.YtlhmfgbaefaneaaGreatDoorRows
import Derived.Lib.LaidU8
import Derived.ChangeSame
import Derived.ChangeVars
import Derived.JoinedOf
import Derived.RowKit
import Derived.RowKitTokens
import Derived.LaidLaws
import Derived.LaidHandle
import Derived.Stop.Joined
import Derived.Lay
import Derived.ReadAgain
import Derived.ChangeBears
import Derived.Deep.Slices
import Derived.ChangeArms
import Derived.OpenShut
import Derived.ProofKit
import Derived.Test.YtlhmfgbaefaneaaGreatDoorB01
import Derived.Test.YtlhmfgbaefaneaaGreatDoorB02
import Derived.Test.YtlhmfgbaefaneaaGreatDoorB03
import Derived.Test.YtlhmfgbaefaneaaGreatDoorB04
import Derived.Test.YtlhmfgbaefaneaaGreatDoorB05
import Derived.Test.YtlhmfgbaefaneaaGreatDoorB06
import Derived.Test.YtlhmfgbaefaneaaGreatDoorB07
import Derived.Test.YtlhmfgbaefaneaaGreatDoorB08
import Derived.Test.YtlhmfgbaefaneaaGreatDoorB09
import Derived.Test.YtlhmfgbaefaneaaGreatDoorB10
import Derived.Test.YtlhmfgbaefaneaaGreatDoorB11
import Derived.Test.YtlhmfgbaefaneaaGreatDoorB12
import Derived.Test.YtlhmfgbaefaneaaGreatDoorB13
import Derived.Test.YtlhmfgbaefaneaaGreatDoorB14
import Derived.Test.YtlhmfgbaefaneaaGreatDoorB15
import Derived.Test.YtlhmfgbaefaneaaGreatDoorB16
import Derived.Test.YtlhmfgbaefaneaaGreatDoorB17
import Derived.Test.YtlhmfgbaefaneaaGreatDoorB18
import Derived.Test.YtlhmfgbaefaneaaGreatDoorB19
import Derived.Test.YtlhmfgbaefaneaaGreatDoorB20
import Derived.Test.YtlhmfgbaefaneaaGreatDoorB21
import Derived.Test.YtlhmfgbaefaneaaGreatDoorB22
import Derived.Test.YtlhmfgbaefaneaaGreatDoorLCalNew01
import Derived.Test.YtlhmfgbaefaneaaGreatDoorLCalNew02
import Derived.Test.YtlhmfgbaefaneaaGreatDoorLaw6Facts
namespace Go.Proofs.YtlhmfgbaefaneaaGreatDoor.ref
open Go.RowKit
theorem Reads.of_own {w : World} {base : Nat} {sv : Value} {l : List Nat} (h : w.ownsRow base 104 1 sv l.length (l.map fun d => Value.int .u64 (d : Nat))) : Reads w sv l := by
  rcases h.2 with ⟨rfl, hl⟩ | ⟨g, cap, cur, rfl, _, _, hnc, hcm, _, _⟩
  · exact ⟨none, 0, by rw [hl], ⟨by omega, fun _ => rfl⟩, Nat.zero_le _, Or.inl (List.eq_nil_of_length_eq_zero hl)⟩
  · refine ⟨some ⟨g, 0, none⟩, cap, rfl, ⟨hnc, fun h => by cases h⟩, hcm, Or.inr ⟨g, rfl, fun k hk => ?_⟩⟩
    rw [h.cellAt k (by omega)]
    exact dg_map hk _
end Go.Proofs.YtlhmfgbaefaneaaGreatDoor.ref
namespace Go.Proofs.YtlhmfgbaefaneaaGreatDoor.ref
open Go.RowKit
theorem Own.reads {w : World} {base g cap : Nat} {o : List Nat} (h : Own w base g cap o) : Reads w (.slice (some ⟨g, 0, none⟩) o.length cap) o := Reads.of_own h
end Go.Proofs.YtlhmfgbaefaneaaGreatDoor.ref
namespace Go.Proofs.YtlhmfgbaefaneaaGreatDoor.law6
open Go Go.ChangeShapes Go.WideShapes Go.RowKit Go.Lib Go.Proofs.YtlhmfgbaefaneaaGreatDoor.date
theorem own : ownKnob Tryz.prog.godebug = none := by kernel_rfl
theorem et : Tryz.prog.globalNamed "errors.errorType" = some 1 := by kernel_rfl
theorem rt : (Tryz.prog.cutTypes.find? (·.1 == "internal/reflectlite.rtype")).map (·.2) = some 258 := by kernel_rfl
theorem oneRow : ((List.range 333).filter fun t => Tryz.prog.rowNamed t [101, 114, 114, 111, 114]) = [28] := by kernel_rfl
theorem tsize : Tryz.prog.types.size = 333 := by kernel_rfl
theorem handle_of {W : World} (h : handlesMet Tryz.prog [("errors.errorType", Rows.laid_errors_errorType)] W) : flt.Handle W := by
  obtain ⟨name, u, ty, e1, e2, e3, e4, e5⟩ := h _ (List.mem_singleton.2 rfl)
  have en : name = [101, 114, 114, 111, 114] := (Option.some.inj e1).symm
  subst en
  obtain rfl := Option.some.inj (rt.symm.trans e2)
  have hm : ty ∈ (List.range 333).filter fun t => Tryz.prog.rowNamed t [101, 114, 114, 111, 114] := List.mem_filter.2 ⟨List.mem_range.2 (by rw [← tsize]; exact e3), e4⟩
  rw [oneRow] at hm
  obtain rfl := List.mem_singleton.1 hm
  have hh : typeHandle Tryz.prog 28 = .pointer (some ⟨10, 28, none⟩) := by kernel_rfl
  rw [hh] at e5
  unfold flt.Handle
  simpa using World.var?_cell et e5 0
def laidL : List (String × DataW Unit) := (Rows.dateAllRow.laid).filter fun x => x.2.handleName?.isNone
theorem in_pow : ("internal/strconv.uint64pow10", tabData .u64 pow10Tab) ∈ laidL := by
  unfold laidL
  refine List.mem_filter.2 ⟨?_, rfl⟩
  repeat (first | exact .head _ | refine .tail _ ?_)
theorem in_len : ("rentier/date.lengths", tabData .i64 [31, 28, 31, 30, 31, 30, 31, 31, 30, 31, 30, 31]) ∈ laidL := by
  unfold laidL
  refine List.mem_filter.2 ⟨?_, rfl⟩
  repeat (first | exact .head _ | refine .tail _ ?_)
theorem tab_of {W : World} {n : String} {k : IntKind} {zs : List Int} {g t e c : Nat} (h : VarReads Tryz.prog W n (tabData k zs)) (hg : Tryz.prog.globalNamed n = some g) (hty : (Tryz.prog.globals[g]?).map (·.type) = some t) (ht : Tryz.prog.underlying t = some (.array c e)) (he : Tryz.prog.underlying e = some (.int k)) (hce : Tryz.prog.cellsOf e = 1) (hct : Tryz.prog.cellsOf t = c) :
    ∃ u fr, W.heap[g]? = some (.cells (zs.map fun z => Value.int k z).toArray u fr) := by
  obtain ⟨g', t', cs, fuel, p, hg', ht', hvar, hd⟩ := h
  obtain rfl := Option.some.inj (hg.symm.trans hg')
  obtain rfl := Option.some.inj (hty.symm.trans ht')
  have hc := cells_of_tab ht he hce hct hd
  unfold World.var? at hvar
  rw [hg, Option.bind_some] at hvar
  split at hvar
  · rename_i cs' u fr hh
    cases hvar
    refine ⟨u, fr, ?_⟩
    rw [hh, ← hc]
  · cases hvar
theorem wd_of {W : World} (hL : laidMet Tryz.prog laidL W) (hH : handlesMet Tryz.prog [("errors.errorType", Rows.laid_errors_errorType)] W) : Wd W := by
  obtain ⟨u1, f1, h1⟩ := tab_of (laidMet.reads hL in_pow) (g := 2) (t := 285) (e := 104) (c := 20) (by kernel_rfl) (by kernel_rfl) (by kernel_rfl) (by kernel_rfl) (by kernel_rfl) (by kernel_rfl)
  obtain ⟨u2, f2, h2⟩ := tab_of (laidMet.reads hL in_len) (g := 0) (t := 102) (e := 3) (c := 12) (by kernel_rfl) (by kernel_rfl) (by kernel_rfl) (by kernel_rfl) (by kernel_rfl) (by kernel_rfl)
  refine ⟨handle_of hH, fun i hi => ?_, ⟨u1, f1, h1⟩⟩
  rw [cell_of_row _ _ i _ _ f2 h2]
  match i, hi with
  | 0, _ | 1, _ | 2, _ | 3, _ | 4, _ | 5, _ | 6, _ | 7, _ | 8, _ | 9, _ | 10, _ | 11, _ => rfl
noncomputable def laidBase (os : Os) : World :=
  { World.holding Tryz.prog os ⟨#[], #[], []⟩ with heap := (World.holding Tryz.prog os ⟨#[], #[], []⟩).heap.modify 1 fun
      | .cells _ t frozen => .cells #[.iface 258 (.agg #[.pointer (some ⟨10, 28, none⟩)])] t frozen
      | o => o }
noncomputable def laidWorld (os : Os) : World := (laidBase os).layVars Tryz.prog laidL
theorem laidWorld_os (os : Os) : (laidWorld os).os = os := World.layVars_os _ _ _
theorem laidWorld_met (os : Os) (args : Array Value) : laidMetH Tryz.prog Rows.dateAllRow.laid ((laidWorld os).forCall (fun _ _ => 0) ⟨#[], args, []⟩).memory := by
  refine laidMetH_of_parts ?_ (by kernel_rfl)
  have e1 : (laidL.filter fun x => (laidL.map (·.1)).contains x.1) = laidL := List.filter_eq_self.2 fun x hx => List.contains_iff_mem.2 (List.mem_map.2 ⟨x, hx, rfl⟩)
  have e2 : (laidL.filter fun x => !(laidL.map (·.1)).contains x.1) = [] := List.filter_eq_nil_iff.2 fun x hx => by rw [List.contains_iff_mem.2 (List.mem_map.2 ⟨x, hx, rfl⟩)]; simp
  have h : laidMet Tryz.prog laidL (laidWorld os) := laidMet_layVars (w0 := laidBase os) (laidL.map (·.1)) [] (by rw [e1]; rfl) (by rw [e1]; kernel_rfl) (by rw [e1]; kernel_rfl) (by rw [e2]; exact LaidIn.none)
  exact h.of_heap (by simp [World.memory, World.forCall, Input.heap])
theorem laid_vars (os : Os) (args : Array Value) : ((laidWorld os).forCall (fun _ _ => 0) ⟨#[], args, []⟩).variablesB Tryz.checked.prog = true := by kernel_rfl
theorem laid_rest (os : Os) (args : Array Value) : (((laidWorld os).forCall (fun _ _ => 0) ⟨#[], args, []⟩).heap.toList.drop Tryz.checked.prog.globals.size).take ((begin Tryz.checked.prog (fun _ _ => 0) default).world.heap.size - Tryz.checked.prog.globals.size) =
      (begin Tryz.checked.prog (fun _ _ => 0) default).world.heap.toList.drop Tryz.checked.prog.globals.size := by kernel_rfl
end Go.Proofs.YtlhmfgbaefaneaaGreatDoor.law6
namespace Go.Proofs.YtlhmfgbaefaneaaGreatDoor.law6
open Go Go.ChangeShapes Go.RowKit
theorem kids : Kids Tryz.prog (· < Tryz.prog.types.size) := kids_rows fact_c1 fact_c2
theorem full : ∀ t e, t < Tryz.prog.types.size → Tryz.prog.underlying t = some (.slice e) → 0 < Tryz.prog.cellsOf e := slices_full_of Tryz.prog (by kernel_rfl)
section
variable {H : Type} {enc : TypeId × Value → H} {P : Program} {W W' : World} {base : Nat} {sp : Nat → Bool} {held : Bool}
theorem trod_all_carry (hs : ∀ p : MemPlace, p.block < W.heap.size → W.sameAt W' p) : ∀ {ts : List TypeId} {vs : List Value} {ds : List (DataW H)} {ps : List MemPlace}, DataW.TrodAll enc P W base sp held ts vs ds ps → (∀ p ∈ ps, p.block < W.heap.size) → DataW.TrodAll enc P W' base sp held ts vs ds ps
  | [], [], [], _, h, _ => h
  | _ :: _, _ :: _, _ :: _, _, ⟨p, q, ⟨n, h1⟩, h2, e⟩, hp => ⟨p, q, ⟨n, DataW.trod_carry n _ _ _ h1 fun x hx => hs x (hp x (by rw [e]; exact List.mem_append_left _ hx))⟩, trod_all_carry hs h2 (fun x hx => hp x (by rw [e]; exact List.mem_append_right _ hx)), e⟩
theorem places_stay (hb : Below W.heap.size W W') (p : MemPlace) (hp : p.block < W.heap.size) : W.sameAt W' p := by
  cases p with
  | cell b off => exact hb.cell (p := ⟨b, off, none⟩) hp
  | map b => exact hb.block b hp
theorem args_stay {ts : List TypeId} {vs : List Value} {ds : List (DataW H)} {ps : List MemPlace} (hT : ∀ t ∈ ts, t < Tryz.prog.types.size) (h : DataW.TrodAll enc Tryz.prog W 0 (fun _ => true) true ts vs ds ps) (hp : ∀ p ∈ ps, p.block < W.heap.size) (hb : Below W.heap.size W W') :
    DataW.TrodAll enc Tryz.prog W' 0 (fun b => decide (b < W.heap.size)) true ts vs ds ps :=
  trod_all_carry (places_stay hb) (h.respare kids full hT fun p h1 => decide_eq_true (hp p h1)) hp
end
theorem long_of {n m b : Nat} (h : (n + m) * b ≤ reachBytes) (hb : Nat.ble 1 b = true) : n ≤ 4611686018427387904 := by
  have h1 := Nat.le_of_ble_eq_true hb
  have h2 := Nat.mul_le_mul_left (n + m) h1
  have h3 : reachBytes ≤ 4611686018427387904 := by decide
  omega
end Go.Proofs.YtlhmfgbaefaneaaGreatDoor.law6
namespace Go.Proofs.YtlhmfgbaefaneaaGreatDoor.law6
open Go Go.ChangeShapes Go.WideShapes Go.RowKit Go.Deep
open Go.Proofs.YtlhmfgbaefaneaaGreatDoor.ref6 (Rule)
theorem spot_none {W : World} {a : Addr} {v : Value} (h : W.cell? a = some v) : a.spot = none := by
  obtain ⟨g, o, s⟩ := a
  cases s with
  | none => rfl
  | some s => unfold World.cell? at h; split at h <;> simp at h
theorem add_at (g o : Nat) (i : Nat) : (⟨g, o, none⟩ : Addr).add i = ⟨g, o + i, none⟩ := by
  unfold Addr.add
  split
  · rename_i h; rw [h, Nat.add_zero]
  · rfl
instance : Inhabited Rule := ⟨⟨0, 0, 0, 0, 0, false⟩⟩
section
set_option maxRecDepth 100000
variable {H : Type} {enc : TypeId × Value → H} {W : World} {base : Nat} {sp : Nat → Bool} {held : Bool}
theorem ints_in {r : Reach} {b0 : Nat} {v : Value} {d : DataW H} {p : List MemPlace} (hval : Value.okWide Tryz.prog W r b0 54 v) (h : DataW.Trod enc Tryz.prog W base sp held 54 v d p) (hs : ∀ es ss, d = .slice es ss → es.length ≤ 4611686018427387904) : ∃ l : List Int, IntsO W v l ∧ ∃ ao cap, v = .slice ao l.length cap ∧ l.length ≤ cap := by
  obtain ⟨a0, l0, c0, rfl⟩ := okWide_slice Tryz.underlying54 hval
  obtain ⟨n, h⟩ := h
  rcases open_slice1 Tryz.underlying54 (by kernel_rfl) h with ⟨e, -⟩ | ⟨a, len, cap, m, k, V, D, Pl, e, -, hl, hm, hmm, hx, hc⟩
  · replace e := List.head_eq_of_cons_eq e
    exact ⟨[], ⟨none, 0, e, by simp, fun k z hk => by simp at hk⟩, none, 0, e, Nat.le_refl _⟩
  · replace e := List.head_eq_of_cons_eq e
    have hlm : len ≤ m := by rw [hmm]; split <;> omega
    obtain ⟨Z, hZ⟩ := choose_lt (α := Int) (n := m) (p := fun i z => W.cell? (a.add i) = some (.int .i64 z) ∧ -9223372036854775808 ≤ z ∧ z ≤ 9223372036854775807) (fun i hi => by
      obtain ⟨h1, h2⟩ := hc i hi
      obtain ⟨z, e1, -, e3⟩ := DataW.trod_int Tryz.underlying3 h2
      simp only [List.cons.injEq, and_true] at e1
      exact ⟨z, e1 ▸ h1, bounds_i64 e3⟩)
    have hml : len ≤ 4611686018427387904 := by
      have := hs _ _ (congrArg Prod.fst hx)
      simpa using this
    refine ⟨(List.range len).map Z, ⟨some a, cap, by rw [List.length_map, List.length_range]; exact e, by rw [List.length_map, List.length_range]; omega, fun i z hk => ?_⟩, some a, cap, by rw [List.length_map, List.length_range]; exact e, by rw [List.length_map, List.length_range]; exact hl⟩
    have hi : i < len := by have := (List.getElem?_eq_some_iff.1 hk).1; simpa using this
    rw [List.getElem?_map, List.getElem?_range hi] at hk
    simp only [Option.map_some, Option.some.injEq] at hk
    subst hk
    obtain ⟨h1, h2, h3⟩ := hZ i (by omega)
    have h0 := (hZ 0 (by omega)).1
    obtain ⟨g, o, s⟩ := a
    have hs : s = none := spot_none (a := ⟨g, o, s⟩) h0
    subst hs
    rw [add_at] at h1
    exact ⟨h2, h3, g, o, rfl, h1⟩
theorem field1 {fuel : Nat} {t : TypeId} {cs : List Value} {x : DataW H × List MemPlace} {v : Value} (hc : cs = [v]) (h : DataW.trod enc Tryz.prog W base sp held fuel t cs = some x) (ht : Tryz.prog.underlying t = some (.int .i64)) : ∃ z, v = .int .i64 z := by
  obtain ⟨z, e1, -, -⟩ := DataW.trod_int ht h
  rw [hc] at e1
  simp only [List.cons.injEq, and_true] at e1
  exact ⟨z, e1⟩
set_option maxRecDepth 100000 in
theorem rule_in {fuel : Nat} {cs : List Value} {x : DataW H × List MemPlace} (h : DataW.trod enc Tryz.prog W base sp held fuel 60 cs = some x) :
    ∃ r : Rule, cs = [.int .i64 r.kind, .int .i64 r.month, .int .i64 r.day, .int .i64 r.n, .int .i64 r.wd, .bool r.shift] := by
  obtain ⟨xs, n, -, -, hl, hxl, hf⟩ := DataW.trod_struct Tryz.underlying60 h
  have hl6 : cs.length = 6 := hl
  match cs, hl6 with
  | [v0, v1, v2, v3, v4, v5], _ =>
    have g0 := hf 0 _ rfl
    have g1 := hf 1 _ rfl
    have g2 := hf 2 _ rfl
    have g3 := hf 3 _ rfl
    have g4 := hf 4 _ rfl
    have g5 := hf 5 _ rfl
    have hx : xs.length = 6 := hxl
    match xs, hx with
    | [y0, y1, y2, y3, y4, y5], _ =>
      obtain ⟨z0, rfl⟩ := field1 (v := v0) rfl g0 Tryz.underlying3
      obtain ⟨z1, rfl⟩ := field1 (v := v1) rfl g1 Tryz.underlying3
      obtain ⟨z2, rfl⟩ := field1 (v := v2) rfl g2 Tryz.underlying3
      obtain ⟨z3, rfl⟩ := field1 (v := v3) rfl g3 Tryz.underlying3
      obtain ⟨z4, rfl⟩ := field1 (v := v4) rfl g4 Tryz.underlying3
      obtain ⟨z5, e5, -⟩ := DataW.trod_bool Tryz.underlying4 g5
      have e5 : v5 = .bool z5 := by
        have : [v5] = [Value.bool z5] := e5
        simpa using this
      subst e5
      exact ⟨⟨z0, z1, z2, z3, z4, z5⟩, rfl⟩
theorem rules_in {r : Reach} {b0 : Nat} {v : Value} {d : DataW H} {p : List MemPlace} (hval : Value.okWide Tryz.prog W r b0 53 v) (h : DataW.Trod enc Tryz.prog W base sp held 53 v d p) (hs : ∀ es ss, d = .slice es ss → es.length ≤ 4611686018427387904) : ∃ l : List Rule, RulesO W v l ∧ ∃ ao cap, v = .slice ao l.length cap ∧ l.length ≤ cap := by
  obtain ⟨a0, l0, c0, rfl⟩ := okWide_slice Tryz.underlying53 hval
  obtain ⟨n, h⟩ := h
  rcases open_slice Tryz.underlying53 h with ⟨e, -⟩ | ⟨a, len, cap, m, k, D, Pl, e, -, hl, hm, hmm, hx, hc⟩
  · replace e := List.head_eq_of_cons_eq e
    exact ⟨[], ⟨none, 0, e, by simp, fun k z hk => by simp at hk⟩, none, 0, e, Nat.le_refl _⟩
  · replace e := List.head_eq_of_cons_eq e
    have c6 : Tryz.prog.cellsOf 60 = 6 := by kernel_rfl
    rw [c6] at hc
    have hlm : len ≤ m := by rw [hmm]; split <;> omega
    obtain ⟨Z, hZ⟩ := choose_lt (α := Rule) (n := m) (p := fun i r => ∀ j, j < 6 → W.cell? (a.add (i * 6 + j)) = [Value.int .i64 r.kind, .int .i64 r.month, .int .i64 r.day, .int .i64 r.n, .int .i64 r.wd, .bool r.shift][j]?) (fun i hi => by
      obtain ⟨cs', h1, h2⟩ := hc i hi
      obtain ⟨r, rfl⟩ := rule_in h2
      obtain ⟨-, -, hcell⟩ := World.cells?_some h1
      refine ⟨r, fun j hj => ?_⟩
      have := hcell j hj
      rwa [add_add] at this)
    have hml : len ≤ 4611686018427387904 := by
      have := hs _ _ (congrArg Prod.fst hx)
      simpa using this
    refine ⟨(List.range len).map Z, ⟨some a, cap, by rw [List.length_map, List.length_range]; exact e, by rw [List.length_map, List.length_range]; omega, fun i z hk => ?_⟩, some a, cap, by rw [List.length_map, List.length_range]; exact e, by rw [List.length_map, List.length_range]; exact hl⟩
    have hi : i < len := by have := (List.getElem?_eq_some_iff.1 hk).1; simpa using this
    rw [List.getElem?_map, List.getElem?_range hi] at hk
    simp only [Option.map_some, Option.some.injEq] at hk
    subst hk
    have h1 := hZ i (by omega)
    have h0 := hZ 0 (by omega) 0 (by decide)
    obtain ⟨g, o, s⟩ := a
    have hs : s = none := spot_none (a := ⟨g, o, s⟩) h0
    subst hs
    simp only [add_at] at h1
    exact ⟨g, o, rfl, h1 0 (by decide), h1 1 (by decide), h1 2 (by decide), h1 3 (by decide), h1 4 (by decide), h1 5 (by decide)⟩
end
end Go.Proofs.YtlhmfgbaefaneaaGreatDoor.law6
