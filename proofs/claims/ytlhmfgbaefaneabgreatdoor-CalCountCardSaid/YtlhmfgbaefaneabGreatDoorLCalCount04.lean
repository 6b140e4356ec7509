/-
  The steps of the walks, part 4: Stay6, Arg6, C6CalCount.
-/
import Derived.ReadAgain
import Derived.ChangeBears
import Derived.ChangeSame
import Derived.Below
import Derived.Deep.Slices
import Derived.ChangeArms
import Derived.OpenShut
import Derived.ProofKit
import Derived.Test.YtlhmfgbaefaneabGreatDoorTie
import Derived.Test.YtlhmfgbaefaneabGreatDoorCards
import Derived.Carry
import Derived.SizedLaws
import Derived.Test.YtlhmfgbaefaneabGreatDoorB01
import Derived.Test.YtlhmfgbaefaneabGreatDoorB02
import Derived.Test.YtlhmfgbaefaneabGreatDoorB03
import Derived.Test.YtlhmfgbaefaneabGreatDoorB04
import Derived.Test.YtlhmfgbaefaneabGreatDoorB05
import Derived.Test.YtlhmfgbaefaneabGreatDoorB06
import Derived.Test.YtlhmfgbaefaneabGreatDoorB07
import Derived.Test.YtlhmfgbaefaneabGreatDoorB08
import Derived.Test.YtlhmfgbaefaneabGreatDoorB09
import Derived.Test.YtlhmfgbaefaneabGreatDoorB10
import Derived.Test.YtlhmfgbaefaneabGreatDoorB11
import Derived.Test.YtlhmfgbaefaneabGreatDoorB12
import Derived.Test.YtlhmfgbaefaneabGreatDoorB13
import Derived.Test.YtlhmfgbaefaneabGreatDoorB14
import Derived.Test.YtlhmfgbaefaneabGreatDoorB15
import Derived.Test.YtlhmfgbaefaneabGreatDoorB16
import Derived.Test.YtlhmfgbaefaneabGreatDoorB17
import Derived.Test.YtlhmfgbaefaneabGreatDoorB18
import Derived.Test.YtlhmfgbaefaneabGreatDoorB19
import Derived.Test.YtlhmfgbaefaneabGreatDoorB20
import Derived.Test.YtlhmfgbaefaneabGreatDoorB21
import Derived.Test.YtlhmfgbaefaneabGreatDoorB22
import Derived.Test.YtlhmfgbaefaneabGreatDoorB23
import Derived.Test.YtlhmfgbaefaneabGreatDoorB24
import Derived.Test.YtlhmfgbaefaneabGreatDoorB25
import Derived.Test.YtlhmfgbaefaneabGreatDoorB26
import Derived.Test.YtlhmfgbaefaneabGreatDoorB27
import Derived.Test.YtlhmfgbaefaneabGreatDoorB28
import Derived.Test.YtlhmfgbaefaneabGreatDoorB29
import Derived.Test.YtlhmfgbaefaneabGreatDoorB30
import Derived.Test.YtlhmfgbaefaneabGreatDoorB31
import Derived.Test.YtlhmfgbaefaneabGreatDoorB32
import Derived.Test.YtlhmfgbaefaneabGreatDoorB33
import Derived.Test.YtlhmfgbaefaneabGreatDoorB34
import Derived.Test.YtlhmfgbaefaneabGreatDoorB35
import Derived.Test.YtlhmfgbaefaneabGreatDoorB36
import Derived.Test.YtlhmfgbaefaneabGreatDoorB37
import Derived.Test.YtlhmfgbaefaneabGreatDoorB38
import Derived.Test.YtlhmfgbaefaneabGreatDoorB39
import Derived.Test.YtlhmfgbaefaneabGreatDoorB40
import Derived.Test.YtlhmfgbaefaneabGreatDoorLCalCount01
import Derived.Test.YtlhmfgbaefaneabGreatDoorLCalCount02
import Derived.Test.YtlhmfgbaefaneabGreatDoorLCalCount03
import Derived.Test.YtlhmfgbaefaneabGreatDoorLaw6Facts
namespace Go.Proofs.YtlhmfgbaefaneabGreatDoor.law6
open Go Go.ChangeShapes Go.RowKit
theorem kids : Kids Tryz.prog (· < Tryz.prog.types.size) := kids_rows fact_c1 fact_c2
theorem full : ∀ t e, t < Tryz.prog.types.size → Tryz.prog.underlying t = some (.slice e) → 0 < Tryz.prog.cellsOf e := slices_full_of Tryz.prog (by kernel_rfl)
section
variable {H : Type} {enc : TypeId × Value → H} {P : Program} {W W' : World} {base : Nat} {sp : Nat → Bool} {held : Bool}
theorem trod_all_carry (hs : ∀ p : MemPlace, p.block < W.heap.size → W.sameAt W' p) : ∀ {ts : List TypeId} {vs : List Value} {ds : List (DataW H)} {ps : List MemPlace}, DataW.TrodAll enc P W base sp held ts vs ds ps → (∀ p ∈ ps, p.block < W.heap.size) → DataW.TrodAll enc P W' base sp held ts vs ds ps
  | [], [], [], _, h, _ => h
  | _ :: _, _ :: _, _ :: _, _, ⟨p, q, ⟨n, h1⟩, h2, e⟩, hp => ⟨p, q, ⟨n, DataW.trod_carry n _ _ _ h1 fun x hx => hs x (hp x (by rw [e]; exact List.mem_append_left _ hx))⟩, trod_all_carry hs h2 (fun x hx => hp x (by rw [e]; exact List.mem_append_right _ hx)), e⟩
theorem places_stay (hb : Below W.heap.size W W') (p : MemPlace) (hp : p.block < W.heap.size) : W.sameAt W' p := by
  cases p with
  | cell b off => exact hb.cell (p := ⟨b, off, none⟩) hp
  | map b => exact hb.block b hp
theorem args_stay {ts : List TypeId} {vs : List Value} {ds : List (DataW H)} {ps : List MemPlace} (hT : ∀ t ∈ ts, t < Tryz.prog.types.size) (h : DataW.TrodAll enc Tryz.prog W 0 (fun _ => true) true ts vs ds ps) (hp : ∀ p ∈ ps, p.block < W.heap.size) (hb : Below W.heap.size W W') :
    DataW.TrodAll enc Tryz.prog W' 0 (fun b => decide (b < W.heap.size)) true ts vs ds ps :=
  trod_all_carry (places_stay hb) (h.respare kids full hT fun p h1 => decide_eq_true (hp p h1)) hp
end
theorem long_of {n m b : Nat} (h : (n + m) * b ≤ reachBytes) (hb : Nat.ble 1 b = true) : n ≤ 4611686018427387904 := by
  have h1 := Nat.le_of_ble_eq_true hb
  have h2 := Nat.mul_le_mul_left (n + m) h1
  have h3 : reachBytes ≤ 4611686018427387904 := by decide
  omega
end Go.Proofs.YtlhmfgbaefaneabGreatDoor.law6
namespace Go.Proofs.YtlhmfgbaefaneabGreatDoor.law6
open Go Go.ChangeShapes Go.WideShapes Go.RowKit Go.Deep
open Go.Proofs.YtlhmfgbaefaneabGreatDoor.ref6 (Rule)
theorem spot_none {W : World} {a : Addr} {v : Value} (h : W.cell? a = some v) : a.spot = none := by
  obtain ⟨g, o, s⟩ := a
  cases s with
  | none => rfl
  | some s => unfold World.cell? at h; split at h <;> simp at h
theorem add_at (g o : Nat) (i : Nat) : (⟨g, o, none⟩ : Addr).add i = ⟨g, o + i, none⟩ := by
  unfold Addr.add
  split
  · rename_i h; rw [h, Nat.add_zero]
  · rfl
instance : Inhabited Rule := ⟨⟨0, 0, 0, 0, 0, false⟩⟩
section
set_option maxRecDepth 100000
variable {H : Type} {enc : TypeId × Value → H} {W : World} {base : Nat} {sp : Nat → Bool} {held : Bool}
theorem field1 {fuel : Nat} {t : TypeId} {cs : List Value} {x : DataW H × List MemPlace} {v : Value} (hc : cs = [v]) (h : DataW.trod enc Tryz.prog W base sp held fuel t cs = some x) (ht : Tryz.prog.underlying t = some (.int .i64)) : ∃ z, v = .int .i64 z := by
  obtain ⟨z, e1, -, -⟩ := DataW.trod_int ht h
  rw [hc] at e1
  simp only [List.cons.injEq, and_true] at e1
  exact ⟨z, e1⟩
set_option maxRecDepth 100000 in
theorem rule_in {fuel : Nat} {cs : List Value} {x : DataW H × List MemPlace} (h : DataW.trod enc Tryz.prog W base sp held fuel 38 cs = some x) :
    ∃ r : Rule, cs = [.int .i64 r.kind, .int .i64 r.month, .int .i64 r.day, .int .i64 r.n, .int .i64 r.wd, .bool r.shift] := by
  obtain ⟨xs, n, -, -, hl, hxl, hf⟩ := DataW.trod_struct Tryz.underlying38 h
  have hl6 : cs.length = 6 := hl
  match cs, hl6 with
  | [v0, v1, v2, v3, v4, v5], _ =>
    have g0 := hf 0 _ rfl
    have g1 := hf 1 _ rfl
    have g2 := hf 2 _ rfl
    have g3 := hf 3 _ rfl
    have g4 := hf 4 _ rfl
    have g5 := hf 5 _ rfl
    have hx : xs.length = 6 := hxl
    match xs, hx with
    | [y0, y1, y2, y3, y4, y5], _ =>
      obtain ⟨z0, rfl⟩ := field1 (v := v0) rfl g0 Tryz.underlying3
      obtain ⟨z1, rfl⟩ := field1 (v := v1) rfl g1 Tryz.underlying3
      obtain ⟨z2, rfl⟩ := field1 (v := v2) rfl g2 Tryz.underlying3
      obtain ⟨z3, rfl⟩ := field1 (v := v3) rfl g3 Tryz.underlying3
      obtain ⟨z4, rfl⟩ := field1 (v := v4) rfl g4 Tryz.underlying3
      obtain ⟨z5, e5, -⟩ := DataW.trod_bool Tryz.underlying4 g5
      have e5 : v5 = .bool z5 := by
        have : [v5] = [Value.bool z5] := e5
        simpa using this
      subst e5
      exact ⟨⟨z0, z1, z2, z3, z4, z5⟩, rfl⟩
theorem rules_in {r : Reach} {b0 : Nat} {v : Value} {d : DataW H} {p : List MemPlace} (hval : Value.okWide Tryz.prog W r b0 60 v) (h : DataW.Trod enc Tryz.prog W base sp held 60 v d p) (hs : ∀ es ss, d = .slice es ss → es.length ≤ 4611686018427387904) : ∃ l : List Rule, RulesO W v l ∧ ∃ ao cap, v = .slice ao l.length cap ∧ l.length ≤ cap := by
  obtain ⟨a0, l0, c0, rfl⟩ := okWide_slice Tryz.underlying60 hval
  obtain ⟨n, h⟩ := h
  rcases open_slice Tryz.underlying60 h with ⟨e, -⟩ | ⟨a, len, cap, m, k, D, Pl, e, -, hl, hm, hmm, hx, hc⟩
  · replace e := List.head_eq_of_cons_eq e
    exact ⟨[], ⟨none, 0, e, by simp, fun k z hk => by simp at hk⟩, none, 0, e, Nat.le_refl _⟩
  · replace e := List.head_eq_of_cons_eq e
    have c6 : Tryz.prog.cellsOf 38 = 6 := by kernel_rfl
    rw [c6] at hc
    have hlm : len ≤ m := by rw [hmm]; split <;> omega
    obtain ⟨Z, hZ⟩ := choose_lt (α := Rule) (n := m) (p := fun i r => ∀ j, j < 6 → W.cell? (a.add (i * 6 + j)) = [Value.int .i64 r.kind, .int .i64 r.month, .int .i64 r.day, .int .i64 r.n, .int .i64 r.wd, .bool r.shift][j]?) (fun i hi => by
      obtain ⟨cs', h1, h2⟩ := hc i hi
      obtain ⟨r, rfl⟩ := rule_in h2
      obtain ⟨-, -, hcell⟩ := World.cells?_some h1
      refine ⟨r, fun j hj => ?_⟩
      have := hcell j hj
      rwa [add_add] at this)
    have hml : len ≤ 4611686018427387904 := by
      have := hs _ _ (congrArg Prod.fst hx)
      simpa using this
    refine ⟨(List.range len).map Z, ⟨some a, cap, by rw [List.length_map, List.length_range]; exact e, by rw [List.length_map, List.length_range]; omega, fun i z hk => ?_⟩, some a, cap, by rw [List.length_map, List.length_range]; exact e, by rw [List.length_map, List.length_range]; exact hl⟩
    have hi : i < len := by have := (List.getElem?_eq_some_iff.1 hk).1; simpa using this
    rw [List.getElem?_map, List.getElem?_range hi] at hk
    simp only [Option.map_some, Option.some.injEq] at hk
    subst hk
    have h1 := hZ i (by omega)
    have h0 := hZ 0 (by omega) 0 (by decide)
    obtain ⟨g, o, s⟩ := a
    have hs : s = none := spot_none (a := ⟨g, o, s⟩) h0
    subst hs
    simp only [add_at] at h1
    exact ⟨g, o, rfl, h1 0 (by decide), h1 1 (by decide), h1 2 (by decide), h1 3 (by decide), h1 4 (by decide), h1 5 (by decide)⟩
end
end Go.Proofs.YtlhmfgbaefaneabGreatDoor.law6
namespace Go.Proofs.YtlhmfgbaefaneabGreatDoor.law6
open Go.ChangeShapes Go.WideShapes Go.RowKit
open Go.ChangeMaps (open_string shut_string)
set_option maxRecDepth 100000 in
theorem calCount_lifted (os : Os) (started : os.Started) (H : Type) (enc : TypeId × Value → H) :
    ReturnsInHanded {} Tryz.checked os 13 .any (fun w args => (Rows.calCountSpec.pre enc Tryz.prog Tryz.f13 [] false w args ∧ laidMetH Tryz.prog Rows.calCountRow.laid w) ∧ sizedMet enc Tryz.prog Tryz.f13 (OpenSpec.ofChange Rows.calCountSpec) false w args)
      (Rows.calCountSpec.post enc Tryz.prog Tryz.f13 false true false false) := by
  refine returnsInHanded_of_change_and (C := Tryz.checked) (X := fun w _ => laidMetH Tryz.prog Rows.calCountRow.laid w) (fun _ _ _ hh h => h.of_heap hh) own started (by kernel_rfl) Tryz.func13
    (ChangeSpec.witness_at (enc := enc) (C := Tryz.checked) (os := os) (X := fun w _ => laidMetH Tryz.prog Rows.calCountRow.laid w) false (laidWorld os) #[.slice none 0 0, .int .i64 0, .int .i64 0, .int .i64 0] 8 (laidWorld_os os) (laid_vars os _) (laid_rest os _) (by kernel_rfl) (by kernel_rfl) (by kernel_rfl) (laidWorld_met os _)) ?_
  intro W base args ds gs before hval0 hW _ hsz hL _
  have hval : ∀ (j : Nat) t v, Tryz.f13.params[j]? = some t → args[j]? = some v → Value.okWide Tryz.prog W .any base t v := hval0
  have hW' := hW
  obtain ⟨p, q, hA00, hV0, rfl, hfz, hnd⟩ := hW
  have hlt : ∀ x ∈ p, x.block < W.heap.size := fun x hx => hW'.lt x (List.mem_append_left _ hx)
  have hstay : ∃ ps, ∀ W', Below W.heap.size W W' → DataW.TrodAll enc Tryz.prog W' 0 (fun b => decide (b < W.heap.size)) true Tryz.f13.params.toList args.toList ds ps :=
    ⟨p, fun W' hb => args_stay (by rw [Tryz.params13]; simp) hA00 hlt hb⟩
  have hA0 : DataW.TrodAll enc Tryz.prog W 0 (fun _ => true) true Tryz.f13.params.toList args.toList ds p := hA00
  have hV : DataW.TrodVars enc Tryz.prog W (fun _ => true) [] gs q := hV0
  rw [Tryz.params13] at hA0 hval hsz
  obtain ⟨v0, w0, d0, e0, p0, q0, g0, rfl, rfl, h0, hA1⟩ := trodAll_cons hA0
  obtain ⟨v1, w1, d1, e1, p1, q1, g1, rfl, rfl, h1, hA2⟩ := trodAll_cons hA1
  obtain ⟨v2, w2, d2, e2, p2, q2, g2, rfl, rfl, h2, hA3⟩ := trodAll_cons hA2
  obtain ⟨v3, w3, d3, e3, p3, q3, g3, rfl, rfl, h3, hA4⟩ := trodAll_cons hA3
  obtain ⟨g4, rfl, rfl⟩ := trodAll_nil hA4
  obtain rfl : args = #[v0, v1, v2, v3] := by cases args; simp_all
  obtain ⟨a0, r0, ao0, k0, rfl, kl0⟩ := rules_in (hval 0 60 v0 rfl rfl) h0 (fun es ss hd => long_of (sized_slice hsz (j := 0) (t := 60) rfl (by rw [hd]; rfl) Tryz.underlying60) (by kernel_rfl))
  obtain ⟨a1, rfl, rfl, rfl, u1⟩ := open_int Tryz.underlying3 (hval 1 3 v1 rfl rfl) h1
  obtain ⟨a2, rfl, rfl, rfl, u2⟩ := open_int Tryz.underlying3 (hval 2 3 v2 rfl rfl) h2
  obtain ⟨a3, rfl, rfl, rfl, u3⟩ := open_int Tryz.underlying3 (hval 3 3 v3 rfl rfl) h3
  have y1 := bounds_i64 u1
  have y2 := bounds_i64 u2
  have y3 := bounds_i64 u3
  have hL' : laidMet Tryz.prog laidL W ∧ handlesMet Tryz.prog [("errors.errorType", Rows.laid_errors_errorType)] W := hL
  have hg := wd_of hL'.1 hL'.2
  obtain ⟨rfl, rfl⟩ : gs = [] ∧ q = [] := by
    cases gs with
    | nil => exact ⟨rfl, hV⟩
    | cons g r => exact absurd hV (by intro h; cases h)
  have e1 : Rows.calCountSpec.fn H ([d0, .lit (.int .i64 a1), .lit (.int .i64 a2), .lit (.int .i64 a3)] ++ []) = { results := [.lit (.bool true)], args := [d0, .lit (.int .i64 a1), .lit (.int .i64 a2), .lit (.int .i64 a3)] } := by simp [Rows.calCountSpec]
  refine (CalCount_walk begun_all cal.cal_c (.slice ao0 a0.length k0) a0 a1 a2 a3 y1.1 (by omega) W hg r0).mono fun e W' ⟨he, hb⟩ => ?_
  subst he
  obtain ⟨ps, hs⟩ := hstay
  refine ⟨_, rfl, _, _, _, [], ps, [], hW', ?_, ?_, ?_, hb.frame _, fun h => by cases h⟩
  · rw [e1]; exact trodAll_mk1 (shut_bool Tryz.underlying4 true)
  · rw [e1]; exact hs W' hb
  · rw [e1]; rfl
theorem calCount_c0 : (Rows.calCountRow.wf (OpenSpec.ofChange Rows.calCountSpec)) = true := by kernel_rfl
theorem calCount_c3 : (Tryz.f13.params.all (Tryz.prog.readableRec ·)) = true := by kernel_rfl
theorem calCount_c4 : (namedTie Tryz.prog Rows.calCountRow.named Rows.calCountSpec.vars) = true := by kernel_rfl
theorem calCount_c5 : ((Rows.calCountRow.stops == [])) = true := by kernel_rfl
theorem calCount_c7 : ((Rows.calCountRow.knobs == [])) = true := by kernel_rfl
theorem calCount_c9 : ((Rows.calCountRow.inPlace == Tryz.prog.inPlace 13)) = true := by kernel_rfl
theorem calCount_c10 : ((Rows.calCountRow.unfollowed == Tryz.prog.unfollowed 13)) = true := by kernel_rfl
theorem calCount_c11 : ((Rows.calCountRow.recurses == Tryz.prog.recurses 13)) = true := by kernel_rfl
theorem calCount_c12 : ((Rows.calCountRow.named == Tryz.prog.varsNamed 13)) = true := by kernel_rfl
theorem calCount_c13 : ((Rows.calCountRow.maps == (Tryz.f13.params.toList ++ Rows.calCountSpec.plain.varTypes Tryz.prog).any (Tryz.prog.mapsRec ·))) = true := by kernel_rfl
theorem calCount_c14 : ((Rows.calCountRow.ifaces == (Tryz.f13.params.toList ++ Rows.calCountSpec.plain.varTypes Tryz.prog).any (Tryz.prog.ifacesRec ·))) = true := by kernel_rfl
theorem calCount_c15 : ((Rows.calCountRow.mapsOut == Tryz.prog.mapsAmong Tryz.f13.resultTypes.toList)) = true := by kernel_rfl
theorem calCount_c16 : ((Rows.calCountRow.loops == (Tryz.f13.params.toList ++ Rows.calCountSpec.plain.varTypes Tryz.prog).any (Tryz.prog.loopsFrom ·))) = true := by kernel_rfl
theorem calCount_c17 : ((Rows.calCountRow.wideKeys == (Tryz.f13.params.toList ++ Rows.calCountSpec.plain.varTypes Tryz.prog ++ Tryz.f13.resultTypes.toList).any (Tryz.prog.wideKeysFrom ·))) = true := by kernel_rfl
theorem calCount_c18 : (Rows.calCountSpec.vars.all (Tryz.prog.varReadable ·)) = true := by kernel_rfl
theorem calCount_c19 : (Tryz.f13.resultTypes.all (fun t => Tryz.prog.readableRec t && decide (t < Tryz.prog.types.size))) = true := by kernel_rfl
theorem calCount_c20 : ((Rows.calCountRow.ifacesOut == Tryz.f13.resultTypes.toList.any (Tryz.prog.ifacesRec ·))) = true := by kernel_rfl
theorem calCount_c21 : ((Rows.calCountRow.loopsOut == Tryz.f13.resultTypes.toList.any (Tryz.prog.loopsFrom ·))) = true := by kernel_rfl
theorem calCount_c23 : (Rows.calCountRow.shortTexts.isNone) = true := by kernel_rfl
theorem calCount_c28 : ((Rows.calCountRow.kinds == (if Rows.calCountRow.domain.isEmpty then [] else Tryz.f13.params.toList.map fun t => match Tryz.prog.underlying t with | some (.int k) => some k | _ => none))) = true := by kernel_rfl
theorem calCount_c29 : ((Rows.calCountRow.pinned == Rows.calCountRow.pinnedBy)) = true := by kernel_rfl
theorem calCount_c30 : ((Rows.calCountRow.veiled == (Tryz.f13.params.toList ++ Rows.calCountSpec.plain.varTypes Tryz.prog ++ Tryz.f13.resultTypes.toList).any (Tryz.prog.veiledRec ·))) = true := by kernel_rfl
theorem calCount_c31 : (Rows.calCountRow.veiledFits Tryz.prog Tryz.f13.params.toList (Tryz.f13.params.toList ++ Rows.calCountSpec.plain.varTypes Tryz.prog ++ Tryz.f13.resultTypes.toList)) = true := by kernel_rfl
set_option maxRecDepth 100000 in
theorem calCount_facts : joinedFacts Tryz.prog 13 Tryz.f13 Rows.calCountSpec Rows.calCountRow = true := by
  unfold joinedFacts
  exact band (band (band (band (band (band (band (band (band (band (band (band (band (band (band (band (band (band (band (band (band (band (band (band (band (band (band (band (band (band (band calCount_c0 fact_c1) fact_c2) calCount_c3) calCount_c4) calCount_c5) fact_c6) calCount_c7) fact_c8) calCount_c9) calCount_c10) calCount_c11) calCount_c12) calCount_c13) calCount_c14) calCount_c15) calCount_c16) calCount_c17) calCount_c18) calCount_c19) calCount_c20) calCount_c21) fact_c22) calCount_c23) fact_c24) fact_c25) fact_c26) fact_c27) calCount_c28) calCount_c29) calCount_c30) calCount_c31
theorem calCount_goes : false = Rows.calCountRow.goesBy Tryz.prog := by kernel_rfl
theorem calCount_holds : Rows.CalCountSaid :=
  OpenClaim.holds_of_wide 13 Tryz.f13 rfl rfl rfl rfl rfl rfl rfl ⟨rfl, rfl, rfl, rfl, rfl⟩ rfl rfl rfl rfl rfl (by kernel_rfl) Tryz.func13 calCount_facts
    (of_decide_eq_true (by kernel_rfl)) (by unfold Func.isWrapper; rw [if_neg (of_decide_eq_false (by kernel_rfl))]; exact ⟨rfl, rfl⟩)
    (fun os started H enc _ => calCount_lifted os started H enc)
theorem calCount_plain (f : FuncId) (fn : Func) (hf : Tryz.pinned.checked.prog.funcNamed "rentier/rentierlaw6.CalCount" = some f) (hfn : Tryz.pinned.checked.prog.funcs[f]? = some fn) :
    true = Tryz.pinned.checked.prog.looks [] ∧ ∀ (j : Nat) t, fn.params[j]? = some t → Tryz.pinned.checked.prog.wantsStandIn t = false := by
  obtain rfl : f = 13 := Option.some.inj ((show Tryz.prog.funcNamed "rentier/rentierlaw6.CalCount" = some 13 by kernel_rfl).symm.trans hf) |>.symm
  obtain rfl : fn = Tryz.f13 := (Option.some.inj (Tryz.func13.symm.trans hfn)).symm
  refine ⟨by kernel_rfl, fun j t ht => ?_⟩
  rw [Tryz.params13] at ht
  have hm := Array.mem_of_getElem? ht
  simp at hm
  have t_i : Tryz.pinned.checked.prog.wantsStandIn 3 = false := by kernel_rfl
  have t_R : Tryz.pinned.checked.prog.wantsStandIn 60 = false := by kernel_rfl
  rcases hm with rfl | rfl <;> first | with_reducible exact t_i | with_reducible exact t_R
theorem calCount_card : Rows.CalCountCardSaid :=
  Claim7.holds_tied_plain_at .later [] _ _ _ _ (calCount_holds) (fun _ h => by cases h) (by kernel_rfl) (fun _ h => by cases h) calCount_row_tie rfl ⟨rfl, rfl⟩ (by kernel_rfl) rfl calCount_plain calCount_goes
end Go.Proofs.YtlhmfgbaefaneabGreatDoor.law6
