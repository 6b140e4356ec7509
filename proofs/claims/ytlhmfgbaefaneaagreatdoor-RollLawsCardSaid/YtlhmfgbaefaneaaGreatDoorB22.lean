/-
  The steps of the walks, part 22: Where, Builder, Text, Error, Is, Join, Begun, Law2Begun, Law6Begun.
-/
import Derived.Deep.LoopGhost
import Derived.OwnWalk
import Derived.Test.YtlhmfgbaefaneaaGreatDoorProg
import Derived.WalkKit
import Derived.WalkSpells
import Derived.RegionTactic
import Derived.Lib.Builder
import Derived.Lib.AppendStr
import Derived.Lib.UnsafeStr
import Derived.Lib.Strings
import Derived.Laws.Externs
import Derived.Lib.Hide
import Derived.Carry
import Derived.Deep.RegionWith
import Derived.Laws.MakeOwn
import Derived.Test.YtlhmfgbaefaneaaGreatDoorB03
import Derived.Test.YtlhmfgbaefaneaaGreatDoorB21
import Derived.Test.YtlhmfgbaefaneaaGreatDoorB20
import Derived.Test.YtlhmfgbaefaneaaGreatDoorB17
import Derived.Test.YtlhmfgbaefaneaaGreatDoorB18
namespace Go.Proofs.YtlhmfgbaefaneaaGreatDoor.flt
open Go.RowKit Go.Extern.Stop Go.Stop Go.Extern
inductive Fst : Value → Value → Prop
  | none : Fst .nilIface (.pointer none)
  | other (a : Addr) : Fst (.iface 302 (.pointer (some a))) (.pointer none)
  | plain (c : Int) (b : Nat) : Fst (.iface 128 (.int .i64 c)) (.pointer (some ⟨b, 0, none⟩))
  | link (b : Nat) : Fst (.iface 131 (.pointer (some ⟨b, 0, none⟩))) (.pointer (some ⟨b, 0, none⟩))
theorem first_chain (v : Value) (B : Nat) (l : List (Nat × Int × ByteArray)) (w : World) (hg : Handle w) (h : Chain w v B l) :
    Calls Tryz.prog 123 #[v] w fun ev w' => ∃ f, ev = .returned f ∧ Fst v f ∧ Below w.heap.size w w' := by
  cases h with
  | none => exact (first_nil w).mono fun _ _ ⟨he, hb⟩ => ⟨_, he, .none, hb⟩
  | other a _ _ => exact (first_other _ w hg).mono fun _ _ ⟨he, hb⟩ => ⟨_, he, .other a, hb⟩
  | plain c => exact (first_plain c w hg).mono fun _ _ ⟨b, he, _, hb, _⟩ => ⟨_, he, .plain c b, hb⟩
  | link b c s e _ l _ _ _ => exact (first_fault ⟨b, 0, none⟩ w hg).mono fun _ _ ⟨he, hb⟩ => ⟨_, he, .link b, hb⟩
def errM : Value → Nat
  | .iface _ (.pointer (some a)) => a.block + 2
  | .iface _ _ => 1
  | _ => 0
def ats (l : List (Nat × Int × ByteArray)) : List ByteArray := (l.map fun x => x.2.2).filter fun s => !s.toList.isEmpty
theorem Chain.errM_lt {w : World} {v : Value} {B : Nat} {l : List (Nat × Int × ByteArray)} (h : Chain w v B l) : errM v < B + 2 := by
  cases h <;> simp [errM] <;> omega
def Met (w : World) (e : Value) (wr : World) : Prop := ∃ es clock, wr.heap[w.heap.size]? = some (.map es clock) ∧ ∀ x ∈ es.toList, ∃ b' c s e', x.key = .pointer (some ⟨b', 0, none⟩) ∧ errM e < b' + 2 ∧ FaultAt w b' c s e'
def WRel (w : World) (L : List (Nat × Int × ByteArray)) (e sv f : Value) (wr : World) : Prop :=
  ∃ (done todo : List (Nat × Int × ByteArray)) (B : Nat), L = done ++ todo ∧ Chain w e B todo ∧ B ≤ w.heap.size ∧ Fst e f ∧ Met w e wr ∧ wr.ownsRow w.heap.size 9 1 sv (ats done).length ((ats done).map Value.string) ∧ Below w.heap.size w wr
theorem infoString : (Tryz.prog.info? 9).map (fun i => (i.zero, i.size, i.bytes)) = some (some (.string .empty), 1, 16) := by kernel_rfl
theorem zeroUnit (w : World) : (zeroValue 279).run Tryz.prog w = .ok (.agg #[]) w := by kernel_rfl
theorem own_ne {w : World} {base size n M clock : Nat} {e : TypeId} {v : Value} {xs : List Value} {es : Array MapEntry} (h : w.ownsRow base e size v n xs) (hm : w.heap[M]? = some (.map es clock)) : v.ownBlock = none ∨ v.ownBlock ≠ some M := by
  rcases h.2 with ⟨rfl, _⟩ | ⟨g, cap, cur, rfl, _, hg, _⟩
  · exact Or.inl rfl
  · refine Or.inr fun hh => ?_
    simp [Value.ownBlock] at hh
    subst hh
    rw [hm] at hg
    cases hg
theorem own_below {w w' : World} {base size n : Nat} {e : TypeId} {v : Value} {xs : List Value} (h : w.ownsRow base e size v n xs) (hb : Below w.heap.size w w') : w'.ownsRow base e size v n xs :=
  h.kept (row := none) ⟨hb.os, hb.tape, hb.output, hb.size, fun k hk _ => hb.block k hk⟩ (by cases v.ownBlock <;> simp)
theorem lt_of_heap {w : World} {k : Nat} {o : Obj} (h : w.heap[k]? = some o) : k < w.heap.size := by
  rcases Nat.lt_or_ge k w.heap.size with h' | h'
  · exact h'
  · simp [Array.getElem?_eq_none h'] at h
theorem map_step {w : World} {M b clock : Nat} {es : Array MapEntry} {c : Int} {s : ByteArray} {e : Value} (hm : w.heap[M]? = some (.map es clock)) (hF : FaultAt w b c s e) (hap : Apart w b es.toList) :
    ∃ W2, (Instr.mapUpdate 278 (.map (some M)) (.pointer (some ⟨b, 0, none⟩)) (.agg #[])).run Tryz.prog (w.alloc (.cells #[] 279)) = .ok () W2 ∧
      W2.heap[M]? = some (.map (es.push { key := .pointer (some ⟨b, 0, none⟩), val := .agg #[], born := clock }) (clock + 1)) ∧ w.grownBy W2 (some M) := by
  obtain ⟨j, hj, hjs⟩ := Option.map_eq_some_iff.1 sizeF
  have a1 : (w.alloc (.cells #[] 279)).heap[M]? = some (.map es clock) := (Below.heap_alloc _ _ _ (lt_of_heap hm)).trans hm
  have a2 : (w.alloc (.cells #[] 279)).heap[b]? = some (.cells #[.int .i64 c, .string s, e] 134 (0, 0)) := (Below.heap_alloc _ _ _ hF.lt).trans hF
  have a3 : Apart (w.alloc (.cells #[] 279)) b es.toList := fun x hx => by
    obtain ⟨b', ca, ta, hk, hne, hb'⟩ := hap x hx
    exact ⟨b', ca, ta, hk, hne, (Below.heap_alloc _ _ _ (lt_of_heap hb')).trans hb'⟩
  refine ⟨_, run_mapUpdate_apart Tryz.underlying278 Tryz.underlying131 hj (by rw [hjs]; decide) (.agg #[]) a1 a2 a3, putBlock_same a1, ⟨rfl, rfl, rfl, by rw [putBlock_size]; simp, fun k hk hne => ?_⟩⟩
  rw [putBlock_other (fun e => hne (by rw [e])), Below.heap_alloc _ _ _ hk]
theorem met_step {w W : World} {b clock clock' : Nat} {es : Array MapEntry} {c : Int} {s : ByteArray} {e : Value} {l : List (Nat × Int × ByteArray)} (hm : W.heap[w.heap.size]? = some (.map (es.push { key := .pointer (some ⟨b, 0, none⟩), val := .agg #[], born := clock }) clock'))
    (hes : ∀ x ∈ es.toList, ∃ b' c s e', x.key = .pointer (some ⟨b', 0, none⟩) ∧ errM (.iface 131 (.pointer (some ⟨b, 0, none⟩))) < b' + 2 ∧ FaultAt w b' c s e') (hfl : FaultAt w b c s e) (hc : Chain w e b l) : Met w e W := by
  have h1 := hc.errM_lt
  refine ⟨_, _, hm, fun x hx => ?_⟩
  simp at hx
  rcases hx with hx | rfl
  · obtain ⟨b', c', s', e', hk, hlt, hf⟩ := hes x (by simpa using hx)
    exact ⟨b', c', s', e', hk, by simp [errM] at hlt; omega, hf⟩
  · exact ⟨b, c, s, e, rfl, h1, hfl⟩
theorem Chain.form {w : World} {v : Value} {B : Nat} {l : List (Nat × Int × ByteArray)} (h : Chain w v B l) : v = .nilIface ∨ ∃ u x, v = .iface u x := by
  cases h
  · exact Or.inl rfl
  all_goals exact Or.inr ⟨_, _, rfl⟩
theorem ats_len (l : List (Nat × Int × ByteArray)) : (ats l).length ≤ l.length := by
  unfold ats
  exact Nat.le_trans (List.length_filter_le _ _) (by simp)
theorem ats_empty (done : List (Nat × Int × ByteArray)) (b : Nat) (c : Int) (s : ByteArray) (h : (!s.toList.isEmpty) = false) : ats (done ++ [(b, c, s)]) = ats done := by
  unfold ats
  rw [List.map_append, List.filter_append]
  simp [List.filter, h]
theorem ats_some (done : List (Nat × Int × ByteArray)) (b : Nat) (c : Int) (s : ByteArray) (h : (!s.toList.isEmpty) = true) : ats (done ++ [(b, c, s)]) = ats done ++ [s] := by
  unfold ats
  rw [List.map_append, List.filter_append]
  simp [List.filter, h]
def Places (w : World) (xs : List ByteArray) (e : Ending) (w' : World) : Prop := ∃ sv, e = .returned sv ∧ w'.ownsRow w.heap.size 9 1 sv xs.length (xs.map Value.string) ∧ Below w.heap.size w w'
set_option maxRecDepth 100000 in
set_option maxHeartbeats 4000000 in
theorem Where_chain (v : Value) (B : Nat) (L : List (Nat × Int × ByteArray)) (w : World) (hg : Handle w) (h : Chain w v B L) (hB : B ≤ w.heap.size) (hL : L.length ≤ 100000) :
    Calls Tryz.prog 235 #[v] w (Places w (ats L)) := by
  have hmm := @run_makeMap Tryz.prog
  have bM : Below w.heap.size w (w.alloc (.map #[] 0)) := (Below.refl _ _).alloc (Nat.le_refl _) _
  have HF := Lib.hid (first_chain v B L (w.alloc (.map #[] 0)) (hg.below bM hg.pos) (h.keep bM hB))
  have HC := Lib.hid h
  have HG := Lib.hid hg
  have HM := Lib.hid bM
  clear h hg bM
  go_enter Tryz.func235, Tryz.ntmps235
  go_wp2_with (go_at_call 123; refine (HF.out).mono ?_; rintro e' w' ⟨f, rfl, hf, hb⟩; have H1 := Lib.hid hf; have H2 := Lib.hid hb; clear hf hb)
  go_loopw [0, 3, 5] (fun e sv f wr => WRel w L e sv f wr) (fun e _ _ _ => errM e)
  case atStart =>
    refine ⟨[], L, B, rfl, HC.out, hB, H1.out, ⟨#[], 0, ?_, by simp⟩, World.ownsRow_nil _ _ _ _, HM.out.trans (H2.out.mono (by simp))⟩
    rw [H2.out.block w.heap.size (by simp)]
    show (w.heap.push _)[w.heap.size]? = _
    simp
  case round =>
    obtain ⟨done, todo, B', hLd, hch, hB', hfst, hmet, hown, hbel⟩ := hrel
    cases hch with
    | none =>
      cases hfst
      go_wp2
      go_ret
      exact ⟨_, rfl, by rw [hLd, List.append_nil]; exact hown, hbel⟩
    | other a _ ha =>
      cases hfst
      go_wp2
      go_ret
      exact ⟨_, rfl, by rw [hLd, List.append_nil]; exact hown, hbel⟩
    | plain c =>
      cases hfst with
      | plain _ b =>
      have hty := run_eql_iface_types (P := Tryz.prog) 128 131 (.int .i64 c) (.pointer (some ⟨b, 0, none⟩)) Tryz.underlying28 (by decide) wr
      have HN := Lib.hid (next_any _ .nilIface wr (.plain (.int .i64 c)) (Or.inl rfl))
      have HL := Lib.hid hLd
      clear hLd
      go_wp2_with (first | (go_at_call 265; refine (HN.out).mono ?_; rintro e' w1 ⟨rfl, hb1⟩; have HB1 := Lib.hid hb1; clear hb1) | (go_at_call 123; refine (first_nil _).mono ?_; rintro e' w2 ⟨rfl, hb2⟩; have HB2 := Lib.hid hb2; clear hb2))
      go_roundw
      case rel =>
        have b12 : Below wr.heap.size wr w2 := HB1.out.trans (HB2.out.mono HB1.out.size)
        obtain ⟨es, clock, hm, hes⟩ := hmet
        refine ⟨done, [], 0, HL.out, .none 0, Nat.zero_le _, .none, ⟨es, clock, (b12.block _ (lt_of_heap hm)).trans hm, fun x hx => ?_⟩, own_below hown b12, hbel.trans (b12.mono hbel.size)⟩
        obtain ⟨b', c', s', e', hk, hlt, hf⟩ := hes x hx
        exact ⟨b', c', s', e', hk, by simp [errM], hf⟩
      case measure => simp [errM]
    | link b c s e _ l hfl hlt hc =>
      cases hfst
      have F : FaultAt wr b c s e := hfl.below hbel (by omega)
      obtain ⟨i, hi, hcmp⟩ := Option.map_eq_some_iff.1 compP
      obtain ⟨j, hj, hjs⟩ := Option.map_eq_some_iff.1 sizeF
      have heq := run_eql_iface_ptr_same (P := Tryz.prog) wr ⟨b, 0, none⟩ Tryz.underlying28 Tryz.underlying131 hi hcmp hj
      obtain ⟨es, clock, hm, hes⟩ := hmet
      have hap : Apart wr b es.toList := fun x hx => by
        obtain ⟨b', c', s', e', hk, hlt', hf'⟩ := hes x hx
        exact ⟨b', _, _, hk, by simp [errM] at hlt'; omega, hf'.below hbel hf'.lt⟩
      have hlk := run_lookup_apart Tryz.underlying278 Tryz.underlying131 hj (by rw [hjs]; decide) (zeroUnit wr) hm F hap
      obtain ⟨W2, hmu, hm2, hg2⟩ := map_step hm F hap
      have F2 : FaultAt W2 b c s e := (hg2.block b F.lt (fun h => by simp at h; rw [← h, F] at hm; cases hm)).trans F
      have c1 := F2.cell1
      have hM := lt_of_heap hm
      have hbel2 : Below w.heap.size w W2 := hbel.trans ⟨hg2.os, hg2.tape, hg2.output, hg2.size, fun k hk => hg2.block k (by omega) (fun h => by simp at h; omega)⟩
      have hown2 := hown.kept hg2 (own_ne hown hm)
      have HE := Lib.hid hc.form
      have HCC := Lib.hid hc
      have HES := Lib.hid hes
      have HM2 := Lib.hid hm2
      have HB2 := Lib.hid hbel2
      have HF2 := Lib.hid F2
      have HO2 := Lib.hid hown2
      have HL := Lib.hid hLd
      have HFL := Lib.hid hfl
      clear hap hes hm hm2 hbel2 F2 hown2 hLd hfl F hg2 hbel hown hi hcmp hj hjs
      by_cases hs : (!s.toList.isEmpty) = true
      · obtain ⟨i0, hi0, hz0, hz1, hz2⟩ := info_parts infoString
        have HS := Lib.hid hs
        have hlen : (ats done).length ≤ 100000 := by
          have := ats_len done
          have h1 := HL.out
          rw [h1] at hL
          simp at hL
          omega
        go_wp2_with (at_builtin; refine wpList_append_own _ rfl _ _ 243 rfl w.heap.size 9 i0 (.string .empty) 1 16 Tryz.underlying243 hi0 hz0 hz1 hz2 rfl (by decide) _ _ _ rfl (HO2.out.alloc _) ⟨W2.heap.size, 0, none⟩ 1 1 [.string s] rfl rfl ?c1 ?c2 ?c3 ?c4 ?c5 ?_)
        case c1 =>
          intro j u hj
          match j, hj with
          | 0, hj => simp at hj; subst hj; simp [Addr.add]
        case c2 => intro u hu; simp at hu; subst hu; rfl
        case c3 => unfold maxLen; omega
        case c4 => omega
        case c5 => have := HB2.out.size; simp; omega
        intro v' w3 hown3 hg3 _
        have hB3 : Below w.heap.size w w3 := (HB2.out.alloc HB2.out.size _).grown hg3 (by have := HB2.out.size; simp; omega) (fun k hk => (HO2.out.lt k hk).1)
        have hM3 : w3.heap[w.heap.size]? = _ := (hg3.block w.heap.size (by have := lt_of_heap HM2.out; simp; omega) (by rcases own_ne HO2.out HM2.out with h | h; · rw [h]; simp
                                                                                                                        · exact fun e => h e.symm)).trans ((Below.heap_alloc _ _ _ (lt_of_heap HM2.out)).trans HM2.out)
        have F3 : FaultAt w3 b c s e := HFL.out.below hB3 HFL.out.lt
        have HN := Lib.hid (next_any _ e w3 (.link b e F3.cell2) HE.out)
        have H3 := Lib.hid hB3
        have HM3 := Lib.hid hM3
        have HO3 := Lib.hid hown3
        clear hB3 hM3 hown3 hg3 F3
        go_wp2_with (go_at_call 265; refine (HN.out).mono ?_; rintro e' w4 ⟨rfl, hb4⟩; have HB4 := Lib.hid hb4; clear hb4)
        have HH := Lib.hid (first_chain e b l w4 (HG.out.below (H3.out.trans (HB4.out.mono H3.out.size)) HG.out.pos) (HCC.out.keep (H3.out.trans (HB4.out.mono H3.out.size)) (by omega)))
        go_wp2_with (go_at_call 123; refine (HH.out).mono ?_; rintro e' w5 ⟨f', rfl, hf5, hb5⟩; have HB5 := Lib.hid hb5; have HF5 := Lib.hid hf5; clear hb5 hf5)
        go_roundw
        case rel =>
          have b35 : Below w3.heap.size w3 w5 := HB4.out.trans (HB5.out.mono HB4.out.size)
          refine ⟨done ++ [(b, c, s)], l, b, by rw [HL.out]; simp, HCC.out, by omega, HF5.out, met_step ((b35.block _ (lt_of_heap HM3.out)).trans HM3.out) HES.out HFL.out HCC.out, ?_, H3.out.trans (b35.mono H3.out.size)⟩
          rw [ats_some _ _ _ _ HS.out]
          simpa using own_below HO3.out b35
        case measure =>
          have := HCC.out.errM_lt
          simpa [errM] using this
      · have hs' : (!s.toList.isEmpty) = false := by simpa using hs
        have HS := Lib.hid hs'
        clear hs
        have HN := Lib.hid (next_any _ e W2 (.link b e HF2.out.cell2) HE.out)
        go_wp2_with (go_at_call 265; refine (HN.out).mono ?_; rintro e' w4 ⟨rfl, hb4⟩; have HB4 := Lib.hid hb4; clear hb4)
        have HH := Lib.hid (first_chain e b l w4 (HG.out.below (HB2.out.trans (HB4.out.mono HB2.out.size)) HG.out.pos) (HCC.out.keep (HB2.out.trans (HB4.out.mono HB2.out.size)) (by omega)))
        go_wp2_with (go_at_call 123; refine (HH.out).mono ?_; rintro e' w5 ⟨f', rfl, hf5, hb5⟩; have HB5 := Lib.hid hb5; have HF5 := Lib.hid hf5; clear hb5 hf5)
        go_roundw
        case rel =>
          have b35 : Below W2.heap.size W2 w5 := HB4.out.trans (HB5.out.mono HB4.out.size)
          refine ⟨done ++ [(b, c, s)], l, b, by rw [HL.out]; simp, HCC.out, by omega, HF5.out, met_step ((b35.block _ (lt_of_heap HM2.out)).trans HM2.out) HES.out HFL.out HCC.out, ?_, HB2.out.trans (b35.mono HB2.out.size)⟩
          rw [ats_empty _ _ _ _ HS.out]
          exact own_below HO2.out b35
        case measure =>
          have := HCC.out.errM_lt
          simpa [errM] using this
end Go.Proofs.YtlhmfgbaefaneaaGreatDoor.flt
namespace Go.Proofs.YtlhmfgbaefaneaaGreatDoor.flt
open Go.RowKit
theorem sizeBuilder : (Tryz.prog.info? 171).map (·.size) = some 2 := by kernel_rfl
theorem liesBuilder : liesAt Tryz.prog Tryz.prog.depth 171 (2 / Tryz.prog.cellsOf 171) 0 171 1 = true := by kernel_rfl
theorem infoByte : (Tryz.prog.info? 5).map (fun i => (i.zero, i.size, i.bytes)) = some (some (.int .u8 0), 1, 1) := by kernel_rfl
theorem cellsByte : Tryz.prog.cellsOf 5 = 1 := by kernel_rfl
set_option maxHeartbeats 1000000 in
set_option maxRecDepth 100000 in
theorem copyCheck_used (b : Nat) (w : World) (h0 : w.cell? ⟨b, 0, none⟩ = some (.pointer (some ⟨b, 0, none⟩))) :
    Calls Tryz.prog 203 #[.pointer (some ⟨b, 0, none⟩)] w fun e w' => e = .returned (.tuple #[]) ∧ w = w' := by
  obtain ⟨j, hj, _⟩ := Option.map_eq_some_iff.1 sizeBuilder
  go_enter Tryz.func203, Tryz.ntmps203
  go_wp2
  rw [Lib.run_neq_ptr_same w _ Tryz.underlying169 hj]
  go_wp2
  go_end0
  exact ⟨rfl, rfl⟩
set_option maxHeartbeats 1000000 in
set_option maxRecDepth 100000 in
theorem copyCheck_fresh (b : Nat) (w : World) (h0 : w.cell? ⟨b, 0, none⟩ = some (.pointer none)) (hsh : w.shape? b = some (171, 2)) (hfz : w.frozen? ⟨b, 0, none⟩ = false) :
    Calls Tryz.prog 203 #[.pointer (some ⟨b, 0, none⟩)] w fun e w' => e = .returned (.tuple #[]) ∧ w' = w.setCell ⟨b, 0, none⟩ (.pointer (some ⟨b, 0, none⟩)) := by
  obtain ⟨j, hj, hjs⟩ := Option.map_eq_some_iff.1 sizeBuilder
  go_enter Tryz.func203, Tryz.ntmps203
  go_wp2
  rw [Lib.run_to_unsafe w ⟨b, 0, none⟩ Tryz.underlying169 Tryz.underlying205 hj (by rw [hjs]; decide) hsh (Nat.zero_lt_succ 1)]
  simp only [Result.andThen]
  rw [Oper.upon_value]
  go_wp2
  rw [run_callFunc_extern Tryz.func248 (by kernel_rfl) (by kernel_rfl) (by kernel_rfl) (e := Extern.AbiNoEscape.same) (by kernel_rfl)]
  rw [Lib.run_noEscape]
  simp only [Result.andThen]
  rw [Oper.upon_value]
  go_wp2
  rw [Lib.run_from_unsafe w ⟨b, 0, none⟩ Tryz.underlying205 Tryz.underlying169 hj hsh liesBuilder]
  simp only [Result.andThen]
  rw [Oper.upon_value]
  go_wp2
  go_end0
  exact ⟨rfl, rfl⟩
def Keeps (b : Nat) (w w' : World) : Prop := ∀ k cs T fr, k ≠ b → T ≠ 5 → w.heap[k]? = some (.cells cs T fr) → w'.heap[k]? = some (.cells cs T fr)
theorem copyCheck_any (B b : Nat) (bs : List Value) (w : World) (h : Lib.IsBuilder 171 5 B b bs w) :
    Calls Tryz.prog 203 #[.pointer (some ⟨b, 0, none⟩)] w fun e w' => e = .returned (.tuple #[]) ∧ (Lib.BuilderAt 171 5 B b (.pointer (some ⟨b, 0, none⟩)) bs w' ∧ Below B w w' ∧ Keeps b w w') := by
  rcases h with h | h
  · refine (copyCheck_fresh b w h.cell0 h.shape h.frozen0).mono ?_
    rintro e w' ⟨rfl, rfl⟩
    exact ⟨rfl, h.used _, (Below.refl B w).setCell (p := ⟨b, 0, none⟩) h.1 _, fun k cs T fr hk _ hh => (Below.heap_setCell _ _ _ _ hk).trans hh⟩
  · refine (copyCheck_used b w h.cell0).mono ?_
    rintro e w' ⟨rfl, rfl⟩
    exact ⟨rfl, h, Below.refl B _, fun _ _ _ _ _ _ hh => hh⟩
set_option maxHeartbeats 2000000 in
set_option maxRecDepth 100000 in
theorem writeString (B b : Nat) (bs : List Value) (s : ByteArray) (w : World) (h : Lib.IsBuilder 171 5 B b bs w) (hlen : bs.length + s.size ≤ 140737488355328) (hBw : B ≤ w.heap.size) :
    Calls Tryz.prog 158 #[.pointer (some ⟨b, 0, none⟩), .string s] w fun e w' => e = .returned (.tuple #[.int .i64 s.size, .nilIface]) ∧ (Lib.BuilderAt 171 5 B b (.pointer (some ⟨b, 0, none⟩)) (bs ++ Lib.strCells s) w' ∧ Below B w w' ∧ Keeps b w w') := by
  obtain ⟨i0, hi, hz0, hz1, hz2⟩ := info_parts infoByte
  have HH := Lib.hid h
  clear h
  go_enter Tryz.func158, Tryz.ntmps158
  go_wp2_with (go_at_call 203; refine (copyCheck_any B b bs _ HH.out).mono ?_)
  rintro e w1 ⟨rfl, h1, hb1, hk1⟩
  have HK := Lib.hid hk1
  clear hk1
  obtain ⟨hB, v, hbk, hown, hne⟩ := h1
  have c0 : w1.cell? ⟨b, 0, none⟩ = some (.pointer (some ⟨b, 0, none⟩)) := by rw [Lib.cell_of_heap hbk]; rfl
  have c1 : w1.cell? ⟨b, 1, none⟩ = some v := by rw [Lib.cell_of_heap hbk]; rfl
  go_wp2_with (at_builtin; refine Lib.wpList_append_own_string _ rfl _ _ 130 9 rfl B 5 i0 Tryz.underlying130 Tryz.underlying9 hi hz0 hz1 hz2 _ _ _ rfl hown s rfl ?c3 ?c4 ?c5 ?_)
  case c3 => unfold maxLen; omega
  case c4 => omega
  case c5 => have := hb1.size; omega
  intro v' w2 hown' hgrow _
  have hlt : b < w1.heap.size := by
    rcases Nat.lt_or_ge b w1.heap.size with h' | h'
    · exact h'
    · simp [Array.getElem?_eq_none h'] at hbk
  have hb2 : w2.heap[b]? = some (.cells #[.pointer (some ⟨b, 0, none⟩), v] 171 (0, 0)) := by
    rw [hgrow.block b hlt (fun e => hne e.symm)]
    exact hbk
  have d0 : w2.cell? ⟨b, 0, none⟩ = some (.pointer (some ⟨b, 0, none⟩)) := by rw [Lib.cell_of_heap hb2]; rfl
  have d1 : w2.cell? ⟨b, 1, none⟩ = some v := by rw [Lib.cell_of_heap hb2]; rfl
  have f1 : w2.frozen? ⟨b, 1, none⟩ = false := Lib.frozen_of_heap hb2 1
  obtain ⟨ao, n', cap, rfl⟩ : ∃ ao n' cap, v' = .slice ao n' cap := by
    rcases hown'.2 with ⟨hv, _⟩ | ⟨g, cap, cur, hv, _⟩
    · exact ⟨_, _, _, hv⟩
    · exact ⟨_, _, _, hv⟩
  go_wp2
  go_ret2
  refine ⟨rfl, ?_, ?_, ?_⟩
  · exact Lib.BuilderAt.put (T := 171) (e := 5) hB hb2 (bs' := bs ++ Lib.strCells s) (by simpa [Lib.strCells_length] using hown') (by decide)
  · exact (hb1.grown hgrow (by have := hb1.size; omega) (fun k hk => (hown.lt k hk).1)).setCell (p := ⟨b, 1, none⟩) hB _
  · intro k cs T fr hkb hT hh
    have h1 := HK.out k cs T fr hkb hT hh
    rw [Below.heap_setCell _ _ _ _ hkb]
    have hlt1 : k < w1.heap.size := by
      rcases Nat.lt_or_ge k w1.heap.size with h' | h'
      · exact h'
      · simp [Array.getElem?_eq_none h'] at h1
    refine (hgrow.block k hlt1 (fun e => ?_)).trans h1
    rcases hown.2 with ⟨rfl, _⟩ | ⟨g, cap, cur, rfl, _, hg, _⟩
    · simp [Value.ownBlock] at e
    · simp [Value.ownBlock] at e
      subst e
      rw [h1] at hg
      simp at hg
      exact hT hg.2.1
set_option maxHeartbeats 1000000 in
set_option maxRecDepth 100000 in
theorem builderString (B b : Nat) (l : List UInt8) (w : World) (h : Lib.IsBuilder 171 5 B b (Lib.byteCells l) w) (h0 : l ≠ []) :
    Calls Tryz.prog 160 #[.pointer (some ⟨b, 0, none⟩)] w fun e w' => e = .returned (.string ⟨l.toArray⟩) ∧ Below B w w' := by
  obtain ⟨p, hB, v, hbk, hown, hne⟩ : ∃ p, Lib.BuilderAt 171 5 B b p (Lib.byteCells l) w := by
    rcases h with h | h
    · exact ⟨_, h⟩
    · exact ⟨_, h⟩
  have hl0 : l.length ≠ 0 := by simpa using h0
  rw [Lib.byteCells_length] at hown
  obtain ⟨g, cap, cur, rfl, hbg, hg, hnc, hcm, hcs, htake⟩ : ∃ g cap cur, v = .slice (some ⟨g, 0, none⟩) l.length cap ∧ B ≤ g ∧ w.heap[g]? = some (.cells cur 5 (0, 0)) ∧ l.length ≤ cap ∧ cap ≤ maxLen ∧ cur.size = cap * 1 ∧ cur.toList.take (l.length * 1) = Lib.byteCells l := by
    rcases hown.2 with ⟨_, hz⟩ | ⟨g, cap, cur, hv, r⟩
    · exact absurd hz hl0
    · exact ⟨g, cap, cur, hv, r⟩
  have c1 : w.drew.cell? ⟨b, 1, none⟩ = some (.slice (some ⟨g, 0, none⟩) l.length cap) := by
    have : w.drew.heap[b]? = some (.cells #[p, .slice (some ⟨g, 0, none⟩) l.length cap] 171 (0, 0)) := hbk
    rw [Lib.cell_of_heap this]; rfl
  have hSD : (Builtin.unsafeSliceData_ #[130] 204 #[.slice (some ⟨g, 0, none⟩) l.length cap]).run Tryz.prog w.drew = .ok (.pointer (some ⟨g, 0, none⟩)) w.drew :=
    Lib.run_unsafeSliceData_row _ _ _ _ _ _ (by omega)
  have hUS : (Builtin.unsafeString_ #[204, 3] 9 #[.pointer (some ⟨g, 0, none⟩), .int .i64 l.length]).run Tryz.prog w.drew = .ok (.string ⟨l.toArray⟩) (w.drew.freeze ⟨g, 0, none⟩ l.length) := by
    refine Lib.run_unsafeString_row w.drew 204 3 9 5 Tryz.underlying204 cellsByte g cur.size (by have hg' : w.drew.heap[g]? = some (.cells cur 5 (0, 0)) := hg; simp [World.shape?, hg']) l h0 (by omega) (by unfold maxLen at hcm; omega) ?_
    intro j x hx
    have := hown.cells (g := g) rfl j (.int .u8 x.toNat) (by simp [Lib.byteCells, hx])
    exact this
  clear hown h hcs htake hg hbk hnc hcm
  go_enter Tryz.func160, Tryz.ntmps160
  go_wp2
  go_region
  all_goals (go_wp2; go_ret; exact ⟨rfl, Lib.below_freeze (Below.drew (Below.refl B w)) (p := ⟨g, 0, none⟩) hbg _⟩)
end Go.Proofs.YtlhmfgbaefaneaaGreatDoor.flt
namespace Go.Proofs.YtlhmfgbaefaneaaGreatDoor.flt
open Go.RowKit
def msg (c : Int) : ByteArray := ⟨#[101, 114, 114, 111, 114, 32] ++ (if c < 10 then #[(48 + c.toNat).toUInt8] else #[49, (38 + c.toNat).toUInt8])⟩
set_option maxRecDepth 100000 in
theorem text1 (w : World) : Calls Tryz.prog 310 #[.int .i64 1] w fun e w' => e = .returned (.string (msg 1)) ∧ w = w' := by
  go_enter Tryz.func310, Tryz.ntmps310
  go_wp2
  go_ret
  exact ⟨rfl, rfl⟩
set_option maxRecDepth 100000 in
theorem text2 (w : World) : Calls Tryz.prog 310 #[.int .i64 2] w fun e w' => e = .returned (.string (msg 2)) ∧ w = w' := by
  go_enter Tryz.func310, Tryz.ntmps310
  go_wp2
  go_ret
  exact ⟨rfl, rfl⟩
set_option maxRecDepth 100000 in
theorem text3 (w : World) : Calls Tryz.prog 310 #[.int .i64 3] w fun e w' => e = .returned (.string (msg 3)) ∧ w = w' := by
  go_enter Tryz.func310, Tryz.ntmps310
  go_wp2
  go_ret
  exact ⟨rfl, rfl⟩
set_option maxRecDepth 100000 in
theorem text4 (w : World) : Calls Tryz.prog 310 #[.int .i64 4] w fun e w' => e = .returned (.string (msg 4)) ∧ w = w' := by
  go_enter Tryz.func310, Tryz.ntmps310
  go_wp2
  go_ret
  exact ⟨rfl, rfl⟩
set_option maxRecDepth 100000 in
theorem text5 (w : World) : Calls Tryz.prog 310 #[.int .i64 5] w fun e w' => e = .returned (.string (msg 5)) ∧ w = w' := by
  go_enter Tryz.func310, Tryz.ntmps310
  go_wp2
  go_ret
  exact ⟨rfl, rfl⟩
set_option maxRecDepth 100000 in
theorem text6 (w : World) : Calls Tryz.prog 310 #[.int .i64 6] w fun e w' => e = .returned (.string (msg 6)) ∧ w = w' := by
  go_enter Tryz.func310, Tryz.ntmps310
  go_wp2
  go_ret
  exact ⟨rfl, rfl⟩
set_option maxRecDepth 100000 in
theorem text7 (w : World) : Calls Tryz.prog 310 #[.int .i64 7] w fun e w' => e = .returned (.string (msg 7)) ∧ w = w' := by
  go_enter Tryz.func310, Tryz.ntmps310
  go_wp2
  go_ret
  exact ⟨rfl, rfl⟩
set_option maxRecDepth 100000 in
theorem text8 (w : World) : Calls Tryz.prog 310 #[.int .i64 8] w fun e w' => e = .returned (.string (msg 8)) ∧ w = w' := by
  go_enter Tryz.func310, Tryz.ntmps310
  go_wp2
  go_ret
  exact ⟨rfl, rfl⟩
set_option maxRecDepth 100000 in
theorem text9 (w : World) : Calls Tryz.prog 310 #[.int .i64 9] w fun e w' => e = .returned (.string (msg 9)) ∧ w = w' := by
  go_enter Tryz.func310, Tryz.ntmps310
  go_wp2
  go_ret
  exact ⟨rfl, rfl⟩
set_option maxRecDepth 100000 in
theorem text10 (w : World) : Calls Tryz.prog 310 #[.int .i64 10] w fun e w' => e = .returned (.string (msg 10)) ∧ w = w' := by
  go_enter Tryz.func310, Tryz.ntmps310
  go_wp2
  go_ret
  exact ⟨rfl, rfl⟩
set_option maxRecDepth 100000 in
theorem text11 (w : World) : Calls Tryz.prog 310 #[.int .i64 11] w fun e w' => e = .returned (.string (msg 11)) ∧ w = w' := by
  go_enter Tryz.func310, Tryz.ntmps310
  go_wp2
  go_ret
  exact ⟨rfl, rfl⟩
theorem text_any (c : Int) (h1 : 1 ≤ c) (h2 : c ≤ 11) (w : World) : Calls Tryz.prog 310 #[.int .i64 c] w fun e w' => e = .returned (.string (msg c)) ∧ w = w' := by
  have hc : c = 1 ∨ c = 2 ∨ c = 3 ∨ c = 4 ∨ c = 5 ∨ c = 6 ∨ c = 7 ∨ c = 8 ∨ c = 9 ∨ c = 10 ∨ c = 11 := by omega
  rcases hc with rfl | rfl | rfl | rfl | rfl | rfl | rfl | rfl | rfl | rfl | rfl
  · exact text1 w
  · exact text2 w
  · exact text3 w
  · exact text4 w
  · exact text5 w
  · exact text6 w
  · exact text7 w
  · exact text8 w
  · exact text9 w
  · exact text10 w
  · exact text11 w
end Go.Proofs.YtlhmfgbaefaneaaGreatDoor.flt
namespace Go.Proofs.YtlhmfgbaefaneaaGreatDoor.flt
open Go.RowKit Go.Extern.Stop Go.Stop Go.Extern
def render (xs : List ByteArray) : List UInt8 := xs.flatMap fun s => s.data.toList ++ [58, 32]
theorem data_len (s : ByteArray) : s.data.toList.length = s.size := by rw [Array.length_toList]; rfl
theorem render_len (n m : Nat) (hm : n + 2 ≤ m) (xs : List ByteArray) (h : ∀ s ∈ xs, s.size ≤ n) : (render xs).length ≤ xs.length * m := by
  unfold render
  induction xs with
  | nil => simp
  | cons s xs ih =>
    have h1 := ih (fun y hy => h y (by simp [hy]))
    have h2 := h s (by simp)
    have h3 := data_len s
    simp only [List.flatMap_cons, List.length_append, List.length_cons, List.length_nil]
    rw [h3, Nat.succ_mul]
    omega
theorem render_bound (xs : List ByteArray) (h : ∀ s ∈ xs, s.size ≤ 100000) (hl : xs.length ≤ 100000) : (render xs).length ≤ 10000200000 := by
  have h1 := render_len 100000 100002 (by omega) xs h
  have h2 := Nat.mul_le_mul_right 100002 hl
  omega
theorem render_snoc (xs : List ByteArray) (k : Nat) (h : k < xs.length) : render (xs.take (k + 1)) = render (xs.take k) ++ xs[k].data.toList ++ [58, 32] := by
  unfold render
  rw [List.take_succ_eq_append_getElem h, List.flatMap_append]
  simp only [List.flatMap_cons, List.flatMap_nil, List.append_nil, List.append_assoc]
theorem own_keeps {w w' : World} {b base n : Nat} {v : Value} {xs : List Value} {cb : Array Value} (h : w.ownsRow base 9 1 v n xs) (hk : Keeps b w w') (hb : w.heap[b]? = some (.cells cb 171 (0, 0))) : w'.ownsRow base 9 1 v n xs := by
  refine ⟨h.1, ?_⟩
  rcases h.2 with hn | ⟨g, cap, cur, rfl, hbg, hg, r⟩
  · exact .inl hn
  · refine .inr ⟨g, cap, cur, rfl, hbg, hk g cur _ _ (fun e => ?_) (by decide) hg, r⟩
    subst e
    rw [hg] at hb
    simp at hb
theorem own_shape {w : World} {base size n : Nat} {e : TypeId} {v : Value} {xs : List Value} (h : w.ownsRow base e size v n xs) : ∃ ao cap, v = .slice ao n cap := by
  rcases h.2 with ⟨rfl, rfl⟩ | ⟨g, cap, cur, rfl, _⟩
  · exact ⟨_, _, rfl⟩
  · exact ⟨_, _, rfl⟩
theorem builder_heap {B b : Nat} {bs : List Value} {w : World} (h : Lib.IsBuilder 171 5 B b bs w) : ∃ cb, w.heap[b]? = some (.cells cb 171 (0, 0)) := by
  rcases h with ⟨_, v, hb, _⟩ | ⟨_, v, hb, _⟩ <;> exact ⟨_, hb⟩
def ERel (w : World) (xs : List ByteArray) (sv : Value) (i : Value) (wr : World) : Prop :=
  ∃ k : Nat, k ≤ xs.length ∧ i = .int .i64 k ∧ Lib.IsBuilder 171 5 w.heap.size w.heap.size (Lib.byteCells (render (xs.take k))) wr ∧ (∃ base, wr.ownsRow base 9 1 sv xs.length (xs.map Value.string)) ∧ Below w.heap.size w wr
set_option maxRecDepth 100000 in
set_option maxHeartbeats 4000000 in
theorem Error_chain (b : Nat) (c : Int) (s : ByteArray) (B : Nat) (l : List (Nat × Int × ByteArray)) (w : World) (hg : Handle w) (h : Chain w (.iface 131 (.pointer (some ⟨b, 0, none⟩))) B ((b, c, s) :: l)) (hB : B ≤ w.heap.size)
    (hL : ((b, c, s) :: l).length ≤ 100000) (hS : ∀ x ∈ (b, c, s) :: l, x.2.2.size ≤ 100000) (h1 : 1 ≤ c) (h2 : c ≤ 11) :
    Calls Tryz.prog 311 #[.pointer (some ⟨b, 0, none⟩)] w fun ev w' => ev = .returned (.string ⟨(render (ats ((b, c, s) :: l)) ++ (msg c).data.toList).toArray⟩) ∧ Below w.heap.size w w' := by
  obtain ⟨e, hf⟩ : ∃ e, FaultAt w b c s e := by
    cases h with
    | link _ _ _ e _ _ hf _ _ => exact ⟨e, hf⟩
  have xs_len := ats_len ((b, c, s) :: l)
  have xs_sz : ∀ x ∈ ats ((b, c, s) :: l), x.size ≤ 100000 := by
    intro x hx
    unfold ats at hx
    rw [List.mem_filter, List.mem_map] at hx
    obtain ⟨⟨y, hy, rfl⟩, _⟩ := hx
    exact hS y hy
  have bW : Below w.heap.size w (w.alloc (.cells #[.pointer none, .slice none 0 0] 171)) := (Below.refl _ _).alloc (Nat.le_refl _) _
  have iB : Lib.IsBuilder 171 5 w.heap.size w.heap.size (Lib.byteCells (render [])) (w.alloc (.cells #[.pointer none, .slice none 0 0] 171)) :=
    Or.inl ⟨Nat.le_refl _, .slice none 0 0, by show (w.heap.push _)[w.heap.size]? = _; simp, World.ownsRow_nil _ _ _ _, by simp [Value.ownBlock]⟩
  have HW := Lib.hid (Where_chain _ B ((b, c, s) :: l) (w.alloc (.cells #[.pointer none, .slice none 0 0] 171)) (hg.below bW hg.pos) (h.keep bW hB) (by simp; omega) hL)
  generalize hxs : ats ((b, c, s) :: l) = xs at *
  clear hxs h hS
  have HI := Lib.hid iB
  have HF := Lib.hid hf
  have HB := Lib.hid bW
  have HX := Lib.hid xs_sz
  clear iB hf bW xs_sz
  go_enter Tryz.func311, Tryz.ntmps311
  go_wp2_with (go_at_call 235; refine (HW.out).mono ?_; rintro e' W2 ⟨sv, rfl, hown, hb2⟩; obtain ⟨ao, cap, rfl⟩ := own_shape hown; have HO := Lib.hid hown; have HB2 := Lib.hid hb2; clear hown hb2)
  have bW2 : Below w.heap.size w W2 := HB.out.trans (HB2.out.mono (by simp))
  have iW2 : Lib.IsBuilder 171 5 w.heap.size w.heap.size (Lib.byteCells (render (xs.take 0))) W2 :=
    Or.inl ⟨Nat.le_refl _, .slice none 0 0, by rw [HB2.out.block _ (by simp)]; show (w.heap.push _)[w.heap.size]? = _; simp, World.ownsRow_nil _ _ _ _, by simp [Value.ownBlock]⟩
  have H2 := Lib.hid bW2
  have HI2 := Lib.hid iW2
  clear bW2 iW2
  go_loopw [12] (fun i wr => ERel w xs (.slice ao xs.length cap) i wr) (fun i _ => xs.length - (intOf i).toNat)
  case atStart => exact ⟨0, Nat.zero_le _, rfl, HI2.out, ⟨_, HO.out⟩, H2.out⟩
  case round =>
    obtain ⟨k, hk, rfl, hI, ⟨base, hown⟩, hbel⟩ := hrel
    by_cases hlt : k < xs.length
    · obtain ⟨g, rfl⟩ : ∃ g, ao = some ⟨g, 0, none⟩ := by
        rcases hown.2 with ⟨_, h0⟩ | ⟨g, cap', cur, hv, _⟩
        · omega
        · simp at hv
          exact ⟨g, hv.1⟩
      have hcell : wr.cell? ⟨g, k, none⟩ = some (.string xs[k]) := by
        have := hown.cellAt k (by omega)
        rw [this]
        simp [List.getElem?_eq_getElem hlt]
      obtain ⟨cb, hcb⟩ := builder_heap hI
      have hsz : (render (xs.take k)).length ≤ 10000200000 := render_bound _ (fun x hx => HX.out x (List.mem_of_mem_take hx)) (Nat.le_trans (List.length_take_le' _ _) (by omega))
      have hs0 := HX.out xs[k] (List.getElem_mem hlt)
      have hW := Lib.hid (writeString w.heap.size w.heap.size _ xs[k] wr hI (by rw [Lib.byteCells_length]; omega) hbel.size)
      have HOW := Lib.hid hown
      have HCB := Lib.hid hcb
      have HBL := Lib.hid hbel
      clear hI hown hcb hbel
      go_wp2_with (go_at_call 158; refine (hW.out).mono ?_; rintro e' w3 ⟨rfl, hI3, hb3, hk3⟩; have HI3 := Lib.hid hI3; have HB3 := Lib.hid hb3; have HK3 := Lib.hid hk3; clear hI3 hb3 hk3 hW)
      have hI3' : Lib.IsBuilder 171 5 w.heap.size w.heap.size (Lib.byteCells (render (xs.take k) ++ xs[k].data.toList)) w3 := by
        rw [Lib.byteCells_append, ← Lib.strCells_eq]
        exact Or.inr HI3.out
      have bl3 : Below w.heap.size w w3 := HBL.out.trans HB3.out
      have hW4 := Lib.hid (writeString w.heap.size w.heap.size _ ⟨#[58, 32]⟩ w3 hI3' (by rw [Lib.byteCells_length, List.length_append, data_len]; show _ + xs[k].size + 2 ≤ _; omega) bl3.size)
      have HBL3 := Lib.hid bl3
      clear hI3' bl3
      go_wp2_with (go_at_call 158; refine (hW4.out).mono ?_; rintro e' w4 ⟨rfl, hI4, hb4, hk4⟩; have HI4 := Lib.hid hI4; have HB4 := Lib.hid hb4; have HK4 := Lib.hid hk4; clear hI4 hb4 hk4 hW4)
      go_roundw
      case rel =>
        have o3 := own_keeps HOW.out HK3.out HCB.out
        obtain ⟨cb3, hcb3⟩ := builder_heap (Or.inr HI3.out)
        refine ⟨k + 1, by omega, by go_num, ?_, ⟨base, own_keeps o3 HK4.out hcb3⟩, HBL3.out.trans HB4.out⟩
        rw [render_snoc _ _ hlt, Lib.byteCells_append]
        exact Or.inr HI4.out
      case measure => simp [intOf]; omega
    · have hkl : k = xs.length := by omega
      subst hkl
      rw [List.take_length] at hI
      have hsz : (render xs).length ≤ 10000200000 := render_bound _ HX.out (by omega)
      have hm : (msg c).size ≤ 100 := by
        unfold msg
        show Array.size _ ≤ 100
        split <;> simp
      have hW := Lib.hid (writeString w.heap.size w.heap.size _ (msg c) wr hI (by rw [Lib.byteCells_length]; omega) hbel.size)
      have f0 := (HF.out.below hbel HF.out.lt).cell0
      have HT := Lib.hid (text_any c h1 h2 wr)
      have HBL := Lib.hid hbel
      clear hI hown hbel h1 h2
      go_wp2_with (first | (go_at_call 310; refine (HT.out).mono ?_; rintro e' w' ⟨rfl, rfl⟩; clear HT) | (go_at_call 158; refine (hW.out).mono ?_; rintro e' w3 ⟨rfl, hI3, hb3, -⟩; have HI3 := Lib.hid hI3; have HB3 := Lib.hid hb3; clear hI3 hb3 hW))
      have hI4 : Lib.IsBuilder 171 5 w.heap.size w.heap.size (Lib.byteCells (render xs ++ (msg c).data.toList)) w3 := by
        rw [Lib.byteCells_append, ← Lib.strCells_eq]
        exact Or.inr HI3.out
      have hS := Lib.hid (builderString w.heap.size w.heap.size _ w3 hI4 (by unfold msg; simp))
      clear hI4
      go_wp2_with (go_at_call 160; refine (hS.out).mono ?_; rintro e' w4 ⟨rfl, hb4⟩; have HB4 := Lib.hid hb4; clear hb4 hS)
      go_ret
      exact ⟨rfl, HBL.out.trans (HB3.out.trans HB4.out)⟩
end Go.Proofs.YtlhmfgbaefaneaaGreatDoor.flt
namespace Go.Proofs.YtlhmfgbaefaneaaGreatDoor.flt
open Go.RowKit Go.Extern.Stop Go.Stop Go.Extern
def EqAns (w : World) (v tgt : Value) (r : Bool) : Prop := (binOp .eql 28 v tgt).run Tryz.prog w = .ok (.bool r) w
structure Comp (u : TypeId) : Prop where
  ty : ∀ v w, (ReflectliteType.typeOf #[.iface u v]).run Tryz.prog w = .ok (.iface 258 (.agg #[.pointer (some ⟨10, u, none⟩)])) w
  cm : ∀ w, (ReflectliteType.method (fun t => do Rtype.noPackHeld "Comparable" t; (fun a => Value.bool a.comparable) <$> typeInfo t) #[.agg #[.pointer (some ⟨10, u, none⟩)]]).run Tryz.prog w = .ok (.bool true) w
theorem compPlain : Comp 128 := ⟨typeOfL, fun w => by kernel_rfl⟩
set_option maxRecDepth 100000 in
theorem eis_plain (c : Int) (u : TypeId) (x : Value) (r : Bool) (w : World) (h : EqAns w (.iface 128 (.int .i64 c)) (.iface u x) r) :
    Calls Tryz.prog 266 #[.iface 128 (.int .i64 c), .iface u x, .bool true] w fun e w' => e = .returned (.bool r) ∧ w = w' := by
  unfold EqAns at h
  have nI := noIsL
  have nU := noUnL
  have nUs := noUnsL
  cases r
  · go_enter Tryz.func266, Tryz.ntmps266
    go_wp2
    refine wp_loop_rounds 1 ?_
    rw [rounds_succ]
    go_wp2
    go_ret
    exact ⟨rfl, rfl⟩
  · go_enter Tryz.func266, Tryz.ntmps266
    go_wp2
    refine wp_loop_rounds 1 ?_
    rw [rounds_succ]
    go_wp2
    go_ret
    exact ⟨rfl, rfl⟩
set_option maxRecDepth 100000 in
theorem eIs_of (u1 : TypeId) (x1 : Value) (u : TypeId) (x : Value) (r : Bool) (w : World) (hC : Comp u)
    (h : Calls Tryz.prog 266 #[.iface u1 x1, .iface u x, .bool true] w fun e w' => e = .returned (.bool r) ∧ w = w') :
    Calls Tryz.prog 236 #[.iface u1 x1, .iface u x] w fun e w' => e = .returned (.bool r) ∧ w = w' := by
  have H := Lib.hid h
  clear h
  obtain ⟨e1, -, -, -, -, -, -, -, -, -, e11⟩ := ext
  have ty := hC.ty
  have cm := hC.cm
  have mC := methodComparable
  clear hC
  go_enter Tryz.func236, Tryz.ntmps236
  go_wp2_with (go_at_call 266; refine (H.out).mono ?_; rintro e' w' ⟨rfl, rfl⟩)
  go_ret
  exact ⟨rfl, rfl⟩
theorem eIs_plain (c : Int) (u : TypeId) (x : Value) (r : Bool) (w : World) (hC : Comp u) (h : EqAns w (.iface 128 (.int .i64 c)) (.iface u x) r) :
    Calls Tryz.prog 236 #[.iface 128 (.int .i64 c), .iface u x] w fun e w' => e = .returned (.bool r) ∧ w = w' :=
  eIs_of _ _ _ _ r w hC (eis_plain c u x r w h)
theorem FIs_any (b : Nat) (c : Int) (u : TypeId) (x : Value) (r : Bool) (w : World) (hc : w.cell? ⟨b, 0, none⟩ = some (.int .i64 c)) (h0 : (c == 0) = false) (hC : Comp u) (h : EqAns w (.iface 128 (.int .i64 c)) (.iface u x) r) :
    Calls Tryz.prog 312 #[.pointer (some ⟨b, 0, none⟩), .iface u x] w fun e w' => e = .returned (.bool r) ∧ w = w' := by
  have H1 := Lib.hid (Of_some c w h0)
  have H2 := Lib.hid (eIs_plain c u x r w hC h)
  clear h h0 hC
  go_enter Tryz.func312, Tryz.ntmps312
  go_wp2_with (first | (go_at_call 71; refine (H1.out).mono ?_; rintro e' w' ⟨rfl, rfl⟩) | (go_at_call 236; refine (H2.out).mono ?_; rintro e' w' ⟨rfl, rfl⟩))
  go_ret
  exact ⟨rfl, rfl⟩
inductive IsAns (w : World) (tgt : Value) : Value → Bool → Prop
  | plain (c : Int) (r : Bool) : EqAns w (.iface 128 (.int .i64 c)) tgt r → IsAns w tgt (.iface 128 (.int .i64 c)) r
  | other (x : Value) (r : Bool) : EqAns w (.iface 302 x) tgt r → IsAns w tgt (.iface 302 x) r
  | same (b : Nat) : EqAns w (.iface 131 (.pointer (some ⟨b, 0, none⟩))) tgt true → IsAns w tgt (.iface 131 (.pointer (some ⟨b, 0, none⟩))) true
  | code (b : Nat) (c : Int) (s : ByteArray) (e : Value) : FaultAt w b c s e → (c == 0) = false → EqAns w (.iface 131 (.pointer (some ⟨b, 0, none⟩))) tgt false → EqAns w (.iface 128 (.int .i64 c)) tgt true → IsAns w tgt (.iface 131 (.pointer (some ⟨b, 0, none⟩))) true
  | last (b : Nat) (c : Int) (s : ByteArray) : FaultAt w b c s .nilIface → (c == 0) = false → EqAns w (.iface 131 (.pointer (some ⟨b, 0, none⟩))) tgt false → EqAns w (.iface 128 (.int .i64 c)) tgt false → IsAns w tgt (.iface 131 (.pointer (some ⟨b, 0, none⟩))) false
  | on (b : Nat) (c : Int) (s : ByteArray) (u : TypeId) (x : Value) (r : Bool) : FaultAt w b c s (.iface u x) → (c == 0) = false → EqAns w (.iface 131 (.pointer (some ⟨b, 0, none⟩))) tgt false → EqAns w (.iface 128 (.int .i64 c)) tgt false → errM (.iface u x) < b + 2 → IsAns w tgt (.iface u x) r → IsAns w tgt (.iface 131 (.pointer (some ⟨b, 0, none⟩))) r
set_option maxRecDepth 100000 in
set_option maxHeartbeats 4000000 in
theorem eis_ans (u : TypeId) (x v : Value) (r : Bool) (w : World) (hC : Comp u) (h : IsAns w (.iface u x) v r) :
    Calls Tryz.prog 266 #[v, .iface u x, .bool true] w fun e w' => e = .returned (.bool r) ∧ w = w' := by
  have hI := hasIsP
  have hU := hasUnP
  have mI := methodIs
  have mU := methodUnwrap
  have nIL := noIsL
  have nUL := noUnL
  have nUsL := noUnsL
  have nIS := noIsS
  have nUS := noUnS
  have nUsS := noUnsS
  have HC := Lib.hid hC
  have HH := Lib.hid h
  clear hC h
  go_enter Tryz.func266, Tryz.ntmps266
  go_wp2
  go_loopw [0] (fun v' wl => w = wl ∧ IsAns w (.iface u x) v' r) (fun v' _ => errM v')
  case atStart => exact ⟨rfl, HH.out⟩
  case round =>
    obtain ⟨rfl, hans⟩ := hrel
    clear HH
    cases hans with
    | plain c _ he =>
      unfold EqAns at he
      cases r <;> go_wp2 <;> go_ret <;> exact ⟨rfl, rfl⟩
    | other y _ he =>
      unfold EqAns at he
      cases r <;> go_wp2 <;> go_ret <;> exact ⟨rfl, rfl⟩
    | same b he =>
      unfold EqAns at he
      go_wp2
      go_ret
      exact ⟨rfl, rfl⟩
    | code b c s e hf h0 he hp =>
      have HF := Lib.hid (FIs_any b c u x true w hf.cell0 h0 HC.out hp)
      unfold EqAns at he
      clear hf h0 hp
      go_wp2_with (go_at_call 312; refine (HF.out).mono ?_; rintro e' w' ⟨rfl, rfl⟩)
      go_ret
      exact ⟨rfl, rfl⟩
    | last b c s hf h0 he hp =>
      have HF := Lib.hid (FIs_any b c u x false w hf.cell0 h0 HC.out hp)
      have HU := Lib.hid (Unwrap_some b _ w hf.cell2)
      unfold EqAns at he
      clear hf h0 hp
      go_wp2_with (first | (go_at_call 312; refine (HF.out).mono ?_; rintro e' w' ⟨rfl, rfl⟩) | (go_at_call 313; refine (HU.out).mono ?_; rintro e' w' ⟨rfl, rfl⟩))
      go_ret
      exact ⟨rfl, rfl⟩
    | on b c s u1 x1 _ hf h0 he hp hlt hr =>
      have HF := Lib.hid (FIs_any b c u x false w hf.cell0 h0 HC.out hp)
      have HU := Lib.hid (Unwrap_some b _ w hf.cell2)
      have HR := Lib.hid hr
      have HL := Lib.hid hlt
      unfold EqAns at he
      clear hf h0 hp hr hlt
      go_wp2_with (first | (go_at_call 312; refine (HF.out).mono ?_; rintro e' w' ⟨rfl, rfl⟩) | (go_at_call 313; refine (HU.out).mono ?_; rintro e' w' ⟨rfl, rfl⟩))
      go_roundw
      case rel => exact ⟨trivial, HR.out⟩
      case measure => simpa [errM] using HL.out
theorem eIs_ans (u : TypeId) (x : Value) (u1 : TypeId) (x1 : Value) (r : Bool) (w : World) (hC : Comp u) (h : IsAns w (.iface u x) (.iface u1 x1) r) :
    Calls Tryz.prog 236 #[.iface u1 x1, .iface u x] w fun e w' => e = .returned (.bool r) ∧ w = w' :=
  eIs_of _ _ _ _ r w hC (eis_ans u x _ r w hC h)
end Go.Proofs.YtlhmfgbaefaneaaGreatDoor.flt
namespace Go.Proofs.YtlhmfgbaefaneaaGreatDoor.flt
open Go.RowKit Go.Extern.Stop Go.Stop Go.Extern
def Joined (w : World) (j : Nat) (v0 v1 : Value) : Prop := ∃ g cap, w.cell? ⟨j, 0, none⟩ = some (.slice (some ⟨g, 0, none⟩) 2 cap) ∧ w.cell? ⟨g, 0, none⟩ = some v0 ∧ w.cell? ⟨g, 1, none⟩ = some v1
theorem Joined.below {w w' : World} {j : Nat} {v0 v1 : Value} (h : Joined w j v0 v1) (hb : Below w.heap.size w w') : Joined w' j v0 v1 := by
  obtain ⟨g, cap, h1, h2, h3⟩ := h
  exact ⟨g, cap, (hb.cell (cell_lt h1)).trans h1, (hb.cell (cell_lt h2)).trans h2, (hb.cell (cell_lt h3)).trans h3⟩
theorem eq_plain (c d : Int) (w : World) : EqAns w (.iface 128 (.int .i64 c)) (.iface 128 (.int .i64 d)) (c == d) :=
  Lib.run_eql_iface_int (P := Tryz.prog) w c d Tryz.underlying28 compL Tryz.underlying128
theorem eq_types (u u' : TypeId) (x y : Value) (h : u ≠ u') (w : World) : EqAns w (.iface u x) (.iface u' y) false :=
  run_eql_iface_types (P := Tryz.prog) u u' x y Tryz.underlying28 h w
theorem isAns_code {w : World} {b B : Nat} {d : Int} {s : ByteArray} {l : List (Nat × Int × ByteArray)} (h : Chain w (.iface 131 (.pointer (some ⟨b, 0, none⟩))) B ((b, d, s) :: l)) (h0 : (d == 0) = false) : IsAns w (.iface 128 (.int .i64 d)) (.iface 131 (.pointer (some ⟨b, 0, none⟩))) true := by
  cases h with
  | link _ _ _ e _ _ hf _ _ => exact .code b d s e hf h0 (eq_types _ _ _ _ (by decide) w) (by have := eq_plain d d w; rwa [show (d == d) = true from by simp] at this)
end Go.Proofs.YtlhmfgbaefaneaaGreatDoor.flt
namespace Go.Proofs.YtlhmfgbaefaneaaGreatDoor.flt
open Go.RowKit Go.Extern.Stop Go.Stop Go.Extern
theorem ats_begun (b0 b1 : Nat) : ats [(b1, 4, ⟨#[97]⟩), (b0, 4, ⟨#[98]⟩)] = [⟨#[97]⟩, ⟨#[98]⟩] := by
  have h1 : (⟨#[97]⟩ : ByteArray).toList = [97] := by decide +kernel
  have h2 : (⟨#[98]⟩ : ByteArray).toList = [98] := by decide +kernel
  simp [ats, h1, h2]
theorem text_begun : (⟨(render [⟨#[97]⟩, ⟨#[98]⟩] ++ (msg 4).data.toList).toArray⟩ : ByteArray) = ⟨#[97, 58, 32, 98, 58, 32, 101, 114, 114, 111, 114, 32, 52]⟩ := by decide +kernel
theorem Places.two {w w' : World} {x y : ByteArray} {e : Ending} (h : Places w [x, y] e w') : ∃ g cap, e = .returned (.slice (some ⟨g, 0, none⟩) 2 cap) ∧ w'.cell? ⟨g, 0, none⟩ = some (.string x) ∧ w'.cell? ⟨g, 1, none⟩ = some (.string y) ∧ Below w.heap.size w w' := by
  obtain ⟨sv, rfl, hown, hb⟩ := h
  obtain ⟨g, cap, rfl⟩ : ∃ g cap, sv = .slice (some ⟨g, 0, none⟩) 2 cap := by
    rcases hown.2 with ⟨_, h⟩ | ⟨g, cap, cur, hv, _⟩
    · simp at h
    · exact ⟨g, cap, hv⟩
  have hown' : w'.ownsRow w.heap.size 9 1 (.slice (some ⟨g, 0, none⟩) 2 cap) 2 [.string x, .string y] := hown
  exact ⟨g, cap, rfl, by rw [hown'.cellAt 0 (by omega)]; rfl, by rw [hown'.cellAt 1 (by omega)]; rfl, hb⟩
set_option maxRecDepth 100000 in
set_option maxHeartbeats 4000000 in
theorem begun_any (w : World) (hg : Handle w) : Calls Tryz.prog 193 #[] w fun e w' => e = .returned (.bool true) ∧ Below w.heap.size w w' := by
  have HG := Lib.hid hg
  clear hg
  have mE := methodError
  have HN := Lib.hid (New_some 4 ⟨#[98]⟩ w (by decide))
  have B1 : Below w.heap.size w (w.alloc (.cells #[.int .i64 4, .string ⟨#[98]⟩, .nilIface] 134)) := (Below.refl _ _).alloc (Nat.le_refl _) _
  have F1 : FaultAt (w.alloc (.cells #[.int .i64 4, .string ⟨#[98]⟩, .nilIface] 134)) w.heap.size 4 ⟨#[98]⟩ .nilIface := by show (w.heap.push _)[w.heap.size]? = _; simp
  have HW := Lib.hid (Wrap_of ⟨#[97]⟩ _ _ 4 _ (Code_fault w.heap.size 4 _ (HG.out.below B1 HG.out.pos) F1.cell0))
  have HB1 := Lib.hid B1
  have HF1 := Lib.hid F1
  clear B1 F1
  go_enter Tryz.func193, Tryz.ntmps193
  go_wp2_with (first | (go_at_call 234; refine (HN.out).mono ?_; rintro e' w' ⟨rfl, rfl⟩) | (go_at_call 233; refine (HW.out).mono ?_; rintro e' W2 ⟨b1, rfl, hle, hF2, hB2⟩; have HLE := Lib.hid hle; have HF2 := Lib.hid hF2; have HB2 := Lib.hid hB2; clear hle hF2 hB2))
  have B2 : Below w.heap.size w W2 := HB1.out.trans (HB2.out.mono HB1.out.size)
  have F0 : FaultAt W2 w.heap.size 4 ⟨#[98]⟩ .nilIface := HF1.out.below HB2.out HF1.out.lt
  have CH : Chain W2 (.iface 131 (.pointer (some ⟨b1, 0, none⟩))) W2.heap.size [(b1, 4, ⟨#[97]⟩), (w.heap.size, 4, ⟨#[98]⟩)] :=
    .link b1 4 _ _ _ _ HF2.out HF2.out.lt (.link w.heap.size 4 _ _ _ _ F0 (by have := HLE.out; simp at this; omega) (.none _))
  have HWh := Lib.hid (show Calls Tryz.prog 235 #[.iface 131 (.pointer (some ⟨b1, 0, none⟩))] W2 fun e w' => ∃ g cap, e = .returned (.slice (some ⟨g, 0, none⟩) 2 cap) ∧ w'.cell? ⟨g, 0, none⟩ = some (.string ⟨#[97]⟩) ∧ w'.cell? ⟨g, 1, none⟩ = some (.string ⟨#[98]⟩) ∧ Below W2.heap.size W2 w' from by
    have h := Where_chain _ _ _ W2 (HG.out.below B2 HG.out.pos) CH (Nat.le_refl _) (by simp)
    rw [ats_begun] at h
    exact h.mono fun _ _ h => h.two)
  have HB2w := Lib.hid B2
  have HCH := Lib.hid CH
  clear B2 F0 CH
  go_wp2_with (go_at_call 235; refine (HWh.out).mono ?_; rintro e' W3 ⟨g, cap, rfl, hc0, hc1, hb3⟩; have HB3 := Lib.hid hb3; clear hb3)
  have HCo := Lib.hid (Code_fault b1 4 W3 (HG.out.below (HB2w.out.trans (HB3.out.mono HB2w.out.size)) HG.out.pos) ((HF2.out.below HB3.out HF2.out.lt).cell0))
  go_wp2_with (go_at_call 80; refine (HCo.out).mono ?_; rintro e' W4 ⟨rfl, hb4⟩; have HB4 := Lib.hid hb4; clear hb4)
  have B24 : Below W2.heap.size W2 W4 := HB3.out.trans (HB4.out.mono HB3.out.size)
  have HE := Lib.hid (show Calls Tryz.prog 311 #[.pointer (some ⟨b1, 0, none⟩)] W4 fun e w' => e = .returned (.string ⟨#[97, 58, 32, 98, 58, 32, 101, 114, 114, 111, 114, 32, 52]⟩) ∧ Below W4.heap.size W4 w' from by
    have h := Error_chain b1 4 ⟨#[97]⟩ W2.heap.size [(w.heap.size, 4, ⟨#[98]⟩)] W4 (HG.out.below (HB2w.out.trans (B24.mono HB2w.out.size)) HG.out.pos) (HCH.out.keep B24 (Nat.le_refl _)) B24.size (by simp) (by
      intro x hx
      simp at hx
      rcases hx with rfl | rfl <;> exact (show (1 : Nat) ≤ 100000 by omega)) (by omega) (by omega)
    rw [ats_begun, text_begun] at h
    exact h)
  have HB24 := Lib.hid B24
  clear B24
  go_wp2_with (go_at_call 311; refine (HE.out).mono ?_; rintro e' W5 ⟨rfl, hb5⟩; have HB5 := Lib.hid hb5; clear hb5)
  have B25 : Below W2.heap.size W2 W5 := HB24.out.trans (HB5.out.mono HB24.out.size)
  have CH5 := HCH.out.keep B25 (Nat.le_refl _)
  have F1 : FaultAt W5 b1 4 ⟨#[97]⟩ _ := HF2.out.below B25 HF2.out.lt
  have F0 : FaultAt W5 w.heap.size 4 ⟨#[98]⟩ .nilIface := ((HF1.out.below HB2.out HF1.out.lt).below B25 (Nat.lt_of_lt_of_le HF1.out.lt HB2.out.size))
  have lt01 : w.heap.size < b1 := by have := HLE.out; simp at this; omega
  have HI1 := Lib.hid (eIs_ans _ _ _ _ true W5 compPlain (isAns_code CH5 (by decide)))
  have HI2 := Lib.hid (eIs_ans _ _ _ _ false W5 compPlain (.on (tgt := .iface 128 (.int .i64 1)) b1 4 _ _ _ false F1 (by decide) (eq_types _ _ _ _ (by decide) W5) (eq_plain 4 1 W5) (by simp [errM]; omega) (.last w.heap.size 4 _ F0 (by decide) (eq_types _ _ _ _ (by decide) W5) (eq_plain 4 1 W5))))
  have heq : (binOp .eql 28 (.iface 128 (.int .i64 3)) (.iface 128 (.int .i64 3))).run Tryz.prog W5 = .ok (.bool true) W5 := eq_plain 3 3 W5
  have HBe := Lib.hid (HB2w.out.trans (B25.mono HB2w.out.size))
  clear B25 CH5 F1 F0 lt01
  go_wp2_with (first | (go_at_call 71; refine (Of_some _ _ (by decide)).mono ?_; rintro e' w' ⟨rfl, rfl⟩) | (go_at_call 236; refine (HI1.out).mono ?_; rintro e' w' ⟨rfl, rfl⟩; clear HI1) | (go_at_call 236; refine (HI2.out).mono ?_; rintro e' w' ⟨rfl, rfl⟩; clear HI2) | (go_at_call 71; refine (Of_none _).mono ?_; rintro e' w' ⟨rfl, rfl⟩))
  go_ret
  exact ⟨rfl, HBe.out⟩
end Go.Proofs.YtlhmfgbaefaneaaGreatDoor.flt
namespace Go.Proofs.YtlhmfgbaefaneaaGreatDoor.law2
open Go.RowKit Go.Proofs.YtlhmfgbaefaneaaGreatDoor.nat
open Go.Proofs.YtlhmfgbaefaneaaGreatDoor.ref (str signed decText)
theorem big_text : str (Lib.decDigits 123456789012345678901234567890) = ⟨#[49, 50, 51, 52, 53, 54, 55, 56, 57, 48, 49, 50, 51, 52, 53, 54, 55, 56, 57, 48, 49, 50, 51, 52, 53, 54, 55, 56, 57, 48]⟩ := by decide +kernel
theorem big_get (w : World) : Calls Tryz.prog 143 #[.string ⟨#[49, 50, 51, 52, 53, 54, 55, 56, 57, 48, 49, 50, 51, 52, 53, 54, 55, 56, 57, 48, 49, 50, 51, 52, 53, 54, 55, 56, 57, 48]⟩] w fun e w' => ∃ v, e = .returned (.tuple #[v, .nilIface]) ∧ (nat.IsN w' v 123456789012345678901234567890 ∧ v ≠ .pointer none) ∧ Below w.heap.size w w' := by
  obtain ⟨h1, h2, -⟩ := ref.dec_numeral (x := 123456789012345678901234567890) (p := 29) (by decide) (by decide)
  have := nat.Get_ok (Lib.decDigits 123456789012345678901234567890) w h1
  rwa [h2, big_text] at this
theorem half_text : str (dec.putText (-3 / 2) 2 1) = ⟨#[45, 49, 46, 53, 48]⟩ := by decide +kernel
theorem half_form : ref.DecForm (decText (-150) 2) (decide ((-150 : Int) < 0)) (Int.natAbs (-150)) 2 := dec.int_form (p := 3) (by decide) (by decide) (by decide)
theorem half_lit : str (decText (-150) 2) = ⟨#[45, 49, 46, 53, 48]⟩ := by decide +kernel
theorem half_get (w : World) : Calls Tryz.prog 147 #[.string ⟨#[45, 49, 46, 53, 48]⟩] w fun e w' => ∃ u, e = .returned (.tuple #[u, .int .i64 2, .nilIface]) ∧ (rat.IsR w' u (-3 / 2) ∧ u ≠ .pointer none) ∧ Below w.heap.size w w' := by
  have := DGet_yes _ _ _ _ (-3 / 2) w (by decide +kernel) half_form
  rwa [half_lit] at this
theorem half_units : signed (decide ((-3 / 2 : Rat).num < 0)) (ref.nearN (-3 / 2 : Rat).num.natAbs (-3 / 2 : Rat).den 2) = -2 := by decide +kernel
theorem half_br : Br (-3 / 2 : Rat) 20 := ⟨by unfold Bz; decide +kernel, by unfold Bn; decide +kernel⟩
theorem neg_seven : str (Lib.itoa (-7)) = ⟨#[45, 55]⟩ := by decide +kernel
theorem half_rtxt : str (rat.rtxt (-3 / 2)) = ⟨#[45, 51, 47, 50]⟩ := by decide +kernel
theorem root_text : str (Lib.decDigits 10000000000) = ⟨#[49, 48, 48, 48, 48, 48, 48, 48, 48, 48, 48]⟩ := by decide +kernel
theorem root_val {r : Nat} (h : nat.RootIs (10 ^ 20) (Int.toNat 2) r) : r = 10000000000 := by
  unfold nat.RootIs at h
  rw [show Int.toNat 2 = 2 from rfl] at h
  obtain ⟨h1, h2⟩ := h
  rcases Nat.lt_trichotomy r 10000000000 with h3 | h3 | h3
  · have := Nat.pow_le_pow_left (show r + 1 ≤ 10000000000 from h3) 2
    rw [show 10000000000 ^ 2 = 10 ^ 20 by decide] at this
    omega
  · exact h3
  · have := Nat.pow_le_pow_left (show 10000000001 ≤ r from h3) 2
    rw [show 10000000001 ^ 2 = 10 ^ 20 + 20000000001 by decide] at this
    omega
set_option maxRecDepth 100000 in
theorem Begun_one (w : World) (h : Hd w) : Calls Tryz.prog 149 #[] w fun e w' => e = .returned (.bool true) ∧ Below w.heap.size w w' := by
  have HB := Lib.hid (flt.begun_any w h)
  clear h
  go_enter Tryz.func149, Tryz.ntmps149
  go_wp2_with (first
    | (go_at_call 193; (with_reducible refine (HB.out).mono ?_); rintro e w1 ⟨rfl, hb⟩)
    | (fail "no arm"))
  go_ret
  exact ⟨rfl, hb⟩
theorem blank_rat (w : World) (t : TypeId) : rat.IsR (w.alloc (.cells #[.bool false, .slice none 0 0, .bool false, .slice none 0 0] t)) (.pointer (some ⟨w.heap.size, 0, none⟩)) 0 := by
  obtain ⟨c0, c1, c2, c3⟩ := rat.row4 (heap_alloc_new w (.cells #[.bool false, .slice none 0 0, .bool false, .slice none 0 0] t))
  have hr : nat.Rd (w.alloc (.cells #[.bool false, .slice none 0 0, .bool false, .slice none 0 0] t)) (.slice none 0 0) (nat.digs 0) := by
    rw [nat.digs_zero]
    exact ⟨none, 0, rfl, ⟨Nat.le_refl _, fun _ => rfl⟩, by decide, Or.inl rfl⟩
  exact Or.inr ⟨_, 0, 0, rfl, rat.IsZ.of_cells c0 c1 hr rfl (fun h => by cases h), rat.IsZ.of_cells c2 c3 hr rfl (fun h => by cases h), Or.inr ⟨rfl, rfl⟩⟩
set_option maxRecDepth 100000 in
set_option maxHeartbeats 4000000 in
theorem begun_all (w : World) (hd : Hd w) :
    Calls Tryz.prog 117 #[] w fun e w' => e = .returned (.bool true) ∧ Below w.heap.size w w' := by
  have HG := Lib.hid hd
  clear hd
  have RD := fun W v (h : rat.IsR W v (-3 / 2)) => dec.Round_ok v (-3 / 2) 2 1 W h (half_br.rat (by decide)) (by decide) (Or.inl rfl)
  rw [half_text, show ((2 : Nat) : Int) = 2 from rfl] at RD
  have RD := Lib.hid RD
  have UN := fun W v (h : rat.IsR W v (-3 / 2)) => dec.Units_in v (-3 / 2) 2 W h (half_br.rat (by decide)) (Or.inr (Or.inl rfl)) (by rw [half_units]; decide) (by rw [half_units]; decide)
  rw [half_units] at UN
  have UN := Lib.hid UN
  have c1 := fun (W : World)    => nat.Of_int 7 7 rfl (by decide) W
  have C1 := Lib.hid c1
  clear c1
  have c2 := fun (W : World) (v0 : Value) (v1 : Value) (hh0 : nat.IsN W v0 (123456789012345678901234567890)) (hh1 : nat.IsN W v1 (7 : Nat))  => nat.Div_ok v0 v1 (123456789012345678901234567890) (7 : Nat) W hh0 hh1 (by decide) ((show Bn 123456789012345678901234567890 30 from by unfold Bn; decide).nat (by decide)) ((Bn_small (by decide)).nat (by decide))
  have C2 := Lib.hid c2
  clear c2
  have c3 := fun (W : World)    => num.Of_any (-7) W (by decide) (by decide)
  have C3 := Lib.hid c3
  clear c3
  have c4 := fun (W : World)    => rat.Of_ok (-6) 4 W (by decide) (by decide) (by decide) (by decide) (by decide)
  rw [show ((((-6) : Int) : Rat) / ((4 : Int) : Rat)) = (-3 / 2 : Rat) from by decide +kernel] at c4
  have C4 := Lib.hid c4
  clear c4
  have c5 := fun (W : World) (v0 : Value) (v1 : Value) (hh0 : nat.IsN W v0 ((123456789012345678901234567890) / (7 : Nat))) (hh1 : nat.IsN W v1 (7 : Nat))  => nat.Mul_any v0 v1 ((123456789012345678901234567890) / (7 : Nat)) (7 : Nat) W hh0 hh1 ((Bn_div (show Bn 123456789012345678901234567890 30 from by unfold Bn; decide)).nat (by decide)) ((Bn_small (by decide)).nat (by decide))
  have C5 := Lib.hid c5
  clear c5
  have c6 := fun (W : World) (v0 : Value) (v1 : Value) (hh0 : nat.IsN W v0 (((123456789012345678901234567890) / (7 : Nat)) * (7 : Nat))) (hh1 : nat.IsN W v1 ((123456789012345678901234567890) % (7 : Nat)))  => nat.Add_any v0 v1 (((123456789012345678901234567890) / (7 : Nat)) * (7 : Nat)) ((123456789012345678901234567890) % (7 : Nat)) W hh0 hh1 ((Bn_mul (Bn_div (show Bn 123456789012345678901234567890 30 from by unfold Bn; decide)) (Bn_small (by decide))).nat (by decide)) ((Bn_mod (show Bn 123456789012345678901234567890 30 from by unfold Bn; decide)).nat (by decide))
  have C6 := Lib.hid c6
  clear c6
  have c7 := fun (W : World) (v0 : Value) (v1 : Value) (hh0 : nat.IsN W v0 ((((123456789012345678901234567890) / (7 : Nat)) * (7 : Nat)) + ((123456789012345678901234567890) % (7 : Nat)))) (hh1 : nat.IsN W v1 (123456789012345678901234567890))  => nat.Cmp_b v0 v1 ((((123456789012345678901234567890) / (7 : Nat)) * (7 : Nat)) + ((123456789012345678901234567890) % (7 : Nat))) (123456789012345678901234567890) W hh0 hh1 ((Bn_add (Bn_mul (Bn_div (show Bn 123456789012345678901234567890 30 from by unfold Bn; decide)) (Bn_small (by decide))) (Bn_mod (show Bn 123456789012345678901234567890 30 from by unfold Bn; decide))).nat (by decide)) ((show Bn 123456789012345678901234567890 30 from by unfold Bn; decide).nat (by decide))
  rw [cmp3_eqN (show ((((123456789012345678901234567890) / (7 : Nat)) * (7 : Nat)) + ((123456789012345678901234567890) % (7 : Nat))) = (123456789012345678901234567890) from (by decide))] at c7
  have C7 := Lib.hid c7
  clear c7
  have c8 := fun (W : World) (v0 : Value) (hh0 : nat.IsN W v0 (123456789012345678901234567890))  => nat.Text_any v0 (123456789012345678901234567890) W hh0 ((show Bn 123456789012345678901234567890 30 from by unfold Bn; decide).nat (by decide))
  rw [big_text] at c8
  have C8 := Lib.hid c8
  clear c8
  have c9 := fun (W : World) (v0 : Value) (hh0 : num.IsZ W v0 (-7 : Int))  => num.Text_any v0 (-7 : Int) W hh0 ((Bz_small (by decide) (by decide)).nat (by decide))
  rw [neg_seven] at c9
  have C9 := Lib.hid c9
  clear c9
  have c10 := fun (W : World) (v0 : Value) (hh0 : rat.IsR W v0 ((0 : Rat)))  => rat.Sign_any v0 ((0 : Rat)) W hh0
  rw [show num.sg (0 : Rat).num = 0 by decide +kernel] at c10
  have C10 := Lib.hid c10
  clear c10
  have c11 := fun (W : World) (v0 : Value) (hh0 : rat.IsR W v0 ((-3 / 2 : Rat)))  => rat.Text_any v0 ((-3 / 2 : Rat)) W hh0 (half_br.rat (by decide))
  rw [half_rtxt] at c11
  have C11 := Lib.hid c11
  clear c11
  have c12 := fun (W : World) (v0 : Value) (v1 : Value) (hh0 : rat.IsR W v0 ((-3 / 2 : Rat))) (hh1 : rat.IsR W v1 ((-3 / 2 : Rat)))  => rat.Cmp_any v0 v1 ((-3 / 2 : Rat)) ((-3 / 2 : Rat)) W hh0 hh1 (half_br.rat (by decide)) (half_br.rat (by decide))
  rw [cmpR_eq (show ((-3 / 2 : Rat)) = ((-3 / 2 : Rat)) from rfl)] at c12
  have C12 := Lib.hid c12
  clear c12
  have c13 := fun (W : World)    => nat.Of_int 10 10 rfl (by decide) W
  have C13 := Lib.hid c13
  clear c13
  have c14 := fun (W : World) (v0 : Value) (hh0 : nat.IsN W v0 (10 : Nat))  => NPow_at v0 10 20 20 rfl (by decide) W hh0 ((Bn_small (x := 10) (by decide)).nat (by decide)) ((show Bn (10 ^ 20) 21 from by unfold Bn; decide).nat (by decide))
  have C14 := Lib.hid c14
  clear c14
  have c15 := fun (W : World) (v0 : Value) (hh0 : nat.IsN W v0 (10 ^ 20))  => nat.Root_high v0 (10 ^ 20) 2 W hh0 ((show Bn (10 ^ 20) 21 from by unfold Bn; decide).nat (by decide)) (by decide) (by decide)
  have C15 := Lib.hid c15
  clear c15
  have c16 := fun (W : World) (v0 : Value) (hh0 : nat.IsN W v0 (10000000000 : Nat))  => nat.Text_any v0 (10000000000 : Nat) W hh0 ((Bn_small (by decide)).nat (by decide))
  rw [root_text] at c16
  have C16 := Lib.hid c16
  clear c16
  go_enter Tryz.func117, Tryz.ntmps117
  go_wp2_with (first
    | (go_at_call 143; (with_reducible refine (big_get _).mono ?_); rintro e W1 ⟨a, rfl, ⟨h_a, n_a⟩, hb⟩
       obtain ⟨p_a, rfl⟩ := h_a.some n_a
       have H_a := Lib.hid h_a
       have N_a := Lib.hid n_a
       have HB1 := Lib.hid hb
       clear h_a n_a hb)
    | (go_at_call 134; (with_reducible refine (C1.out _ ).mono ?_); rintro e W2 ⟨b, rfl, ⟨h_b, n_b⟩, hb⟩
       obtain ⟨p_b, rfl⟩ := nat.IsN.some h_b n_b
       have H_b := Lib.hid h_b
       have N_b := Lib.hid n_b
       have HB2 := Lib.hid hb
       clear h_b n_b hb C1)
    | (go_at_call 144; (with_reducible refine (C2.out _ _ _ (H_a.out.below HB2.out) H_b.out).mono ?_); rintro e W3 ⟨q, r, rfl, ⟨h_q, n_q⟩, ⟨h_r, n_r⟩, hb⟩
       obtain ⟨p_q, rfl⟩ := h_q.some n_q
       obtain ⟨p_r, rfl⟩ := h_r.some n_r
       have H_q := Lib.hid h_q
       have N_q := Lib.hid n_q
       have H_r := Lib.hid h_r
       have N_r := Lib.hid n_r
       have HB3 := Lib.hid hb
       clear h_q n_q h_r n_r hb C2)
    | (go_at_call 103; (with_reducible refine (C3.out _ ).mono ?_); rintro e W4 ⟨x, rfl, ⟨h_x, n_x⟩, hb⟩
       obtain ⟨p_x, rfl⟩ := num.IsZ.some h_x n_x
       have H_x := Lib.hid h_x
       have N_x := Lib.hid n_x
       have HB4 := Lib.hid hb
       have HB5 := Lib.hid (show Below W4.heap.size W4 (W4.alloc (.cells #[.bool false, .slice none 0 0, .bool false, .slice none 0 0] 144)) from (Below.refl _ _).alloc (Nat.le_refl _) _)
       have H_y := Lib.hid (blank_rat W4 144)
       clear h_x n_x hb C3)
    | (go_at_call 145; (with_reducible refine (C4.out _ ).mono ?_); rintro e W6 ⟨z, rfl, ⟨h_z, n_z⟩, hb⟩
       obtain ⟨p_z, rfl⟩ := h_z.some n_z
       have H_z := Lib.hid h_z
       have N_z := Lib.hid n_z
       have HB6 := Lib.hid hb
       clear h_z n_z hb C4)
    | (go_at_call 146; (with_reducible refine (RD.out _ _ H_z.out).mono ?_); rintro e W7 ⟨rfl, hb⟩
       have HB7 := Lib.hid hb
       clear hb)
    | (go_at_call 147; (with_reducible refine (half_get _).mono ?_); rintro e W8 ⟨p, rfl, ⟨h_p, n_p⟩, hb⟩
       obtain ⟨p_p, rfl⟩ := h_p.some n_p
       have H_p := Lib.hid h_p
       have N_p := Lib.hid n_p
       have HB8 := Lib.hid hb
       clear h_p n_p hb)
    | (go_at_call 148; (with_reducible refine (UN.out _ _ ((H_z.out.below HB7.out).below HB8.out)).mono ?_); rintro e W9 ⟨rfl, hb⟩
       have HB9 := Lib.hid hb
       clear hb)
    | (go_at_call 149; (with_reducible refine (Begun_one _ (((((((((HG.out.below HB1.out).below HB2.out).below HB3.out).below HB4.out).below HB5.out).below HB6.out).below HB7.out).below HB8.out).below HB9.out)).mono ?_); rintro e W10 ⟨rfl, hb⟩
       have HB10 := Lib.hid hb
       clear hb)
    | (go_at_call 131; (with_reducible refine (C5.out _ _ _ (((((((H_q.out.below HB4.out).below HB5.out).below HB6.out).below HB7.out).below HB8.out).below HB9.out).below HB10.out) ((((((((H_b.out.below HB3.out).below HB4.out).below HB5.out).below HB6.out).below HB7.out).below HB8.out).below HB9.out).below HB10.out)).mono ?_); rintro e W11 ⟨m1, rfl, ⟨h_m1, n_m1⟩, hb⟩
       have H_m1 := Lib.hid h_m1
       have N_m1 := Lib.hid n_m1
       have HB11 := Lib.hid hb
       clear h_m1 n_m1 hb C5)
    | (go_at_call 141; (with_reducible refine (C6.out _ _ _ H_m1.out ((((((((H_r.out.below HB4.out).below HB5.out).below HB6.out).below HB7.out).below HB8.out).below HB9.out).below HB10.out).below HB11.out)).mono ?_); rintro e W12 ⟨m2, rfl, ⟨h_m2, n_m2⟩, hb⟩
       have H_m2 := Lib.hid h_m2
       have N_m2 := Lib.hid n_m2
       have HB12 := Lib.hid hb
       clear h_m2 n_m2 hb C6)
    | (go_at_call 133; (with_reducible refine (C7.out _ _ _ H_m2.out (((((((((((H_a.out.below HB2.out).below HB3.out).below HB4.out).below HB5.out).below HB6.out).below HB7.out).below HB8.out).below HB9.out).below HB10.out).below HB11.out).below HB12.out)).mono ?_); rintro e W13 ⟨rfl, hb⟩
       have HB13 := Lib.hid hb
       clear hb C7)
    | (go_at_call 135; (with_reducible refine (C8.out _ _ ((((((((((((H_a.out.below HB2.out).below HB3.out).below HB4.out).below HB5.out).below HB6.out).below HB7.out).below HB8.out).below HB9.out).below HB10.out).below HB11.out).below HB12.out).below HB13.out)).mono ?_); rintro e W14 ⟨rfl, hb⟩
       have HB14 := Lib.hid hb
       clear hb C8)
    | (go_at_call 105; (with_reducible refine (C9.out _ _ ((((((((((H_x.out.below HB5.out).below HB6.out).below HB7.out).below HB8.out).below HB9.out).below HB10.out).below HB11.out).below HB12.out).below HB13.out).below HB14.out)).mono ?_); rintro e W15 ⟨rfl, hb⟩
       have HB15 := Lib.hid hb
       clear hb C9)
    | (go_at_call 150; (with_reducible refine (C10.out _ _ ((((((((((H_y.out.below HB6.out).below HB7.out).below HB8.out).below HB9.out).below HB10.out).below HB11.out).below HB12.out).below HB13.out).below HB14.out).below HB15.out)).mono ?_); rintro e W16 ⟨rfl, hb⟩
       have HB16 := Lib.hid hb
       clear hb C10)
    | (go_at_call 62; (with_reducible refine (C11.out _ _ ((((((((((H_z.out.below HB7.out).below HB8.out).below HB9.out).below HB10.out).below HB11.out).below HB12.out).below HB13.out).below HB14.out).below HB15.out).below HB16.out)).mono ?_); rintro e W17 ⟨rfl, hb⟩
       have HB17 := Lib.hid hb
       clear hb C11)
    | (go_at_call 65; (with_reducible refine (C12.out _ _ _ (((((((((H_p.out.below HB9.out).below HB10.out).below HB11.out).below HB12.out).below HB13.out).below HB14.out).below HB15.out).below HB16.out).below HB17.out) (((((((((((H_z.out.below HB7.out).below HB8.out).below HB9.out).below HB10.out).below HB11.out).below HB12.out).below HB13.out).below HB14.out).below HB15.out).below HB16.out).below HB17.out)).mono ?_); rintro e W18 ⟨rfl, hb⟩
       have HB18 := Lib.hid hb
       clear hb C12)
    | (go_at_call 134; (with_reducible refine (C13.out _ ).mono ?_); rintro e W19 ⟨t, rfl, ⟨h_t, n_t⟩, hb⟩
       have H_t := Lib.hid h_t
       have N_t := Lib.hid n_t
       have HB19 := Lib.hid hb
       clear h_t n_t hb C13)
    | (go_at_call 151; (with_reducible refine (C14.out _ _ H_t.out).mono ?_); rintro e W20 ⟨t2, rfl, ⟨h_t2, n_t2⟩, hb⟩
       have H_t2 := Lib.hid h_t2
       have N_t2 := Lib.hid n_t2
       have HB20 := Lib.hid hb
       clear h_t2 n_t2 hb C14)
    | (go_at_call 152; (with_reducible refine (C15.out _ _ H_t2.out).mono ?_); rintro e W21 ⟨t3, rfl, ⟨rr, hrr, h_t3, n_t3⟩, hb⟩
       have H_t3 := Lib.hid (show nat.IsN _ _ 10000000000 from by rw [← root_val hrr]; exact h_t3)
       have HB21 := Lib.hid hb
       clear hb C15)
    | (go_at_call 135; (with_reducible refine (C16.out _ _ H_t3.out).mono ?_); rintro e W22 ⟨rfl, hb⟩
       have HB22 := Lib.hid hb
       clear hb C16)
    | (fail "no arm"))
  skip
  all_goals (go_ret; exact ⟨rfl, (nat.below_tr (nat.below_tr (nat.below_tr (nat.below_tr (nat.below_tr (nat.below_tr (nat.below_tr (nat.below_tr (nat.below_tr (nat.below_tr (nat.below_tr (nat.below_tr (nat.below_tr (nat.below_tr (nat.below_tr (nat.below_tr (nat.below_tr (nat.below_tr (nat.below_tr (nat.below_tr (nat.below_tr HB1.out HB2.out) HB3.out) HB4.out) HB5.out) HB6.out) HB7.out) HB8.out) HB9.out) HB10.out) HB11.out) HB12.out) HB13.out) HB14.out) HB15.out) HB16.out) HB17.out) HB18.out) HB19.out) HB20.out) HB21.out) HB22.out)⟩)
end Go.Proofs.YtlhmfgbaefaneaaGreatDoor.law2
namespace Go.Proofs.YtlhmfgbaefaneaaGreatDoor.law6
open Go Go.RowKit
theorem rol_all : RolC cal.CalIs := roll.rol_c
theorem cnt_all : CntC := count.cnt_c
theorem begun_all : BegunC := begun6_all rol_all cnt_all law2.begun_all
end Go.Proofs.YtlhmfgbaefaneaaGreatDoor.law6
