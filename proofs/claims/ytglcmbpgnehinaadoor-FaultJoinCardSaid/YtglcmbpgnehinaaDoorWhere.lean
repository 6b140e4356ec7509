/-
  fault.Where over a chain of Faults: the places that are not empty, from the outermost inward, in new memory. Conditions: the chain lies in memory, each Fault laid behind the one that it wraps; at most 100,000 links; errors.errorType holds its handle.
-/
import Derived.Test.YtglcmbpgnehinaaDoorCode
import Derived.Test.YtglcmbpgnehinaaDoorMap
import Derived.Deep.LoopGhost
import Derived.OwnWalk
namespace Go.Proofs.YtglcmbpgnehinaaDoor.flt
open Go.RowKit Go.Extern.Stop Go.Stop Go.Extern

/-- The *Fault that first answers for a chain (for a plain code: a new one). -/
inductive Fst : Value → Value → Prop
  | none : Fst .nilIface (.pointer none)
  | other (a : Addr) : Fst (.iface 47 (.pointer (some a))) (.pointer none)
  | plain (c : Int) (b : Nat) : Fst (.iface 64 (.int .i64 c)) (.pointer (some ⟨b, 0, none⟩))
  | link (b : Nat) : Fst (.iface 40 (.pointer (some ⟨b, 0, none⟩))) (.pointer (some ⟨b, 0, none⟩))

theorem first_chain (v : Value) (B : Nat) (l : List (Nat × Int × ByteArray)) (w : World) (hg : Handle w) (h : Chain w v B l) :
    Calls Tryd.prog 24 #[v] w fun ev w' => ∃ f, ev = .returned f ∧ Fst v f ∧ Below w.heap.size w w' := by
  cases h with
  | none => exact (first_nil w).mono fun _ _ ⟨he, hb⟩ => ⟨_, he, .none, hb⟩
  | other a _ _ => exact (first_other _ w hg).mono fun _ _ ⟨he, hb⟩ => ⟨_, he, .other a, hb⟩
  | plain c => exact (first_plain c w hg).mono fun _ _ ⟨b, he, _, hb, _⟩ => ⟨_, he, .plain c b, hb⟩
  | link b c s e _ l _ _ _ => exact (first_fault ⟨b, 0, none⟩ w hg).mono fun _ _ ⟨he, hb⟩ => ⟨_, he, .link b, hb⟩

/-- How far the loop still has to go: by the block of the error at hand. -/
def errM : Value → Nat
  | .iface _ (.pointer (some a)) => a.block + 2
  | .iface _ _ => 1
  | _ => 0

def ats (l : List (Nat × Int × ByteArray)) : List ByteArray := (l.map fun x => x.2.2).filter fun s => !s.toList.isEmpty

theorem Chain.errM_lt {w : World} {v : Value} {B : Nat} {l : List (Nat × Int × ByteArray)} (h : Chain w v B l) : errM v < B + 2 := by
  cases h <;> simp [errM] <;> omega

def Met (w : World) (e : Value) (wr : World) : Prop := ∃ es clock, wr.heap[w.heap.size]? = some (.map es clock) ∧ ∀ x ∈ es.toList, ∃ b' c s e', x.key = .pointer (some ⟨b', 0, none⟩) ∧ errM e < b' + 2 ∧ FaultAt w b' c s e'

def WRel (w : World) (L : List (Nat × Int × ByteArray)) (e sv f : Value) (wr : World) : Prop :=
  ∃ (done todo : List (Nat × Int × ByteArray)) (B : Nat), L = done ++ todo ∧ Chain w e B todo ∧ B ≤ w.heap.size ∧ Fst e f ∧ Met w e wr ∧ wr.ownsRow w.heap.size 9 1 sv (ats done).length ((ats done).map Value.string) ∧ Below w.heap.size w wr

theorem infoString : (Tryd.prog.info? 9).map (fun i => (i.zero, i.size, i.bytes)) = some (some (.string .empty), 1, 16) := by kernel_rfl
theorem zeroUnit (w : World) : (zeroValue 58).run Tryd.prog w = .ok (.agg #[]) w := by kernel_rfl

theorem own_ne {w : World} {base size n M clock : Nat} {e : TypeId} {v : Value} {xs : List Value} {es : Array MapEntry} (h : w.ownsRow base e size v n xs) (hm : w.heap[M]? = some (.map es clock)) : v.ownBlock = none ∨ v.ownBlock ≠ some M := by
  rcases h.2 with ⟨rfl, _⟩ | ⟨g, cap, cur, rfl, _, hg, _⟩
  · exact Or.inl rfl
  · refine Or.inr fun hh => ?_
    simp [Value.ownBlock] at hh
    subst hh
    rw [hm] at hg
    cases hg

theorem own_below {w w' : World} {base size n : Nat} {e : TypeId} {v : Value} {xs : List Value} (h : w.ownsRow base e size v n xs) (hb : Below w.heap.size w w') : w'.ownsRow base e size v n xs :=
  h.kept (row := none) ⟨hb.os, hb.tape, hb.output, hb.size, fun k hk _ => hb.block k hk⟩ (by cases v.ownBlock <;> simp)

theorem lt_of_heap {w : World} {k : Nat} {o : Obj} (h : w.heap[k]? = some o) : k < w.heap.size := by
  rcases Nat.lt_or_ge k w.heap.size with h' | h'
  · exact h'
  · simp [Array.getElem?_eq_none h'] at h

theorem map_step {w : World} {M b clock : Nat} {es : Array MapEntry} {c : Int} {s : ByteArray} {e : Value} (hm : w.heap[M]? = some (.map es clock)) (hF : FaultAt w b c s e) (hap : Apart w b es.toList) :
    ∃ W2, (Instr.mapUpdate 57 (.map (some M)) (.pointer (some ⟨b, 0, none⟩)) (.agg #[])).run Tryd.prog (w.alloc (.cells #[] 58)) = .ok () W2 ∧
      W2.heap[M]? = some (.map (es.push { key := .pointer (some ⟨b, 0, none⟩), val := .agg #[], born := clock }) (clock + 1)) ∧ w.grownBy W2 (some M) := by
  obtain ⟨j, hj, hjs⟩ := Option.map_eq_some_iff.1 sizeF
  have a1 : (w.alloc (.cells #[] 58)).heap[M]? = some (.map es clock) := (Below.heap_alloc _ _ _ (lt_of_heap hm)).trans hm
  have a2 : (w.alloc (.cells #[] 58)).heap[b]? = some (.cells #[.int .i64 c, .string s, e] 51 (0, 0)) := (Below.heap_alloc _ _ _ hF.lt).trans hF
  have a3 : Apart (w.alloc (.cells #[] 58)) b es.toList := fun x hx => by
    obtain ⟨b', ca, ta, hk, hne, hb'⟩ := hap x hx
    exact ⟨b', ca, ta, hk, hne, (Below.heap_alloc _ _ _ (lt_of_heap hb')).trans hb'⟩
  refine ⟨_, run_mapUpdate_apart Tryd.underlying57 Tryd.underlying40 hj (by rw [hjs]; decide) (.agg #[]) a1 a2 a3, putBlock_same a1, ⟨rfl, rfl, rfl, by rw [putBlock_size]; simp, fun k hk hne => ?_⟩⟩
  rw [putBlock_other (fun e => hne (by rw [e])), Below.heap_alloc _ _ _ hk]

theorem met_step {w W : World} {b clock clock' : Nat} {es : Array MapEntry} {c : Int} {s : ByteArray} {e : Value} {l : List (Nat × Int × ByteArray)} (hm : W.heap[w.heap.size]? = some (.map (es.push { key := .pointer (some ⟨b, 0, none⟩), val := .agg #[], born := clock }) clock'))
    (hes : ∀ x ∈ es.toList, ∃ b' c s e', x.key = .pointer (some ⟨b', 0, none⟩) ∧ errM (.iface 40 (.pointer (some ⟨b, 0, none⟩))) < b' + 2 ∧ FaultAt w b' c s e') (hfl : FaultAt w b c s e) (hc : Chain w e b l) : Met w e W := by
  have h1 := hc.errM_lt
  refine ⟨_, _, hm, fun x hx => ?_⟩
  simp at hx
  rcases hx with hx | rfl
  · obtain ⟨b', c', s', e', hk, hlt, hf⟩ := hes x (by simpa using hx)
    exact ⟨b', c', s', e', hk, by simp [errM] at hlt; omega, hf⟩
  · exact ⟨b, c, s, e, rfl, h1, hfl⟩

theorem Chain.form {w : World} {v : Value} {B : Nat} {l : List (Nat × Int × ByteArray)} (h : Chain w v B l) : v = .nilIface ∨ ∃ u x, v = .iface u x := by
  cases h
  · exact Or.inl rfl
  all_goals exact Or.inr ⟨_, _, rfl⟩

theorem ats_len (l : List (Nat × Int × ByteArray)) : (ats l).length ≤ l.length := by
  unfold ats
  exact Nat.le_trans (List.length_filter_le _ _) (by simp)
theorem ats_empty (done : List (Nat × Int × ByteArray)) (b : Nat) (c : Int) (s : ByteArray) (h : (!s.toList.isEmpty) = false) : ats (done ++ [(b, c, s)]) = ats done := by
  unfold ats
  rw [List.map_append, List.filter_append]
  simp [List.filter, h]
theorem ats_some (done : List (Nat × Int × ByteArray)) (b : Nat) (c : Int) (s : ByteArray) (h : (!s.toList.isEmpty) = true) : ats (done ++ [(b, c, s)]) = ats done ++ [s] := by
  unfold ats
  rw [List.map_append, List.filter_append]
  simp [List.filter, h]

/-- What Where leaves. -/
def Places (w : World) (xs : List ByteArray) (e : Ending) (w' : World) : Prop := ∃ sv, e = .returned sv ∧ w'.ownsRow w.heap.size 9 1 sv xs.length (xs.map Value.string) ∧ Below w.heap.size w w'

set_option maxRecDepth 100000 in
set_option maxHeartbeats 4000000 in
theorem Where_chain (v : Value) (B : Nat) (L : List (Nat × Int × ByteArray)) (w : World) (hg : Handle w) (h : Chain w v B L) (hB : B ≤ w.heap.size) (hL : L.length ≤ 100000) :
    Calls Tryd.prog 17 #[v] w (Places w (ats L)) := by
  have hmm := @run_makeMap Tryd.prog
  have bM : Below w.heap.size w (w.alloc (.map #[] 0)) := (Below.refl _ _).alloc (Nat.le_refl _) _
  have HF := Lib.hid (first_chain v B L (w.alloc (.map #[] 0)) (hg.below bM hg.pos) (h.keep bM hB))
  have HC := Lib.hid h
  have HG := Lib.hid hg
  have HM := Lib.hid bM
  clear h hg bM
  go_enter Tryd.func17, Tryd.ntmps17
  go_wp2_with (go_at_call 24; refine (HF.out).mono ?_; rintro e' w' ⟨f, rfl, hf, hb⟩; have H1 := Lib.hid hf; have H2 := Lib.hid hb; clear hf hb)
  go_loopw [0, 3, 5] (fun e sv f wr => WRel w L e sv f wr) (fun e _ _ _ => errM e)
  case atStart =>
    refine ⟨[], L, B, rfl, HC.out, hB, H1.out, ⟨#[], 0, ?_, by simp⟩, World.ownsRow_nil _ _ _ _, HM.out.trans (H2.out.mono (by simp))⟩
    rw [H2.out.block w.heap.size (by simp)]
    show (w.heap.push _)[w.heap.size]? = _
    simp
  case round =>
    obtain ⟨done, todo, B', hLd, hch, hB', hfst, hmet, hown, hbel⟩ := hrel
    cases hch with
    | none =>
      cases hfst
      go_wp2
      go_ret
      exact ⟨_, rfl, by rw [hLd, List.append_nil]; exact hown, hbel⟩
    | other a _ ha =>
      cases hfst
      go_wp2
      go_ret
      exact ⟨_, rfl, by rw [hLd, List.append_nil]; exact hown, hbel⟩
    | plain c =>
      cases hfst with
      | plain _ b =>
      have hty := run_eql_iface_types (P := Tryd.prog) 64 40 (.int .i64 c) (.pointer (some ⟨b, 0, none⟩)) Tryd.underlying27 (by decide) wr
      have HN := Lib.hid (next_any _ .nilIface wr (.plain (.int .i64 c)) (Or.inl rfl))
      have HL := Lib.hid hLd
      clear hLd
      go_wp2_with (first | (go_at_call 25; refine (HN.out).mono ?_; rintro e' w1 ⟨rfl, hb1⟩; have HB1 := Lib.hid hb1; clear hb1) | (go_at_call 24; refine (first_nil _).mono ?_; rintro e' w2 ⟨rfl, hb2⟩; have HB2 := Lib.hid hb2; clear hb2))
      go_roundw
      case rel =>
        have b12 : Below wr.heap.size wr w2 := HB1.out.trans (HB2.out.mono HB1.out.size)
        obtain ⟨es, clock, hm, hes⟩ := hmet
        refine ⟨done, [], 0, HL.out, .none 0, Nat.zero_le _, .none, ⟨es, clock, (b12.block _ (lt_of_heap hm)).trans hm, fun x hx => ?_⟩, own_below hown b12, hbel.trans (b12.mono hbel.size)⟩
        obtain ⟨b', c', s', e', hk, hlt, hf⟩ := hes x hx
        exact ⟨b', c', s', e', hk, by simp [errM], hf⟩
      case measure => simp [errM]
    | link b c s e _ l hfl hlt hc =>
      cases hfst
      have F : FaultAt wr b c s e := hfl.below hbel (by omega)
      obtain ⟨i, hi, hcmp⟩ := Option.map_eq_some_iff.1 compP
      obtain ⟨j, hj, hjs⟩ := Option.map_eq_some_iff.1 sizeF
      have heq := run_eql_iface_ptr_same (P := Tryd.prog) wr ⟨b, 0, none⟩ Tryd.underlying27 Tryd.underlying40 hi hcmp hj
      obtain ⟨es, clock, hm, hes⟩ := hmet
      have hap : Apart wr b es.toList := fun x hx => by
        obtain ⟨b', c', s', e', hk, hlt', hf'⟩ := hes x hx
        exact ⟨b', _, _, hk, by simp [errM] at hlt'; omega, hf'.below hbel hf'.lt⟩
      have hlk := run_lookup_apart Tryd.underlying57 Tryd.underlying40 hj (by rw [hjs]; decide) (zeroUnit wr) hm F hap
      obtain ⟨W2, hmu, hm2, hg2⟩ := map_step hm F hap
      have F2 : FaultAt W2 b c s e := (hg2.block b F.lt (fun h => by simp at h; rw [← h, F] at hm; cases hm)).trans F
      have c1 := F2.cell1
      have hM := lt_of_heap hm
      have hbel2 : Below w.heap.size w W2 := hbel.trans ⟨hg2.os, hg2.tape, hg2.output, hg2.size, fun k hk => hg2.block k (by omega) (fun h => by simp at h; omega)⟩
      have hown2 := hown.kept hg2 (own_ne hown hm)
      have HE := Lib.hid hc.form
      have HCC := Lib.hid hc
      have HES := Lib.hid hes
      have HM2 := Lib.hid hm2
      have HB2 := Lib.hid hbel2
      have HF2 := Lib.hid F2
      have HO2 := Lib.hid hown2
      have HL := Lib.hid hLd
      have HFL := Lib.hid hfl
      clear hap hes hm hm2 hbel2 F2 hown2 hLd hfl F hg2 hbel hown hi hcmp hj hjs
      by_cases hs : (!s.toList.isEmpty) = true
      · obtain ⟨i0, hi0, hz0, hz1, hz2⟩ := info_parts infoString
        have HS := Lib.hid hs
        have hlen : (ats done).length ≤ 100000 := by
          have := ats_len done
          have h1 := HL.out
          rw [h1] at hL
          simp at hL
          omega
        go_wp2_with (at_builtin; refine wpList_append_own _ rfl _ _ 33 rfl w.heap.size 9 i0 (.string .empty) 1 16 Tryd.underlying33 hi0 hz0 hz1 hz2 rfl (by decide) _ _ _ rfl (HO2.out.alloc _) ⟨W2.heap.size, 0, none⟩ 1 1 [.string s] rfl rfl ?c1 ?c2 ?c3 ?c4 ?c5 ?_)
        case c1 =>
          intro j u hj
          match j, hj with
          | 0, hj => simp at hj; subst hj; simp [Addr.add]
        case c2 => intro u hu; simp at hu; subst hu; rfl
        case c3 => unfold maxLen; omega
        case c4 => omega
        case c5 => have := HB2.out.size; simp; omega
        intro v' w3 hown3 hg3 _
        have hB3 : Below w.heap.size w w3 := (HB2.out.alloc HB2.out.size _).grown hg3 (by have := HB2.out.size; simp; omega) (fun k hk => (HO2.out.lt k hk).1)
        have hM3 : w3.heap[w.heap.size]? = _ := (hg3.block w.heap.size (by have := lt_of_heap HM2.out; simp; omega) (by rcases own_ne HO2.out HM2.out with h | h; · rw [h]; simp
                                                                                                                        · exact fun e => h e.symm)).trans ((Below.heap_alloc _ _ _ (lt_of_heap HM2.out)).trans HM2.out)
        have F3 : FaultAt w3 b c s e := HFL.out.below hB3 HFL.out.lt
        have HN := Lib.hid (next_any _ e w3 (.link b e F3.cell2) HE.out)
        have H3 := Lib.hid hB3
        have HM3 := Lib.hid hM3
        have HO3 := Lib.hid hown3
        clear hB3 hM3 hown3 hg3 F3
        go_wp2_with (go_at_call 25; refine (HN.out).mono ?_; rintro e' w4 ⟨rfl, hb4⟩; have HB4 := Lib.hid hb4; clear hb4)
        have HH := Lib.hid (first_chain e b l w4 (HG.out.below (H3.out.trans (HB4.out.mono H3.out.size)) HG.out.pos) (HCC.out.keep (H3.out.trans (HB4.out.mono H3.out.size)) (by omega)))
        go_wp2_with (go_at_call 24; refine (HH.out).mono ?_; rintro e' w5 ⟨f', rfl, hf5, hb5⟩; have HB5 := Lib.hid hb5; have HF5 := Lib.hid hf5; clear hb5 hf5)
        go_roundw
        case rel =>
          have b35 : Below w3.heap.size w3 w5 := HB4.out.trans (HB5.out.mono HB4.out.size)
          refine ⟨done ++ [(b, c, s)], l, b, by rw [HL.out]; simp, HCC.out, by omega, HF5.out, met_step ((b35.block _ (lt_of_heap HM3.out)).trans HM3.out) HES.out HFL.out HCC.out, ?_, H3.out.trans (b35.mono H3.out.size)⟩
          rw [ats_some _ _ _ _ HS.out]
          simpa using own_below HO3.out b35
        case measure =>
          have := HCC.out.errM_lt
          simpa [errM] using this
      · have hs' : (!s.toList.isEmpty) = false := by simpa using hs
        have HS := Lib.hid hs'
        clear hs
        have HN := Lib.hid (next_any _ e W2 (.link b e HF2.out.cell2) HE.out)
        go_wp2_with (go_at_call 25; refine (HN.out).mono ?_; rintro e' w4 ⟨rfl, hb4⟩; have HB4 := Lib.hid hb4; clear hb4)
        have HH := Lib.hid (first_chain e b l w4 (HG.out.below (HB2.out.trans (HB4.out.mono HB2.out.size)) HG.out.pos) (HCC.out.keep (HB2.out.trans (HB4.out.mono HB2.out.size)) (by omega)))
        go_wp2_with (go_at_call 24; refine (HH.out).mono ?_; rintro e' w5 ⟨f', rfl, hf5, hb5⟩; have HB5 := Lib.hid hb5; have HF5 := Lib.hid hf5; clear hb5 hf5)
        go_roundw
        case rel =>
          have b35 : Below W2.heap.size W2 w5 := HB4.out.trans (HB5.out.mono HB4.out.size)
          refine ⟨done ++ [(b, c, s)], l, b, by rw [HL.out]; simp, HCC.out, by omega, HF5.out, met_step ((b35.block _ (lt_of_heap HM2.out)).trans HM2.out) HES.out HFL.out HCC.out, ?_, HB2.out.trans (b35.mono HB2.out.size)⟩
          rw [ats_empty _ _ _ _ HS.out]
          exact own_below HO2.out b35
        case measure =>
          have := HCC.out.errM_lt
          simpa [errM] using this
end Go.Proofs.YtglcmbpgnehinaaDoor.flt
