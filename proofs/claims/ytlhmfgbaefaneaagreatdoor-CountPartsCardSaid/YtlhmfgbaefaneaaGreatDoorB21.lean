/-
  The steps of the walks, part 21: Map.
-/
import Derived.LaidEqlPtr
import Derived.MapKept
import Derived.Below
namespace Go.Proofs.YtlhmfgbaefaneaaGreatDoor.flt
open Go Go.RowKit
def Apart (w : World) (b : Nat) (es : List MapEntry) : Prop := ∀ x ∈ es, ∃ b' ca ta, x.key = .pointer (some ⟨b', 0, none⟩) ∧ b ≠ b' ∧ w.heap[b']? = some (.cells ca ta (0, 0))
theorem run_equal_other {P : Program} {tp te : TypeId} {j : TypeInfo} (hp : P.underlying tp = some (.pointer te)) (hte : P.info? te = some j) (hsz : j.size ≠ 0) {w : World} {b b' : Nat} {ca cb : Array Value} {ta tb : TypeId}
    (hb : w.heap[b]? = some (.cells cb tb (0, 0))) (hb' : w.heap[b']? = some (.cells ca ta (0, 0))) (hne : b ≠ b') :
    (Op.equal tp (.pointer (some ⟨b, 0, none⟩)) (.pointer (some ⟨b', 0, none⟩))).run P w = .ok false w := by
  have h : ∀ d : Nat, (Op.equalIn (d + 1) tp (.pointer (some ⟨b, 0, none⟩)) (.pointer (some ⟨b', 0, none⟩))).run P w = .ok false w := fun d => by
    simp [Op.equalIn, run_underlying hp, sizeOf, typeInfo, hte, hsz, run_sameAddr_other w (a := ⟨b, 0, none⟩) (b := ⟨b', 0, none⟩) (by simpa using hne) hb hb']
  simp only [Op.equal, Op.maxDepth]
  exact h 9999
theorem run_findAsking_apart {P : Program} {tp te : TypeId} {j : TypeInfo} (hp : P.underlying tp = some (.pointer te)) (hte : P.info? te = some j) (hsz : j.size ≠ 0) {w : World} {b : Nat} {cb : Array Value} {tb : TypeId}
    (hb : w.heap[b]? = some (.cells cb tb (0, 0))) : ∀ (es : List MapEntry) (i : Nat), Apart w b es → (Instr.findAsking tp (.pointer (some ⟨b, 0, none⟩)) es i).run P w = .ok none w
  | [], _, _ => by simp [Instr.findAsking]
  | x :: es, i, h => by
    obtain ⟨b', ca, ta, hk, hne, hb'⟩ := h x (by simp)
    have ih := run_findAsking_apart hp hte hsz hb es (i + 1) (fun y hy => h y (by simp [hy]))
    simp [Instr.findAsking, hk, run_equal_other hp hte hsz hb hb' hne, ih, Result.andThen]
theorem run_findKey_apart {P : Program} {tp te : TypeId} {j : TypeInfo} (hp : P.underlying tp = some (.pointer te)) (hte : P.info? te = some j) (hsz : j.size ≠ 0) {w : World} {b : Nat} {cb : Array Value} {tb : TypeId}
    (hb : w.heap[b]? = some (.cells cb tb (0, 0))) (es : List MapEntry) (h : Apart w b es) : (Instr.findKey tp (.pointer (some ⟨b, 0, none⟩)) es).run P w = .ok none w := by
  have hA := run_findAsking_apart hp hte hsz hb es 0 h
  cases es with
  | nil => simp [Instr.findKey, run_underlying hp, Instr.findNow, Result.andThen]
  | cons x es =>
    obtain ⟨b', ca, ta, hk, hne, hb'⟩ := h x (by simp)
    simp [Instr.findKey, run_underlying hp, Instr.findNow, Instr.sameNow, hA, Result.andThen]
theorem run_checkKey_ptr {P : Program} {tp te : TypeId} (hp : P.underlying tp = some (.pointer te)) (e : Bool) (n : Nat) (v : Option Addr) (w : World) : (Instr.checkKey e (n + 1) tp (.pointer v)).run P w = .ok () w := by
  simp [Instr.checkKey, run_underlying hp, Result.andThen]
theorem run_lookup_apart {P : Program} {tm tp te tv : TypeId} {j : TypeInfo} {z : Value} (hm : P.underlying tm = some (.map tp tv)) (hp : P.underlying tp = some (.pointer te)) (hte : P.info? te = some j) (hsz : j.size ≠ 0)
    {w : World} (hz : (zeroValue tv).run P w = .ok z w) {m b clock : Nat} {es : Array MapEntry} {cb : Array Value} {tb : TypeId} (hmb : w.heap[m]? = some (.map es clock)) (hb : w.heap[b]? = some (.cells cb tb (0, 0))) (h : Apart w b es.toList) :
    (Instr.lookup tm (.map (some m)) (.pointer (some ⟨b, 0, none⟩)) true).run P w = .ok (.tuple #[z, .bool false]) w := by
  simp [Instr.lookup, run_underlying hm, MapKept.run_getObj_map hmb, run_checkKey_ptr hp _ 9999, run_findKey_apart hp hte hsz hb _ h, hz, Result.andThen]
def putBlock (w : World) (m : Nat) (o : Obj) : World := { w with heap := w.heap.setIfInBounds m o }
theorem putBlock_other {w : World} {m k : Nat} {o : Obj} (h : k ≠ m) : (putBlock w m o).heap[k]? = w.heap[k]? := by
  simp [putBlock, Array.getElem?_setIfInBounds]; omega
theorem putBlock_same {w : World} {m : Nat} {o o' : Obj} (h : w.heap[m]? = some o') : (putBlock w m o).heap[m]? = some o := by
  have : m < w.heap.size := by
    rcases Nat.lt_or_ge m w.heap.size with h' | h'
    · exact h'
    · simp [Array.getElem?_eq_none h'] at h
  simp [putBlock, this]
theorem putBlock_size {w : World} {m : Nat} {o : Obj} : (putBlock w m o).heap.size = w.heap.size := by simp [putBlock]
theorem run_mapUpdate_apart {P : Program} {tm tp te tv : TypeId} {j : TypeInfo} (hm : P.underlying tm = some (.map tp tv)) (hp : P.underlying tp = some (.pointer te)) (hte : P.info? te = some j) (hsz : j.size ≠ 0)
    {w : World} {m b clock : Nat} {es : Array MapEntry} {cb : Array Value} {tb : TypeId} (v : Value) (hmb : w.heap[m]? = some (.map es clock)) (hb : w.heap[b]? = some (.cells cb tb (0, 0))) (h : Apart w b es.toList) :
    (Instr.mapUpdate tm (.map (some m)) (.pointer (some ⟨b, 0, none⟩)) v).run P w = .ok () (putBlock w m (.map (es.push { key := .pointer (some ⟨b, 0, none⟩), val := v, born := clock }) (clock + 1))) := by
  simp [Instr.mapUpdate, run_underlying hm, MapKept.run_getObj_map hmb, run_checkKey_ptr hp _ 9999, run_findKey_apart hp hte hsz hb _ h, MapKept.run_setObj_map _ hmb, Result.andThen, putBlock]
end Go.Proofs.YtlhmfgbaefaneaaGreatDoor.flt
