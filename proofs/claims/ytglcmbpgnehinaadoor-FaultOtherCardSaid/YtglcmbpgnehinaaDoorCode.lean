/-
  fault.Code and fault.Wrap: the code that they answer for nil, a *Fault, a plain code, another's error and what errors.Join made of two. Conditions: errors.errorType holds its handle; what is asked lies in memory.
-/
import Derived.Test.YtglcmbpgnehinaaDoorNext
namespace Go.Proofs.YtglcmbpgnehinaaDoor.flt
open Go.RowKit Go.Extern.Stop Go.Stop Go.Extern

theorem Code_nil (w : World) : Calls Tryd.prog 16 #[.nilIface] w fun ev w' => ev = .returned (.int .i64 0) ∧ Below w.heap.size w w' := by
  go_enter Tryd.func16, Tryd.ntmps16
  go_wp2
  go_ret
  exact ⟨rfl, Below.refl _ _⟩

theorem Code_hit (u : TypeId) (x : Value) (c : Int) (w : World)
    (hF : Calls Tryd.prog 24 #[.iface u x] w fun ev w' => ∃ b, ev = .returned (.pointer (some ⟨b, 0, none⟩)) ∧ Below w.heap.size w w' ∧ w'.cell? ⟨b, 0, none⟩ = some (.int .i64 c)) :
    Calls Tryd.prog 16 #[.iface u x] w fun ev w' => ev = .returned (.int .i64 c) ∧ Below w.heap.size w w' := by
  have HF := Lib.hid hF
  clear hF
  go_enter Tryd.func16, Tryd.ntmps16
  go_wp2_with (go_at_call 24; refine (HF.out).mono ?_; rintro e' w' ⟨b, rfl, hb, hc⟩)
  go_ret
  exact ⟨rfl, hb⟩

theorem Code_miss (u : TypeId) (x : Value) (w : World)
    (hF : Calls Tryd.prog 24 #[.iface u x] w fun ev w' => ev = .returned (.pointer none) ∧ Below w.heap.size w w') :
    Calls Tryd.prog 16 #[.iface u x] w fun ev w' => ev = .returned (.int .i64 1) ∧ Below w.heap.size w w' := by
  have HF := Lib.hid hF
  clear hF
  go_enter Tryd.func16, Tryd.ntmps16
  go_wp2_with (go_at_call 24; refine (HF.out).mono ?_; rintro e' w' ⟨rfl, hb⟩)
  go_ret
  exact ⟨rfl, hb⟩

theorem Code_fault (b : Nat) (c : Int) (w : World) (hg : Handle w) (hc : w.cell? ⟨b, 0, none⟩ = some (.int .i64 c)) :
    Calls Tryd.prog 16 #[.iface 40 (.pointer (some ⟨b, 0, none⟩))] w fun ev w' => ev = .returned (.int .i64 c) ∧ Below w.heap.size w w' :=
  Code_hit _ _ c w ((first_fault ⟨b, 0, none⟩ w hg).mono fun _ _ ⟨he, hb⟩ => ⟨b, he, hb, (hb.cell (cell_lt hc)).trans hc⟩)
theorem Code_plain (c : Int) (w : World) (hg : Handle w) :
    Calls Tryd.prog 16 #[.iface 64 (.int .i64 c)] w fun ev w' => ev = .returned (.int .i64 c) ∧ Below w.heap.size w w' :=
  Code_hit _ _ c w ((first_plain c w hg).mono fun _ _ ⟨b, he, _, hb, hk⟩ => ⟨b, he, hb, by simp [World.cell?, hk]⟩)
theorem Code_other (x : Value) (w : World) (hg : Handle w) :
    Calls Tryd.prog 16 #[.iface 47 x] w fun ev w' => ev = .returned (.int .i64 1) ∧ Below w.heap.size w w' :=
  Code_miss _ _ w (first_other x w hg)
theorem Code_join1 (j g n cap b : Nat) (c : Int) (w : World) (hg : Handle w) (hj : w.cell? ⟨j, 0, none⟩ = some (.slice (some ⟨g, 0, none⟩) n cap)) (hn : 0 < n) (h0 : w.cell? ⟨g, 0, none⟩ = some (.iface 40 (.pointer (some ⟨b, 0, none⟩)))) (hc : w.cell? ⟨b, 0, none⟩ = some (.int .i64 c)) :
    Calls Tryd.prog 16 #[.iface 53 (.pointer (some ⟨j, 0, none⟩))] w fun ev w' => ev = .returned (.int .i64 c) ∧ Below w.heap.size w w' :=
  Code_hit _ _ c w ((first_join1 j g n cap ⟨b, 0, none⟩ w hg hj hn h0).mono fun _ _ ⟨he, hb⟩ => ⟨b, he, hb, (hb.cell (cell_lt hc)).trans hc⟩)
theorem Code_join2 (j g n cap b : Nat) (x : Value) (c : Int) (w : World) (hg : Handle w) (hj : w.cell? ⟨j, 0, none⟩ = some (.slice (some ⟨g, 0, none⟩) n cap)) (hn : 1 < n) (h0 : w.cell? ⟨g, 0, none⟩ = some (.iface 47 x)) (h1 : w.cell? ⟨g, 1, none⟩ = some (.iface 40 (.pointer (some ⟨b, 0, none⟩)))) (hc : w.cell? ⟨b, 0, none⟩ = some (.int .i64 c)) :
    Calls Tryd.prog 16 #[.iface 53 (.pointer (some ⟨j, 0, none⟩))] w fun ev w' => ev = .returned (.int .i64 c) ∧ Below w.heap.size w w' :=
  Code_hit _ _ c w ((first_join2 j g n cap x ⟨b, 0, none⟩ w hg hj hn h0 h1).mono fun _ _ ⟨he, hb⟩ => ⟨b, he, hb, (hb.cell (cell_lt hc)).trans hc⟩)

theorem Wrap_nil (s : ByteArray) (w : World) : Calls Tryd.prog 13 #[.string s, .nilIface] w fun ev w' => ev = .returned .nilIface ∧ w = w' := by
  go_enter Tryd.func13, Tryd.ntmps13
  go_wp2
  go_ret
  exact ⟨rfl, rfl⟩

/-- What Wrap leaves: a new Fault in a block of its own, around v. -/
def Wrapped (w : World) (c : Int) (s : ByteArray) (v : Value) (e : Ending) (w' : World) : Prop :=
  ∃ b, e = .returned (.iface 40 (.pointer (some ⟨b, 0, none⟩))) ∧ w.heap.size ≤ b ∧ FaultAt w' b c s v ∧ Below w.heap.size w w'

theorem Wrap_of (s : ByteArray) (u : TypeId) (x : Value) (c : Int) (w : World)
    (hC : Calls Tryd.prog 16 #[.iface u x] w fun ev w' => ev = .returned (.int .i64 c) ∧ Below w.heap.size w w') :
    Calls Tryd.prog 13 #[.string s, .iface u x] w (Wrapped w c s (.iface u x)) := by
  have HC := Lib.hid hC
  clear hC
  go_enter Tryd.func13, Tryd.ntmps13
  go_wp2_with (go_at_call 16; refine (HC.out).mono ?_; rintro e' w' ⟨rfl, hb⟩)
  go_ret
  refine ⟨_, rfl, hb.size, ?_, hb.alloc hb.size _⟩
  show (w'.heap.push _)[w'.heap.size]? = _
  simp
end Go.Proofs.YtglcmbpgnehinaaDoor.flt
