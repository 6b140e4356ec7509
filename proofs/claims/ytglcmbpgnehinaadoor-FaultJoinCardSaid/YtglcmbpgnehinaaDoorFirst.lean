/-
  fault.first(v): the *Fault that errors.As finds in v, or nil; nothing that was there before the call has turned. Conditions: what errors.As answers is given as a hypothesis; here for each kind of error that package fault makes or wraps.
-/
import Derived.Test.YtglcmbpgnehinaaDoorAsTop
import Derived.Recover
namespace Go.Proofs.YtglcmbpgnehinaaDoor.flt
open Go.RowKit Go.Extern.Stop Go.Stop Go.Extern

theorem firstD_idle (p : Addr) (w : World) :
    CallsD Tryd.prog 31 #[.pointer (some p)] .returning w fun e u' w' => e = .returned (.tuple #[]) ∧ u' = .returning ∧ w = w' := by
  refine callsD_of_wpS Tryd.func31 rfl fun c₀ cs hu => ?_
  apply wpS_seq
  apply wpS_region
  simp [wpOpsS, go_sem, recoverD, hu, Tryd.ntmps31, Exit.thenS]
  refine wpS_cond (t := false) (by simp [Act.eval, Array.replicate]) ?_
  simp only [Bool.false_eq_true, if_false]
  refine wpS_of_wp (wp_skip ?_)
  cases c₀
  simp_all [bodyPostS, results, Tryd.results31]

/-- The world in which first asks errors.As: the variable f is laid. -/
def fWorld (w : World) : World := w.alloc (.cells #[.pointer none] 40)
theorem fWorld_below (w : World) : Below w.heap.size w (fWorld w) := (Below.refl _ _).alloc (Nat.le_refl _) _
theorem fWorld_cell (w : World) : (fWorld w).cell? ⟨w.heap.size, 0, none⟩ = some (.pointer none) := by unfold fWorld; rw [World.cell?_alloc_at _ _ _ _ rfl]; rfl
theorem fWorld_frozen (w : World) : (fWorld w).frozen? ⟨w.heap.size, 0, none⟩ = false := by simp [fWorld]

theorem setCell_cell {w : World} {a : Addr} {u : Value} (v : Value) (h : w.cell? a = some u) : (w.setCell a v).cell? a = some v := World.cell?_setCell_same' _ _ _ (by rw [h]; rfl)
theorem SetAt.cell {t : Addr} {v old : Value} {w w' : World} (h : SetAt t v w w') (ht : w.cell? t = some old) : w'.cell? t = some v := by
  obtain ⟨w1, hb, rfl⟩ := h
  have h1 : w1.cell? t = some old := (hb.cell (cell_lt ht)).trans ht
  exact setCell_cell v h1
theorem SetAt.frozen {t : Addr} {v old : Value} {w w' : World} (h : SetAt t v w w') (ht : w.cell? t = some old) (hf : w.frozen? t = false) : w'.frozen? t = false := by
  obtain ⟨w1, hb, rfl⟩ := h
  rw [World.frozen?_setCell]
  exact (hb.frozen (cell_lt ht)).trans hf
theorem SetAt.below {t : Addr} {v : Value} {w w' : World} {B : Nat} (h : SetAt t v w w') (hB : B ≤ w.heap.size) (ht : B ≤ t.block) : Below B w w' := by
  obtain ⟨w1, hb, rfl⟩ := h
  exact (hb.mono hB).setCell ht _

set_option maxRecDepth 100000 in
theorem first_hit (v : Value) (e : Addr) (w : World)
    (hA : Calls Tryd.prog 32 #[v, .iface 75 (.pointer (some ⟨w.heap.size, 0, none⟩))] (fWorld w) fun ev w' => ev = .returned (.bool true) ∧ SetAt ⟨w.heap.size, 0, none⟩ (.pointer (some e)) (fWorld w) w') :
    Calls Tryd.prog 24 #[v] w fun ev w' => ev = .returned (.pointer (some e)) ∧ Below w.heap.size w w' := by
  have hmf : ∀ (fn : Fn) (first cap : Array Value) (w : World), (Instr.makeFunc fn first cap).run Tryd.prog w = .ok (.func fn first cap) w := fun _ _ _ _ => rfl
  have HA := Lib.hid hA
  clear hA
  have F0 := Lib.hid (fWorld_cell w)
  have F1 := Lib.hid (fWorld_frozen w)
  have F2 := Lib.hid (fWorld_below w)
  unfold fWorld at HA F0 F1 F2
  go_enter_defers Tryd.func24, Tryd.ntmps24
  go_wp2_with (go_at_call 32; refine (HA.out).mono ?_; rintro e' w' ⟨rfl, hs⟩; have c0 := hs.cell F0.out; have z0 := hs.frozen F0.out F1.out; have HS := Lib.hid hs; clear hs)
  refine leaves_cons (f := 31) (args := #[.pointer (some ⟨w.heap.size, 0, none⟩)]) (by simp) (by simp [go_sem]) ?_
  refine (firstD_idle ⟨w.heap.size, 0, none⟩ _).mono ?_
  rintro e' u' w'' ⟨rfl, rfl, rfl⟩
  have c1 := setCell_cell (.pointer (some e)) c0
  have B1 : Below w.heap.size w (w'.setCell ⟨w.heap.size, 0, none⟩ (.pointer (some e))) := (F2.out.trans (SetAt.below HS.out (by simp) (Nat.le_refl _))).setCell (Nat.le_refl _) _
  simp [Leaves, settle, results, Tryd.results24, go_sem, c1, B1]

set_option maxRecDepth 100000 in
theorem first_newly (v : Value) (c : Int) (w : World)
    (hA : Calls Tryd.prog 32 #[v, .iface 75 (.pointer (some ⟨w.heap.size, 0, none⟩))] (fWorld w) fun ev w' => ev = .returned (.bool true) ∧ ∃ b, (fWorld w).heap.size ≤ b ∧ SetAt ⟨w.heap.size, 0, none⟩ (.pointer (some ⟨b, 0, none⟩)) (fWorld w) w' ∧ w'.heap[b]? = some (.cells #[.int .i64 c, .string ⟨#[]⟩, .nilIface] 51 (0, 0))) :
    Calls Tryd.prog 24 #[v] w fun ev w' => ∃ b, ev = .returned (.pointer (some ⟨b, 0, none⟩)) ∧ w.heap.size ≤ b ∧ Below w.heap.size w w' ∧ w'.heap[b]? = some (.cells #[.int .i64 c, .string ⟨#[]⟩, .nilIface] 51 (0, 0)) := by
  have hmf : ∀ (fn : Fn) (first cap : Array Value) (w : World), (Instr.makeFunc fn first cap).run Tryd.prog w = .ok (.func fn first cap) w := fun _ _ _ _ => rfl
  have HA := Lib.hid hA
  clear hA
  have F0 := Lib.hid (fWorld_cell w)
  have F1 := Lib.hid (fWorld_frozen w)
  have F2 := Lib.hid (fWorld_below w)
  unfold fWorld at HA F0 F1 F2
  go_enter_defers Tryd.func24, Tryd.ntmps24
  go_wp2_with (go_at_call 32; refine (HA.out).mono ?_; rintro e' w' ⟨rfl, b, hb, hs, hk⟩; have HK := Lib.hid hk; have HL := Lib.hid hb; clear hk hb; have c0 := hs.cell F0.out; have z0 := hs.frozen F0.out F1.out; have HS := Lib.hid hs; clear hs)
  refine leaves_cons (f := 31) (args := #[.pointer (some ⟨w.heap.size, 0, none⟩)]) (by simp) (by simp [go_sem]) ?_
  refine (firstD_idle ⟨w.heap.size, 0, none⟩ _).mono ?_
  rintro e' u' w'' ⟨rfl, rfl, rfl⟩
  have c1 := setCell_cell (.pointer (some ⟨b, 0, none⟩)) c0
  have B1 : Below w.heap.size w (w'.setCell ⟨w.heap.size, 0, none⟩ (.pointer (some ⟨b, 0, none⟩))) := (F2.out.trans (SetAt.below HS.out (by simp) (Nat.le_refl _))).setCell (Nat.le_refl _) _
  have hl : w.heap.size < b := by have := HL.out; simp at this; omega
  have K1 : (w'.setCell ⟨w.heap.size, 0, none⟩ (.pointer (some ⟨b, 0, none⟩))).heap[b]? = some (.cells #[.int .i64 c, .string ⟨#[]⟩, .nilIface] 51 (0, 0)) := by
    rw [Below.heap_setCell _ _ _ _ (by simp; omega)]; exact HK.out
  have hle : w.heap.size ≤ b := by omega
  simp [Leaves, settle, results, Tryd.results24, go_sem, c1, B1, K1, hle]

set_option maxRecDepth 100000 in
theorem first_miss (v : Value) (w : World)
    (hA : Calls Tryd.prog 32 #[v, .iface 75 (.pointer (some ⟨w.heap.size, 0, none⟩))] (fWorld w) fun ev w' => ev = .returned (.bool false) ∧ Below (fWorld w).heap.size (fWorld w) w') :
    Calls Tryd.prog 24 #[v] w fun ev w' => ev = .returned (.pointer none) ∧ Below w.heap.size w w' := by
  have hmf : ∀ (fn : Fn) (first cap : Array Value) (w : World), (Instr.makeFunc fn first cap).run Tryd.prog w = .ok (.func fn first cap) w := fun _ _ _ _ => rfl
  have HA := Lib.hid hA
  clear hA
  have F0 := Lib.hid (fWorld_cell w)
  have F1 := Lib.hid (fWorld_frozen w)
  have F2 := Lib.hid (fWorld_below w)
  unfold fWorld at HA F0 F1 F2
  go_enter_defers Tryd.func24, Tryd.ntmps24
  go_wp2_with (go_at_call 32; refine (HA.out).mono ?_; rintro e' w' ⟨rfl, hs⟩; have c0 := (hs.cell (cell_lt F0.out)).trans F0.out; have z0 := (hs.frozen (cell_lt F0.out)).trans F1.out; have HS := Lib.hid hs; clear hs)
  refine leaves_cons (f := 31) (args := #[.pointer (some ⟨w.heap.size, 0, none⟩)]) (by simp) (by simp [go_sem]) ?_
  refine (firstD_idle ⟨w.heap.size, 0, none⟩ _).mono ?_
  rintro e' u' w'' ⟨rfl, rfl, rfl⟩
  have c1 := setCell_cell (.pointer none) c0
  have B1 : Below w.heap.size w (w'.setCell ⟨w.heap.size, 0, none⟩ (.pointer none)) := (F2.out.trans (HS.out.mono (by simp))).setCell (Nat.le_refl _) _
  simp [Leaves, settle, results, Tryd.results24, go_sem, c1, B1]

/-! ### by the kind of error -/
theorem asWorld_tgt (w : World) : (asWorld ⟨w.heap.size, 0, none⟩ (fWorld w)).cell? ⟨w.heap.size, 0, none⟩ = some (.pointer none) := cell_alloc _ (cell_alloc _ (fWorld_cell w))
theorem asWorld_tgtf (w : World) : (asWorld ⟨w.heap.size, 0, none⟩ (fWorld w)).frozen? ⟨w.heap.size, 0, none⟩ = false := frozen_alloc _ (cell_alloc _ (fWorld_cell w)) (frozen_alloc _ (fWorld_cell w) (fWorld_frozen w))
theorem asWorld_all (w : World) : Below w.heap.size w (asWorld ⟨w.heap.size, 0, none⟩ (fWorld w)) := (fWorld_below w).trans ((asWorld_below _ _).mono (by simp [fWorld]))

theorem first_nil (w : World) : Calls Tryd.prog 24 #[.nilIface] w fun ev w' => ev = .returned (.pointer none) ∧ Below w.heap.size w w' :=
  first_miss _ _ ((eAs_nil _ _).mono fun _ _ ⟨he, hw⟩ => ⟨he, hw ▸ Below.refl _ _⟩)
theorem first_fault (e : Addr) (w : World) (hg : Handle w) : Calls Tryd.prog 24 #[.iface 40 (.pointer (some e))] w fun ev w' => ev = .returned (.pointer (some e)) ∧ Below w.heap.size w w' :=
  first_hit _ _ _ ((eAs_of _ _ _ true _ _ (hg.below (fWorld_below w) hg.pos) (eas_fault e _ _ _ _ (asWorld_cell _ _) (asWorld_tgt w) (asWorld_tgtf w))).mono fun _ _ ⟨he, hs⟩ => ⟨he, hs.of_below (asWorld_below _ _)⟩)
theorem first_plain (c : Int) (w : World) (hg : Handle w) : Calls Tryd.prog 24 #[.iface 64 (.int .i64 c)] w fun ev w' => ∃ b, ev = .returned (.pointer (some ⟨b, 0, none⟩)) ∧ w.heap.size ≤ b ∧ Below w.heap.size w w' ∧ w'.heap[b]? = some (.cells #[.int .i64 c, .string ⟨#[]⟩, .nilIface] 51 (0, 0)) :=
  first_newly _ c _ ((eAs_of _ _ _ true _ _ (hg.below (fWorld_below w) hg.pos) (eas_plain c _ _ _ _ (asWorld_tgt w) (asWorld_tgtf w))).mono fun _ _ ⟨he, b, hb, hs, hk⟩ => ⟨he, b, Nat.le_trans (asWorld_below _ _).size hb, hs.of_below (asWorld_below _ _), hk⟩)
theorem first_other (x : Value) (w : World) (hg : Handle w) : Calls Tryd.prog 24 #[.iface 47 x] w fun ev w' => ev = .returned (.pointer none) ∧ Below w.heap.size w w' :=
  first_miss _ _ ((eAs_of _ _ _ false _ _ (hg.below (fWorld_below w) hg.pos) (eas_other x _ _ _)).mono fun _ _ ⟨he, hs⟩ => ⟨he, (asWorld_below _ _).trans (hs.mono (asWorld_below _ _).size)⟩)
theorem first_join1 (j g n cap : Nat) (e : Addr) (w : World) (hg : Handle w) (hj : w.cell? ⟨j, 0, none⟩ = some (.slice (some ⟨g, 0, none⟩) n cap)) (hn : 0 < n) (h0 : w.cell? ⟨g, 0, none⟩ = some (.iface 40 (.pointer (some e)))) :
    Calls Tryd.prog 24 #[.iface 53 (.pointer (some ⟨j, 0, none⟩))] w fun ev w' => ev = .returned (.pointer (some e)) ∧ Below w.heap.size w w' :=
  first_hit _ _ _ ((eAs_of _ _ _ true _ _ (hg.below (fWorld_below w) hg.pos) (eas_join1 j g n cap e _ _ _ _ (((asWorld_all w).cell (cell_lt hj)).trans hj) hn (((asWorld_all w).cell (cell_lt h0)).trans h0) (asWorld_cell _ _) (asWorld_tgt w) (asWorld_tgtf w))).mono fun _ _ ⟨he, hs⟩ => ⟨he, hs.of_below (asWorld_below _ _)⟩)
theorem first_join2 (j g n cap : Nat) (x : Value) (e : Addr) (w : World) (hg : Handle w) (hj : w.cell? ⟨j, 0, none⟩ = some (.slice (some ⟨g, 0, none⟩) n cap)) (hn : 1 < n) (h0 : w.cell? ⟨g, 0, none⟩ = some (.iface 47 x)) (h1 : w.cell? ⟨g, 1, none⟩ = some (.iface 40 (.pointer (some e)))) :
    Calls Tryd.prog 24 #[.iface 53 (.pointer (some ⟨j, 0, none⟩))] w fun ev w' => ev = .returned (.pointer (some e)) ∧ Below w.heap.size w w' :=
  first_hit _ _ _ ((eAs_of _ _ _ true _ _ (hg.below (fWorld_below w) hg.pos) (eas_join2 j g n cap x e _ _ _ _ (((asWorld_all w).cell (cell_lt hj)).trans hj) hn (((asWorld_all w).cell (cell_lt h0)).trans h0) (((asWorld_all w).cell (cell_lt h1)).trans h1) (asWorld_cell _ _) (asWorld_tgt w) (asWorld_tgtf w))).mono fun _ _ ⟨he, hs⟩ => ⟨he, hs.of_below (asWorld_below _ _)⟩)
end Go.Proofs.YtglcmbpgnehinaaDoor.flt
