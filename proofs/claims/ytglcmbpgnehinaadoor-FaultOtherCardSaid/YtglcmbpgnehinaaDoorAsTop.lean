/-
  errors.As(v, &f) for f a *Fault: it answers what errors.as answers behind it; nil: false. Conditions: the target's cell is there and may be written; errors.errorType holds its handle.
-/
import Derived.Test.YtglcmbpgnehinaaDoorAsJoin
namespace Go.Proofs.YtglcmbpgnehinaaDoor.flt
open Go.RowKit Go.Extern.Stop Go.Stop Go.Extern

theorem eAs_nil (t : Value) (w : World) : Calls Tryd.prog 32 #[.nilIface, t] w fun e w' => e = .returned (.bool false) ∧ w = w' := by
  go_enter Tryd.func32, Tryd.ntmps32
  go_wp2
  go_ret
  exact ⟨rfl, rfl⟩

/-- The world in which errors.As asks errors.as. -/
def asWorld (t : Addr) (w : World) : World := (w.alloc (.cells #[.pointer (some t)] 75)).alloc (.cells #[.pointer (some ⟨4, 75, none⟩), .pointer (some ⟨w.heap.size, 0, none⟩), .int .u64 150] 88)
theorem asWorld_below (t : Addr) (w : World) : Below w.heap.size w (asWorld t w) := ((Below.refl _ _).alloc (Nat.le_refl _) _).alloc (by simp) _
theorem asWorld_cell (t : Addr) (w : World) : (asWorld t w).cell? ⟨w.heap.size, 0, none⟩ = some (.pointer (some t)) :=
  cell_alloc _ (by rw [World.cell?_alloc_at _ _ _ _ rfl]; rfl)

set_option maxRecDepth 100000 in
set_option maxHeartbeats 1000000 in
theorem eAs_of (u : TypeId) (x : Value) (t : Addr) (b : Bool) (S : World → Prop) (w : World) (hg : Handle w)
    (hsub : Calls Tryd.prog 39 #[.iface u x, .iface 75 (.pointer (some t)), .agg #[.pointer (some ⟨4, 75, none⟩), .pointer (some ⟨w.heap.size, 0, none⟩), .int .u64 150], .iface 77 (.agg #[.pointer (some ⟨4, 40, none⟩)])] (asWorld t w)
      fun ev w' => ev = .returned (.bool b) ∧ S w') :
    Calls Tryd.prog 32 #[.iface u x, .iface 75 (.pointer (some t))] w fun ev w' => ev = .returned (.bool b) ∧ S w' := by
  have HS := Lib.hid hsub
  clear hsub
  unfold asWorld at HS
  obtain ⟨-, -, -, h4, -, h6, h7, h8, h9, h10, -⟩ := ext
  have f6 := valueOfPP
  have f7 := typePP
  have mK := methodKind
  have mE := methodElem
  have mI := methodImplements
  have kPP := kindPP
  have kP := kindP
  have eP := elemPP
  have iP := implementsP
  have n8 := isNilPP ⟨w.heap.size, 0, none⟩ t ((w.alloc (.cells #[.pointer (some t)] 75)).alloc (.cells #[.pointer (some ⟨4, 75, none⟩), .pointer (some ⟨w.heap.size, 0, none⟩), .int .u64 150] 88)) (asWorld_cell t w)
  have hg2 : ((w.alloc (.cells #[.pointer (some t)] 75)).alloc (.cells #[.pointer (some ⟨4, 75, none⟩), .pointer (some ⟨w.heap.size, 0, none⟩), .int .u64 150] 88)).cell? ⟨0, 0, none⟩ = some (.iface 77 (.agg #[.pointer (some ⟨4, 27, none⟩)])) := hg.below (asWorld_below t w) hg.pos
  clear hg
  go_enter Tryd.func32, Tryd.ntmps32
  go_wp2_with (go_at_call 39; refine (HS.out).mono ?_; rintro e' w' ⟨rfl, hs⟩)
  go_ret
  exact ⟨rfl, hs⟩
end Go.Proofs.YtglcmbpgnehinaaDoor.flt
