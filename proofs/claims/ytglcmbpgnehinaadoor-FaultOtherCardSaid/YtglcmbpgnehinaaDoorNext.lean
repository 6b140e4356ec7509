/-
  Package fault's small functions, each by its contract: Of, New, (*Fault).Unwrap, errors.Unwrap, next, Code, Wrap, over chains of Faults that end in nil, a plain code or an error of errors.New's make. Conditions: the chain is there in memory, each Fault in a block of its own, laid behind the one that it wraps.
-/
import Derived.Test.YtglcmbpgnehinaaDoorFirst
namespace Go.Proofs.YtglcmbpgnehinaaDoor.flt
open Go.RowKit Go.Extern.Stop Go.Stop Go.Extern

/-- The Fault in block b. -/
def FaultAt (w : World) (b : Nat) (c : Int) (s : ByteArray) (e : Value) : Prop := w.heap[b]? = some (.cells #[.int .i64 c, .string s, e] 51 (0, 0))

/-- A chain of Faults from outermost inward, each laid behind the one that it wraps; its end is nil, another's error or a plain code. -/
inductive Chain (w : World) : Value → Nat → List (Nat × Int × ByteArray) → Prop
  | none (B : Nat) : Chain w .nilIface B []
  | other (a : Addr) (B : Nat) : a.block < B → Chain w (.iface 47 (.pointer (some a))) B []
  | plain (c : Int) (B : Nat) : Chain w (.iface 64 (.int .i64 c)) B []
  | link (b : Nat) (c : Int) (s : ByteArray) (e : Value) (B : Nat) (l : List (Nat × Int × ByteArray)) : FaultAt w b c s e → b < B → Chain w e b l → Chain w (.iface 40 (.pointer (some ⟨b, 0, none⟩))) B ((b, c, s) :: l)

theorem FaultAt.below {w w' : World} {B b : Nat} {c : Int} {s : ByteArray} {e : Value} (h : FaultAt w b c s e) (hb : Below B w w') (hB : b < B) : FaultAt w' b c s e := (hb.block b hB).trans h
theorem FaultAt.lt {w : World} {b : Nat} {c : Int} {s : ByteArray} {e : Value} (h : FaultAt w b c s e) : b < w.heap.size := by
  rcases Nat.lt_or_ge b w.heap.size with h' | h'
  · exact h'
  · simp [FaultAt, Array.getElem?_eq_none h'] at h
theorem FaultAt.cell0 {w : World} {b : Nat} {c : Int} {s : ByteArray} {e : Value} (h : FaultAt w b c s e) : w.cell? ⟨b, 0, none⟩ = some (.int .i64 c) := by simp [World.cell?, FaultAt] at *; simp [h]
theorem FaultAt.cell1 {w : World} {b : Nat} {c : Int} {s : ByteArray} {e : Value} (h : FaultAt w b c s e) : w.cell? ⟨b, 1, none⟩ = some (.string s) := by simp [World.cell?, FaultAt] at *; simp [h]
theorem FaultAt.cell2 {w : World} {b : Nat} {c : Int} {s : ByteArray} {e : Value} (h : FaultAt w b c s e) : w.cell? ⟨b, 2, none⟩ = some e := by simp [World.cell?, FaultAt] at *; simp [h]

theorem Chain.keep {w w' : World} {v : Value} {B B' : Nat} {l : List (Nat × Int × ByteArray)} (h : Chain w v B l) (hb : Below B' w w') (hB : B ≤ B') : Chain w' v B l := by
  induction h with
  | none B => exact .none B
  | other a B h => exact .other a B h
  | plain c B => exact .plain c B
  | link b c s e B l hf hlt _ ih => exact .link b c s e B l (hf.below hb (by omega)) hlt (ih (by omega))
theorem Chain.mono {w : World} {v : Value} {B B' : Nat} {l : List (Nat × Int × ByteArray)} (h : Chain w v B l) (hB : B ≤ B') : Chain w v B' l := by
  cases h with
  | none => exact .none _
  | other a _ h => exact .other a _ (by omega)
  | plain c => exact .plain c _
  | link b c s e _ l hf hlt hc => exact .link b c s e _ l hf (by omega) hc

theorem Of_some (c : Int) (w : World) (hc : (c == 0) = false) : Calls Tryd.prog 19 #[.int .i64 c] w fun e w' => e = .returned (.iface 64 (.int .i64 c)) ∧ w = w' := by
  go_enter Tryd.func19, Tryd.ntmps19
  go_wp2
  go_ret
  exact ⟨rfl, rfl⟩
theorem Of_none (w : World) : Calls Tryd.prog 19 #[.int .i64 0] w fun e w' => e = .returned .nilIface ∧ w = w' := by
  go_enter Tryd.func19, Tryd.ntmps19
  go_wp2
  go_ret
  exact ⟨rfl, rfl⟩
theorem New_none (s : ByteArray) (w : World) : Calls Tryd.prog 15 #[.int .i64 0, .string s] w fun e w' => e = .returned .nilIface ∧ w = w' := by
  go_enter Tryd.func15, Tryd.ntmps15
  go_wp2
  go_ret
  exact ⟨rfl, rfl⟩
theorem New_some (c : Int) (s : ByteArray) (w : World) (hc : (c == 0) = false) : Calls Tryd.prog 15 #[.int .i64 c, .string s] w fun e w' => e = .returned (.iface 40 (.pointer (some ⟨w.heap.size, 0, none⟩))) ∧ w' = w.alloc (.cells #[.int .i64 c, .string s, .nilIface] 51) := by
  go_enter Tryd.func15, Tryd.ntmps15
  go_wp2
  go_ret
  exact ⟨rfl, rfl⟩
theorem eNew_any (s : ByteArray) (w : World) : Calls Tryd.prog 12 #[.string s] w fun e w' => e = .returned (.iface 47 (.pointer (some ⟨w.heap.size, 0, none⟩))) ∧ w' = w.alloc (.cells #[.string s] 49) := by
  go_enter Tryd.func12, Tryd.ntmps12
  go_wp2
  go_ret
  exact ⟨rfl, rfl⟩
theorem Unwrap_some (b : Nat) (e : Value) (w : World) (h : w.cell? ⟨b, 2, none⟩ = some e) : Calls Tryd.prog 22 #[.pointer (some ⟨b, 0, none⟩)] w fun ev w' => ev = .returned e ∧ w = w' := by
  go_enter Tryd.func22, Tryd.ntmps22
  go_wp2
  go_ret
  exact ⟨rfl, rfl⟩
theorem Unwrap_none (w : World) : Calls Tryd.prog 22 #[.pointer none] w fun ev w' => ev = .returned .nilIface ∧ w = w' := by
  go_enter Tryd.func22, Tryd.ntmps22
  go_wp2
  go_ret
  exact ⟨rfl, rfl⟩

/-- What errors.Unwrap answers for a chain: what its first Fault wraps; else nil. -/
inductive Inner (w : World) : Value → Value → Prop
  | none : Inner w .nilIface .nilIface
  | other (x : Value) : Inner w (.iface 47 x) .nilIface
  | plain (x : Value) : Inner w (.iface 64 x) .nilIface
  | join (x : Value) : Inner w (.iface 53 x) .nilIface
  | link (b : Nat) (e : Value) : w.cell? ⟨b, 2, none⟩ = some e → Inner w (.iface 40 (.pointer (some ⟨b, 0, none⟩))) e

theorem assertNil (xT : TypeId) (w : World) : (Instr.typeAssert .nilIface xT 65 true).run Tryd.prog w = .ok (.tuple #[.nilIface, .bool false]) w := by kernel_rfl

theorem eUnwrap_any (v e : Value) (w : World) (h : Inner w v e) : Calls Tryd.prog 20 #[v] w fun ev w' => ev = .returned e ∧ w = w' := by
  have aN := assertNil
  have aS := noUnS
  have aL := noUnL
  have aJ := noUnJ
  have aP := hasUnP
  have mU := methodUnwrap
  cases h
  case link b hc =>
    go_enter Tryd.func20, Tryd.ntmps20
    go_wp2
    go_ret
    exact ⟨rfl, rfl⟩
  all_goals
    go_enter Tryd.func20, Tryd.ntmps20
    go_wp2
    go_ret
    exact ⟨rfl, rfl⟩

theorem nextD_idle (p : Addr) (w : World) :
    CallsD Tryd.prog 33 #[.pointer (some p)] .returning w fun e u' w' => e = .returned (.tuple #[]) ∧ u' = .returning ∧ w = w' := by
  refine callsD_of_wpS Tryd.func33 rfl fun c₀ cs hu => ?_
  apply wpS_seq
  apply wpS_region
  simp [wpOpsS, go_sem, recoverD, hu, Tryd.ntmps33, Exit.thenS]
  refine wpS_cond (t := false) (by simp [Act.eval, Array.replicate]) ?_
  simp only [Bool.false_eq_true, if_false]
  refine wpS_of_wp (wp_skip ?_)
  cases c₀
  simp_all [bodyPostS, results, Tryd.results33]

theorem Inner.keep {w w' : World} {v e : Value} (h : Inner w v e) (hb : Below w.heap.size w w') : Inner w' v e := by
  cases h with
  | none => exact .none
  | other x => exact .other x
  | plain x => exact .plain x
  | join x => exact .join x
  | link b e hc => exact .link b e ((hb.cell (cell_lt hc)).trans hc)

set_option maxRecDepth 100000 in
theorem next_any (v e : Value) (w : World) (h : Inner w v e) (he : e = .nilIface ∨ ∃ u x, e = .iface u x) : Calls Tryd.prog 25 #[v] w fun ev w' => ev = .returned e ∧ Below w.heap.size w w' := by
  have hmf : ∀ (fn : Fn) (first cap : Array Value) (w : World), (Instr.makeFunc fn first cap).run Tryd.prog w = .ok (.func fn first cap) w := fun _ _ _ _ => rfl
  have HU := Lib.hid (eUnwrap_any v e (w.alloc (.cells #[.nilIface] 27)) (h.keep ((Below.refl _ _).alloc (Nat.le_refl _) _)))
  clear h
  rcases he with rfl | ⟨u, x, rfl⟩
  · go_enter_defers Tryd.func25, Tryd.ntmps25
    go_wp2_with (go_at_call 20; refine (HU.out).mono ?_; rintro e' w' ⟨rfl, rfl⟩)
    refine leaves_cons (f := 33) (args := #[.pointer (some ⟨w.heap.size, 0, none⟩)]) (by simp) (by simp [go_sem]) ?_
    refine (nextD_idle ⟨w.heap.size, 0, none⟩ _).mono ?_
    rintro e' u' w'' ⟨rfl, rfl, rfl⟩
    simp [Leaves, settle, results, Tryd.results25, go_sem]
    exact (Below.refl _ _).alloc (Nat.le_refl _) _
  · go_enter_defers Tryd.func25, Tryd.ntmps25
    go_wp2_with (go_at_call 20; refine (HU.out).mono ?_; rintro e' w' ⟨rfl, rfl⟩)
    refine leaves_cons (f := 33) (args := #[.pointer (some ⟨w.heap.size, 0, none⟩)]) (by simp) (by simp [go_sem]) ?_
    refine (nextD_idle ⟨w.heap.size, 0, none⟩ _).mono ?_
    rintro e' u' w'' ⟨rfl, rfl, rfl⟩
    simp [Leaves, settle, results, Tryd.results25, go_sem]
    exact (Below.refl _ _).alloc (Nat.le_refl _) _
end Go.Proofs.YtglcmbpgnehinaaDoor.flt
