/-
  errors.As at a **Fault target: what it answers and sets where the error is nil, a *Fault, a plain code, an error of errors.New's make. Conditions: the target's cell is there and may be written; errors.errorType holds its handle.
-/
import Derived.Test.YtglcmbpgnehinaaDoorFacts
import Derived.Below
import Derived.Carry
import Derived.Lib.Hide
import Derived.Outline
namespace Go.Proofs.YtglcmbpgnehinaaDoor.flt
open Go.RowKit Go.Extern.Stop Go.Stop Go.Extern

/-- The handle that errors.errorType holds. -/
def Handle (w : World) : Prop := w.cell? ⟨0, 0, none⟩ = some (.iface 77 (.agg #[.pointer (some ⟨4, 27, none⟩)]))

theorem cell_lt {w : World} {a : Addr} {v : Value} (h : w.cell? a = some v) : a.block < w.heap.size := by
  rcases Nat.lt_or_ge a.block w.heap.size with h' | h'
  · exact h'
  · simp [World.cell?, Array.getElem?_eq_none h'] at h

theorem Handle.below {w w' : World} {B : Nat} (h : Handle w) (hb : Below B w w') (hB : 0 < B) : Handle w' := by
  unfold Handle at *
  rw [hb.cell (p := ⟨0, 0, none⟩) hB]; exact h
theorem Handle.pos {w : World} (h : Handle w) : 0 < w.heap.size := cell_lt (a := ⟨0, 0, none⟩) h

/-- w' is w with new blocks behind it and v stored at t. -/
def SetAt (t : Addr) (v : Value) (w w' : World) : Prop := ∃ w1, Below w.heap.size w w1 ∧ w' = w1.setCell t v

set_option maxRecDepth 100000 in
theorem pAs_any (c : Int) (t : Addr) (old : Value) (w : World) (ht : w.cell? t = some old) (hf : w.frozen? t = false) :
    Calls Tryd.prog 76 #[.int .i64 c, .iface 75 (.pointer (some t))] w fun e w' => e = .returned (.bool true) ∧
      w' = (w.alloc (.cells #[.int .i64 c, .string ⟨#[]⟩, .nilIface] 51)).setCell t (.pointer (some ⟨w.heap.size, 0, none⟩)) := by
  have hlt := cell_lt ht
  have ht' : (w.alloc (.cells #[.int .i64 c, .string ⟨#[]⟩, .nilIface] 51)).cell? t = some old := by rw [World.cell?_alloc_lt _ _ t hlt]; exact ht
  have hf' : (w.alloc (.cells #[.int .i64 c, .string ⟨#[]⟩, .nilIface] 51)).frozen? t = false := by rw [World.frozen?_alloc_old _ _ t (Nat.ne_of_lt hlt)]; exact hf
  have aPP := assertPP
  go_enter Tryd.func76, Tryd.ntmps76
  go_wp2
  go_ret
  exact ⟨rfl, rfl⟩

/-! what the entry for Comparable answers -/
theorem comparableP (w : World) : (ReflectliteType.method (fun t => do Rtype.noPackHeld "Comparable" t; pure (.bool (← typeInfo t).comparable)) #[.agg #[.pointer (some ⟨4, 40, none⟩)]]).run Tryd.prog w = .ok (.bool true) w := by kernel_rfl
theorem comparableL (w : World) : (ReflectliteType.method (fun t => do Rtype.noPackHeld "Comparable" t; pure (.bool (← typeInfo t).comparable)) #[.agg #[.pointer (some ⟨4, 64, none⟩)]]).run Tryd.prog w = .ok (.bool true) w := by kernel_rfl
theorem comparableS (w : World) : (ReflectliteType.method (fun t => do Rtype.noPackHeld "Comparable" t; pure (.bool (← typeInfo t).comparable)) #[.agg #[.pointer (some ⟨4, 47, none⟩)]]).run Tryd.prog w = .ok (.bool true) w := by kernel_rfl

/-- The externs that errors.as calls, as facts. -/
structure Ext : Prop where
  tyOf : ∀ (args : Array Value) (w : World), (callFunc 26 args).run Tryd.prog w = ((ReflectliteType.typeOf args).run Tryd.prog w).andThen fun v w' => .ok (.value v) w'
  asg : ∀ (args : Array Value) (w : World), (callFunc 80 args).run Tryd.prog w = ((ReflectliteType.relation "AssignableTo" ReflectliteType.assignableTo args).run Tryd.prog w).andThen fun v w' => .ok (.value v) w'
  elm : ∀ (args : Array Value) (w : World), (callFunc 42 args).run Tryd.prog w = ((ReflectliteValue.method (ReflectliteValue.valueError "reflectlite.Value.Elem" 0) ReflectliteValue.elem args).run Tryd.prog w).andThen fun v w' => .ok (.value v) w'
  vOf : ∀ (args : Array Value) (w : World), (callFunc 36 args).run Tryd.prog w = ((ReflectliteValue.unpack (args.getD 0 (.tuple #[]))).run Tryd.prog w).andThen fun v w' => .ok (.value v) w'
  set : ∀ (args : Array Value) (w : World), (callFunc 43 args).run Tryd.prog w = ((ReflectliteValue.set args).run Tryd.prog w).andThen fun v w' => .ok (.value v) w'
  typ : ∀ (args : Array Value) (w : World), (callFunc 37 args).run Tryd.prog w = ((ReflectliteValue.methodAny (ReflectliteValue.valueError "reflectlite.Value.Type" 0) (fun t _ _ _ => ReflectliteType.toType t) args).run Tryd.prog w).andThen fun v w' => .ok (.value v) w'
  nil : ∀ (args : Array Value) (w : World), (callFunc 38 args).run Tryd.prog w = ((ReflectliteValue.method (ReflectliteValue.valueError "reflectlite.Value.IsNil" 0) ReflectliteValue.isNil args).run Tryd.prog w).andThen fun v w' => .ok (.value v) w'
  knd : ∀ (args : Array Value) (w : World), (callFunc 70 args).run Tryd.prog w = (((ReflectliteType.abiMethod fun t => (fun a : Nat => Value.int IntKind.u8 (a : Int)) <$> Rtype.kind t) args).run Tryd.prog w).andThen fun v w' => .ok (.value v) w'
  rel : ∀ (args : Array Value) (w : World), (callFunc 82 args).run Tryd.prog w = ((ReflectliteType.method ReflectliteType.elem args).run Tryd.prog w).andThen fun v w' => .ok (.value v) w'
  imp : ∀ (args : Array Value) (w : World), (callFunc 83 args).run Tryd.prog w = ((ReflectliteType.relation "Implements" ReflectliteType.implements_ args).run Tryd.prog w).andThen fun v w' => .ok (.value v) w'
  cmp : ∀ (args : Array Value) (w : World), (callFunc 81 args).run Tryd.prog w = ((ReflectliteType.method (fun t => do Rtype.noPackHeld "Comparable" t; pure (.bool (← typeInfo t).comparable)) args).run Tryd.prog w).andThen fun v w' => .ok (.value v) w'

theorem ext : Ext where
  tyOf := @run_callFunc_extern Tryd.prog 26 _ ReflectliteType.typeOf Tryd.func26 (by kernel_rfl) (by kernel_rfl) (by kernel_rfl) (by kernel_rfl)
  asg := @run_callFunc_extern Tryd.prog 80 _ (ReflectliteType.relation "AssignableTo" ReflectliteType.assignableTo) Tryd.func80 (by kernel_rfl) (by kernel_rfl) (by kernel_rfl) (by kernel_rfl)
  elm := @run_callFunc_extern Tryd.prog 42 _ (ReflectliteValue.method (ReflectliteValue.valueError "reflectlite.Value.Elem" 0) ReflectliteValue.elem) Tryd.func42 (by kernel_rfl) (by kernel_rfl) (by kernel_rfl) (by kernel_rfl)
  vOf := @run_callFunc_extern Tryd.prog 36 _ (fun args => ReflectliteValue.unpack (args.getD 0 (.tuple #[]))) Tryd.func36 (by kernel_rfl) (by kernel_rfl) (by kernel_rfl) (by kernel_rfl)
  set := @run_callFunc_extern Tryd.prog 43 _ ReflectliteValue.set Tryd.func43 (by kernel_rfl) (by kernel_rfl) (by kernel_rfl) (by kernel_rfl)
  typ := @run_callFunc_extern Tryd.prog 37 _ (ReflectliteValue.methodAny (ReflectliteValue.valueError "reflectlite.Value.Type" 0) (fun t _ _ _ => ReflectliteType.toType t)) Tryd.func37 (by kernel_rfl) (by kernel_rfl) (by kernel_rfl) (by kernel_rfl)
  nil := @run_callFunc_extern Tryd.prog 38 _ (ReflectliteValue.method (ReflectliteValue.valueError "reflectlite.Value.IsNil" 0) ReflectliteValue.isNil) Tryd.func38 (by kernel_rfl) (by kernel_rfl) (by kernel_rfl) (by kernel_rfl)
  knd := @run_callFunc_extern Tryd.prog 70 _ (ReflectliteType.abiMethod fun t => do pure (.int .u8 (← Rtype.kind t))) Tryd.func70 (by kernel_rfl) (by kernel_rfl) (by kernel_rfl) (by kernel_rfl)
  rel := @run_callFunc_extern Tryd.prog 82 _ (ReflectliteType.method ReflectliteType.elem) Tryd.func82 (by kernel_rfl) (by kernel_rfl) (by kernel_rfl) (by kernel_rfl)
  imp := @run_callFunc_extern Tryd.prog 83 _ (ReflectliteType.relation "Implements" ReflectliteType.implements_) Tryd.func83 (by kernel_rfl) (by kernel_rfl) (by kernel_rfl) (by kernel_rfl)
  cmp := @run_callFunc_extern Tryd.prog 81 _ (ReflectliteType.method (fun t => do Rtype.noPackHeld "Comparable" t; pure (.bool (← typeInfo t).comparable))) Tryd.func81 (by kernel_rfl) (by kernel_rfl) (by kernel_rfl) (by kernel_rfl)

set_option maxRecDepth 100000 in
set_option maxHeartbeats 1000000 in
/-- errors.as at a *Fault: found; the target is set to it. -/
theorem eas_fault (e t a : Addr) (old : Value) (w : World) (ha : w.cell? a = some (.pointer (some t))) (ht : w.cell? t = some old) (hf : w.frozen? t = false) :
    Calls Tryd.prog 39 #[.iface 40 (.pointer (some e)), .iface 75 (.pointer (some t)), .agg #[.pointer (some ⟨4, 75, none⟩), .pointer (some a), .int .u64 150], .iface 77 (.agg #[.pointer (some ⟨4, 40, none⟩)])] w
      fun ev w' => ev = .returned (.bool true) ∧ SetAt t (.pointer (some e)) w w' := by
  obtain ⟨h1, h2, h3, h4, h5, -, -, -, -, -, -⟩ := ext
  have hla := cell_lt ha
  have hlt := cell_lt ht
  have tO := typeOfP
  have mA := methodAssignableTo
  have aP := assignP
  have vP := valueOfP
  have el := elemV a t (w.alloc (.cells #[.pointer (some ⟨4, 75, none⟩), .pointer (some a), .int .u64 150] 88)) (by rw [World.cell?_alloc_lt _ _ a hla]; exact ha)
  have st := setP t ⟨w.heap.size + 1, 0, none⟩ e old ((w.alloc (.cells #[.pointer (some ⟨4, 75, none⟩), .pointer (some a), .int .u64 150] 88)).alloc (.cells #[.pointer (some e)] 40))
    (by rw [World.cell?_alloc_at _ _ _ _ (by simp)]; rfl)
    (by rw [World.cell?_alloc_lt _ _ t (by simp; omega), World.cell?_alloc_lt _ _ t hlt]; exact ht)
    (by rw [World.frozen?_alloc_old _ _ t (by simp; omega), World.frozen?_alloc_old _ _ t (Nat.ne_of_lt hlt)]; exact hf)
  go_enter Tryd.func39, Tryd.ntmps39
  go_wp2
  refine wp_loop_rounds 1 ?_
  rw [rounds_succ]
  go_wp2
  go_ret
  exact ⟨rfl, _, ((Below.refl _ _).alloc (Nat.le_refl _) _).alloc (by simp) _, rfl⟩

set_option maxRecDepth 100000 in
set_option maxHeartbeats 1000000 in
/-- errors.as at a plain code: its As is asked; the target is set to a new *Fault. -/
theorem eas_plain (c : Int) (t a : Addr) (old : Value) (w : World) (ht : w.cell? t = some old) (hf : w.frozen? t = false) :
    Calls Tryd.prog 39 #[.iface 64 (.int .i64 c), .iface 75 (.pointer (some t)), .agg #[.pointer (some ⟨4, 75, none⟩), .pointer (some a), .int .u64 150], .iface 77 (.agg #[.pointer (some ⟨4, 40, none⟩)])] w
      fun ev w' => ev = .returned (.bool true) ∧ ∃ b, w.heap.size ≤ b ∧ SetAt t (.pointer (some ⟨b, 0, none⟩)) w w' ∧ w'.heap[b]? = some (.cells #[.int .i64 c, .string ⟨#[]⟩, .nilIface] 51 (0, 0)) := by
  obtain ⟨h1, h2, -, -, -, -, -, -, -, -, -⟩ := ext
  have hlt := cell_lt ht
  have tO := typeOfL
  have mA := methodAssignableTo
  have aL := assignL
  have hA := hasAsL
  have mAs := methodAs
  have hP := pAs_any c t old (w.alloc (.cells #[.pointer (some ⟨4, 75, none⟩), .pointer (some a), .int .u64 150] 88)) (by rw [World.cell?_alloc_lt _ _ t hlt]; exact ht) (by rw [World.frozen?_alloc_old _ _ t (Nat.ne_of_lt hlt)]; exact hf)
  have HP := Lib.hid hP
  clear hP
  go_enter Tryd.func39, Tryd.ntmps39
  go_wp2
  refine wp_loop_rounds 1 ?_
  rw [rounds_succ]
  go_wp2_with (go_at_call 76; refine (HP.out).mono ?_; rintro e w' ⟨rfl, rfl⟩)
  go_ret
  refine ⟨rfl, w.heap.size + 1, by omega, ⟨_, ((Below.refl _ _).alloc (Nat.le_refl _) _).alloc (by simp) _, rfl⟩, ?_⟩
  rw [Below.heap_setCell _ _ _ _ (by omega)]
  show ((w.heap.push _).push _)[w.heap.size + 1]? = _
  rw [Array.getElem?_push, if_pos (by simp)]

set_option maxRecDepth 100000 in
set_option maxHeartbeats 1000000 in
/-- errors.as at an error of errors.New's make: nothing is found. -/
theorem eas_other (x : Value) (t a : Addr) (w : World) :
    Calls Tryd.prog 39 #[.iface 47 x, .iface 75 (.pointer (some t)), .agg #[.pointer (some ⟨4, 75, none⟩), .pointer (some a), .int .u64 150], .iface 77 (.agg #[.pointer (some ⟨4, 40, none⟩)])] w
      fun ev w' => ev = .returned (.bool false) ∧ Below w.heap.size w w' := by
  obtain ⟨h1, h2, -, -, -, -, -, -, -, -, -⟩ := ext
  have tO := typeOfS
  have mA := methodAssignableTo
  have aS := assignS
  have hA := noAsS
  have hU := noUnS
  have hUs := noUnsS
  go_enter Tryd.func39, Tryd.ntmps39
  go_wp2
  refine wp_loop_rounds 1 ?_
  rw [rounds_succ]
  go_wp2
  go_ret
  exact ⟨rfl, (Below.refl _ _).alloc (Nat.le_refl _) _⟩
end Go.Proofs.YtglcmbpgnehinaaDoor.flt
