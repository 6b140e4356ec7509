/-
  The steps of the walks, part 2: As, AsJoin, AsTop, First, Next.
-/
import Derived.Below
import Derived.Carry
import Derived.Lib.Hide
import Derived.Outline
import Derived.Recover
import Derived.Test.YtlhmfgbaefaneabGreatDoorB01
namespace Go.Proofs.YtlhmfgbaefaneabGreatDoor.flt
open Go.RowKit Go.Extern.Stop Go.Stop Go.Extern
def Handle (w : World) : Prop := w.cell? ⟨1, 0, none⟩ = some (.iface 223 (.agg #[.pointer (some ⟨10, 24, none⟩)]))
theorem cell_lt {w : World} {a : Addr} {v : Value} (h : w.cell? a = some v) : a.block < w.heap.size := by
  rcases Nat.lt_or_ge a.block w.heap.size with h' | h'
  · exact h'
  · simp [World.cell?, Array.getElem?_eq_none h'] at h
theorem Handle.below {w w' : World} {B : Nat} (h : Handle w) (hb : Below B w w') (hB : 1 < B) : Handle w' := by
  unfold Handle at *
  rw [hb.cell (p := ⟨1, 0, none⟩) hB]; exact h
theorem Handle.pos {w : World} (h : Handle w) : 1 < w.heap.size := cell_lt (a := ⟨1, 0, none⟩) h
def SetAt (t : Addr) (v : Value) (w w' : World) : Prop := ∃ w1, Below w.heap.size w w1 ∧ w' = w1.setCell t v
set_option maxRecDepth 100000 in
theorem pAs_any (c : Int) (t : Addr) (old : Value) (w : World) (ht : w.cell? t = some old) (hf : w.frozen? t = false) :
    Calls Tryz.prog 272 #[.int .i64 c, .iface 141 (.pointer (some t))] w fun e w' => e = .returned (.bool true) ∧
      w' = (w.alloc (.cells #[.int .i64 c, .string ⟨#[]⟩, .nilIface] 111)).setCell t (.pointer (some ⟨w.heap.size, 0, none⟩)) := by
  have hlt := cell_lt ht
  have ht' : (w.alloc (.cells #[.int .i64 c, .string ⟨#[]⟩, .nilIface] 111)).cell? t = some old := by rw [World.cell?_alloc_lt _ _ t hlt]; exact ht
  have hf' : (w.alloc (.cells #[.int .i64 c, .string ⟨#[]⟩, .nilIface] 111)).frozen? t = false := by rw [World.frozen?_alloc_old _ _ t (Nat.ne_of_lt hlt)]; exact hf
  have aPP := assertPP
  go_enter Tryz.func272, Tryz.ntmps272
  go_wp2
  go_ret
  exact ⟨rfl, rfl⟩
structure Ext : Prop where
  tyOf : ∀ (args : Array Value) (w : World), (callFunc 210 args).run Tryz.prog w = ((ReflectliteType.typeOf args).run Tryz.prog w).andThen fun v w' => .ok (.value v) w'
  asg : ∀ (args : Array Value) (w : World), (callFunc 283 args).run Tryz.prog w = ((ReflectliteType.relation "AssignableTo" ReflectliteType.assignableTo args).run Tryz.prog w).andThen fun v w' => .ok (.value v) w'
  elm : ∀ (args : Array Value) (w : World), (callFunc 211 args).run Tryz.prog w = ((ReflectliteValue.method (ReflectliteValue.valueError "reflectlite.Value.Elem" 0) ReflectliteValue.elem args).run Tryz.prog w).andThen fun v w' => .ok (.value v) w'
  vOf : ∀ (args : Array Value) (w : World), (callFunc 168 args).run Tryz.prog w = ((ReflectliteValue.unpack (args.getD 0 (.tuple #[]))).run Tryz.prog w).andThen fun v w' => .ok (.value v) w'
  set : ∀ (args : Array Value) (w : World), (callFunc 212 args).run Tryz.prog w = ((ReflectliteValue.set args).run Tryz.prog w).andThen fun v w' => .ok (.value v) w'
  typ : ∀ (args : Array Value) (w : World), (callFunc 169 args).run Tryz.prog w = ((ReflectliteValue.methodAny (ReflectliteValue.valueError "reflectlite.Value.Type" 0) (fun t _ _ _ => ReflectliteType.toType t) args).run Tryz.prog w).andThen fun v w' => .ok (.value v) w'
  nil : ∀ (args : Array Value) (w : World), (callFunc 170 args).run Tryz.prog w = ((ReflectliteValue.method (ReflectliteValue.valueError "reflectlite.Value.IsNil" 0) ReflectliteValue.isNil args).run Tryz.prog w).andThen fun v w' => .ok (.value v) w'
  knd : ∀ (args : Array Value) (w : World), (callFunc 269 args).run Tryz.prog w = (((ReflectliteType.abiMethod fun t => (fun a : Nat => Value.int IntKind.u8 (a : Int)) <$> Rtype.kind t) args).run Tryz.prog w).andThen fun v w' => .ok (.value v) w'
  rel : ∀ (args : Array Value) (w : World), (callFunc 285 args).run Tryz.prog w = ((ReflectliteType.method ReflectliteType.elem args).run Tryz.prog w).andThen fun v w' => .ok (.value v) w'
  imp : ∀ (args : Array Value) (w : World), (callFunc 286 args).run Tryz.prog w = ((ReflectliteType.relation "Implements" ReflectliteType.implements_ args).run Tryz.prog w).andThen fun v w' => .ok (.value v) w'
  cmp : ∀ (args : Array Value) (w : World), (callFunc 284 args).run Tryz.prog w = ((ReflectliteType.method (fun t => do Rtype.noPackHeld "Comparable" t; pure (.bool (← typeInfo t).comparable)) args).run Tryz.prog w).andThen fun v w' => .ok (.value v) w'
theorem ext : Ext where
  tyOf := @run_callFunc_extern Tryz.prog 210 _ ReflectliteType.typeOf Tryz.func210 (by kernel_rfl) (by kernel_rfl) (by kernel_rfl) (by kernel_rfl)
  asg := @run_callFunc_extern Tryz.prog 283 _ (ReflectliteType.relation "AssignableTo" ReflectliteType.assignableTo) Tryz.func283 (by kernel_rfl) (by kernel_rfl) (by kernel_rfl) (by kernel_rfl)
  elm := @run_callFunc_extern Tryz.prog 211 _ (ReflectliteValue.method (ReflectliteValue.valueError "reflectlite.Value.Elem" 0) ReflectliteValue.elem) Tryz.func211 (by kernel_rfl) (by kernel_rfl) (by kernel_rfl) (by kernel_rfl)
  vOf := @run_callFunc_extern Tryz.prog 168 _ (fun args => ReflectliteValue.unpack (args.getD 0 (.tuple #[]))) Tryz.func168 (by kernel_rfl) (by kernel_rfl) (by kernel_rfl) (by kernel_rfl)
  set := @run_callFunc_extern Tryz.prog 212 _ ReflectliteValue.set Tryz.func212 (by kernel_rfl) (by kernel_rfl) (by kernel_rfl) (by kernel_rfl)
  typ := @run_callFunc_extern Tryz.prog 169 _ (ReflectliteValue.methodAny (ReflectliteValue.valueError "reflectlite.Value.Type" 0) (fun t _ _ _ => ReflectliteType.toType t)) Tryz.func169 (by kernel_rfl) (by kernel_rfl) (by kernel_rfl) (by kernel_rfl)
  nil := @run_callFunc_extern Tryz.prog 170 _ (ReflectliteValue.method (ReflectliteValue.valueError "reflectlite.Value.IsNil" 0) ReflectliteValue.isNil) Tryz.func170 (by kernel_rfl) (by kernel_rfl) (by kernel_rfl) (by kernel_rfl)
  knd := @run_callFunc_extern Tryz.prog 269 _ (ReflectliteType.abiMethod fun t => do pure (.int .u8 (← Rtype.kind t))) Tryz.func269 (by kernel_rfl) (by kernel_rfl) (by kernel_rfl) (by kernel_rfl)
  rel := @run_callFunc_extern Tryz.prog 285 _ (ReflectliteType.method ReflectliteType.elem) Tryz.func285 (by kernel_rfl) (by kernel_rfl) (by kernel_rfl) (by kernel_rfl)
  imp := @run_callFunc_extern Tryz.prog 286 _ (ReflectliteType.relation "Implements" ReflectliteType.implements_) Tryz.func286 (by kernel_rfl) (by kernel_rfl) (by kernel_rfl) (by kernel_rfl)
  cmp := @run_callFunc_extern Tryz.prog 284 _ (ReflectliteType.method (fun t => do Rtype.noPackHeld "Comparable" t; pure (.bool (← typeInfo t).comparable))) Tryz.func284 (by kernel_rfl) (by kernel_rfl) (by kernel_rfl) (by kernel_rfl)
set_option maxRecDepth 100000 in
set_option maxHeartbeats 1000000 in
theorem eas_fault (e t a : Addr) (old : Value) (w : World) (ha : w.cell? a = some (.pointer (some t))) (ht : w.cell? t = some old) (hf : w.frozen? t = false) :
    Calls Tryz.prog 171 #[.iface 108 (.pointer (some e)), .iface 141 (.pointer (some t)), .agg #[.pointer (some ⟨10, 141, none⟩), .pointer (some a), .int .u64 150], .iface 223 (.agg #[.pointer (some ⟨10, 108, none⟩)])] w
      fun ev w' => ev = .returned (.bool true) ∧ SetAt t (.pointer (some e)) w w' := by
  obtain ⟨h1, h2, h3, h4, h5, -, -, -, -, -, -⟩ := ext
  have hla := cell_lt ha
  have hlt := cell_lt ht
  have tO := typeOfP
  have mA := methodAssignableTo
  have aP := assignP
  have vP := valueOfP
  have el := elemV a t (w.alloc (.cells #[.pointer (some ⟨10, 141, none⟩), .pointer (some a), .int .u64 150] 173)) (by rw [World.cell?_alloc_lt _ _ a hla]; exact ha)
  have st := setP t ⟨w.heap.size + 1, 0, none⟩ e old ((w.alloc (.cells #[.pointer (some ⟨10, 141, none⟩), .pointer (some a), .int .u64 150] 173)).alloc (.cells #[.pointer (some e)] 108))
    (by rw [World.cell?_alloc_at _ _ _ _ (by simp)]; rfl)
    (by rw [World.cell?_alloc_lt _ _ t (by simp; omega), World.cell?_alloc_lt _ _ t hlt]; exact ht)
    (by rw [World.frozen?_alloc_old _ _ t (by simp; omega), World.frozen?_alloc_old _ _ t (Nat.ne_of_lt hlt)]; exact hf)
  go_enter Tryz.func171, Tryz.ntmps171
  go_wp2
  refine wp_loop_rounds 1 ?_
  rw [rounds_succ]
  go_wp2
  go_ret
  exact ⟨rfl, _, ((Below.refl _ _).alloc (Nat.le_refl _) _).alloc (by simp) _, rfl⟩
set_option maxRecDepth 100000 in
set_option maxHeartbeats 1000000 in
theorem eas_plain (c : Int) (t a : Addr) (old : Value) (w : World) (ht : w.cell? t = some old) (hf : w.frozen? t = false) :
    Calls Tryz.prog 171 #[.iface 100 (.int .i64 c), .iface 141 (.pointer (some t)), .agg #[.pointer (some ⟨10, 141, none⟩), .pointer (some a), .int .u64 150], .iface 223 (.agg #[.pointer (some ⟨10, 108, none⟩)])] w
      fun ev w' => ev = .returned (.bool true) ∧ ∃ b, w.heap.size ≤ b ∧ SetAt t (.pointer (some ⟨b, 0, none⟩)) w w' ∧ w'.heap[b]? = some (.cells #[.int .i64 c, .string ⟨#[]⟩, .nilIface] 111 (0, 0)) := by
  obtain ⟨h1, h2, -, -, -, -, -, -, -, -, -⟩ := ext
  have hlt := cell_lt ht
  have tO := typeOfL
  have mA := methodAssignableTo
  have aL := assignL
  have hA := hasAsL
  have mAs := methodAs
  have hP := pAs_any c t old (w.alloc (.cells #[.pointer (some ⟨10, 141, none⟩), .pointer (some a), .int .u64 150] 173)) (by rw [World.cell?_alloc_lt _ _ t hlt]; exact ht) (by rw [World.frozen?_alloc_old _ _ t (Nat.ne_of_lt hlt)]; exact hf)
  have HP := Lib.hid hP
  clear hP
  go_enter Tryz.func171, Tryz.ntmps171
  go_wp2
  refine wp_loop_rounds 1 ?_
  rw [rounds_succ]
  go_wp2_with (go_at_call 272; refine (HP.out).mono ?_; rintro e w' ⟨rfl, rfl⟩)
  go_ret
  refine ⟨rfl, w.heap.size + 1, by omega, ⟨_, ((Below.refl _ _).alloc (Nat.le_refl _) _).alloc (by simp) _, rfl⟩, ?_⟩
  rw [Below.heap_setCell _ _ _ _ (by omega)]
  show ((w.heap.push _).push _)[w.heap.size + 1]? = _
  rw [Array.getElem?_push, if_pos (by simp)]
set_option maxRecDepth 100000 in
set_option maxHeartbeats 1000000 in
theorem eas_other (x : Value) (t a : Addr) (w : World) :
    Calls Tryz.prog 171 #[.iface 273 x, .iface 141 (.pointer (some t)), .agg #[.pointer (some ⟨10, 141, none⟩), .pointer (some a), .int .u64 150], .iface 223 (.agg #[.pointer (some ⟨10, 108, none⟩)])] w
      fun ev w' => ev = .returned (.bool false) ∧ Below w.heap.size w w' := by
  obtain ⟨h1, h2, -, -, -, -, -, -, -, -, -⟩ := ext
  have tO := typeOfS
  have mA := methodAssignableTo
  have aS := assignS
  have hA := noAsS
  have hU := noUnS
  have hUs := noUnsS
  go_enter Tryz.func171, Tryz.ntmps171
  go_wp2
  refine wp_loop_rounds 1 ?_
  rw [rounds_succ]
  go_wp2
  go_ret
  exact ⟨rfl, (Below.refl _ _).alloc (Nat.le_refl _) _⟩
end Go.Proofs.YtlhmfgbaefaneabGreatDoor.flt
namespace Go.Proofs.YtlhmfgbaefaneabGreatDoor.flt
open Go.RowKit Go.Extern.Stop Go.Stop Go.Extern
theorem SetAt.of_below {t : Addr} {v : Value} {w W w' : World} (hb : Below w.heap.size w W) (h : SetAt t v W w') : SetAt t v w w' := by
  obtain ⟨w1, h1, rfl⟩ := h
  exact ⟨w1, hb.trans (h1.mono hb.size), rfl⟩
theorem cell_alloc {w : World} {a : Addr} {v : Value} (o : Obj) (h : w.cell? a = some v) : (w.alloc o).cell? a = some v := by
  rw [World.cell?_alloc_lt _ _ a (cell_lt h)]; exact h
theorem frozen_alloc {w : World} {a : Addr} {v : Value} (o : Obj) (h : w.cell? a = some v) (hf : w.frozen? a = false) : (w.alloc o).frozen? a = false := by
  rw [World.frozen?_alloc_old _ _ a (Nat.ne_of_lt (cell_lt h))]; exact hf
end Go.Proofs.YtlhmfgbaefaneabGreatDoor.flt
namespace Go.Proofs.YtlhmfgbaefaneabGreatDoor.flt
open Go.RowKit Go.Extern.Stop Go.Stop Go.Extern
theorem eAs_nil (t : Value) (w : World) : Calls Tryz.prog 131 #[.nilIface, t] w fun e w' => e = .returned (.bool false) ∧ w = w' := by
  go_enter Tryz.func131, Tryz.ntmps131
  go_wp2
  go_ret
  exact ⟨rfl, rfl⟩
def asWorld (t : Addr) (w : World) : World := (w.alloc (.cells #[.pointer (some t)] 141)).alloc (.cells #[.pointer (some ⟨10, 141, none⟩), .pointer (some ⟨w.heap.size, 0, none⟩), .int .u64 150] 173)
theorem asWorld_below (t : Addr) (w : World) : Below w.heap.size w (asWorld t w) := ((Below.refl _ _).alloc (Nat.le_refl _) _).alloc (by simp) _
theorem asWorld_cell (t : Addr) (w : World) : (asWorld t w).cell? ⟨w.heap.size, 0, none⟩ = some (.pointer (some t)) :=
  cell_alloc _ (by rw [World.cell?_alloc_at _ _ _ _ rfl]; rfl)
set_option maxRecDepth 100000 in
set_option maxHeartbeats 1000000 in
theorem eAs_of (u : TypeId) (x : Value) (t : Addr) (b : Bool) (S : World → Prop) (w : World) (hg : Handle w)
    (hsub : Calls Tryz.prog 171 #[.iface u x, .iface 141 (.pointer (some t)), .agg #[.pointer (some ⟨10, 141, none⟩), .pointer (some ⟨w.heap.size, 0, none⟩), .int .u64 150], .iface 223 (.agg #[.pointer (some ⟨10, 108, none⟩)])] (asWorld t w)
      fun ev w' => ev = .returned (.bool b) ∧ S w') :
    Calls Tryz.prog 131 #[.iface u x, .iface 141 (.pointer (some t))] w fun ev w' => ev = .returned (.bool b) ∧ S w' := by
  have HS := Lib.hid hsub
  clear hsub
  unfold asWorld at HS
  obtain ⟨-, -, -, h4, -, h6, h7, h8, h9, h10, -⟩ := ext
  have f6 := valueOfPP
  have f7 := typePP
  have mK := methodKind
  have mE := methodElem
  have mI := methodImplements
  have kPP := kindPP
  have kP := kindP
  have eP := elemPP
  have iP := implementsP
  have n8 := isNilPP ⟨w.heap.size, 0, none⟩ t ((w.alloc (.cells #[.pointer (some t)] 141)).alloc (.cells #[.pointer (some ⟨10, 141, none⟩), .pointer (some ⟨w.heap.size, 0, none⟩), .int .u64 150] 173)) (asWorld_cell t w)
  have hg2 : ((w.alloc (.cells #[.pointer (some t)] 141)).alloc (.cells #[.pointer (some ⟨10, 141, none⟩), .pointer (some ⟨w.heap.size, 0, none⟩), .int .u64 150] 173)).cell? ⟨1, 0, none⟩ = some (.iface 223 (.agg #[.pointer (some ⟨10, 24, none⟩)])) := hg.below (asWorld_below t w) hg.pos
  clear hg
  go_enter Tryz.func131, Tryz.ntmps131
  go_wp2_with (go_at_call 171; refine (HS.out).mono ?_; rintro e' w' ⟨rfl, hs⟩)
  go_ret
  exact ⟨rfl, hs⟩
end Go.Proofs.YtlhmfgbaefaneabGreatDoor.flt
namespace Go.Proofs.YtlhmfgbaefaneabGreatDoor.flt
open Go.RowKit Go.Extern.Stop Go.Stop Go.Extern
theorem firstD_idle (p : Addr) (w : World) :
    CallsD Tryz.prog 130 #[.pointer (some p)] .returning w fun e u' w' => e = .returned (.tuple #[]) ∧ u' = .returning ∧ w = w' := by
  refine callsD_of_wpS Tryz.func130 rfl fun c₀ cs hu => ?_
  apply wpS_seq
  apply wpS_region
  simp [wpOpsS, go_sem, recoverD, hu, Tryz.ntmps130, Exit.thenS]
  refine wpS_cond (t := false) (by simp [Act.eval, Array.replicate]) ?_
  simp only [Bool.false_eq_true, if_false]
  refine wpS_of_wp (wp_skip ?_)
  cases c₀
  simp_all [bodyPostS, results, Tryz.results130]
def fWorld (w : World) : World := w.alloc (.cells #[.pointer none] 108)
theorem fWorld_below (w : World) : Below w.heap.size w (fWorld w) := (Below.refl _ _).alloc (Nat.le_refl _) _
theorem fWorld_cell (w : World) : (fWorld w).cell? ⟨w.heap.size, 0, none⟩ = some (.pointer none) := by unfold fWorld; rw [World.cell?_alloc_at _ _ _ _ rfl]; rfl
theorem fWorld_frozen (w : World) : (fWorld w).frozen? ⟨w.heap.size, 0, none⟩ = false := by simp [fWorld]
theorem setCell_cell {w : World} {a : Addr} {u : Value} (v : Value) (h : w.cell? a = some u) : (w.setCell a v).cell? a = some v := World.cell?_setCell_same' _ _ _ (by rw [h]; rfl)
theorem SetAt.cell {t : Addr} {v old : Value} {w w' : World} (h : SetAt t v w w') (ht : w.cell? t = some old) : w'.cell? t = some v := by
  obtain ⟨w1, hb, rfl⟩ := h
  have h1 : w1.cell? t = some old := (hb.cell (cell_lt ht)).trans ht
  exact setCell_cell v h1
theorem SetAt.frozen {t : Addr} {v old : Value} {w w' : World} (h : SetAt t v w w') (ht : w.cell? t = some old) (hf : w.frozen? t = false) : w'.frozen? t = false := by
  obtain ⟨w1, hb, rfl⟩ := h
  rw [World.frozen?_setCell]
  exact (hb.frozen (cell_lt ht)).trans hf
theorem SetAt.below {t : Addr} {v : Value} {w w' : World} {B : Nat} (h : SetAt t v w w') (hB : B ≤ w.heap.size) (ht : B ≤ t.block) : Below B w w' := by
  obtain ⟨w1, hb, rfl⟩ := h
  exact (hb.mono hB).setCell ht _
set_option maxRecDepth 100000 in
theorem first_hit (v : Value) (e : Addr) (w : World)
    (hA : Calls Tryz.prog 131 #[v, .iface 141 (.pointer (some ⟨w.heap.size, 0, none⟩))] (fWorld w) fun ev w' => ev = .returned (.bool true) ∧ SetAt ⟨w.heap.size, 0, none⟩ (.pointer (some e)) (fWorld w) w') :
    Calls Tryz.prog 99 #[v] w fun ev w' => ev = .returned (.pointer (some e)) ∧ Below w.heap.size w w' := by
  have hmf : ∀ (fn : Fn) (first cap : Array Value) (w : World), (Instr.makeFunc fn first cap).run Tryz.prog w = .ok (.func fn first cap) w := fun _ _ _ _ => rfl
  have HA := Lib.hid hA
  clear hA
  have F0 := Lib.hid (fWorld_cell w)
  have F1 := Lib.hid (fWorld_frozen w)
  have F2 := Lib.hid (fWorld_below w)
  unfold fWorld at HA F0 F1 F2
  go_enter_defers Tryz.func99, Tryz.ntmps99
  go_wp2_with (go_at_call 131; refine (HA.out).mono ?_; rintro e' w' ⟨rfl, hs⟩; have c0 := hs.cell F0.out; have z0 := hs.frozen F0.out F1.out; have HS := Lib.hid hs; clear hs)
  refine leaves_cons (f := 130) (args := #[.pointer (some ⟨w.heap.size, 0, none⟩)]) (by simp) (by simp [go_sem]) ?_
  refine (firstD_idle ⟨w.heap.size, 0, none⟩ _).mono ?_
  rintro e' u' w'' ⟨rfl, rfl, rfl⟩
  have c1 := setCell_cell (.pointer (some e)) c0
  have B1 : Below w.heap.size w (w'.setCell ⟨w.heap.size, 0, none⟩ (.pointer (some e))) := (F2.out.trans (SetAt.below HS.out (by simp) (Nat.le_refl _))).setCell (Nat.le_refl _) _
  simp [Leaves, settle, results, Tryz.results99, go_sem, c1, B1]
set_option maxRecDepth 100000 in
theorem first_newly (v : Value) (c : Int) (w : World)
    (hA : Calls Tryz.prog 131 #[v, .iface 141 (.pointer (some ⟨w.heap.size, 0, none⟩))] (fWorld w) fun ev w' => ev = .returned (.bool true) ∧ ∃ b, (fWorld w).heap.size ≤ b ∧ SetAt ⟨w.heap.size, 0, none⟩ (.pointer (some ⟨b, 0, none⟩)) (fWorld w) w' ∧ w'.heap[b]? = some (.cells #[.int .i64 c, .string ⟨#[]⟩, .nilIface] 111 (0, 0))) :
    Calls Tryz.prog 99 #[v] w fun ev w' => ∃ b, ev = .returned (.pointer (some ⟨b, 0, none⟩)) ∧ w.heap.size ≤ b ∧ Below w.heap.size w w' ∧ w'.heap[b]? = some (.cells #[.int .i64 c, .string ⟨#[]⟩, .nilIface] 111 (0, 0)) := by
  have hmf : ∀ (fn : Fn) (first cap : Array Value) (w : World), (Instr.makeFunc fn first cap).run Tryz.prog w = .ok (.func fn first cap) w := fun _ _ _ _ => rfl
  have HA := Lib.hid hA
  clear hA
  have F0 := Lib.hid (fWorld_cell w)
  have F1 := Lib.hid (fWorld_frozen w)
  have F2 := Lib.hid (fWorld_below w)
  unfold fWorld at HA F0 F1 F2
  go_enter_defers Tryz.func99, Tryz.ntmps99
  go_wp2_with (go_at_call 131; refine (HA.out).mono ?_; rintro e' w' ⟨rfl, b, hb, hs, hk⟩; have HK := Lib.hid hk; have HL := Lib.hid hb; clear hk hb; have c0 := hs.cell F0.out; have z0 := hs.frozen F0.out F1.out; have HS := Lib.hid hs; clear hs)
  refine leaves_cons (f := 130) (args := #[.pointer (some ⟨w.heap.size, 0, none⟩)]) (by simp) (by simp [go_sem]) ?_
  refine (firstD_idle ⟨w.heap.size, 0, none⟩ _).mono ?_
  rintro e' u' w'' ⟨rfl, rfl, rfl⟩
  have c1 := setCell_cell (.pointer (some ⟨b, 0, none⟩)) c0
  have B1 : Below w.heap.size w (w'.setCell ⟨w.heap.size, 0, none⟩ (.pointer (some ⟨b, 0, none⟩))) := (F2.out.trans (SetAt.below HS.out (by simp) (Nat.le_refl _))).setCell (Nat.le_refl _) _
  have hl : w.heap.size < b := by have := HL.out; simp at this; omega
  have K1 : (w'.setCell ⟨w.heap.size, 0, none⟩ (.pointer (some ⟨b, 0, none⟩))).heap[b]? = some (.cells #[.int .i64 c, .string ⟨#[]⟩, .nilIface] 111 (0, 0)) := by
    rw [Below.heap_setCell _ _ _ _ (by simp; omega)]; exact HK.out
  have hle : w.heap.size ≤ b := by omega
  simp [Leaves, settle, results, Tryz.results99, go_sem, c1, B1, K1, hle]
set_option maxRecDepth 100000 in
theorem first_miss (v : Value) (w : World)
    (hA : Calls Tryz.prog 131 #[v, .iface 141 (.pointer (some ⟨w.heap.size, 0, none⟩))] (fWorld w) fun ev w' => ev = .returned (.bool false) ∧ Below (fWorld w).heap.size (fWorld w) w') :
    Calls Tryz.prog 99 #[v] w fun ev w' => ev = .returned (.pointer none) ∧ Below w.heap.size w w' := by
  have hmf : ∀ (fn : Fn) (first cap : Array Value) (w : World), (Instr.makeFunc fn first cap).run Tryz.prog w = .ok (.func fn first cap) w := fun _ _ _ _ => rfl
  have HA := Lib.hid hA
  clear hA
  have F0 := Lib.hid (fWorld_cell w)
  have F1 := Lib.hid (fWorld_frozen w)
  have F2 := Lib.hid (fWorld_below w)
  unfold fWorld at HA F0 F1 F2
  go_enter_defers Tryz.func99, Tryz.ntmps99
  go_wp2_with (go_at_call 131; refine (HA.out).mono ?_; rintro e' w' ⟨rfl, hs⟩; have c0 := (hs.cell (cell_lt F0.out)).trans F0.out; have z0 := (hs.frozen (cell_lt F0.out)).trans F1.out; have HS := Lib.hid hs; clear hs)
  refine leaves_cons (f := 130) (args := #[.pointer (some ⟨w.heap.size, 0, none⟩)]) (by simp) (by simp [go_sem]) ?_
  refine (firstD_idle ⟨w.heap.size, 0, none⟩ _).mono ?_
  rintro e' u' w'' ⟨rfl, rfl, rfl⟩
  have c1 := setCell_cell (.pointer none) c0
  have B1 : Below w.heap.size w (w'.setCell ⟨w.heap.size, 0, none⟩ (.pointer none)) := (F2.out.trans (HS.out.mono (by simp))).setCell (Nat.le_refl _) _
  simp [Leaves, settle, results, Tryz.results99, go_sem, c1, B1]
theorem asWorld_tgt (w : World) : (asWorld ⟨w.heap.size, 0, none⟩ (fWorld w)).cell? ⟨w.heap.size, 0, none⟩ = some (.pointer none) := cell_alloc _ (cell_alloc _ (fWorld_cell w))
theorem asWorld_tgtf (w : World) : (asWorld ⟨w.heap.size, 0, none⟩ (fWorld w)).frozen? ⟨w.heap.size, 0, none⟩ = false := frozen_alloc _ (cell_alloc _ (fWorld_cell w)) (frozen_alloc _ (fWorld_cell w) (fWorld_frozen w))
theorem first_nil (w : World) : Calls Tryz.prog 99 #[.nilIface] w fun ev w' => ev = .returned (.pointer none) ∧ Below w.heap.size w w' :=
  first_miss _ _ ((eAs_nil _ _).mono fun _ _ ⟨he, hw⟩ => ⟨he, hw ▸ Below.refl _ _⟩)
theorem first_fault (e : Addr) (w : World) (hg : Handle w) : Calls Tryz.prog 99 #[.iface 108 (.pointer (some e))] w fun ev w' => ev = .returned (.pointer (some e)) ∧ Below w.heap.size w w' :=
  first_hit _ _ _ ((eAs_of _ _ _ true _ _ (hg.below (fWorld_below w) hg.pos) (eas_fault e _ _ _ _ (asWorld_cell _ _) (asWorld_tgt w) (asWorld_tgtf w))).mono fun _ _ ⟨he, hs⟩ => ⟨he, hs.of_below (asWorld_below _ _)⟩)
theorem first_plain (c : Int) (w : World) (hg : Handle w) : Calls Tryz.prog 99 #[.iface 100 (.int .i64 c)] w fun ev w' => ∃ b, ev = .returned (.pointer (some ⟨b, 0, none⟩)) ∧ w.heap.size ≤ b ∧ Below w.heap.size w w' ∧ w'.heap[b]? = some (.cells #[.int .i64 c, .string ⟨#[]⟩, .nilIface] 111 (0, 0)) :=
  first_newly _ c _ ((eAs_of _ _ _ true _ _ (hg.below (fWorld_below w) hg.pos) (eas_plain c _ _ _ _ (asWorld_tgt w) (asWorld_tgtf w))).mono fun _ _ ⟨he, b, hb, hs, hk⟩ => ⟨he, b, Nat.le_trans (asWorld_below _ _).size hb, hs.of_below (asWorld_below _ _), hk⟩)
theorem first_other (x : Value) (w : World) (hg : Handle w) : Calls Tryz.prog 99 #[.iface 273 x] w fun ev w' => ev = .returned (.pointer none) ∧ Below w.heap.size w w' :=
  first_miss _ _ ((eAs_of _ _ _ false _ _ (hg.below (fWorld_below w) hg.pos) (eas_other x _ _ _)).mono fun _ _ ⟨he, hs⟩ => ⟨he, (asWorld_below _ _).trans (hs.mono (asWorld_below _ _).size)⟩)
end Go.Proofs.YtlhmfgbaefaneabGreatDoor.flt
namespace Go.Proofs.YtlhmfgbaefaneabGreatDoor.flt
open Go.RowKit Go.Extern.Stop Go.Stop Go.Extern
def FaultAt (w : World) (b : Nat) (c : Int) (s : ByteArray) (e : Value) : Prop := w.heap[b]? = some (.cells #[.int .i64 c, .string s, e] 111 (0, 0))
inductive Chain (w : World) : Value → Nat → List (Nat × Int × ByteArray) → Prop
  | none (B : Nat) : Chain w .nilIface B []
  | other (a : Addr) (B : Nat) : a.block < B → Chain w (.iface 273 (.pointer (some a))) B []
  | plain (c : Int) (B : Nat) : Chain w (.iface 100 (.int .i64 c)) B []
  | link (b : Nat) (c : Int) (s : ByteArray) (e : Value) (B : Nat) (l : List (Nat × Int × ByteArray)) : FaultAt w b c s e → b < B → Chain w e b l → Chain w (.iface 108 (.pointer (some ⟨b, 0, none⟩))) B ((b, c, s) :: l)
theorem FaultAt.below {w w' : World} {B b : Nat} {c : Int} {s : ByteArray} {e : Value} (h : FaultAt w b c s e) (hb : Below B w w') (hB : b < B) : FaultAt w' b c s e := (hb.block b hB).trans h
theorem FaultAt.lt {w : World} {b : Nat} {c : Int} {s : ByteArray} {e : Value} (h : FaultAt w b c s e) : b < w.heap.size := by
  rcases Nat.lt_or_ge b w.heap.size with h' | h'
  · exact h'
  · simp [FaultAt, Array.getElem?_eq_none h'] at h
theorem FaultAt.cell0 {w : World} {b : Nat} {c : Int} {s : ByteArray} {e : Value} (h : FaultAt w b c s e) : w.cell? ⟨b, 0, none⟩ = some (.int .i64 c) := by simp [World.cell?, FaultAt] at *; simp [h]
theorem FaultAt.cell1 {w : World} {b : Nat} {c : Int} {s : ByteArray} {e : Value} (h : FaultAt w b c s e) : w.cell? ⟨b, 1, none⟩ = some (.string s) := by simp [World.cell?, FaultAt] at *; simp [h]
theorem FaultAt.cell2 {w : World} {b : Nat} {c : Int} {s : ByteArray} {e : Value} (h : FaultAt w b c s e) : w.cell? ⟨b, 2, none⟩ = some e := by simp [World.cell?, FaultAt] at *; simp [h]
theorem Chain.keep {w w' : World} {v : Value} {B B' : Nat} {l : List (Nat × Int × ByteArray)} (h : Chain w v B l) (hb : Below B' w w') (hB : B ≤ B') : Chain w' v B l := by
  induction h with
  | none B => exact .none B
  | other a B h => exact .other a B h
  | plain c B => exact .plain c B
  | link b c s e B l hf hlt _ ih => exact .link b c s e B l (hf.below hb (by omega)) hlt (ih (by omega))
theorem Chain.mono {w : World} {v : Value} {B B' : Nat} {l : List (Nat × Int × ByteArray)} (h : Chain w v B l) (hB : B ≤ B') : Chain w v B' l := by
  cases h with
  | none => exact .none _
  | other a _ h => exact .other a _ (by omega)
  | plain c => exact .plain c _
  | link b c s e _ l hf hlt hc => exact .link b c s e _ l hf (by omega) hc
theorem Of_some (c : Int) (w : World) (hc : (c == 0) = false) : Calls Tryz.prog 49 #[.int .i64 c] w fun e w' => e = .returned (.iface 100 (.int .i64 c)) ∧ w = w' := by
  go_enter Tryz.func49, Tryz.ntmps49
  go_wp2
  go_ret
  exact ⟨rfl, rfl⟩
theorem Of_none (w : World) : Calls Tryz.prog 49 #[.int .i64 0] w fun e w' => e = .returned .nilIface ∧ w = w' := by
  go_enter Tryz.func49, Tryz.ntmps49
  go_wp2
  go_ret
  exact ⟨rfl, rfl⟩
theorem New_some (c : Int) (s : ByteArray) (w : World) (hc : (c == 0) = false) : Calls Tryz.prog 196 #[.int .i64 c, .string s] w fun e w' => e = .returned (.iface 108 (.pointer (some ⟨w.heap.size, 0, none⟩))) ∧ w' = w.alloc (.cells #[.int .i64 c, .string s, .nilIface] 111) := by
  go_enter Tryz.func196, Tryz.ntmps196
  go_wp2
  go_ret
  exact ⟨rfl, rfl⟩
theorem Unwrap_some (b : Nat) (e : Value) (w : World) (h : w.cell? ⟨b, 2, none⟩ = some e) : Calls Tryz.prog 277 #[.pointer (some ⟨b, 0, none⟩)] w fun ev w' => ev = .returned e ∧ w = w' := by
  go_enter Tryz.func277, Tryz.ntmps277
  go_wp2
  go_ret
  exact ⟨rfl, rfl⟩
inductive Inner (w : World) : Value → Value → Prop
  | none : Inner w .nilIface .nilIface
  | other (x : Value) : Inner w (.iface 273 x) .nilIface
  | plain (x : Value) : Inner w (.iface 100 x) .nilIface
  | link (b : Nat) (e : Value) : w.cell? ⟨b, 2, none⟩ = some e → Inner w (.iface 108 (.pointer (some ⟨b, 0, none⟩))) e
theorem assertNil (xT : TypeId) (w : World) : (Instr.typeAssert .nilIface xT 231 true).run Tryz.prog w = .ok (.tuple #[.nilIface, .bool false]) w := by kernel_rfl
theorem eUnwrap_any (v e : Value) (w : World) (h : Inner w v e) : Calls Tryz.prog 242 #[v] w fun ev w' => ev = .returned e ∧ w = w' := by
  have aN := assertNil
  have aS := noUnS
  have aL := noUnL
  have aP := hasUnP
  have mU := methodUnwrap
  cases h
  case link b hc =>
    go_enter Tryz.func242, Tryz.ntmps242
    go_wp2
    go_ret
    exact ⟨rfl, rfl⟩
  all_goals
    go_enter Tryz.func242, Tryz.ntmps242
    go_wp2
    go_ret
    exact ⟨rfl, rfl⟩
theorem nextD_idle (p : Addr) (w : World) :
    CallsD Tryz.prog 241 #[.pointer (some p)] .returning w fun e u' w' => e = .returned (.tuple #[]) ∧ u' = .returning ∧ w = w' := by
  refine callsD_of_wpS Tryz.func241 rfl fun c₀ cs hu => ?_
  apply wpS_seq
  apply wpS_region
  simp [wpOpsS, go_sem, recoverD, hu, Tryz.ntmps241, Exit.thenS]
  refine wpS_cond (t := false) (by simp [Act.eval, Array.replicate]) ?_
  simp only [Bool.false_eq_true, if_false]
  refine wpS_of_wp (wp_skip ?_)
  cases c₀
  simp_all [bodyPostS, results, Tryz.results241]
theorem Inner.keep {w w' : World} {v e : Value} (h : Inner w v e) (hb : Below w.heap.size w w') : Inner w' v e := by
  cases h with
  | none => exact .none
  | other x => exact .other x
  | plain x => exact .plain x
  | link b e hc => exact .link b e ((hb.cell (cell_lt hc)).trans hc)
set_option maxRecDepth 100000 in
theorem next_any (v e : Value) (w : World) (h : Inner w v e) (he : e = .nilIface ∨ ∃ u x, e = .iface u x) : Calls Tryz.prog 227 #[v] w fun ev w' => ev = .returned e ∧ Below w.heap.size w w' := by
  have hmf : ∀ (fn : Fn) (first cap : Array Value) (w : World), (Instr.makeFunc fn first cap).run Tryz.prog w = .ok (.func fn first cap) w := fun _ _ _ _ => rfl
  have HU := Lib.hid (eUnwrap_any v e (w.alloc (.cells #[.nilIface] 24)) (h.keep ((Below.refl _ _).alloc (Nat.le_refl _) _)))
  clear h
  rcases he with rfl | ⟨u, x, rfl⟩
  · go_enter_defers Tryz.func227, Tryz.ntmps227
    go_wp2_with (go_at_call 242; refine (HU.out).mono ?_; rintro e' w' ⟨rfl, rfl⟩)
    refine leaves_cons (f := 241) (args := #[.pointer (some ⟨w.heap.size, 0, none⟩)]) (by simp) (by simp [go_sem]) ?_
    refine (nextD_idle ⟨w.heap.size, 0, none⟩ _).mono ?_
    rintro e' u' w'' ⟨rfl, rfl, rfl⟩
    simp [Leaves, settle, results, Tryz.results227, go_sem]
    exact (Below.refl _ _).alloc (Nat.le_refl _) _
  · go_enter_defers Tryz.func227, Tryz.ntmps227
    go_wp2_with (go_at_call 242; refine (HU.out).mono ?_; rintro e' w' ⟨rfl, rfl⟩)
    refine leaves_cons (f := 241) (args := #[.pointer (some ⟨w.heap.size, 0, none⟩)]) (by simp) (by simp [go_sem]) ?_
    refine (nextD_idle ⟨w.heap.size, 0, none⟩ _).mono ?_
    rintro e' u' w'' ⟨rfl, rfl, rfl⟩
    simp [Leaves, settle, results, Tryz.results227, go_sem]
    exact (Below.refl _ _).alloc (Nat.le_refl _) _
end Go.Proofs.YtlhmfgbaefaneabGreatDoor.flt
