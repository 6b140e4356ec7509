/-
  The steps of the walks, part 17: First, Next, NatBad, IntB, IntC.
-/
import Derived.Recover
import Derived.Test.YtfpooimjjpamoaaGreatDoorS16
import Derived.Test.YtfpooimjjpamoaaGreatDoorS15
namespace Go.Proofs.YtfpooimjjpamoaaGreatDoor.flt
open Go.RowKit Go.Extern.Stop Go.Stop Go.Extern
theorem firstD_idle (p : Addr) (w : World) :
    CallsD Tryz.prog 183 #[.pointer (some p)] .returning w fun e u' w' => e = .returned (.tuple #[]) ∧ u' = .returning ∧ w = w' := by
  refine callsD_of_wpS Tryz.func183 rfl fun c₀ cs hu => ?_
  apply wpS_seq
  apply wpS_region
  simp [wpOpsS, go_sem, recoverD, hu, Tryz.ntmps183, Exit.thenS]
  refine wpS_cond (t := false) (by simp [Act.eval, Array.replicate]) ?_
  simp only [Bool.false_eq_true, if_false]
  refine wpS_of_wp (wp_skip ?_)
  cases c₀
  simp_all [bodyPostS, results, Tryz.results183]
def fWorld (w : World) : World := w.alloc (.cells #[.pointer none] 173)
theorem fWorld_below (w : World) : Below w.heap.size w (fWorld w) := (Below.refl _ _).alloc (Nat.le_refl _) _
theorem fWorld_cell (w : World) : (fWorld w).cell? ⟨w.heap.size, 0, none⟩ = some (.pointer none) := by unfold fWorld; rw [World.cell?_alloc_at _ _ _ _ rfl]; rfl
theorem fWorld_frozen (w : World) : (fWorld w).frozen? ⟨w.heap.size, 0, none⟩ = false := by simp [fWorld]
theorem setCell_cell {w : World} {a : Addr} {u : Value} (v : Value) (h : w.cell? a = some u) : (w.setCell a v).cell? a = some v := World.cell?_setCell_same' _ _ _ (by rw [h]; rfl)
theorem SetAt.cell {t : Addr} {v old : Value} {w w' : World} (h : SetAt t v w w') (ht : w.cell? t = some old) : w'.cell? t = some v := by
  obtain ⟨w1, hb, rfl⟩ := h
  have h1 : w1.cell? t = some old := (hb.cell (cell_lt ht)).trans ht
  exact setCell_cell v h1
theorem SetAt.frozen {t : Addr} {v old : Value} {w w' : World} (h : SetAt t v w w') (ht : w.cell? t = some old) (hf : w.frozen? t = false) : w'.frozen? t = false := by
  obtain ⟨w1, hb, rfl⟩ := h
  rw [World.frozen?_setCell]
  exact (hb.frozen (cell_lt ht)).trans hf
theorem SetAt.below {t : Addr} {v : Value} {w w' : World} {B : Nat} (h : SetAt t v w w') (hB : B ≤ w.heap.size) (ht : B ≤ t.block) : Below B w w' := by
  obtain ⟨w1, hb, rfl⟩ := h
  exact (hb.mono hB).setCell ht _
set_option maxRecDepth 100000 in
theorem first_hit (v : Value) (e : Addr) (w : World)
    (hA : Calls Tryz.prog 184 #[v, .iface 205 (.pointer (some ⟨w.heap.size, 0, none⟩))] (fWorld w) fun ev w' => ev = .returned (.bool true) ∧ SetAt ⟨w.heap.size, 0, none⟩ (.pointer (some e)) (fWorld w) w') :
    Calls Tryz.prog 147 #[v] w fun ev w' => ev = .returned (.pointer (some e)) ∧ Below w.heap.size w w' := by
  have hmf : ∀ (fn : Fn) (first cap : Array Value) (w : World), (Instr.makeFunc fn first cap).run Tryz.prog w = .ok (.func fn first cap) w := fun _ _ _ _ => rfl
  have HA := Lib.hid hA
  clear hA
  have F0 := Lib.hid (fWorld_cell w)
  have F1 := Lib.hid (fWorld_frozen w)
  have F2 := Lib.hid (fWorld_below w)
  unfold fWorld at HA F0 F1 F2
  go_enter_defers Tryz.func147, Tryz.ntmps147
  go_wp2_with (go_at_call 184; refine (HA.out).mono ?_; rintro e' w' ⟨rfl, hs⟩; have c0 := hs.cell F0.out; have z0 := hs.frozen F0.out F1.out; have HS := Lib.hid hs; clear hs)
  refine leaves_cons (f := 183) (args := #[.pointer (some ⟨w.heap.size, 0, none⟩)]) (by simp) (by simp [go_sem]) ?_
  refine (firstD_idle ⟨w.heap.size, 0, none⟩ _).mono ?_
  rintro e' u' w'' ⟨rfl, rfl, rfl⟩
  have c1 := setCell_cell (.pointer (some e)) c0
  have B1 : Below w.heap.size w (w'.setCell ⟨w.heap.size, 0, none⟩ (.pointer (some e))) := (F2.out.trans (SetAt.below HS.out (by simp) (Nat.le_refl _))).setCell (Nat.le_refl _) _
  simp [Leaves, settle, results, Tryz.results147, go_sem, c1, B1]
set_option maxRecDepth 100000 in
theorem first_newly (v : Value) (c : Int) (w : World)
    (hA : Calls Tryz.prog 184 #[v, .iface 205 (.pointer (some ⟨w.heap.size, 0, none⟩))] (fWorld w) fun ev w' => ev = .returned (.bool true) ∧ ∃ b, (fWorld w).heap.size ≤ b ∧ SetAt ⟨w.heap.size, 0, none⟩ (.pointer (some ⟨b, 0, none⟩)) (fWorld w) w' ∧ w'.heap[b]? = some (.cells #[.int .i64 c, .string ⟨#[]⟩, .nilIface] 176 (0, 0))) :
    Calls Tryz.prog 147 #[v] w fun ev w' => ∃ b, ev = .returned (.pointer (some ⟨b, 0, none⟩)) ∧ w.heap.size ≤ b ∧ Below w.heap.size w w' ∧ w'.heap[b]? = some (.cells #[.int .i64 c, .string ⟨#[]⟩, .nilIface] 176 (0, 0)) := by
  have hmf : ∀ (fn : Fn) (first cap : Array Value) (w : World), (Instr.makeFunc fn first cap).run Tryz.prog w = .ok (.func fn first cap) w := fun _ _ _ _ => rfl
  have HA := Lib.hid hA
  clear hA
  have F0 := Lib.hid (fWorld_cell w)
  have F1 := Lib.hid (fWorld_frozen w)
  have F2 := Lib.hid (fWorld_below w)
  unfold fWorld at HA F0 F1 F2
  go_enter_defers Tryz.func147, Tryz.ntmps147
  go_wp2_with (go_at_call 184; refine (HA.out).mono ?_; rintro e' w' ⟨rfl, b, hb, hs, hk⟩; have HK := Lib.hid hk; have HL := Lib.hid hb; clear hk hb; have c0 := hs.cell F0.out; have z0 := hs.frozen F0.out F1.out; have HS := Lib.hid hs; clear hs)
  refine leaves_cons (f := 183) (args := #[.pointer (some ⟨w.heap.size, 0, none⟩)]) (by simp) (by simp [go_sem]) ?_
  refine (firstD_idle ⟨w.heap.size, 0, none⟩ _).mono ?_
  rintro e' u' w'' ⟨rfl, rfl, rfl⟩
  have c1 := setCell_cell (.pointer (some ⟨b, 0, none⟩)) c0
  have B1 : Below w.heap.size w (w'.setCell ⟨w.heap.size, 0, none⟩ (.pointer (some ⟨b, 0, none⟩))) := (F2.out.trans (SetAt.below HS.out (by simp) (Nat.le_refl _))).setCell (Nat.le_refl _) _
  have hl : w.heap.size < b := by have := HL.out; simp at this; omega
  have K1 : (w'.setCell ⟨w.heap.size, 0, none⟩ (.pointer (some ⟨b, 0, none⟩))).heap[b]? = some (.cells #[.int .i64 c, .string ⟨#[]⟩, .nilIface] 176 (0, 0)) := by
    rw [Below.heap_setCell _ _ _ _ (by simp; omega)]; exact HK.out
  have hle : w.heap.size ≤ b := by omega
  simp [Leaves, settle, results, Tryz.results147, go_sem, c1, B1, K1, hle]
set_option maxRecDepth 100000 in
theorem first_miss (v : Value) (w : World)
    (hA : Calls Tryz.prog 184 #[v, .iface 205 (.pointer (some ⟨w.heap.size, 0, none⟩))] (fWorld w) fun ev w' => ev = .returned (.bool false) ∧ Below (fWorld w).heap.size (fWorld w) w') :
    Calls Tryz.prog 147 #[v] w fun ev w' => ev = .returned (.pointer none) ∧ Below w.heap.size w w' := by
  have hmf : ∀ (fn : Fn) (first cap : Array Value) (w : World), (Instr.makeFunc fn first cap).run Tryz.prog w = .ok (.func fn first cap) w := fun _ _ _ _ => rfl
  have HA := Lib.hid hA
  clear hA
  have F0 := Lib.hid (fWorld_cell w)
  have F1 := Lib.hid (fWorld_frozen w)
  have F2 := Lib.hid (fWorld_below w)
  unfold fWorld at HA F0 F1 F2
  go_enter_defers Tryz.func147, Tryz.ntmps147
  go_wp2_with (go_at_call 184; refine (HA.out).mono ?_; rintro e' w' ⟨rfl, hs⟩; have c0 := (hs.cell (cell_lt F0.out)).trans F0.out; have z0 := (hs.frozen (cell_lt F0.out)).trans F1.out; have HS := Lib.hid hs; clear hs)
  refine leaves_cons (f := 183) (args := #[.pointer (some ⟨w.heap.size, 0, none⟩)]) (by simp) (by simp [go_sem]) ?_
  refine (firstD_idle ⟨w.heap.size, 0, none⟩ _).mono ?_
  rintro e' u' w'' ⟨rfl, rfl, rfl⟩
  have c1 := setCell_cell (.pointer none) c0
  have B1 : Below w.heap.size w (w'.setCell ⟨w.heap.size, 0, none⟩ (.pointer none)) := (F2.out.trans (HS.out.mono (by simp))).setCell (Nat.le_refl _) _
  simp [Leaves, settle, results, Tryz.results147, go_sem, c1, B1]
theorem asWorld_tgt (w : World) : (asWorld ⟨w.heap.size, 0, none⟩ (fWorld w)).cell? ⟨w.heap.size, 0, none⟩ = some (.pointer none) := cell_alloc _ (cell_alloc _ (fWorld_cell w))
theorem asWorld_tgtf (w : World) : (asWorld ⟨w.heap.size, 0, none⟩ (fWorld w)).frozen? ⟨w.heap.size, 0, none⟩ = false := frozen_alloc _ (cell_alloc _ (fWorld_cell w)) (frozen_alloc _ (fWorld_cell w) (fWorld_frozen w))
theorem first_nil (w : World) : Calls Tryz.prog 147 #[.nilIface] w fun ev w' => ev = .returned (.pointer none) ∧ Below w.heap.size w w' :=
  first_miss _ _ ((eAs_nil _ _).mono fun _ _ ⟨he, hw⟩ => ⟨he, hw ▸ Below.refl _ _⟩)
theorem first_fault (e : Addr) (w : World) (hg : Handle w) : Calls Tryz.prog 147 #[.iface 173 (.pointer (some e))] w fun ev w' => ev = .returned (.pointer (some e)) ∧ Below w.heap.size w w' :=
  first_hit _ _ _ ((eAs_of _ _ _ true _ _ (hg.below (fWorld_below w) hg.pos) (eas_fault e _ _ _ _ (asWorld_cell _ _) (asWorld_tgt w) (asWorld_tgtf w))).mono fun _ _ ⟨he, hs⟩ => ⟨he, hs.of_below (asWorld_below _ _)⟩)
theorem first_plain (c : Int) (w : World) (hg : Handle w) : Calls Tryz.prog 147 #[.iface 171 (.int .i64 c)] w fun ev w' => ∃ b, ev = .returned (.pointer (some ⟨b, 0, none⟩)) ∧ w.heap.size ≤ b ∧ Below w.heap.size w w' ∧ w'.heap[b]? = some (.cells #[.int .i64 c, .string ⟨#[]⟩, .nilIface] 176 (0, 0)) :=
  first_newly _ c _ ((eAs_of _ _ _ true _ _ (hg.below (fWorld_below w) hg.pos) (eas_plain c _ _ _ _ (asWorld_tgt w) (asWorld_tgtf w))).mono fun _ _ ⟨he, b, hb, hs, hk⟩ => ⟨he, b, Nat.le_trans (asWorld_below _ _).size hb, hs.of_below (asWorld_below _ _), hk⟩)
theorem first_other (x : Value) (w : World) (hg : Handle w) : Calls Tryz.prog 147 #[.iface 275 x] w fun ev w' => ev = .returned (.pointer none) ∧ Below w.heap.size w w' :=
  first_miss _ _ ((eAs_of _ _ _ false _ _ (hg.below (fWorld_below w) hg.pos) (eas_other x _ _ _)).mono fun _ _ ⟨he, hs⟩ => ⟨he, (asWorld_below _ _).trans (hs.mono (asWorld_below _ _).size)⟩)
end Go.Proofs.YtfpooimjjpamoaaGreatDoor.flt
namespace Go.Proofs.YtfpooimjjpamoaaGreatDoor.flt
open Go.RowKit Go.Extern.Stop Go.Stop Go.Extern
def FaultAt (w : World) (b : Nat) (c : Int) (s : ByteArray) (e : Value) : Prop := w.heap[b]? = some (.cells #[.int .i64 c, .string s, e] 176 (0, 0))
inductive Chain (w : World) : Value → Nat → List (Nat × Int × ByteArray) → Prop
  | none (B : Nat) : Chain w .nilIface B []
  | other (a : Addr) (B : Nat) : a.block < B → Chain w (.iface 275 (.pointer (some a))) B []
  | plain (c : Int) (B : Nat) : Chain w (.iface 171 (.int .i64 c)) B []
  | link (b : Nat) (c : Int) (s : ByteArray) (e : Value) (B : Nat) (l : List (Nat × Int × ByteArray)) : FaultAt w b c s e → b < B → Chain w e b l → Chain w (.iface 173 (.pointer (some ⟨b, 0, none⟩))) B ((b, c, s) :: l)
theorem FaultAt.below {w w' : World} {B b : Nat} {c : Int} {s : ByteArray} {e : Value} (h : FaultAt w b c s e) (hb : Below B w w') (hB : b < B) : FaultAt w' b c s e := (hb.block b hB).trans h
theorem FaultAt.lt {w : World} {b : Nat} {c : Int} {s : ByteArray} {e : Value} (h : FaultAt w b c s e) : b < w.heap.size := by
  rcases Nat.lt_or_ge b w.heap.size with h' | h'
  · exact h'
  · simp [FaultAt, Array.getElem?_eq_none h'] at h
theorem FaultAt.cell0 {w : World} {b : Nat} {c : Int} {s : ByteArray} {e : Value} (h : FaultAt w b c s e) : w.cell? ⟨b, 0, none⟩ = some (.int .i64 c) := by simp [World.cell?, FaultAt] at *; simp [h]
theorem FaultAt.cell1 {w : World} {b : Nat} {c : Int} {s : ByteArray} {e : Value} (h : FaultAt w b c s e) : w.cell? ⟨b, 1, none⟩ = some (.string s) := by simp [World.cell?, FaultAt] at *; simp [h]
theorem FaultAt.cell2 {w : World} {b : Nat} {c : Int} {s : ByteArray} {e : Value} (h : FaultAt w b c s e) : w.cell? ⟨b, 2, none⟩ = some e := by simp [World.cell?, FaultAt] at *; simp [h]
theorem Chain.keep {w w' : World} {v : Value} {B B' : Nat} {l : List (Nat × Int × ByteArray)} (h : Chain w v B l) (hb : Below B' w w') (hB : B ≤ B') : Chain w' v B l := by
  induction h with
  | none B => exact .none B
  | other a B h => exact .other a B h
  | plain c B => exact .plain c B
  | link b c s e B l hf hlt _ ih => exact .link b c s e B l (hf.below hb (by omega)) hlt (ih (by omega))
theorem Chain.mono {w : World} {v : Value} {B B' : Nat} {l : List (Nat × Int × ByteArray)} (h : Chain w v B l) (hB : B ≤ B') : Chain w v B' l := by
  cases h with
  | none => exact .none _
  | other a _ h => exact .other a _ (by omega)
  | plain c => exact .plain c _
  | link b c s e _ l hf hlt hc => exact .link b c s e _ l hf (by omega) hc
theorem Of_some (c : Int) (w : World) (hc : (c == 0) = false) : Calls Tryz.prog 103 #[.int .i64 c] w fun e w' => e = .returned (.iface 171 (.int .i64 c)) ∧ w = w' := by
  go_enter Tryz.func103, Tryz.ntmps103
  go_wp2
  go_ret
  exact ⟨rfl, rfl⟩
theorem Of_none (w : World) : Calls Tryz.prog 103 #[.int .i64 0] w fun e w' => e = .returned .nilIface ∧ w = w' := by
  go_enter Tryz.func103, Tryz.ntmps103
  go_wp2
  go_ret
  exact ⟨rfl, rfl⟩
theorem New_some (c : Int) (s : ByteArray) (w : World) (hc : (c == 0) = false) : Calls Tryz.prog 179 #[.int .i64 c, .string s] w fun e w' => e = .returned (.iface 173 (.pointer (some ⟨w.heap.size, 0, none⟩))) ∧ w' = w.alloc (.cells #[.int .i64 c, .string s, .nilIface] 176) := by
  go_enter Tryz.func179, Tryz.ntmps179
  go_wp2
  go_ret
  exact ⟨rfl, rfl⟩
theorem Unwrap_some (b : Nat) (e : Value) (w : World) (h : w.cell? ⟨b, 2, none⟩ = some e) : Calls Tryz.prog 269 #[.pointer (some ⟨b, 0, none⟩)] w fun ev w' => ev = .returned e ∧ w = w' := by
  go_enter Tryz.func269, Tryz.ntmps269
  go_wp2
  go_ret
  exact ⟨rfl, rfl⟩
inductive Inner (w : World) : Value → Value → Prop
  | none : Inner w .nilIface .nilIface
  | other (x : Value) : Inner w (.iface 275 x) .nilIface
  | plain (x : Value) : Inner w (.iface 171 x) .nilIface
  | link (b : Nat) (e : Value) : w.cell? ⟨b, 2, none⟩ = some e → Inner w (.iface 173 (.pointer (some ⟨b, 0, none⟩))) e
theorem assertNil (xT : TypeId) (w : World) : (Instr.typeAssert .nilIface xT 256 true).run Tryz.prog w = .ok (.tuple #[.nilIface, .bool false]) w := by kernel_rfl
theorem eUnwrap_any (v e : Value) (w : World) (h : Inner w v e) : Calls Tryz.prog 224 #[v] w fun ev w' => ev = .returned e ∧ w = w' := by
  have aN := assertNil
  have aS := noUnS
  have aL := noUnL
  have aP := hasUnP
  have mU := methodUnwrap
  cases h
  case link b hc =>
    go_enter Tryz.func224, Tryz.ntmps224
    go_wp2
    go_ret
    exact ⟨rfl, rfl⟩
  all_goals
    go_enter Tryz.func224, Tryz.ntmps224
    go_wp2
    go_ret
    exact ⟨rfl, rfl⟩
theorem nextD_idle (p : Addr) (w : World) :
    CallsD Tryz.prog 223 #[.pointer (some p)] .returning w fun e u' w' => e = .returned (.tuple #[]) ∧ u' = .returning ∧ w = w' := by
  refine callsD_of_wpS Tryz.func223 rfl fun c₀ cs hu => ?_
  apply wpS_seq
  apply wpS_region
  simp [wpOpsS, go_sem, recoverD, hu, Tryz.ntmps223, Exit.thenS]
  refine wpS_cond (t := false) (by simp [Act.eval, Array.replicate]) ?_
  simp only [Bool.false_eq_true, if_false]
  refine wpS_of_wp (wp_skip ?_)
  cases c₀
  simp_all [bodyPostS, results, Tryz.results223]
theorem Inner.keep {w w' : World} {v e : Value} (h : Inner w v e) (hb : Below w.heap.size w w') : Inner w' v e := by
  cases h with
  | none => exact .none
  | other x => exact .other x
  | plain x => exact .plain x
  | link b e hc => exact .link b e ((hb.cell (cell_lt hc)).trans hc)
set_option maxRecDepth 100000 in
theorem next_any (v e : Value) (w : World) (h : Inner w v e) (he : e = .nilIface ∨ ∃ u x, e = .iface u x) : Calls Tryz.prog 205 #[v] w fun ev w' => ev = .returned e ∧ Below w.heap.size w w' := by
  have hmf : ∀ (fn : Fn) (first cap : Array Value) (w : World), (Instr.makeFunc fn first cap).run Tryz.prog w = .ok (.func fn first cap) w := fun _ _ _ _ => rfl
  have HU := Lib.hid (eUnwrap_any v e (w.alloc (.cells #[.nilIface] 29)) (h.keep ((Below.refl _ _).alloc (Nat.le_refl _) _)))
  clear h
  rcases he with rfl | ⟨u, x, rfl⟩
  · go_enter_defers Tryz.func205, Tryz.ntmps205
    go_wp2_with (go_at_call 224; refine (HU.out).mono ?_; rintro e' w' ⟨rfl, rfl⟩)
    refine leaves_cons (f := 223) (args := #[.pointer (some ⟨w.heap.size, 0, none⟩)]) (by simp) (by simp [go_sem]) ?_
    refine (nextD_idle ⟨w.heap.size, 0, none⟩ _).mono ?_
    rintro e' u' w'' ⟨rfl, rfl, rfl⟩
    simp [Leaves, settle, results, Tryz.results205, go_sem]
    exact (Below.refl _ _).alloc (Nat.le_refl _) _
  · go_enter_defers Tryz.func205, Tryz.ntmps205
    go_wp2_with (go_at_call 224; refine (HU.out).mono ?_; rintro e' w' ⟨rfl, rfl⟩)
    refine leaves_cons (f := 223) (args := #[.pointer (some ⟨w.heap.size, 0, none⟩)]) (by simp) (by simp [go_sem]) ?_
    refine (nextD_idle ⟨w.heap.size, 0, none⟩ _).mono ?_
    rintro e' u' w'' ⟨rfl, rfl, rfl⟩
    simp [Leaves, settle, results, Tryz.results205, go_sem]
    exact (Below.refl _ _).alloc (Nat.le_refl _) _
end Go.Proofs.YtfpooimjjpamoaaGreatDoor.flt
namespace Go.Proofs.YtfpooimjjpamoaaGreatDoor.nat
open Go.RowKit
open Go.Proofs.YtfpooimjjpamoaaGreatDoor.ref (str str_size Numeral)
def errOf (c : Int) : Value := .iface 171 (.int .i64 c)
def JustErr (c : Int) (w : World) (v : Value) (w' : World) : Prop := v = errOf c ∧ w = w'
theorem ofC_code (c : Int) (hc : (c == 0) = false) : OfC c (JustErr c) := fun w => by
  refine (flt.Of_some c w hc).mono ?_
  rintro e w' ⟨rfl, rfl⟩
  exact ⟨_, rfl, rfl, rfl⟩
theorem Get_none (l : List UInt8) (w : World) (h : ¬ Numeral l) (hl : l.length ≤ 4611686018427387904) :
    Calls Tryz.prog 44 #[.string (str l)] w fun e w' => e = .returned (.tuple #[.pointer none, errOf 1]) ∧ w = w' := by
  refine (Get_bad (ofC_code 1 rfl) l w h hl).mono ?_
  rintro e w' ⟨v, rfl, rfl, rfl⟩
  exact ⟨rfl, rfl⟩
theorem Sub_none (a b : Value) (X Y : Nat) (w : World) (ha : IsN w a X) (hb : IsN w b Y) (hlt : X < Y) (hx : (digs X).length ≤ 900000) (hy : (digs Y).length ≤ 900000) :
    Calls Tryz.prog 27 #[a, b] w fun e w' => e = .returned (.tuple #[.pointer none, errOf 2]) ∧ ∃ m, w' = w.drewN m := by
  refine (Sub_bad (ofC_code 2 rfl) a b X Y w ha hb hlt hx hy).mono ?_
  rintro e w' ⟨v, m, rfl, rfl, rfl⟩
  exact ⟨rfl, m, rfl⟩
theorem Div_none (a b : Value) (w : World) (hb : IsN w b 0) :
    Calls Tryz.prog 33 #[a, b] w fun e w' => e = .returned (.tuple #[.pointer none, .pointer none, errOf 3]) ∧ w = w' := by
  refine (Div_bad (ofC_code 3 rfl) a b w hb).mono ?_
  rintro e w' ⟨v, rfl, rfl, rfl⟩
  exact ⟨rfl, rfl⟩
end Go.Proofs.YtfpooimjjpamoaaGreatDoor.nat
namespace Go.Proofs.YtfpooimjjpamoaaGreatDoor.num
open Go.RowKit Go.Proofs.YtfpooimjjpamoaaGreatDoor.nat
theorem sgn_add {z y : Int} (h : decide (z < 0) = decide (y < 0)) : sgn (decide (z < 0)) (z.natAbs + y.natAbs) = z + y := by
  unfold sgn
  by_cases h1 : z < 0 <;> by_cases h2 : y < 0 <;> simp [h1, h2] at h ⊢ <;> omega
theorem sgn_sub1 {z y : Int} (h : decide (z < 0) ≠ decide (y < 0)) (hle : y.natAbs ≤ z.natAbs) : sgn (decide (z < 0)) (z.natAbs - y.natAbs) = z + y := by
  unfold sgn
  by_cases h1 : z < 0 <;> by_cases h2 : y < 0 <;> simp [h1, h2] at h ⊢ <;> omega
theorem sgn_sub2 {z y : Int} (h : decide (z < 0) ≠ decide (y < 0)) (hlt : z.natAbs < y.natAbs) : sgn (decide (y < 0)) (y.natAbs - z.natAbs) = z + y := by
  unfold sgn
  by_cases h1 : z < 0 <;> by_cases h2 : y < 0 <;> simp [h1, h2] at h ⊢ <;> omega
set_option maxRecDepth 100000 in
set_option maxHeartbeats 2000000 in
theorem Add_same (a b : Value) (z y : Int) (w : World) (ha : IsZ w a z) (hb : IsZ w b y) (hx : (digs z.natAbs).length ≤ 800000) (hy : (digs y.natAbs).length ≤ 800000) (hs : decide (z < 0) = decide (y < 0)) :
    Calls Tryz.prog 55 #[a, b] w fun e w' => ∃ u, e = .returned u ∧ (IsZ w' u (z + y) ∧ u ≠ .pointer none) ∧ Below w.heap.size w w' := by
  have B1 := isBelow_any a z w ha
  have B2 := isBelow_any b y w hb
  have A1 := Lib.hid (amount_any a z w ha)
  have A2 := Lib.hid (amount_any b y w hb)
  have M := Lib.hid (fun na nb h1 h2 => nat.Add_any na nb z.natAbs y.natAbs w h1 h2 (by omega) (by omega))
  have N := fun (w' : World) nv hn => New_any (decide (z < 0)) nv (z.natAbs + y.natAbs) w' hn
  rw [sgn_add hs] at N
  rw [← hs] at B2
  clear ha hb hs
  generalize decide (z < 0) = b1 at *
  have HB1 := Lib.hid B1
  have HB2 := Lib.hid B2
  have HN := Lib.hid N
  have hbb : (b1 == b1) = true := by simp
  clear B1 B2 N
  go_enter Tryz.func55, Tryz.ntmps55
  go_wp2_with (first
    | (go_at_call 123; (with_reducible refine (HB1.out).mono ?_); rintro e w1 ⟨rfl, rfl⟩)
    | (go_at_call 123; (with_reducible refine (HB2.out).mono ?_); rintro e w1 ⟨rfl, rfl⟩)
    | (go_at_call 122; (with_reducible refine (A1.out).mono ?_); rintro e w1 ⟨na, rfl, hn, rfl⟩; have HN1 := Lib.hid hn; clear A1 hn)
    | (go_at_call 122; (with_reducible refine (A2.out).mono ?_); rintro e w1 ⟨nb, rfl, hn, rfl⟩; have HN2 := Lib.hid hn; clear A2 hn)
    | (go_at_call 35; (with_reducible refine (M.out _ _ HN1.out HN2.out).mono ?_); rintro e w2 ⟨m, rfl, ⟨hm, -⟩, hb2⟩; have HM := Lib.hid hm; have HBl := Lib.hid hb2; clear M hm hb2)
    | (go_at_call 97; (with_reducible refine (HN.out _ _ HM.out).mono ?_); rintro e w3 ⟨u, rfl, hu, hb⟩; have HU := Lib.hid hu; have HB := Lib.hid (HBl.out.trans (hb.mono HBl.out.size)); clear hu hb))
  go_ret
  exact ⟨_, rfl, HU.out, HB.out⟩
set_option maxRecDepth 100000 in
set_option maxHeartbeats 2000000 in
theorem Add_more (a b : Value) (z y : Int) (w : World) (ha : IsZ w a z) (hb : IsZ w b y) (hx : (digs z.natAbs).length ≤ 800000) (hs : decide (z < 0) ≠ decide (y < 0)) (hle : y.natAbs ≤ z.natAbs) :
    Calls Tryz.prog 55 #[a, b] w fun e w' => ∃ u, e = .returned u ∧ (IsZ w' u (z + y) ∧ u ≠ .pointer none) ∧ Below w.heap.size w w' := by
  have B1 := fun w' (h : Below w.heap.size w w') => isBelow_any a z w' (ha.below h)
  have B2 := isBelow_any b y w hb
  have A1 := Lib.hid (amount_any a z w ha)
  have A2 := Lib.hid (amount_any b y w hb)
  have M := Lib.hid (fun na nb h1 h2 => nat.Sub_ok na nb z.natAbs y.natAbs w h1 h2 hle (by omega))
  have N := fun (w' : World) nv hn => New_any (decide (z < 0)) nv (z.natAbs - y.natAbs) w' hn
  rw [sgn_sub1 hs hle] at N
  clear ha hb hle
  generalize decide (z < 0) = b1 at *
  generalize decide (y < 0) = b2 at *
  have HB1 := Lib.hid B1
  have HB2 := Lib.hid B2
  have HN := Lib.hid N
  have hbb : (b1 == b2) = false := by simp [hs]
  clear B1 B2 N hs
  go_enter Tryz.func55, Tryz.ntmps55
  go_wp2_with (first
    | (go_at_call 123; (with_reducible refine (HB1.out _ (Below.refl _ _)).mono ?_); rintro e w1 ⟨rfl, rfl⟩)
    | (go_at_call 123; (with_reducible refine (HB2.out).mono ?_); rintro e w1 ⟨rfl, rfl⟩; clear HB2)
    | (go_at_call 122; (with_reducible refine (A1.out).mono ?_); rintro e w1 ⟨na, rfl, hn, rfl⟩; have HN1 := Lib.hid hn; clear A1 hn)
    | (go_at_call 122; (with_reducible refine (A2.out).mono ?_); rintro e w1 ⟨nb, rfl, hn, rfl⟩; have HN2 := Lib.hid hn; clear A2 hn)
    | (go_at_call 27; (with_reducible refine (M.out _ _ HN1.out HN2.out).mono ?_); rintro e w2 ⟨m, rfl, ⟨hm, -⟩, hb2⟩; have HM := Lib.hid hm; have HBl := Lib.hid hb2; clear M hm hb2)
    | (go_at_call 123; (with_reducible refine (HB1.out _ HBl.out).mono ?_); rintro e w1 ⟨rfl, rfl⟩)
    | (go_at_call 97; (with_reducible refine (HN.out _ _ HM.out).mono ?_); rintro e w3 ⟨u, rfl, hu, hb⟩; have HU := Lib.hid hu; have HB := Lib.hid (HBl.out.trans (hb.mono HBl.out.size)); clear hu hb))
  go_ret
  exact ⟨_, rfl, HU.out, HB.out⟩
set_option maxRecDepth 100000 in
set_option maxHeartbeats 2000000 in
theorem Add_less (a b : Value) (z y : Int) (w : World) (ha : IsZ w a z) (hb : IsZ w b y) (hx : (digs z.natAbs).length ≤ 800000) (hy : (digs y.natAbs).length ≤ 800000) (hs : decide (z < 0) ≠ decide (y < 0)) (hlt : z.natAbs < y.natAbs) :
    Calls Tryz.prog 55 #[a, b] w fun e w' => ∃ u, e = .returned u ∧ (IsZ w' u (z + y) ∧ u ≠ .pointer none) ∧ Below w.heap.size w w' := by
  have B1 := isBelow_any a z w ha
  have B2 := fun w' (h : Below w.heap.size w w') => isBelow_any b y w' (hb.below h)
  have A1 := Lib.hid (fun w' (h : Below w.heap.size w w') => amount_any a z w' (ha.below h))
  have A2 := Lib.hid (fun w' (h : Below w.heap.size w w') => amount_any b y w' (hb.below h))
  have M1 := Lib.hid (fun na nb h1 h2 => nat.Sub_none na nb z.natAbs y.natAbs w h1 h2 hlt (by omega) (by omega))
  have M2 := Lib.hid (fun (w' : World) na nb h1 h2 => nat.Sub_ok nb na y.natAbs z.natAbs w' h2 h1 (by omega) (by omega))
  have N := fun (w' : World) nv hn => New_any (decide (y < 0)) nv (y.natAbs - z.natAbs) w' hn
  rw [sgn_sub2 hs hlt] at N
  clear ha hb hlt
  generalize decide (z < 0) = b1 at *
  generalize decide (y < 0) = b2 at *
  have HB1 := Lib.hid B1
  have HB2 := Lib.hid B2
  have HN := Lib.hid N
  have hbb : (b1 == b2) = false := by simp [hs]
  clear B1 B2 N hs
  unfold errOf at M1
  go_enter Tryz.func55, Tryz.ntmps55
  go_wp2_with (first
    | (go_at_call 123; (with_reducible refine (HB1.out).mono ?_); rintro e w1 ⟨rfl, rfl⟩)
    | (go_at_call 123; (with_reducible refine (HB2.out _ (Below.refl _ _)).mono ?_); rintro e w1 ⟨rfl, rfl⟩)
    | (go_at_call 122; (with_reducible refine (A1.out _ (Below.refl _ _)).mono ?_); rintro e w1 ⟨na, rfl, hn, rfl⟩; have HN1 := Lib.hid hn; clear hn)
    | (go_at_call 122; (with_reducible refine (A2.out _ (Below.refl _ _)).mono ?_); rintro e w1 ⟨nb, rfl, hn, rfl⟩; have HN2 := Lib.hid hn; clear hn)
    | (go_at_call 27; (with_reducible refine (M1.out _ _ HN1.out HN2.out).mono ?_); rintro e w2 ⟨rfl, m, rfl⟩; clear M1 HN1 HN2)
    | (go_at_call 122; (with_reducible refine (A2.out _ (drew_below w m)).mono ?_); rintro e w1 ⟨nb, rfl, hn, rfl⟩; have HN4 := Lib.hid hn; clear A2 hn)
    | (go_at_call 122; (with_reducible refine (A1.out _ (drew_below w m)).mono ?_); rintro e w1 ⟨na, rfl, hn, rfl⟩; have HN3 := Lib.hid hn; clear A1 hn)
    | (go_at_call 27; (with_reducible refine (M2.out _ _ _ HN3.out HN4.out).mono ?_); rintro e w2 ⟨r, rfl, ⟨hm, -⟩, hb2⟩; have HM := Lib.hid hm; have HBl := Lib.hid ((drew_below w m).trans hb2); clear M2 hm hb2)
    | (go_at_call 123; (with_reducible refine (HB2.out _ HBl.out).mono ?_); rintro e w1 ⟨rfl, rfl⟩)
    | (go_at_call 97; (with_reducible refine (HN.out _ _ HM.out).mono ?_); rintro e w3 ⟨u, rfl, hu, hb⟩; have HU := Lib.hid hu; have HB := Lib.hid (HBl.out.trans (hb.mono HBl.out.size)); clear hu hb))
  go_ret
  exact ⟨_, rfl, HU.out, HB.out⟩
theorem Add_any (a b : Value) (z y : Int) (w : World) (ha : IsZ w a z) (hb : IsZ w b y) (hx : (digs z.natAbs).length ≤ 800000) (hy : (digs y.natAbs).length ≤ 800000) :
    Calls Tryz.prog 55 #[a, b] w fun e w' => ∃ u, e = .returned u ∧ (IsZ w' u (z + y) ∧ u ≠ .pointer none) ∧ Below w.heap.size w w' := by
  by_cases hs : decide (z < 0) = decide (y < 0)
  · exact Add_same a b z y w ha hb hx hy hs
  · rcases Nat.lt_or_ge z.natAbs y.natAbs with h | h
    · exact Add_less a b z y w ha hb hx hy hs h
    · exact Add_more a b z y w ha hb hx hs h
set_option maxRecDepth 100000 in
theorem Sub_any (a b : Value) (z y : Int) (w : World) (ha : IsZ w a z) (hb : IsZ w b y) (hx : (digs z.natAbs).length ≤ 800000) (hy : (digs y.natAbs).length ≤ 800000) :
    Calls Tryz.prog 61 #[a, b] w fun e w' => ∃ u, e = .returned u ∧ (IsZ w' u (z - y) ∧ u ≠ .pointer none) ∧ Below w.heap.size w w' := by
  have G := Lib.hid (Neg_any b y w hb)
  have M := Lib.hid (fun (w' : World) (hl : Below w.heap.size w w') c hc => Add_any a c z (-y) w' (ha.below hl) hc hx (by rw [Int.natAbs_neg]; exact hy))
  rw [← Int.sub_eq_add_neg] at M
  clear ha hb
  go_enter Tryz.func61, Tryz.ntmps61
  go_wp2_with (first
    | (go_at_call 65; (with_reducible refine (G.out).mono ?_); rintro e w2 ⟨c, rfl, ⟨hc, -⟩, hb2⟩; have HC := Lib.hid hc; have HBl := Lib.hid hb2; clear G hc hb2)
    | (go_at_call 55; (with_reducible refine (M.out _ HBl.out _ HC.out).mono ?_); rintro e w3 ⟨u, rfl, hu, hb⟩; have HU := Lib.hid hu; have HB := Lib.hid (HBl.out.trans (hb.mono HBl.out.size)); clear hu hb))
  go_ret
  exact ⟨_, rfl, HU.out, HB.out⟩
end Go.Proofs.YtfpooimjjpamoaaGreatDoor.num
namespace Go.Proofs.YtfpooimjjpamoaaGreatDoor.num
open Go.RowKit Go.Proofs.YtfpooimjjpamoaaGreatDoor.nat
theorem cmp_signs {z y : Int} (h : sg z ≠ sg y) : cmp3 (sg z) (sg y) = cmp3 z y := by
  unfold sg cmp3 at *
  (repeat' split at h) <;> (repeat' split) <;> omega
theorem cmp_low {z y : Int} (h : sg z = sg y) (h1 : z < 0) : cmp3 (y.natAbs : Nat) (z.natAbs : Nat) = cmp3 z y := by
  unfold sg cmp3 at *
  (repeat' split at h) <;> (repeat' split) <;> omega
theorem cmp_high {z y : Int} (h : sg z = sg y) (h1 : ¬ z < 0) : cmp3 (z.natAbs : Nat) (y.natAbs : Nat) = cmp3 z y := by
  unfold sg cmp3 at *
  (repeat' split at h) <;> (repeat' split) <;> omega
set_option maxRecDepth 100000 in
set_option maxHeartbeats 2000000 in
theorem Cmp_any (a b : Value) (z y : Int) (w : World) (ha : IsZ w a z) (hb : IsZ w b y) (hx : (digs z.natAbs).length ≤ 800000) (hy : (digs y.natAbs).length ≤ 800000) :
    Calls Tryz.prog 56 #[a, b] w fun e w' => e = .returned (.int .i64 (cmp3 z y)) ∧ ∃ m, w' = w.drewN m := by
  have S1 := Lib.hid (Sign_any a z w ha)
  have S2 := Lib.hid (Sign_any b y w hb)
  by_cases hs : sg z = sg y
  · have B1 := isBelow_any a z w ha
    have A1 := Lib.hid (amount_any a z w ha)
    have A2 := Lib.hid (amount_any b y w hb)
    have hee : (sg z == sg y) = true := by simp [hs]
    by_cases hz : z < 0
    · have C := Lib.hid (fun na nb h1 h2 => nat.Cmp_any nb na y.natAbs z.natAbs w h2 h1 (by omega) (by omega))
      rw [cmp_low hs hz] at C
      rw [decide_eq_true hz] at B1
      have HB1 := Lib.hid B1
      clear ha hb B1 hz
      generalize sg z = s1 at *
      generalize sg y = s2 at *
      subst hs
      go_enter Tryz.func56, Tryz.ntmps56
      go_wp2_with (first
        | (go_at_call 67; (with_reducible refine (S1.out).mono ?_); rintro e w1 ⟨rfl, rfl⟩)
        | (go_at_call 67; (with_reducible refine (S2.out).mono ?_); rintro e w1 ⟨rfl, rfl⟩)
        | (go_at_call 123; (with_reducible refine (HB1.out).mono ?_); rintro e w1 ⟨rfl, rfl⟩)
        | (go_at_call 122; (with_reducible refine (A1.out).mono ?_); rintro e w1 ⟨na, rfl, hn, rfl⟩; have HN1 := Lib.hid hn; clear A1 hn)
        | (go_at_call 122; (with_reducible refine (A2.out).mono ?_); rintro e w1 ⟨nb, rfl, hn, rfl⟩; have HN2 := Lib.hid hn; clear A2 hn)
        | (go_at_call 39; (with_reducible refine (C.out _ _ HN1.out HN2.out).mono ?_); rintro e w2 ⟨rfl, m, rfl⟩; clear C))
      go_ret
      exact ⟨rfl, m, rfl⟩
    · have C := Lib.hid (fun na nb h1 h2 => nat.Cmp_any na nb z.natAbs y.natAbs w h1 h2 (by omega) (by omega))
      rw [cmp_high hs hz] at C
      rw [decide_eq_false hz] at B1
      have HB1 := Lib.hid B1
      clear ha hb B1 hz
      generalize sg z = s1 at *
      generalize sg y = s2 at *
      subst hs
      go_enter Tryz.func56, Tryz.ntmps56
      go_wp2_with (first
        | (go_at_call 67; (with_reducible refine (S1.out).mono ?_); rintro e w1 ⟨rfl, rfl⟩)
        | (go_at_call 67; (with_reducible refine (S2.out).mono ?_); rintro e w1 ⟨rfl, rfl⟩)
        | (go_at_call 123; (with_reducible refine (HB1.out).mono ?_); rintro e w1 ⟨rfl, rfl⟩)
        | (go_at_call 122; (with_reducible refine (A1.out).mono ?_); rintro e w1 ⟨na, rfl, hn, rfl⟩; have HN1 := Lib.hid hn; clear A1 hn)
        | (go_at_call 122; (with_reducible refine (A2.out).mono ?_); rintro e w1 ⟨nb, rfl, hn, rfl⟩; have HN2 := Lib.hid hn; clear A2 hn)
        | (go_at_call 39; (with_reducible refine (C.out _ _ HN1.out HN2.out).mono ?_); rintro e w2 ⟨rfl, m, rfl⟩; clear C))
      go_ret
      exact ⟨rfl, m, rfl⟩
  · have hee : (sg z == sg y) = false := by simp [hs]
    rw [← cmp_signs hs]
    clear ha hb
    generalize sg z = s1 at *
    generalize sg y = s2 at *
    have C := Lib.hid (CmpI_any s1 s2 w)
    clear hs
    go_enter Tryz.func56, Tryz.ntmps56
    go_wp2_with (first
      | (go_at_call 67; (with_reducible refine (S1.out).mono ?_); rintro e w1 ⟨rfl, rfl⟩)
      | (go_at_call 67; (with_reducible refine (S2.out).mono ?_); rintro e w1 ⟨rfl, rfl⟩)
      | (go_at_call 124; (with_reducible refine (C.out).mono ?_); rintro e w1 ⟨rfl, rfl⟩))
    go_ret
    exact ⟨rfl, 0, rfl⟩
set_option maxRecDepth 100000 in
theorem Of_any (z : Int) (w : World) (h1 : -9223372036854775808 ≤ z) (h2 : z < 9223372036854775808) :
    Calls Tryz.prog 57 #[.int .i64 z] w fun e w' => ∃ u, e = .returned u ∧ (IsZ w' u z ∧ u ≠ .pointer none) ∧ Below w.heap.size w w' := by
  have O := Lib.hid (nat.Of_any z.natAbs w (by omega))
  by_cases h0 : z < 0
  · have N := Lib.hid (fun (w' : World) nv hn => New_any true nv z.natAbs w' hn)
    rw [show sgn true z.natAbs = z by unfold sgn; simp; omega] at N
    have e1 : ((z.natAbs : Nat) : Int) = -z := by omega
    have e2 : IntKind.u64.wrap (-IntKind.u64.wrap z) = -z := by rw [IntKind.wrap_u64, IntKind.wrap_u64]; omega
    rw [e1] at O
    go_enter Tryz.func57, Tryz.ntmps57
    go_wp2_with (first
      | (go_at_call 46; (with_reducible refine (O.out).mono ?_); rintro e w2 ⟨m, rfl, ⟨hm, -⟩, hb2⟩; have HM := Lib.hid hm; have HBl := Lib.hid hb2; clear O hm hb2)
      | (go_at_call 97; (with_reducible refine (N.out _ _ HM.out).mono ?_); rintro e w3 ⟨u, rfl, hu, hb⟩; have HU := Lib.hid hu; have HB := Lib.hid (HBl.out.trans (hb.mono HBl.out.size)); clear hu hb))
    go_ret
    exact ⟨_, rfl, HU.out, HB.out⟩
  · have N := Lib.hid (fun (w' : World) nv hn => New_any false nv z.natAbs w' hn)
    rw [show sgn false z.natAbs = z by unfold sgn; simp; omega] at N
    have e1 : ((z.natAbs : Nat) : Int) = z := by omega
    rw [e1] at O
    go_enter Tryz.func57, Tryz.ntmps57
    go_wp2_with (first
      | (go_at_call 46; (with_reducible refine (O.out).mono ?_); rintro e w2 ⟨m, rfl, ⟨hm, -⟩, hb2⟩; have HM := Lib.hid hm; have HBl := Lib.hid hb2; clear O hm hb2)
      | (go_at_call 97; (with_reducible refine (N.out _ _ HM.out).mono ?_); rintro e w3 ⟨u, rfl, hu, hb⟩; have HU := Lib.hid hu; have HB := Lib.hid (HBl.out.trans (hb.mono HBl.out.size)); clear hu hb))
    go_ret
    exact ⟨_, rfl, HU.out, HB.out⟩
end Go.Proofs.YtfpooimjjpamoaaGreatDoor.num
