/-
  errors.Is and (*Fault).Is over chains of Faults: whether a link is the target itself, or a link's own plain code is; nothing in memory turns. Conditions: each code is not 0; the comparisons of each link with the target are given as facts.
-/
import Derived.Test.YtglcmbpgnehinaaDoorWhere
import Derived.Deep.RegionWith
namespace Go.Proofs.YtglcmbpgnehinaaDoor.flt
open Go.RowKit Go.Extern.Stop Go.Stop Go.Extern

/-- 'v == target' answers r. -/
def EqAns (w : World) (v tgt : Value) (r : Bool) : Prop := (binOp .eql 27 v tgt).run Tryd.prog w = .ok (.bool r) w

/-- A type that errors.Is may compare. -/
structure Comp (u : TypeId) : Prop where
  ty : ∀ v w, (ReflectliteType.typeOf #[.iface u v]).run Tryd.prog w = .ok (.iface 77 (.agg #[.pointer (some ⟨4, u, none⟩)])) w
  cm : ∀ w, (ReflectliteType.method (fun t => do Rtype.noPackHeld "Comparable" t; (fun a => Value.bool a.comparable) <$> typeInfo t) #[.agg #[.pointer (some ⟨4, u, none⟩)]]).run Tryd.prog w = .ok (.bool true) w
theorem compPlain : Comp 64 := ⟨typeOfL, fun w => by kernel_rfl⟩
theorem compFault : Comp 40 := ⟨typeOfP, fun w => by kernel_rfl⟩
theorem compOther : Comp 47 := ⟨typeOfS, fun w => by kernel_rfl⟩

set_option maxRecDepth 100000 in
theorem eis_plain (c : Int) (u : TypeId) (x : Value) (r : Bool) (w : World) (h : EqAns w (.iface 64 (.int .i64 c)) (.iface u x) r) :
    Calls Tryd.prog 27 #[.iface 64 (.int .i64 c), .iface u x, .bool true] w fun e w' => e = .returned (.bool r) ∧ w = w' := by
  unfold EqAns at h
  have nI := noIsL
  have nU := noUnL
  have nUs := noUnsL
  cases r
  · go_enter Tryd.func27, Tryd.ntmps27
    go_wp2
    refine wp_loop_rounds 1 ?_
    rw [rounds_succ]
    go_wp2
    go_ret
    exact ⟨rfl, rfl⟩
  · go_enter Tryd.func27, Tryd.ntmps27
    go_wp2
    refine wp_loop_rounds 1 ?_
    rw [rounds_succ]
    go_wp2
    go_ret
    exact ⟨rfl, rfl⟩

set_option maxRecDepth 100000 in
theorem eIs_of (u1 : TypeId) (x1 : Value) (u : TypeId) (x : Value) (r : Bool) (w : World) (hC : Comp u)
    (h : Calls Tryd.prog 27 #[.iface u1 x1, .iface u x, .bool true] w fun e w' => e = .returned (.bool r) ∧ w = w') :
    Calls Tryd.prog 18 #[.iface u1 x1, .iface u x] w fun e w' => e = .returned (.bool r) ∧ w = w' := by
  have H := Lib.hid h
  clear h
  obtain ⟨e1, -, -, -, -, -, -, -, -, -, e11⟩ := ext
  have ty := hC.ty
  have cm := hC.cm
  have mC := methodComparable
  clear hC
  go_enter Tryd.func18, Tryd.ntmps18
  go_wp2_with (go_at_call 27; refine (H.out).mono ?_; rintro e' w' ⟨rfl, rfl⟩)
  go_ret
  exact ⟨rfl, rfl⟩

theorem eIs_plain (c : Int) (u : TypeId) (x : Value) (r : Bool) (w : World) (hC : Comp u) (h : EqAns w (.iface 64 (.int .i64 c)) (.iface u x) r) :
    Calls Tryd.prog 18 #[.iface 64 (.int .i64 c), .iface u x] w fun e w' => e = .returned (.bool r) ∧ w = w' :=
  eIs_of _ _ _ _ r w hC (eis_plain c u x r w h)

theorem FIs_nil (tgt : Value) (w : World) : Calls Tryd.prog 23 #[.pointer none, tgt] w fun e w' => e = .returned (.bool false) ∧ w = w' := by
  go_enter Tryd.func23, Tryd.ntmps23
  go_wp2
  go_ret
  exact ⟨rfl, rfl⟩

theorem FIs_any (b : Nat) (c : Int) (u : TypeId) (x : Value) (r : Bool) (w : World) (hc : w.cell? ⟨b, 0, none⟩ = some (.int .i64 c)) (h0 : (c == 0) = false) (hC : Comp u) (h : EqAns w (.iface 64 (.int .i64 c)) (.iface u x) r) :
    Calls Tryd.prog 23 #[.pointer (some ⟨b, 0, none⟩), .iface u x] w fun e w' => e = .returned (.bool r) ∧ w = w' := by
  have H1 := Lib.hid (Of_some c w h0)
  have H2 := Lib.hid (eIs_plain c u x r w hC h)
  clear h h0 hC
  go_enter Tryd.func23, Tryd.ntmps23
  go_wp2_with (first | (go_at_call 19; refine (H1.out).mono ?_; rintro e' w' ⟨rfl, rfl⟩) | (go_at_call 18; refine (H2.out).mono ?_; rintro e' w' ⟨rfl, rfl⟩))
  go_ret
  exact ⟨rfl, rfl⟩

/-- What errors.Is answers for a chain, link by link. -/
inductive IsAns (w : World) (tgt : Value) : Value → Bool → Prop
  | plain (c : Int) (r : Bool) : EqAns w (.iface 64 (.int .i64 c)) tgt r → IsAns w tgt (.iface 64 (.int .i64 c)) r
  | other (x : Value) (r : Bool) : EqAns w (.iface 47 x) tgt r → IsAns w tgt (.iface 47 x) r
  | same (b : Nat) : EqAns w (.iface 40 (.pointer (some ⟨b, 0, none⟩))) tgt true → IsAns w tgt (.iface 40 (.pointer (some ⟨b, 0, none⟩))) true
  | code (b : Nat) (c : Int) (s : ByteArray) (e : Value) : FaultAt w b c s e → (c == 0) = false → EqAns w (.iface 40 (.pointer (some ⟨b, 0, none⟩))) tgt false → EqAns w (.iface 64 (.int .i64 c)) tgt true → IsAns w tgt (.iface 40 (.pointer (some ⟨b, 0, none⟩))) true
  | last (b : Nat) (c : Int) (s : ByteArray) : FaultAt w b c s .nilIface → (c == 0) = false → EqAns w (.iface 40 (.pointer (some ⟨b, 0, none⟩))) tgt false → EqAns w (.iface 64 (.int .i64 c)) tgt false → IsAns w tgt (.iface 40 (.pointer (some ⟨b, 0, none⟩))) false
  | on (b : Nat) (c : Int) (s : ByteArray) (u : TypeId) (x : Value) (r : Bool) : FaultAt w b c s (.iface u x) → (c == 0) = false → EqAns w (.iface 40 (.pointer (some ⟨b, 0, none⟩))) tgt false → EqAns w (.iface 64 (.int .i64 c)) tgt false → errM (.iface u x) < b + 2 → IsAns w tgt (.iface u x) r → IsAns w tgt (.iface 40 (.pointer (some ⟨b, 0, none⟩))) r

set_option maxRecDepth 100000 in
set_option maxHeartbeats 4000000 in
theorem eis_ans (u : TypeId) (x v : Value) (r : Bool) (w : World) (hC : Comp u) (h : IsAns w (.iface u x) v r) :
    Calls Tryd.prog 27 #[v, .iface u x, .bool true] w fun e w' => e = .returned (.bool r) ∧ w = w' := by
  have hI := hasIsP
  have hU := hasUnP
  have mI := methodIs
  have mU := methodUnwrap
  have nIL := noIsL
  have nUL := noUnL
  have nUsL := noUnsL
  have nIS := noIsS
  have nUS := noUnS
  have nUsS := noUnsS
  have HC := Lib.hid hC
  have HH := Lib.hid h
  clear hC h
  go_enter Tryd.func27, Tryd.ntmps27
  go_wp2
  go_loopw [0] (fun v' wl => w = wl ∧ IsAns w (.iface u x) v' r) (fun v' _ => errM v')
  case atStart => exact ⟨rfl, HH.out⟩
  case round =>
    obtain ⟨rfl, hans⟩ := hrel
    clear HH
    cases hans with
    | plain c _ he =>
      unfold EqAns at he
      cases r <;> go_wp2 <;> go_ret <;> exact ⟨rfl, rfl⟩
    | other y _ he =>
      unfold EqAns at he
      cases r <;> go_wp2 <;> go_ret <;> exact ⟨rfl, rfl⟩
    | same b he =>
      unfold EqAns at he
      go_wp2
      go_ret
      exact ⟨rfl, rfl⟩
    | code b c s e hf h0 he hp =>
      have HF := Lib.hid (FIs_any b c u x true w hf.cell0 h0 HC.out hp)
      unfold EqAns at he
      clear hf h0 hp
      go_wp2_with (go_at_call 23; refine (HF.out).mono ?_; rintro e' w' ⟨rfl, rfl⟩)
      go_ret
      exact ⟨rfl, rfl⟩
    | last b c s hf h0 he hp =>
      have HF := Lib.hid (FIs_any b c u x false w hf.cell0 h0 HC.out hp)
      have HU := Lib.hid (Unwrap_some b _ w hf.cell2)
      unfold EqAns at he
      clear hf h0 hp
      go_wp2_with (first | (go_at_call 23; refine (HF.out).mono ?_; rintro e' w' ⟨rfl, rfl⟩) | (go_at_call 22; refine (HU.out).mono ?_; rintro e' w' ⟨rfl, rfl⟩))
      go_ret
      exact ⟨rfl, rfl⟩
    | on b c s u1 x1 _ hf h0 he hp hlt hr =>
      have HF := Lib.hid (FIs_any b c u x false w hf.cell0 h0 HC.out hp)
      have HU := Lib.hid (Unwrap_some b _ w hf.cell2)
      have HR := Lib.hid hr
      have HL := Lib.hid hlt
      unfold EqAns at he
      clear hf h0 hp hr hlt
      go_wp2_with (first | (go_at_call 23; refine (HF.out).mono ?_; rintro e' w' ⟨rfl, rfl⟩) | (go_at_call 22; refine (HU.out).mono ?_; rintro e' w' ⟨rfl, rfl⟩))
      go_roundw
      case rel => exact ⟨trivial, HR.out⟩
      case measure => simpa [errM] using HL.out

theorem eIs_ans (u : TypeId) (x : Value) (u1 : TypeId) (x1 : Value) (r : Bool) (w : World) (hC : Comp u) (h : IsAns w (.iface u x) (.iface u1 x1) r) :
    Calls Tryd.prog 18 #[.iface u1 x1, .iface u x] w fun e w' => e = .returned (.bool r) ∧ w = w' :=
  eIs_of _ _ _ _ r w hC (eis_ans u x _ r w hC h)
end Go.Proofs.YtglcmbpgnehinaaDoor.flt
