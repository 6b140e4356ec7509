/-
  The steps of the walks, part 40: Is, Join, Begun, Law2Begun, Law6Begun.
-/
import Derived.Deep.RegionWith
import Derived.Laws.MakeOwn
import Derived.Lib.Builder
import Derived.Test.YtlhmfgbaefaneabGreatDoorB39
import Derived.Test.YtlhmfgbaefaneabGreatDoorB37
import Derived.Test.YtlhmfgbaefaneabGreatDoorB32
import Derived.Test.YtlhmfgbaefaneabGreatDoorB33
namespace Go.Proofs.YtlhmfgbaefaneabGreatDoor.flt
open Go.RowKit Go.Extern.Stop Go.Stop Go.Extern
def EqAns (w : World) (v tgt : Value) (r : Bool) : Prop := (binOp .eql 24 v tgt).run Tryz.prog w = .ok (.bool r) w
structure Comp (u : TypeId) : Prop where
  ty : ∀ v w, (ReflectliteType.typeOf #[.iface u v]).run Tryz.prog w = .ok (.iface 223 (.agg #[.pointer (some ⟨10, u, none⟩)])) w
  cm : ∀ w, (ReflectliteType.method (fun t => do Rtype.noPackHeld "Comparable" t; (fun a => Value.bool a.comparable) <$> typeInfo t) #[.agg #[.pointer (some ⟨10, u, none⟩)]]).run Tryz.prog w = .ok (.bool true) w
theorem compPlain : Comp 100 := ⟨typeOfL, fun w => by kernel_rfl⟩
set_option maxRecDepth 100000 in
theorem eis_plain (c : Int) (u : TypeId) (x : Value) (r : Bool) (w : World) (h : EqAns w (.iface 100 (.int .i64 c)) (.iface u x) r) :
    Calls Tryz.prog 228 #[.iface 100 (.int .i64 c), .iface u x, .bool true] w fun e w' => e = .returned (.bool r) ∧ w = w' := by
  unfold EqAns at h
  have nI := noIsL
  have nU := noUnL
  have nUs := noUnsL
  cases r
  · go_enter Tryz.func228, Tryz.ntmps228
    go_wp2
    refine wp_loop_rounds 1 ?_
    rw [rounds_succ]
    go_wp2
    go_ret
    exact ⟨rfl, rfl⟩
  · go_enter Tryz.func228, Tryz.ntmps228
    go_wp2
    refine wp_loop_rounds 1 ?_
    rw [rounds_succ]
    go_wp2
    go_ret
    exact ⟨rfl, rfl⟩
set_option maxRecDepth 100000 in
theorem eIs_of (u1 : TypeId) (x1 : Value) (u : TypeId) (x : Value) (r : Bool) (w : World) (hC : Comp u)
    (h : Calls Tryz.prog 228 #[.iface u1 x1, .iface u x, .bool true] w fun e w' => e = .returned (.bool r) ∧ w = w') :
    Calls Tryz.prog 198 #[.iface u1 x1, .iface u x] w fun e w' => e = .returned (.bool r) ∧ w = w' := by
  have H := Lib.hid h
  clear h
  obtain ⟨e1, -, -, -, -, -, -, -, -, -, e11⟩ := ext
  have ty := hC.ty
  have cm := hC.cm
  have mC := methodComparable
  clear hC
  go_enter Tryz.func198, Tryz.ntmps198
  go_wp2_with (go_at_call 228; refine (H.out).mono ?_; rintro e' w' ⟨rfl, rfl⟩)
  go_ret
  exact ⟨rfl, rfl⟩
theorem eIs_plain (c : Int) (u : TypeId) (x : Value) (r : Bool) (w : World) (hC : Comp u) (h : EqAns w (.iface 100 (.int .i64 c)) (.iface u x) r) :
    Calls Tryz.prog 198 #[.iface 100 (.int .i64 c), .iface u x] w fun e w' => e = .returned (.bool r) ∧ w = w' :=
  eIs_of _ _ _ _ r w hC (eis_plain c u x r w h)
theorem FIs_any (b : Nat) (c : Int) (u : TypeId) (x : Value) (r : Bool) (w : World) (hc : w.cell? ⟨b, 0, none⟩ = some (.int .i64 c)) (h0 : (c == 0) = false) (hC : Comp u) (h : EqAns w (.iface 100 (.int .i64 c)) (.iface u x) r) :
    Calls Tryz.prog 276 #[.pointer (some ⟨b, 0, none⟩), .iface u x] w fun e w' => e = .returned (.bool r) ∧ w = w' := by
  have H1 := Lib.hid (Of_some c w h0)
  have H2 := Lib.hid (eIs_plain c u x r w hC h)
  clear h h0 hC
  go_enter Tryz.func276, Tryz.ntmps276
  go_wp2_with (first | (go_at_call 49; refine (H1.out).mono ?_; rintro e' w' ⟨rfl, rfl⟩) | (go_at_call 198; refine (H2.out).mono ?_; rintro e' w' ⟨rfl, rfl⟩))
  go_ret
  exact ⟨rfl, rfl⟩
inductive IsAns (w : World) (tgt : Value) : Value → Bool → Prop
  | plain (c : Int) (r : Bool) : EqAns w (.iface 100 (.int .i64 c)) tgt r → IsAns w tgt (.iface 100 (.int .i64 c)) r
  | other (x : Value) (r : Bool) : EqAns w (.iface 273 x) tgt r → IsAns w tgt (.iface 273 x) r
  | same (b : Nat) : EqAns w (.iface 108 (.pointer (some ⟨b, 0, none⟩))) tgt true → IsAns w tgt (.iface 108 (.pointer (some ⟨b, 0, none⟩))) true
  | code (b : Nat) (c : Int) (s : ByteArray) (e : Value) : FaultAt w b c s e → (c == 0) = false → EqAns w (.iface 108 (.pointer (some ⟨b, 0, none⟩))) tgt false → EqAns w (.iface 100 (.int .i64 c)) tgt true → IsAns w tgt (.iface 108 (.pointer (some ⟨b, 0, none⟩))) true
  | last (b : Nat) (c : Int) (s : ByteArray) : FaultAt w b c s .nilIface → (c == 0) = false → EqAns w (.iface 108 (.pointer (some ⟨b, 0, none⟩))) tgt false → EqAns w (.iface 100 (.int .i64 c)) tgt false → IsAns w tgt (.iface 108 (.pointer (some ⟨b, 0, none⟩))) false
  | on (b : Nat) (c : Int) (s : ByteArray) (u : TypeId) (x : Value) (r : Bool) : FaultAt w b c s (.iface u x) → (c == 0) = false → EqAns w (.iface 108 (.pointer (some ⟨b, 0, none⟩))) tgt false → EqAns w (.iface 100 (.int .i64 c)) tgt false → errM (.iface u x) < b + 2 → IsAns w tgt (.iface u x) r → IsAns w tgt (.iface 108 (.pointer (some ⟨b, 0, none⟩))) r
set_option maxRecDepth 100000 in
set_option maxHeartbeats 4000000 in
theorem eis_ans (u : TypeId) (x v : Value) (r : Bool) (w : World) (hC : Comp u) (h : IsAns w (.iface u x) v r) :
    Calls Tryz.prog 228 #[v, .iface u x, .bool true] w fun e w' => e = .returned (.bool r) ∧ w = w' := by
  have hI := hasIsP
  have hU := hasUnP
  have mI := methodIs
  have mU := methodUnwrap
  have nIL := noIsL
  have nUL := noUnL
  have nUsL := noUnsL
  have nIS := noIsS
  have nUS := noUnS
  have nUsS := noUnsS
  have HC := Lib.hid hC
  have HH := Lib.hid h
  clear hC h
  go_enter Tryz.func228, Tryz.ntmps228
  go_wp2
  go_loopw [0] (fun v' wl => w = wl ∧ IsAns w (.iface u x) v' r) (fun v' _ => errM v')
  case atStart => exact ⟨rfl, HH.out⟩
  case round =>
    obtain ⟨rfl, hans⟩ := hrel
    clear HH
    cases hans with
    | plain c _ he =>
      unfold EqAns at he
      cases r <;> go_wp2 <;> go_ret <;> exact ⟨rfl, rfl⟩
    | other y _ he =>
      unfold EqAns at he
      cases r <;> go_wp2 <;> go_ret <;> exact ⟨rfl, rfl⟩
    | same b he =>
      unfold EqAns at he
      go_wp2
      go_ret
      exact ⟨rfl, rfl⟩
    | code b c s e hf h0 he hp =>
      have HF := Lib.hid (FIs_any b c u x true w hf.cell0 h0 HC.out hp)
      unfold EqAns at he
      clear hf h0 hp
      go_wp2_with (go_at_call 276; refine (HF.out).mono ?_; rintro e' w' ⟨rfl, rfl⟩)
      go_ret
      exact ⟨rfl, rfl⟩
    | last b c s hf h0 he hp =>
      have HF := Lib.hid (FIs_any b c u x false w hf.cell0 h0 HC.out hp)
      have HU := Lib.hid (Unwrap_some b _ w hf.cell2)
      unfold EqAns at he
      clear hf h0 hp
      go_wp2_with (first | (go_at_call 276; refine (HF.out).mono ?_; rintro e' w' ⟨rfl, rfl⟩) | (go_at_call 277; refine (HU.out).mono ?_; rintro e' w' ⟨rfl, rfl⟩))
      go_ret
      exact ⟨rfl, rfl⟩
    | on b c s u1 x1 _ hf h0 he hp hlt hr =>
      have HF := Lib.hid (FIs_any b c u x false w hf.cell0 h0 HC.out hp)
      have HU := Lib.hid (Unwrap_some b _ w hf.cell2)
      have HR := Lib.hid hr
      have HL := Lib.hid hlt
      unfold EqAns at he
      clear hf h0 hp hr hlt
      go_wp2_with (first | (go_at_call 276; refine (HF.out).mono ?_; rintro e' w' ⟨rfl, rfl⟩) | (go_at_call 277; refine (HU.out).mono ?_; rintro e' w' ⟨rfl, rfl⟩))
      go_roundw
      case rel => exact ⟨trivial, HR.out⟩
      case measure => simpa [errM] using HL.out
theorem eIs_ans (u : TypeId) (x : Value) (u1 : TypeId) (x1 : Value) (r : Bool) (w : World) (hC : Comp u) (h : IsAns w (.iface u x) (.iface u1 x1) r) :
    Calls Tryz.prog 198 #[.iface u1 x1, .iface u x] w fun e w' => e = .returned (.bool r) ∧ w = w' :=
  eIs_of _ _ _ _ r w hC (eis_ans u x _ r w hC h)
end Go.Proofs.YtlhmfgbaefaneabGreatDoor.flt
namespace Go.Proofs.YtlhmfgbaefaneabGreatDoor.flt
open Go.RowKit Go.Extern.Stop Go.Stop Go.Extern
def Joined (w : World) (j : Nat) (v0 v1 : Value) : Prop := ∃ g cap, w.cell? ⟨j, 0, none⟩ = some (.slice (some ⟨g, 0, none⟩) 2 cap) ∧ w.cell? ⟨g, 0, none⟩ = some v0 ∧ w.cell? ⟨g, 1, none⟩ = some v1
theorem Joined.below {w w' : World} {j : Nat} {v0 v1 : Value} (h : Joined w j v0 v1) (hb : Below w.heap.size w w') : Joined w' j v0 v1 := by
  obtain ⟨g, cap, h1, h2, h3⟩ := h
  exact ⟨g, cap, (hb.cell (cell_lt h1)).trans h1, (hb.cell (cell_lt h2)).trans h2, (hb.cell (cell_lt h3)).trans h3⟩
theorem eq_plain (c d : Int) (w : World) : EqAns w (.iface 100 (.int .i64 c)) (.iface 100 (.int .i64 d)) (c == d) :=
  Lib.run_eql_iface_int (P := Tryz.prog) w c d Tryz.underlying24 compL Tryz.underlying100
theorem eq_types (u u' : TypeId) (x y : Value) (h : u ≠ u') (w : World) : EqAns w (.iface u x) (.iface u' y) false :=
  run_eql_iface_types (P := Tryz.prog) u u' x y Tryz.underlying24 h w
theorem isAns_code {w : World} {b B : Nat} {d : Int} {s : ByteArray} {l : List (Nat × Int × ByteArray)} (h : Chain w (.iface 108 (.pointer (some ⟨b, 0, none⟩))) B ((b, d, s) :: l)) (h0 : (d == 0) = false) : IsAns w (.iface 100 (.int .i64 d)) (.iface 108 (.pointer (some ⟨b, 0, none⟩))) true := by
  cases h with
  | link _ _ _ e _ _ hf _ _ => exact .code b d s e hf h0 (eq_types _ _ _ _ (by decide) w) (by have := eq_plain d d w; rwa [show (d == d) = true from by simp] at this)
end Go.Proofs.YtlhmfgbaefaneabGreatDoor.flt
namespace Go.Proofs.YtlhmfgbaefaneabGreatDoor.flt
open Go.RowKit Go.Extern.Stop Go.Stop Go.Extern
theorem ats_begun (b0 b1 : Nat) : ats [(b1, 4, ⟨#[97]⟩), (b0, 4, ⟨#[98]⟩)] = [⟨#[97]⟩, ⟨#[98]⟩] := by
  have h1 : (⟨#[97]⟩ : ByteArray).toList = [97] := by decide +kernel
  have h2 : (⟨#[98]⟩ : ByteArray).toList = [98] := by decide +kernel
  simp [ats, h1, h2]
theorem text_begun : (⟨(render [⟨#[97]⟩, ⟨#[98]⟩] ++ (msg 4).data.toList).toArray⟩ : ByteArray) = ⟨#[97, 58, 32, 98, 58, 32, 101, 114, 114, 111, 114, 32, 52]⟩ := by decide +kernel
theorem Places.two {w w' : World} {x y : ByteArray} {e : Ending} (h : Places w [x, y] e w') : ∃ g cap, e = .returned (.slice (some ⟨g, 0, none⟩) 2 cap) ∧ w'.cell? ⟨g, 0, none⟩ = some (.string x) ∧ w'.cell? ⟨g, 1, none⟩ = some (.string y) ∧ Below w.heap.size w w' := by
  obtain ⟨sv, rfl, hown, hb⟩ := h
  obtain ⟨g, cap, rfl⟩ : ∃ g cap, sv = .slice (some ⟨g, 0, none⟩) 2 cap := by
    rcases hown.2 with ⟨_, h⟩ | ⟨g, cap, cur, hv, _⟩
    · simp at h
    · exact ⟨g, cap, hv⟩
  have hown' : w'.ownsRow w.heap.size 9 1 (.slice (some ⟨g, 0, none⟩) 2 cap) 2 [.string x, .string y] := hown
  exact ⟨g, cap, rfl, by rw [hown'.cellAt 0 (by omega)]; rfl, by rw [hown'.cellAt 1 (by omega)]; rfl, hb⟩
set_option maxRecDepth 100000 in
set_option maxHeartbeats 4000000 in
theorem begun_any (w : World) (hg : Handle w) : Calls Tryz.prog 160 #[] w fun e w' => e = .returned (.bool true) ∧ Below w.heap.size w w' := by
  have HG := Lib.hid hg
  clear hg
  have mE := methodError
  have HN := Lib.hid (New_some 4 ⟨#[98]⟩ w (by decide))
  have B1 : Below w.heap.size w (w.alloc (.cells #[.int .i64 4, .string ⟨#[98]⟩, .nilIface] 111)) := (Below.refl _ _).alloc (Nat.le_refl _) _
  have F1 : FaultAt (w.alloc (.cells #[.int .i64 4, .string ⟨#[98]⟩, .nilIface] 111)) w.heap.size 4 ⟨#[98]⟩ .nilIface := by show (w.heap.push _)[w.heap.size]? = _; simp
  have HW := Lib.hid (Wrap_of ⟨#[97]⟩ _ _ 4 _ (Code_fault w.heap.size 4 _ (HG.out.below B1 HG.out.pos) F1.cell0))
  have HB1 := Lib.hid B1
  have HF1 := Lib.hid F1
  clear B1 F1
  go_enter Tryz.func160, Tryz.ntmps160
  go_wp2_with (first | (go_at_call 196; refine (HN.out).mono ?_; rintro e' w' ⟨rfl, rfl⟩) | (go_at_call 195; refine (HW.out).mono ?_; rintro e' W2 ⟨b1, rfl, hle, hF2, hB2⟩; have HLE := Lib.hid hle; have HF2 := Lib.hid hF2; have HB2 := Lib.hid hB2; clear hle hF2 hB2))
  have B2 : Below w.heap.size w W2 := HB1.out.trans (HB2.out.mono HB1.out.size)
  have F0 : FaultAt W2 w.heap.size 4 ⟨#[98]⟩ .nilIface := HF1.out.below HB2.out HF1.out.lt
  have CH : Chain W2 (.iface 108 (.pointer (some ⟨b1, 0, none⟩))) W2.heap.size [(b1, 4, ⟨#[97]⟩), (w.heap.size, 4, ⟨#[98]⟩)] :=
    .link b1 4 _ _ _ _ HF2.out HF2.out.lt (.link w.heap.size 4 _ _ _ _ F0 (by have := HLE.out; simp at this; omega) (.none _))
  have HWh := Lib.hid (show Calls Tryz.prog 197 #[.iface 108 (.pointer (some ⟨b1, 0, none⟩))] W2 fun e w' => ∃ g cap, e = .returned (.slice (some ⟨g, 0, none⟩) 2 cap) ∧ w'.cell? ⟨g, 0, none⟩ = some (.string ⟨#[97]⟩) ∧ w'.cell? ⟨g, 1, none⟩ = some (.string ⟨#[98]⟩) ∧ Below W2.heap.size W2 w' from by
    have h := Where_chain _ _ _ W2 (HG.out.below B2 HG.out.pos) CH (Nat.le_refl _) (by simp)
    rw [ats_begun] at h
    exact h.mono fun _ _ h => h.two)
  have HB2w := Lib.hid B2
  have HCH := Lib.hid CH
  clear B2 F0 CH
  go_wp2_with (go_at_call 197; refine (HWh.out).mono ?_; rintro e' W3 ⟨g, cap, rfl, hc0, hc1, hb3⟩; have HB3 := Lib.hid hb3; clear hb3)
  have HCo := Lib.hid (Code_fault b1 4 W3 (HG.out.below (HB2w.out.trans (HB3.out.mono HB2w.out.size)) HG.out.pos) ((HF2.out.below HB3.out HF2.out.lt).cell0))
  go_wp2_with (go_at_call 63; refine (HCo.out).mono ?_; rintro e' W4 ⟨rfl, hb4⟩; have HB4 := Lib.hid hb4; clear hb4)
  have B24 : Below W2.heap.size W2 W4 := HB3.out.trans (HB4.out.mono HB3.out.size)
  have HE := Lib.hid (show Calls Tryz.prog 275 #[.pointer (some ⟨b1, 0, none⟩)] W4 fun e w' => e = .returned (.string ⟨#[97, 58, 32, 98, 58, 32, 101, 114, 114, 111, 114, 32, 52]⟩) ∧ Below W4.heap.size W4 w' from by
    have h := Error_chain b1 4 ⟨#[97]⟩ W2.heap.size [(w.heap.size, 4, ⟨#[98]⟩)] W4 (HG.out.below (HB2w.out.trans (B24.mono HB2w.out.size)) HG.out.pos) (HCH.out.keep B24 (Nat.le_refl _)) B24.size (by simp) (by
      intro x hx
      simp at hx
      rcases hx with rfl | rfl <;> exact (show (1 : Nat) ≤ 100000 by omega)) (by omega) (by omega)
    rw [ats_begun, text_begun] at h
    exact h)
  have HB24 := Lib.hid B24
  clear B24
  go_wp2_with (go_at_call 275; refine (HE.out).mono ?_; rintro e' W5 ⟨rfl, hb5⟩; have HB5 := Lib.hid hb5; clear hb5)
  have B25 : Below W2.heap.size W2 W5 := HB24.out.trans (HB5.out.mono HB24.out.size)
  have CH5 := HCH.out.keep B25 (Nat.le_refl _)
  have F1 : FaultAt W5 b1 4 ⟨#[97]⟩ _ := HF2.out.below B25 HF2.out.lt
  have F0 : FaultAt W5 w.heap.size 4 ⟨#[98]⟩ .nilIface := ((HF1.out.below HB2.out HF1.out.lt).below B25 (Nat.lt_of_lt_of_le HF1.out.lt HB2.out.size))
  have lt01 : w.heap.size < b1 := by have := HLE.out; simp at this; omega
  have HI1 := Lib.hid (eIs_ans _ _ _ _ true W5 compPlain (isAns_code CH5 (by decide)))
  have HI2 := Lib.hid (eIs_ans _ _ _ _ false W5 compPlain (.on (tgt := .iface 100 (.int .i64 1)) b1 4 _ _ _ false F1 (by decide) (eq_types _ _ _ _ (by decide) W5) (eq_plain 4 1 W5) (by simp [errM]; omega) (.last w.heap.size 4 _ F0 (by decide) (eq_types _ _ _ _ (by decide) W5) (eq_plain 4 1 W5))))
  have heq : (binOp .eql 24 (.iface 100 (.int .i64 3)) (.iface 100 (.int .i64 3))).run Tryz.prog W5 = .ok (.bool true) W5 := eq_plain 3 3 W5
  have HBe := Lib.hid (HB2w.out.trans (B25.mono HB2w.out.size))
  clear B25 CH5 F1 F0 lt01
  go_wp2_with (first | (go_at_call 49; refine (Of_some _ _ (by decide)).mono ?_; rintro e' w' ⟨rfl, rfl⟩) | (go_at_call 198; refine (HI1.out).mono ?_; rintro e' w' ⟨rfl, rfl⟩; clear HI1) | (go_at_call 198; refine (HI2.out).mono ?_; rintro e' w' ⟨rfl, rfl⟩; clear HI2) | (go_at_call 49; refine (Of_none _).mono ?_; rintro e' w' ⟨rfl, rfl⟩))
  go_ret
  exact ⟨rfl, HBe.out⟩
end Go.Proofs.YtlhmfgbaefaneabGreatDoor.flt
namespace Go.Proofs.YtlhmfgbaefaneabGreatDoor.law2
open Go.RowKit Go.Proofs.YtlhmfgbaefaneabGreatDoor.nat
open Go.Proofs.YtlhmfgbaefaneabGreatDoor.ref (str signed decText)
theorem big_text : str (Lib.decDigits 123456789012345678901234567890) = ⟨#[49, 50, 51, 52, 53, 54, 55, 56, 57, 48, 49, 50, 51, 52, 53, 54, 55, 56, 57, 48, 49, 50, 51, 52, 53, 54, 55, 56, 57, 48]⟩ := by decide +kernel
theorem big_get (w : World) : Calls Tryz.prog 119 #[.string ⟨#[49, 50, 51, 52, 53, 54, 55, 56, 57, 48, 49, 50, 51, 52, 53, 54, 55, 56, 57, 48, 49, 50, 51, 52, 53, 54, 55, 56, 57, 48]⟩] w fun e w' => ∃ v, e = .returned (.tuple #[v, .nilIface]) ∧ (nat.IsN w' v 123456789012345678901234567890 ∧ v ≠ .pointer none) ∧ Below w.heap.size w w' := by
  obtain ⟨h1, h2, -⟩ := ref.dec_numeral (x := 123456789012345678901234567890) (p := 29) (by decide) (by decide)
  have := nat.Get_ok (Lib.decDigits 123456789012345678901234567890) w h1
  rwa [h2, big_text] at this
theorem half_text : str (dec.putText (-3 / 2) 2 1) = ⟨#[45, 49, 46, 53, 48]⟩ := by decide +kernel
theorem half_form : ref.DecForm (decText (-150) 2) (decide ((-150 : Int) < 0)) (Int.natAbs (-150)) 2 := dec.int_form (p := 3) (by decide) (by decide) (by decide)
theorem half_lit : str (decText (-150) 2) = ⟨#[45, 49, 46, 53, 48]⟩ := by decide +kernel
theorem half_get (w : World) : Calls Tryz.prog 123 #[.string ⟨#[45, 49, 46, 53, 48]⟩] w fun e w' => ∃ u, e = .returned (.tuple #[u, .int .i64 2, .nilIface]) ∧ (rat.IsR w' u (-3 / 2) ∧ u ≠ .pointer none) ∧ Below w.heap.size w w' := by
  have := DGet_yes _ _ _ _ (-3 / 2) w (by decide +kernel) half_form
  rwa [half_lit] at this
theorem half_units : signed (decide ((-3 / 2 : Rat).num < 0)) (ref.nearN (-3 / 2 : Rat).num.natAbs (-3 / 2 : Rat).den 2) = -2 := by decide +kernel
theorem half_br : Br (-3 / 2 : Rat) 20 := ⟨by unfold Bz; decide +kernel, by unfold Bn; decide +kernel⟩
theorem neg_seven : str (Lib.itoa (-7)) = ⟨#[45, 55]⟩ := by decide +kernel
theorem half_rtxt : str (rat.rtxt (-3 / 2)) = ⟨#[45, 51, 47, 50]⟩ := by decide +kernel
theorem root_text : str (Lib.decDigits 10000000000) = ⟨#[49, 48, 48, 48, 48, 48, 48, 48, 48, 48, 48]⟩ := by decide +kernel
theorem root_val {r : Nat} (h : nat.RootIs (10 ^ 20) (Int.toNat 2) r) : r = 10000000000 := by
  unfold nat.RootIs at h
  rw [show Int.toNat 2 = 2 from rfl] at h
  obtain ⟨h1, h2⟩ := h
  rcases Nat.lt_trichotomy r 10000000000 with h3 | h3 | h3
  · have := Nat.pow_le_pow_left (show r + 1 ≤ 10000000000 from h3) 2
    rw [show 10000000000 ^ 2 = 10 ^ 20 by decide] at this
    omega
  · exact h3
  · have := Nat.pow_le_pow_left (show 10000000001 ≤ r from h3) 2
    rw [show 10000000001 ^ 2 = 10 ^ 20 + 20000000001 by decide] at this
    omega
set_option maxRecDepth 100000 in
theorem Begun_one (w : World) (h : Hd w) : Calls Tryz.prog 125 #[] w fun e w' => e = .returned (.bool true) ∧ Below w.heap.size w w' := by
  have HB := Lib.hid (flt.begun_any w h)
  clear h
  go_enter Tryz.func125, Tryz.ntmps125
  go_wp2_with (first
    | (go_at_call 160; (with_reducible refine (HB.out).mono ?_); rintro e w1 ⟨rfl, hb⟩)
    | (fail "no arm"))
  go_ret
  exact ⟨rfl, hb⟩
theorem blank_rat (w : World) (t : TypeId) : rat.IsR (w.alloc (.cells #[.bool false, .slice none 0 0, .bool false, .slice none 0 0] t)) (.pointer (some ⟨w.heap.size, 0, none⟩)) 0 := by
  obtain ⟨c0, c1, c2, c3⟩ := rat.row4 (heap_alloc_new w (.cells #[.bool false, .slice none 0 0, .bool false, .slice none 0 0] t))
  have hr : nat.Rd (w.alloc (.cells #[.bool false, .slice none 0 0, .bool false, .slice none 0 0] t)) (.slice none 0 0) (nat.digs 0) := by
    rw [nat.digs_zero]
    exact ⟨none, 0, rfl, ⟨Nat.le_refl _, fun _ => rfl⟩, by decide, Or.inl rfl⟩
  exact Or.inr ⟨_, 0, 0, rfl, rat.IsZ.of_cells c0 c1 hr rfl (fun h => by cases h), rat.IsZ.of_cells c2 c3 hr rfl (fun h => by cases h), Or.inr ⟨rfl, rfl⟩⟩
set_option maxRecDepth 100000 in
set_option maxHeartbeats 4000000 in
theorem begun_all (w : World) (hd : Hd w) :
    Calls Tryz.prog 97 #[] w fun e w' => e = .returned (.bool true) ∧ Below w.heap.size w w' := by
  have HG := Lib.hid hd
  clear hd
  have RD := fun W v (h : rat.IsR W v (-3 / 2)) => dec.Round_ok v (-3 / 2) 2 1 W h (half_br.rat (by decide)) (by decide) (Or.inl rfl)
  rw [half_text, show ((2 : Nat) : Int) = 2 from rfl] at RD
  have RD := Lib.hid RD
  have UN := fun W v (h : rat.IsR W v (-3 / 2)) => dec.Units_in v (-3 / 2) 2 W h (half_br.rat (by decide)) (Or.inr (Or.inl rfl)) (by rw [half_units]; decide) (by rw [half_units]; decide)
  rw [half_units] at UN
  have UN := Lib.hid UN
  have c1 := fun (W : World)    => nat.Of_int 7 7 rfl (by decide) W
  have C1 := Lib.hid c1
  clear c1
  have c2 := fun (W : World) (v0 : Value) (v1 : Value) (hh0 : nat.IsN W v0 (123456789012345678901234567890)) (hh1 : nat.IsN W v1 (7 : Nat))  => nat.Div_ok v0 v1 (123456789012345678901234567890) (7 : Nat) W hh0 hh1 (by decide) ((show Bn 123456789012345678901234567890 30 from by unfold Bn; decide).nat (by decide)) ((Bn_small (by decide)).nat (by decide))
  have C2 := Lib.hid c2
  clear c2
  have c3 := fun (W : World)    => num.Of_any (-7) W (by decide) (by decide)
  have C3 := Lib.hid c3
  clear c3
  have c4 := fun (W : World)    => rat.Of_ok (-6) 4 W (by decide) (by decide) (by decide) (by decide) (by decide)
  rw [show ((((-6) : Int) : Rat) / ((4 : Int) : Rat)) = (-3 / 2 : Rat) from by decide +kernel] at c4
  have C4 := Lib.hid c4
  clear c4
  have c5 := fun (W : World) (v0 : Value) (v1 : Value) (hh0 : nat.IsN W v0 ((123456789012345678901234567890) / (7 : Nat))) (hh1 : nat.IsN W v1 (7 : Nat))  => nat.Mul_any v0 v1 ((123456789012345678901234567890) / (7 : Nat)) (7 : Nat) W hh0 hh1 ((Bn_div (show Bn 123456789012345678901234567890 30 from by unfold Bn; decide)).nat (by decide)) ((Bn_small (by decide)).nat (by decide))
  have C5 := Lib.hid c5
  clear c5
  have c6 := fun (W : World) (v0 : Value) (v1 : Value) (hh0 : nat.IsN W v0 (((123456789012345678901234567890) / (7 : Nat)) * (7 : Nat))) (hh1 : nat.IsN W v1 ((123456789012345678901234567890) % (7 : Nat)))  => nat.Add_any v0 v1 (((123456789012345678901234567890) / (7 : Nat)) * (7 : Nat)) ((123456789012345678901234567890) % (7 : Nat)) W hh0 hh1 ((Bn_mul (Bn_div (show Bn 123456789012345678901234567890 30 from by unfold Bn; decide)) (Bn_small (by decide))).nat (by decide)) ((Bn_mod (show Bn 123456789012345678901234567890 30 from by unfold Bn; decide)).nat (by decide))
  have C6 := Lib.hid c6
  clear c6
  have c7 := fun (W : World) (v0 : Value) (v1 : Value) (hh0 : nat.IsN W v0 ((((123456789012345678901234567890) / (7 : Nat)) * (7 : Nat)) + ((123456789012345678901234567890) % (7 : Nat)))) (hh1 : nat.IsN W v1 (123456789012345678901234567890))  => nat.Cmp_b v0 v1 ((((123456789012345678901234567890) / (7 : Nat)) * (7 : Nat)) + ((123456789012345678901234567890) % (7 : Nat))) (123456789012345678901234567890) W hh0 hh1 ((Bn_add (Bn_mul (Bn_div (show Bn 123456789012345678901234567890 30 from by unfold Bn; decide)) (Bn_small (by decide))) (Bn_mod (show Bn 123456789012345678901234567890 30 from by unfold Bn; decide))).nat (by decide)) ((show Bn 123456789012345678901234567890 30 from by unfold Bn; decide).nat (by decide))
  rw [cmp3_eqN (show ((((123456789012345678901234567890) / (7 : Nat)) * (7 : Nat)) + ((123456789012345678901234567890) % (7 : Nat))) = (123456789012345678901234567890) from (by decide))] at c7
  have C7 := Lib.hid c7
  clear c7
  have c8 := fun (W : World) (v0 : Value) (hh0 : nat.IsN W v0 (123456789012345678901234567890))  => nat.Text_any v0 (123456789012345678901234567890) W hh0 ((show Bn 123456789012345678901234567890 30 from by unfold Bn; decide).nat (by decide))
  rw [big_text] at c8
  have C8 := Lib.hid c8
  clear c8
  have c9 := fun (W : World) (v0 : Value) (hh0 : num.IsZ W v0 (-7 : Int))  => num.Text_any v0 (-7 : Int) W hh0 ((Bz_small (by decide) (by decide)).nat (by decide))
  rw [neg_seven] at c9
  have C9 := Lib.hid c9
  clear c9
  have c10 := fun (W : World) (v0 : Value) (hh0 : rat.IsR W v0 ((0 : Rat)))  => rat.Sign_any v0 ((0 : Rat)) W hh0
  rw [show num.sg (0 : Rat).num = 0 by decide +kernel] at c10
  have C10 := Lib.hid c10
  clear c10
  have c11 := fun (W : World) (v0 : Value) (hh0 : rat.IsR W v0 ((-3 / 2 : Rat)))  => rat.Text_any v0 ((-3 / 2 : Rat)) W hh0 (half_br.rat (by decide))
  rw [half_rtxt] at c11
  have C11 := Lib.hid c11
  clear c11
  have c12 := fun (W : World) (v0 : Value) (v1 : Value) (hh0 : rat.IsR W v0 ((-3 / 2 : Rat))) (hh1 : rat.IsR W v1 ((-3 / 2 : Rat)))  => rat.Cmp_any v0 v1 ((-3 / 2 : Rat)) ((-3 / 2 : Rat)) W hh0 hh1 (half_br.rat (by decide)) (half_br.rat (by decide))
  rw [cmpR_eq (show ((-3 / 2 : Rat)) = ((-3 / 2 : Rat)) from rfl)] at c12
  have C12 := Lib.hid c12
  clear c12
  have c13 := fun (W : World)    => nat.Of_int 10 10 rfl (by decide) W
  have C13 := Lib.hid c13
  clear c13
  have c14 := fun (W : World) (v0 : Value) (hh0 : nat.IsN W v0 (10 : Nat))  => NPow_at v0 10 20 20 rfl (by decide) W hh0 ((Bn_small (x := 10) (by decide)).nat (by decide)) ((show Bn (10 ^ 20) 21 from by unfold Bn; decide).nat (by decide))
  have C14 := Lib.hid c14
  clear c14
  have c15 := fun (W : World) (v0 : Value) (hh0 : nat.IsN W v0 (10 ^ 20))  => nat.Root_high v0 (10 ^ 20) 2 W hh0 ((show Bn (10 ^ 20) 21 from by unfold Bn; decide).nat (by decide)) (by decide) (by decide)
  have C15 := Lib.hid c15
  clear c15
  have c16 := fun (W : World) (v0 : Value) (hh0 : nat.IsN W v0 (10000000000 : Nat))  => nat.Text_any v0 (10000000000 : Nat) W hh0 ((Bn_small (by decide)).nat (by decide))
  rw [root_text] at c16
  have C16 := Lib.hid c16
  clear c16
  go_enter Tryz.func97, Tryz.ntmps97
  go_wp2_with (first
    | (go_at_call 119; (with_reducible refine (big_get _).mono ?_); rintro e W1 ⟨a, rfl, ⟨h_a, n_a⟩, hb⟩
       obtain ⟨p_a, rfl⟩ := h_a.some n_a
       have H_a := Lib.hid h_a
       have N_a := Lib.hid n_a
       have HB1 := Lib.hid hb
       clear h_a n_a hb)
    | (go_at_call 110; (with_reducible refine (C1.out _ ).mono ?_); rintro e W2 ⟨b, rfl, ⟨h_b, n_b⟩, hb⟩
       obtain ⟨p_b, rfl⟩ := nat.IsN.some h_b n_b
       have H_b := Lib.hid h_b
       have N_b := Lib.hid n_b
       have HB2 := Lib.hid hb
       clear h_b n_b hb C1)
    | (go_at_call 120; (with_reducible refine (C2.out _ _ _ (H_a.out.below HB2.out) H_b.out).mono ?_); rintro e W3 ⟨q, r, rfl, ⟨h_q, n_q⟩, ⟨h_r, n_r⟩, hb⟩
       obtain ⟨p_q, rfl⟩ := h_q.some n_q
       obtain ⟨p_r, rfl⟩ := h_r.some n_r
       have H_q := Lib.hid h_q
       have N_q := Lib.hid n_q
       have H_r := Lib.hid h_r
       have N_r := Lib.hid n_r
       have HB3 := Lib.hid hb
       clear h_q n_q h_r n_r hb C2)
    | (go_at_call 89; (with_reducible refine (C3.out _ ).mono ?_); rintro e W4 ⟨x, rfl, ⟨h_x, n_x⟩, hb⟩
       obtain ⟨p_x, rfl⟩ := num.IsZ.some h_x n_x
       have H_x := Lib.hid h_x
       have N_x := Lib.hid n_x
       have HB4 := Lib.hid hb
       have HB5 := Lib.hid (show Below W4.heap.size W4 (W4.alloc (.cells #[.bool false, .slice none 0 0, .bool false, .slice none 0 0] 120)) from (Below.refl _ _).alloc (Nat.le_refl _) _)
       have H_y := Lib.hid (blank_rat W4 120)
       clear h_x n_x hb C3)
    | (go_at_call 121; (with_reducible refine (C4.out _ ).mono ?_); rintro e W6 ⟨z, rfl, ⟨h_z, n_z⟩, hb⟩
       obtain ⟨p_z, rfl⟩ := h_z.some n_z
       have H_z := Lib.hid h_z
       have N_z := Lib.hid n_z
       have HB6 := Lib.hid hb
       clear h_z n_z hb C4)
    | (go_at_call 122; (with_reducible refine (RD.out _ _ H_z.out).mono ?_); rintro e W7 ⟨rfl, hb⟩
       have HB7 := Lib.hid hb
       clear hb)
    | (go_at_call 123; (with_reducible refine (half_get _).mono ?_); rintro e W8 ⟨p, rfl, ⟨h_p, n_p⟩, hb⟩
       obtain ⟨p_p, rfl⟩ := h_p.some n_p
       have H_p := Lib.hid h_p
       have N_p := Lib.hid n_p
       have HB8 := Lib.hid hb
       clear h_p n_p hb)
    | (go_at_call 124; (with_reducible refine (UN.out _ _ ((H_z.out.below HB7.out).below HB8.out)).mono ?_); rintro e W9 ⟨rfl, hb⟩
       have HB9 := Lib.hid hb
       clear hb)
    | (go_at_call 125; (with_reducible refine (Begun_one _ (((((((((HG.out.below HB1.out).below HB2.out).below HB3.out).below HB4.out).below HB5.out).below HB6.out).below HB7.out).below HB8.out).below HB9.out)).mono ?_); rintro e W10 ⟨rfl, hb⟩
       have HB10 := Lib.hid hb
       clear hb)
    | (go_at_call 96; (with_reducible refine (C5.out _ _ _ (((((((H_q.out.below HB4.out).below HB5.out).below HB6.out).below HB7.out).below HB8.out).below HB9.out).below HB10.out) ((((((((H_b.out.below HB3.out).below HB4.out).below HB5.out).below HB6.out).below HB7.out).below HB8.out).below HB9.out).below HB10.out)).mono ?_); rintro e W11 ⟨m1, rfl, ⟨h_m1, n_m1⟩, hb⟩
       have H_m1 := Lib.hid h_m1
       have N_m1 := Lib.hid n_m1
       have HB11 := Lib.hid hb
       clear h_m1 n_m1 hb C5)
    | (go_at_call 126; (with_reducible refine (C6.out _ _ _ H_m1.out ((((((((H_r.out.below HB4.out).below HB5.out).below HB6.out).below HB7.out).below HB8.out).below HB9.out).below HB10.out).below HB11.out)).mono ?_); rintro e W12 ⟨m2, rfl, ⟨h_m2, n_m2⟩, hb⟩
       have H_m2 := Lib.hid h_m2
       have N_m2 := Lib.hid n_m2
       have HB12 := Lib.hid hb
       clear h_m2 n_m2 hb C6)
    | (go_at_call 108; (with_reducible refine (C7.out _ _ _ H_m2.out (((((((((((H_a.out.below HB2.out).below HB3.out).below HB4.out).below HB5.out).below HB6.out).below HB7.out).below HB8.out).below HB9.out).below HB10.out).below HB11.out).below HB12.out)).mono ?_); rintro e W13 ⟨rfl, hb⟩
       have HB13 := Lib.hid hb
       clear hb C7)
    | (go_at_call 127; (with_reducible refine (C8.out _ _ ((((((((((((H_a.out.below HB2.out).below HB3.out).below HB4.out).below HB5.out).below HB6.out).below HB7.out).below HB8.out).below HB9.out).below HB10.out).below HB11.out).below HB12.out).below HB13.out)).mono ?_); rintro e W14 ⟨rfl, hb⟩
       have HB14 := Lib.hid hb
       clear hb C8)
    | (go_at_call 98; (with_reducible refine (C9.out _ _ ((((((((((H_x.out.below HB5.out).below HB6.out).below HB7.out).below HB8.out).below HB9.out).below HB10.out).below HB11.out).below HB12.out).below HB13.out).below HB14.out)).mono ?_); rintro e W15 ⟨rfl, hb⟩
       have HB15 := Lib.hid hb
       clear hb C9)
    | (go_at_call 48; (with_reducible refine (C10.out _ _ ((((((((((H_y.out.below HB6.out).below HB7.out).below HB8.out).below HB9.out).below HB10.out).below HB11.out).below HB12.out).below HB13.out).below HB14.out).below HB15.out)).mono ?_); rintro e W16 ⟨rfl, hb⟩
       have HB16 := Lib.hid hb
       clear hb C10)
    | (go_at_call 61; (with_reducible refine (C11.out _ _ ((((((((((H_z.out.below HB7.out).below HB8.out).below HB9.out).below HB10.out).below HB11.out).below HB12.out).below HB13.out).below HB14.out).below HB15.out).below HB16.out)).mono ?_); rintro e W17 ⟨rfl, hb⟩
       have HB17 := Lib.hid hb
       clear hb C11)
    | (go_at_call 46; (with_reducible refine (C12.out _ _ _ (((((((((H_p.out.below HB9.out).below HB10.out).below HB11.out).below HB12.out).below HB13.out).below HB14.out).below HB15.out).below HB16.out).below HB17.out) (((((((((((H_z.out.below HB7.out).below HB8.out).below HB9.out).below HB10.out).below HB11.out).below HB12.out).below HB13.out).below HB14.out).below HB15.out).below HB16.out).below HB17.out)).mono ?_); rintro e W18 ⟨rfl, hb⟩
       have HB18 := Lib.hid hb
       clear hb C12)
    | (go_at_call 110; (with_reducible refine (C13.out _ ).mono ?_); rintro e W19 ⟨t, rfl, ⟨h_t, n_t⟩, hb⟩
       have H_t := Lib.hid h_t
       have N_t := Lib.hid n_t
       have HB19 := Lib.hid hb
       clear h_t n_t hb C13)
    | (go_at_call 128; (with_reducible refine (C14.out _ _ H_t.out).mono ?_); rintro e W20 ⟨t2, rfl, ⟨h_t2, n_t2⟩, hb⟩
       have H_t2 := Lib.hid h_t2
       have N_t2 := Lib.hid n_t2
       have HB20 := Lib.hid hb
       clear h_t2 n_t2 hb C14)
    | (go_at_call 129; (with_reducible refine (C15.out _ _ H_t2.out).mono ?_); rintro e W21 ⟨t3, rfl, ⟨rr, hrr, h_t3, n_t3⟩, hb⟩
       have H_t3 := Lib.hid (show nat.IsN _ _ 10000000000 from by rw [← root_val hrr]; exact h_t3)
       have HB21 := Lib.hid hb
       clear hb C15)
    | (go_at_call 127; (with_reducible refine (C16.out _ _ H_t3.out).mono ?_); rintro e W22 ⟨rfl, hb⟩
       have HB22 := Lib.hid hb
       clear hb C16)
    | (fail "no arm"))
  skip
  all_goals (go_ret; exact ⟨rfl, (nat.below_tr (nat.below_tr (nat.below_tr (nat.below_tr (nat.below_tr (nat.below_tr (nat.below_tr (nat.below_tr (nat.below_tr (nat.below_tr (nat.below_tr (nat.below_tr (nat.below_tr (nat.below_tr (nat.below_tr (nat.below_tr (nat.below_tr (nat.below_tr (nat.below_tr (nat.below_tr (nat.below_tr HB1.out HB2.out) HB3.out) HB4.out) HB5.out) HB6.out) HB7.out) HB8.out) HB9.out) HB10.out) HB11.out) HB12.out) HB13.out) HB14.out) HB15.out) HB16.out) HB17.out) HB18.out) HB19.out) HB20.out) HB21.out) HB22.out)⟩)
end Go.Proofs.YtlhmfgbaefaneabGreatDoor.law2
namespace Go.Proofs.YtlhmfgbaefaneabGreatDoor.law6
open Go Go.RowKit
theorem rol_all : RolC cal.CalIs := roll.rol_c
theorem cnt_all : CntC := count.cnt_c
theorem begun_all : BegunC := begun6_all rol_all cnt_all law2.begun_all
end Go.Proofs.YtlhmfgbaefaneabGreatDoor.law6
