/-
  The steps of the walks, part 26: Is, Join, Begun.
-/
import Derived.Deep.RegionWith
import Derived.Laws.MakeOwn
import Derived.Lib.Builder
import Derived.Test.YtfpooimjjpamoaaGreatDoorS25
namespace Go.Proofs.YtfpooimjjpamoaaGreatDoor.flt
open Go.RowKit Go.Extern.Stop Go.Stop Go.Extern
def EqAns (w : World) (v tgt : Value) (r : Bool) : Prop := (binOp .eql 29 v tgt).run Tryz.prog w = .ok (.bool r) w
structure Comp (u : TypeId) : Prop where
  ty : ∀ v w, (ReflectliteType.typeOf #[.iface u v]).run Tryz.prog w = .ok (.iface 251 (.agg #[.pointer (some ⟨9, u, none⟩)])) w
  cm : ∀ w, (ReflectliteType.method (fun t => do Rtype.noPackHeld "Comparable" t; (fun a => Value.bool a.comparable) <$> typeInfo t) #[.agg #[.pointer (some ⟨9, u, none⟩)]]).run Tryz.prog w = .ok (.bool true) w
theorem compPlain : Comp 171 := ⟨typeOfL, fun w => by kernel_rfl⟩
set_option maxRecDepth 100000 in
theorem eis_plain (c : Int) (u : TypeId) (x : Value) (r : Bool) (w : World) (h : EqAns w (.iface 171 (.int .i64 c)) (.iface u x) r) :
    Calls Tryz.prog 207 #[.iface 171 (.int .i64 c), .iface u x, .bool true] w fun e w' => e = .returned (.bool r) ∧ w = w' := by
  unfold EqAns at h
  have nI := noIsL
  have nU := noUnL
  have nUs := noUnsL
  cases r
  · go_enter Tryz.func207, Tryz.ntmps207
    go_wp2
    refine wp_loop_rounds 1 ?_
    rw [rounds_succ]
    go_wp2
    go_ret
    exact ⟨rfl, rfl⟩
  · go_enter Tryz.func207, Tryz.ntmps207
    go_wp2
    refine wp_loop_rounds 1 ?_
    rw [rounds_succ]
    go_wp2
    go_ret
    exact ⟨rfl, rfl⟩
set_option maxRecDepth 100000 in
theorem eIs_of (u1 : TypeId) (x1 : Value) (u : TypeId) (x : Value) (r : Bool) (w : World) (hC : Comp u)
    (h : Calls Tryz.prog 207 #[.iface u1 x1, .iface u x, .bool true] w fun e w' => e = .returned (.bool r) ∧ w = w') :
    Calls Tryz.prog 181 #[.iface u1 x1, .iface u x] w fun e w' => e = .returned (.bool r) ∧ w = w' := by
  have H := Lib.hid h
  clear h
  obtain ⟨e1, -, -, -, -, -, -, -, -, -, e11⟩ := ext
  have ty := hC.ty
  have cm := hC.cm
  have mC := methodComparable
  clear hC
  go_enter Tryz.func181, Tryz.ntmps181
  go_wp2_with (go_at_call 207; refine (H.out).mono ?_; rintro e' w' ⟨rfl, rfl⟩)
  go_ret
  exact ⟨rfl, rfl⟩
theorem eIs_plain (c : Int) (u : TypeId) (x : Value) (r : Bool) (w : World) (hC : Comp u) (h : EqAns w (.iface 171 (.int .i64 c)) (.iface u x) r) :
    Calls Tryz.prog 181 #[.iface 171 (.int .i64 c), .iface u x] w fun e w' => e = .returned (.bool r) ∧ w = w' :=
  eIs_of _ _ _ _ r w hC (eis_plain c u x r w h)
theorem FIs_any (b : Nat) (c : Int) (u : TypeId) (x : Value) (r : Bool) (w : World) (hc : w.cell? ⟨b, 0, none⟩ = some (.int .i64 c)) (h0 : (c == 0) = false) (hC : Comp u) (h : EqAns w (.iface 171 (.int .i64 c)) (.iface u x) r) :
    Calls Tryz.prog 268 #[.pointer (some ⟨b, 0, none⟩), .iface u x] w fun e w' => e = .returned (.bool r) ∧ w = w' := by
  have H1 := Lib.hid (Of_some c w h0)
  have H2 := Lib.hid (eIs_plain c u x r w hC h)
  clear h h0 hC
  go_enter Tryz.func268, Tryz.ntmps268
  go_wp2_with (first | (go_at_call 103; refine (H1.out).mono ?_; rintro e' w' ⟨rfl, rfl⟩) | (go_at_call 181; refine (H2.out).mono ?_; rintro e' w' ⟨rfl, rfl⟩))
  go_ret
  exact ⟨rfl, rfl⟩
inductive IsAns (w : World) (tgt : Value) : Value → Bool → Prop
  | plain (c : Int) (r : Bool) : EqAns w (.iface 171 (.int .i64 c)) tgt r → IsAns w tgt (.iface 171 (.int .i64 c)) r
  | other (x : Value) (r : Bool) : EqAns w (.iface 275 x) tgt r → IsAns w tgt (.iface 275 x) r
  | same (b : Nat) : EqAns w (.iface 173 (.pointer (some ⟨b, 0, none⟩))) tgt true → IsAns w tgt (.iface 173 (.pointer (some ⟨b, 0, none⟩))) true
  | code (b : Nat) (c : Int) (s : ByteArray) (e : Value) : FaultAt w b c s e → (c == 0) = false → EqAns w (.iface 173 (.pointer (some ⟨b, 0, none⟩))) tgt false → EqAns w (.iface 171 (.int .i64 c)) tgt true → IsAns w tgt (.iface 173 (.pointer (some ⟨b, 0, none⟩))) true
  | last (b : Nat) (c : Int) (s : ByteArray) : FaultAt w b c s .nilIface → (c == 0) = false → EqAns w (.iface 173 (.pointer (some ⟨b, 0, none⟩))) tgt false → EqAns w (.iface 171 (.int .i64 c)) tgt false → IsAns w tgt (.iface 173 (.pointer (some ⟨b, 0, none⟩))) false
  | on (b : Nat) (c : Int) (s : ByteArray) (u : TypeId) (x : Value) (r : Bool) : FaultAt w b c s (.iface u x) → (c == 0) = false → EqAns w (.iface 173 (.pointer (some ⟨b, 0, none⟩))) tgt false → EqAns w (.iface 171 (.int .i64 c)) tgt false → errM (.iface u x) < b + 2 → IsAns w tgt (.iface u x) r → IsAns w tgt (.iface 173 (.pointer (some ⟨b, 0, none⟩))) r
set_option maxRecDepth 100000 in
set_option maxHeartbeats 4000000 in
theorem eis_ans (u : TypeId) (x v : Value) (r : Bool) (w : World) (hC : Comp u) (h : IsAns w (.iface u x) v r) :
    Calls Tryz.prog 207 #[v, .iface u x, .bool true] w fun e w' => e = .returned (.bool r) ∧ w = w' := by
  have hI := hasIsP
  have hU := hasUnP
  have mI := methodIs
  have mU := methodUnwrap
  have nIL := noIsL
  have nUL := noUnL
  have nUsL := noUnsL
  have nIS := noIsS
  have nUS := noUnS
  have nUsS := noUnsS
  have HC := Lib.hid hC
  have HH := Lib.hid h
  clear hC h
  go_enter Tryz.func207, Tryz.ntmps207
  go_wp2
  go_loopw [0] (fun v' wl => w = wl ∧ IsAns w (.iface u x) v' r) (fun v' _ => errM v')
  case atStart => exact ⟨rfl, HH.out⟩
  case round =>
    obtain ⟨rfl, hans⟩ := hrel
    clear HH
    cases hans with
    | plain c _ he =>
      unfold EqAns at he
      cases r <;> go_wp2 <;> go_ret <;> exact ⟨rfl, rfl⟩
    | other y _ he =>
      unfold EqAns at he
      cases r <;> go_wp2 <;> go_ret <;> exact ⟨rfl, rfl⟩
    | same b he =>
      unfold EqAns at he
      go_wp2
      go_ret
      exact ⟨rfl, rfl⟩
    | code b c s e hf h0 he hp =>
      have HF := Lib.hid (FIs_any b c u x true w hf.cell0 h0 HC.out hp)
      unfold EqAns at he
      clear hf h0 hp
      go_wp2_with (go_at_call 268; refine (HF.out).mono ?_; rintro e' w' ⟨rfl, rfl⟩)
      go_ret
      exact ⟨rfl, rfl⟩
    | last b c s hf h0 he hp =>
      have HF := Lib.hid (FIs_any b c u x false w hf.cell0 h0 HC.out hp)
      have HU := Lib.hid (Unwrap_some b _ w hf.cell2)
      unfold EqAns at he
      clear hf h0 hp
      go_wp2_with (first | (go_at_call 268; refine (HF.out).mono ?_; rintro e' w' ⟨rfl, rfl⟩) | (go_at_call 269; refine (HU.out).mono ?_; rintro e' w' ⟨rfl, rfl⟩))
      go_ret
      exact ⟨rfl, rfl⟩
    | on b c s u1 x1 _ hf h0 he hp hlt hr =>
      have HF := Lib.hid (FIs_any b c u x false w hf.cell0 h0 HC.out hp)
      have HU := Lib.hid (Unwrap_some b _ w hf.cell2)
      have HR := Lib.hid hr
      have HL := Lib.hid hlt
      unfold EqAns at he
      clear hf h0 hp hr hlt
      go_wp2_with (first | (go_at_call 268; refine (HF.out).mono ?_; rintro e' w' ⟨rfl, rfl⟩) | (go_at_call 269; refine (HU.out).mono ?_; rintro e' w' ⟨rfl, rfl⟩))
      go_roundw
      case rel => exact ⟨trivial, HR.out⟩
      case measure => simpa [errM] using HL.out
theorem eIs_ans (u : TypeId) (x : Value) (u1 : TypeId) (x1 : Value) (r : Bool) (w : World) (hC : Comp u) (h : IsAns w (.iface u x) (.iface u1 x1) r) :
    Calls Tryz.prog 181 #[.iface u1 x1, .iface u x] w fun e w' => e = .returned (.bool r) ∧ w = w' :=
  eIs_of _ _ _ _ r w hC (eis_ans u x _ r w hC h)
end Go.Proofs.YtfpooimjjpamoaaGreatDoor.flt
namespace Go.Proofs.YtfpooimjjpamoaaGreatDoor.flt
open Go.RowKit Go.Extern.Stop Go.Stop Go.Extern
def Joined (w : World) (j : Nat) (v0 v1 : Value) : Prop := ∃ g cap, w.cell? ⟨j, 0, none⟩ = some (.slice (some ⟨g, 0, none⟩) 2 cap) ∧ w.cell? ⟨g, 0, none⟩ = some v0 ∧ w.cell? ⟨g, 1, none⟩ = some v1
theorem Joined.below {w w' : World} {j : Nat} {v0 v1 : Value} (h : Joined w j v0 v1) (hb : Below w.heap.size w w') : Joined w' j v0 v1 := by
  obtain ⟨g, cap, h1, h2, h3⟩ := h
  exact ⟨g, cap, (hb.cell (cell_lt h1)).trans h1, (hb.cell (cell_lt h2)).trans h2, (hb.cell (cell_lt h3)).trans h3⟩
theorem eq_plain (c d : Int) (w : World) : EqAns w (.iface 171 (.int .i64 c)) (.iface 171 (.int .i64 d)) (c == d) :=
  Lib.run_eql_iface_int (P := Tryz.prog) w c d Tryz.underlying29 compL Tryz.underlying171
theorem eq_types (u u' : TypeId) (x y : Value) (h : u ≠ u') (w : World) : EqAns w (.iface u x) (.iface u' y) false :=
  run_eql_iface_types (P := Tryz.prog) u u' x y Tryz.underlying29 h w
theorem isAns_code {w : World} {b B : Nat} {d : Int} {s : ByteArray} {l : List (Nat × Int × ByteArray)} (h : Chain w (.iface 173 (.pointer (some ⟨b, 0, none⟩))) B ((b, d, s) :: l)) (h0 : (d == 0) = false) : IsAns w (.iface 171 (.int .i64 d)) (.iface 173 (.pointer (some ⟨b, 0, none⟩))) true := by
  cases h with
  | link _ _ _ e _ _ hf _ _ => exact .code b d s e hf h0 (eq_types _ _ _ _ (by decide) w) (by have := eq_plain d d w; rwa [show (d == d) = true from by simp] at this)
end Go.Proofs.YtfpooimjjpamoaaGreatDoor.flt
namespace Go.Proofs.YtfpooimjjpamoaaGreatDoor.flt
open Go.RowKit Go.Extern.Stop Go.Stop Go.Extern
theorem ats_begun (b0 b1 : Nat) : ats [(b1, 4, ⟨#[97]⟩), (b0, 4, ⟨#[98]⟩)] = [⟨#[97]⟩, ⟨#[98]⟩] := by
  have h1 : (⟨#[97]⟩ : ByteArray).toList = [97] := by decide +kernel
  have h2 : (⟨#[98]⟩ : ByteArray).toList = [98] := by decide +kernel
  simp [ats, h1, h2]
theorem text_begun : (⟨(render [⟨#[97]⟩, ⟨#[98]⟩] ++ (msg 4).data.toList).toArray⟩ : ByteArray) = ⟨#[97, 58, 32, 98, 58, 32, 101, 114, 114, 111, 114, 32, 52]⟩ := by decide +kernel
theorem Places.two {w w' : World} {x y : ByteArray} {e : Ending} (h : Places w [x, y] e w') : ∃ g cap, e = .returned (.slice (some ⟨g, 0, none⟩) 2 cap) ∧ w'.cell? ⟨g, 0, none⟩ = some (.string x) ∧ w'.cell? ⟨g, 1, none⟩ = some (.string y) ∧ Below w.heap.size w w' := by
  obtain ⟨sv, rfl, hown, hb⟩ := h
  obtain ⟨g, cap, rfl⟩ : ∃ g cap, sv = .slice (some ⟨g, 0, none⟩) 2 cap := by
    rcases hown.2 with ⟨_, h⟩ | ⟨g, cap, cur, hv, _⟩
    · simp at h
    · exact ⟨g, cap, hv⟩
  have hown' : w'.ownsRow w.heap.size 9 1 (.slice (some ⟨g, 0, none⟩) 2 cap) 2 [.string x, .string y] := hown
  exact ⟨g, cap, rfl, by rw [hown'.cellAt 0 (by omega)]; rfl, by rw [hown'.cellAt 1 (by omega)]; rfl, hb⟩
set_option maxRecDepth 100000 in
set_option maxHeartbeats 4000000 in
theorem begun_any (w : World) (hg : Handle w) : Calls Tryz.prog 144 #[] w fun e w' => e = .returned (.bool true) ∧ Below w.heap.size w w' := by
  have HG := Lib.hid hg
  clear hg
  have mE := methodError
  have HN := Lib.hid (New_some 4 ⟨#[98]⟩ w (by decide))
  have B1 : Below w.heap.size w (w.alloc (.cells #[.int .i64 4, .string ⟨#[98]⟩, .nilIface] 176)) := (Below.refl _ _).alloc (Nat.le_refl _) _
  have F1 : FaultAt (w.alloc (.cells #[.int .i64 4, .string ⟨#[98]⟩, .nilIface] 176)) w.heap.size 4 ⟨#[98]⟩ .nilIface := by show (w.heap.push _)[w.heap.size]? = _; simp
  have HW := Lib.hid (Wrap_of ⟨#[97]⟩ _ _ 4 _ (Code_fault w.heap.size 4 _ (HG.out.below B1 HG.out.pos) F1.cell0))
  have HB1 := Lib.hid B1
  have HF1 := Lib.hid F1
  clear B1 F1
  go_enter Tryz.func144, Tryz.ntmps144
  go_wp2_with (first | (go_at_call 179; refine (HN.out).mono ?_; rintro e' w' ⟨rfl, rfl⟩) | (go_at_call 178; refine (HW.out).mono ?_; rintro e' W2 ⟨b1, rfl, hle, hF2, hB2⟩; have HLE := Lib.hid hle; have HF2 := Lib.hid hF2; have HB2 := Lib.hid hB2; clear hle hF2 hB2))
  have B2 : Below w.heap.size w W2 := HB1.out.trans (HB2.out.mono HB1.out.size)
  have F0 : FaultAt W2 w.heap.size 4 ⟨#[98]⟩ .nilIface := HF1.out.below HB2.out HF1.out.lt
  have CH : Chain W2 (.iface 173 (.pointer (some ⟨b1, 0, none⟩))) W2.heap.size [(b1, 4, ⟨#[97]⟩), (w.heap.size, 4, ⟨#[98]⟩)] :=
    .link b1 4 _ _ _ _ HF2.out HF2.out.lt (.link w.heap.size 4 _ _ _ _ F0 (by have := HLE.out; simp at this; omega) (.none _))
  have HWh := Lib.hid (show Calls Tryz.prog 180 #[.iface 173 (.pointer (some ⟨b1, 0, none⟩))] W2 fun e w' => ∃ g cap, e = .returned (.slice (some ⟨g, 0, none⟩) 2 cap) ∧ w'.cell? ⟨g, 0, none⟩ = some (.string ⟨#[97]⟩) ∧ w'.cell? ⟨g, 1, none⟩ = some (.string ⟨#[98]⟩) ∧ Below W2.heap.size W2 w' from by
    have h := Where_chain _ _ _ W2 (HG.out.below B2 HG.out.pos) CH (Nat.le_refl _) (by simp)
    rw [ats_begun] at h
    exact h.mono fun _ _ h => h.two)
  have HB2w := Lib.hid B2
  have HCH := Lib.hid CH
  clear B2 F0 CH
  go_wp2_with (go_at_call 180; refine (HWh.out).mono ?_; rintro e' W3 ⟨g, cap, rfl, hc0, hc1, hb3⟩; have HB3 := Lib.hid hb3; clear hb3)
  have HCo := Lib.hid (Code_fault b1 4 W3 (HG.out.below (HB2w.out.trans (HB3.out.mono HB2w.out.size)) HG.out.pos) ((HF2.out.below HB3.out HF2.out.lt).cell0))
  go_wp2_with (go_at_call 107; refine (HCo.out).mono ?_; rintro e' W4 ⟨rfl, hb4⟩; have HB4 := Lib.hid hb4; clear hb4)
  have B24 : Below W2.heap.size W2 W4 := HB3.out.trans (HB4.out.mono HB3.out.size)
  have HE := Lib.hid (show Calls Tryz.prog 267 #[.pointer (some ⟨b1, 0, none⟩)] W4 fun e w' => e = .returned (.string ⟨#[97, 58, 32, 98, 58, 32, 101, 114, 114, 111, 114, 32, 52]⟩) ∧ Below W4.heap.size W4 w' from by
    have h := Error_chain b1 4 ⟨#[97]⟩ W2.heap.size [(w.heap.size, 4, ⟨#[98]⟩)] W4 (HG.out.below (HB2w.out.trans (B24.mono HB2w.out.size)) HG.out.pos) (HCH.out.keep B24 (Nat.le_refl _)) B24.size (by simp) (by
      intro x hx
      simp at hx
      rcases hx with rfl | rfl <;> exact (show (1 : Nat) ≤ 100000 by omega)) (by omega) (by omega)
    rw [ats_begun, text_begun] at h
    exact h)
  have HB24 := Lib.hid B24
  clear B24
  go_wp2_with (go_at_call 267; refine (HE.out).mono ?_; rintro e' W5 ⟨rfl, hb5⟩; have HB5 := Lib.hid hb5; clear hb5)
  have B25 : Below W2.heap.size W2 W5 := HB24.out.trans (HB5.out.mono HB24.out.size)
  have CH5 := HCH.out.keep B25 (Nat.le_refl _)
  have F1 : FaultAt W5 b1 4 ⟨#[97]⟩ _ := HF2.out.below B25 HF2.out.lt
  have F0 : FaultAt W5 w.heap.size 4 ⟨#[98]⟩ .nilIface := ((HF1.out.below HB2.out HF1.out.lt).below B25 (Nat.lt_of_lt_of_le HF1.out.lt HB2.out.size))
  have lt01 : w.heap.size < b1 := by have := HLE.out; simp at this; omega
  have HI1 := Lib.hid (eIs_ans _ _ _ _ true W5 compPlain (isAns_code CH5 (by decide)))
  have HI2 := Lib.hid (eIs_ans _ _ _ _ false W5 compPlain (.on (tgt := .iface 171 (.int .i64 1)) b1 4 _ _ _ false F1 (by decide) (eq_types _ _ _ _ (by decide) W5) (eq_plain 4 1 W5) (by simp [errM]; omega) (.last w.heap.size 4 _ F0 (by decide) (eq_types _ _ _ _ (by decide) W5) (eq_plain 4 1 W5))))
  have heq : (binOp .eql 29 (.iface 171 (.int .i64 3)) (.iface 171 (.int .i64 3))).run Tryz.prog W5 = .ok (.bool true) W5 := eq_plain 3 3 W5
  have HBe := Lib.hid (HB2w.out.trans (B25.mono HB2w.out.size))
  clear B25 CH5 F1 F0 lt01
  go_wp2_with (first | (go_at_call 103; refine (Of_some _ _ (by decide)).mono ?_; rintro e' w' ⟨rfl, rfl⟩) | (go_at_call 181; refine (HI1.out).mono ?_; rintro e' w' ⟨rfl, rfl⟩; clear HI1) | (go_at_call 181; refine (HI2.out).mono ?_; rintro e' w' ⟨rfl, rfl⟩; clear HI2) | (go_at_call 103; refine (Of_none _).mono ?_; rintro e' w' ⟨rfl, rfl⟩))
  go_ret
  exact ⟨rfl, HBe.out⟩
end Go.Proofs.YtfpooimjjpamoaaGreatDoor.flt
