/-
  The steps of the walks, part 3: Lw6CalCount, Read, RefMul, Laid6.
-/
import Derived.BigQuiet
import Derived.Deep.QuietTactic
import Derived.Test.YtlhmfgbaefaneabGreatDoorProg
import Derived.WalkKit
import Derived.WalkSpells
import Derived.Lib.Hide
import Derived.OwnWalk
import Derived.Below
import Derived.Carry
import Derived.Outline
import Derived.Laws.MakeOwn
import Derived.Test.YtlhmfgbaefaneabGreatDoorRows
import Derived.Lib.LaidU8
import Derived.ChangeSame
import Derived.ChangeVars
import Derived.JoinedOf
import Derived.RowKit
import Derived.RowKitTokens
import Derived.LaidLaws
import Derived.LaidHandle
import Derived.Stop.Joined
import Derived.Lay
import Derived.Test.YtlhmfgbaefaneabGreatDoorB01
import Derived.Test.YtlhmfgbaefaneabGreatDoorB02
import Derived.Test.YtlhmfgbaefaneabGreatDoorB03
import Derived.Test.YtlhmfgbaefaneabGreatDoorB04
import Derived.Test.YtlhmfgbaefaneabGreatDoorB05
import Derived.Test.YtlhmfgbaefaneabGreatDoorB06
import Derived.Test.YtlhmfgbaefaneabGreatDoorB07
import Derived.Test.YtlhmfgbaefaneabGreatDoorB08
import Derived.Test.YtlhmfgbaefaneabGreatDoorB09
import Derived.Test.YtlhmfgbaefaneabGreatDoorB10
import Derived.Test.YtlhmfgbaefaneabGreatDoorB11
import Derived.Test.YtlhmfgbaefaneabGreatDoorB12
import Derived.Test.YtlhmfgbaefaneabGreatDoorB13
import Derived.Test.YtlhmfgbaefaneabGreatDoorB14
import Derived.Test.YtlhmfgbaefaneabGreatDoorB15
import Derived.Test.YtlhmfgbaefaneabGreatDoorB16
import Derived.Test.YtlhmfgbaefaneabGreatDoorB17
import Derived.Test.YtlhmfgbaefaneabGreatDoorB18
import Derived.Test.YtlhmfgbaefaneabGreatDoorB19
import Derived.Test.YtlhmfgbaefaneabGreatDoorB20
import Derived.Test.YtlhmfgbaefaneabGreatDoorB21
import Derived.Test.YtlhmfgbaefaneabGreatDoorB22
import Derived.Test.YtlhmfgbaefaneabGreatDoorB23
import Derived.Test.YtlhmfgbaefaneabGreatDoorB24
import Derived.Test.YtlhmfgbaefaneabGreatDoorB25
import Derived.Test.YtlhmfgbaefaneabGreatDoorB26
import Derived.Test.YtlhmfgbaefaneabGreatDoorB27
import Derived.Test.YtlhmfgbaefaneabGreatDoorB28
import Derived.Test.YtlhmfgbaefaneabGreatDoorB29
import Derived.Test.YtlhmfgbaefaneabGreatDoorB30
import Derived.Test.YtlhmfgbaefaneabGreatDoorB31
import Derived.Test.YtlhmfgbaefaneabGreatDoorB32
import Derived.Test.YtlhmfgbaefaneabGreatDoorB33
import Derived.Test.YtlhmfgbaefaneabGreatDoorB34
import Derived.Test.YtlhmfgbaefaneabGreatDoorB35
import Derived.Test.YtlhmfgbaefaneabGreatDoorB36
import Derived.Test.YtlhmfgbaefaneabGreatDoorB37
import Derived.Test.YtlhmfgbaefaneabGreatDoorB38
import Derived.Test.YtlhmfgbaefaneabGreatDoorB39
import Derived.Test.YtlhmfgbaefaneabGreatDoorB40
import Derived.Test.YtlhmfgbaefaneabGreatDoorLCalCount01
import Derived.Test.YtlhmfgbaefaneabGreatDoorLCalCount02
namespace Go.Proofs.YtlhmfgbaefaneabGreatDoor.law6
open Go Go.RowKit Go.Proofs.YtlhmfgbaefaneabGreatDoor.day Go.Proofs.YtlhmfgbaefaneabGreatDoor.date
open Go.Proofs.YtlhmfgbaefaneabGreatDoor.ref (str str_size)
open Go.Proofs.YtlhmfgbaefaneabGreatDoor.ref6 (CAt dayText DayForm quiet_same drewN_below6)
open Go.Proofs.YtlhmfgbaefaneabGreatDoor.ref6 (IntsAt RulesAt CalsAt CalT Rule May openB nextD addN cntO rollD)
def CRel {IsC : World → Value → List CalT → Prop} (H : CalC IsC) (w : World) (cv : Value) (cs : List CalT) (D : Int) (M : Nat) (nv dv : Value) (wr : World) : Prop :=
  ∃ j : Nat, j ≤ M ∧ nv = .int .i64 (ref6.cntN (openB cs) j D) ∧ dv = .int .i64 (D + (j : Nat)) ∧ CalV H wr cv cs ∧ Below w.heap.size w wr
set_option maxRecDepth 100000 in
set_option maxHeartbeats 4000000 in
theorem CalCount_0 {IsC : World → Value → List CalT → Prop} (HBg : BegunC) (H : CalC IsC) (rv : Value) (l : List Rule) (cs : List CalT) (hcs : ([⟨rules8 l 8, []⟩] : List CalT) = cs) (n b c D x y p1 p2 p3 : Int) (M : Nat) (n0 : -9223372036854775808 ≤ n) (n1 : n ≤ 9223372036854775807) (hD : n % 109573 = D) (d0 : 0 ≤ D) (d1 : D ≤ 109572) (hx : b % 128 = x) (hy : c % 128 = y) (x0 : 0 ≤ x) (x1 : x ≤ 127) (y0 : 0 ≤ y) (y1 : y ≤ 127) (hM : (M : Int) = x + y) (hp : p1 + p2 = p3) (q0 : 0 ≤ p1) (q1 : p1 ≤ 1000) (q2 : 0 ≤ p2) (q3 : p2 ≤ 1000) (hn : ref6.cntN (openB cs) M D = p3)
    (PO : ∀ j : Nat, j < M → (∀ W v, Wd W → CalV H W v cs → Calls Tryz.prog 21 #[v, .int .i64 (D + (j : Nat))] W fun e w' => e = .returned (.bool (openB cs (D + (j : Nat)))) ∧ Below W.heap.size W w')) (P1 : (∀ W v, Wd W → CalV H W v cs → Calls Tryz.prog 22 #[v, .int .i64 D, .int .i64 (D + x)] W fun e w' => e = .returned (.int .i64 p1) ∧ Below W.heap.size W w')) (P2 : (∀ W v, Wd W → CalV H W v cs → Calls Tryz.prog 22 #[v, .int .i64 (D + x), .int .i64 (D + x + y)] W fun e w' => e = .returned (.int .i64 p2) ∧ Below W.heap.size W w')) (P3 : (∀ W v, Wd W → CalV H W v cs → Calls Tryz.prog 22 #[v, .int .i64 D, .int .i64 (D + x + y)] W fun e w' => e = .returned (.int .i64 p3) ∧ Below W.heap.size W w')) (P4 : (∀ W v, Wd W → CalV H W v cs → Calls Tryz.prog 22 #[v, .int .i64 (D + x + y), .int .i64 D] W fun e w' => e = .returned (.int .i64 0) ∧ Below W.heap.size W w')) (w : World) (hw : Wd w) (hr : RulesO w rv l) :
    Calls Tryz.prog 13 #[rv, .int .i64 n, .int .i64 b, .int .i64 c] w fun e w' => e = .returned (.bool true) ∧ Below w.heap.size w w' := by
  have hDay := fun W => Day_any n n0 n1 W
  rw [hD] at hDay
  have hbb := and127 b
  have hcc := and127 c
  rw [hx] at hbb
  rw [hy] at hcc
  have HW := Lib.hid (fun W (h : Below w.heap.size w W) => hw.keep h)
  have C1 := Lib.hid (fun (W : World) (hW : Wd W) => HBg W hW)
  have C2 := Lib.hid (fun (W : World) (v : Value) (h : RulesO W v l) => rules_any _ l W h)
  have C3 := Lib.hid (fun (W : World) (hW : Wd W) (v : Value) (h : RulesAt W v (rules8 l 8)) => New_drawn0 H _ l W hW h)
  have C4 := Lib.hid (fun (W : World) (hW : Wd W) => hDay W)
  have HR0 := Lib.hid (Below.refl w.heap.size w)
  have Grs_0 := Lib.hid (hr)
  replace PO := Lib.hid PO
  replace P1 := Lib.hid P1
  replace P2 := Lib.hid P2
  replace P3 := Lib.hid P3
  replace P4 := Lib.hid P4
  have HN := Lib.hid hn
  clear hn hDay hr hD hx hy
  clear hw
  go_enter Tryz.func13, Tryz.ntmps13
  go_wp2_with (first
    | (go_at_call 20; (with_reducible refine (C1.out _ (HW.out _ HR0.out)).mono ?_); rintro e W1 ⟨rfl, hb⟩
       have Grs_1 := Lib.hid (Grs_0.out.below hb)
       have HR1 := Lib.hid (below_tr6 HR0.out hb rfl)
       clear C1 hb)
    | (go_at_call 43; (with_reducible refine (C2.out _ _ Grs_1.out).mono ?_); rintro e W2 ⟨rv, rfl, h_rv, hb⟩
       have Grs_2 := Lib.hid (Grs_1.out.below hb)
       have Grv_2 := Lib.hid h_rv
       have HR2 := Lib.hid (below_tr6 HR1.out hb rfl)
       clear C2 hb h_rv)
    | (go_at_call 42; (with_reducible refine (C3.out _ (HW.out _ HR2.out) _ Grv_2.out).mono ?_); rintro e W3 ⟨ac, rfl, h_c, hb⟩
       rw [hcs] at h_c
       have Grs_3 := Lib.hid (Grs_2.out.below hb)
       have Grv_3 := Lib.hid (Grv_2.out.below hb)
       have Gc_3 := Lib.hid h_c
       have HR3 := Lib.hid (below_tr6 HR2.out hb rfl)
       clear C3 hb h_c)
    | (go_at_call 28; (with_reducible refine (C4.out _ (HW.out _ HR3.out)).mono ?_); rintro e w9 ⟨rfl, rfl⟩
       have HR4 := Lib.hid HR3.out
       clear C4)
    | (fail "no arm"))
  go_loopw [12, 13] (fun nv dv wr => CRel H w (.pointer (some ac)) cs D M nv dv wr) (fun _ dv _ => (D + x + y - intOf dv).toNat)
  case atStart => exact ⟨0, Nat.zero_le _, rfl, by simp, Gc_3.out, HR4.out⟩
  case round =>
    obtain ⟨j, hj, rfl, rfl, hc, hb⟩ := hrel
    have G0 := Lib.hid hc
    have B0 := Lib.hid hb
    clear hc hb
    have c0 := ref6.cntN_nn (openB cs) D j
    have c1 := ref6.cntN_le (openB cs) D j
    by_cases hlt : j < M
    · have hlt2 : D + (j : Int) < D + x + y := by omega
      have HS := Lib.hid (show ref6.cntN (openB cs) (j + 1) D = ref6.cntN (openB cs) j D + (if openB cs (D + (j : Nat)) = true then 1 else 0) from rfl)
      have HO := Lib.hid (PO.out j hlt)
      generalize openB cs (D + (j : Nat)) = ob at *
      generalize ref6.cntN (openB cs) j D = cn at *
      cases ob
      all_goals
        simp only [Bool.false_eq_true, if_false, if_true, Int.add_zero] at HS
        go_wp2_with (first
          | (go_at_call 21; (with_reducible refine (HO.out _ _ (HW.out _ B0.out) G0.out).mono ?_); rintro e V1 ⟨rfl, hb⟩; have G1 := Lib.hid (G0.out.below hb); have B1 := Lib.hid (B0.out.trans (hb.mono B0.out.size)); clear hb)
          | (fail "no arm"))
        go_roundw
        case rel => exact ⟨j + 1, by omega, by rw [HS.out] <;> go_num, by go_num, G1.out, B1.out⟩
        case measure => simp [intOf] <;> omega
    · have hge : ¬ (D + (j : Int) < D + x + y) := by omega
      obtain rfl : j = M := by omega
      rw [HN.out] at c0 c1 ⊢
      go_wp2_with (first
        | (go_at_call 22; (with_reducible refine (P1.out _ _ (HW.out _ B0.out) G0.out).mono ?_); rintro e V1 ⟨rfl, hb⟩; have G1 := Lib.hid (G0.out.below hb); have B1 := Lib.hid (B0.out.trans (hb.mono B0.out.size)); clear hb)
        | (go_at_call 22; (with_reducible refine (P2.out _ _ (HW.out _ B1.out) G1.out).mono ?_); rintro e V2 ⟨rfl, hb⟩; have G2 := Lib.hid (G1.out.below hb); have B2 := Lib.hid (B1.out.trans (hb.mono B1.out.size)); clear hb)
        | (go_at_call 22; (with_reducible refine (P3.out _ _ (HW.out _ B2.out) G2.out).mono ?_); rintro e V3 ⟨rfl, hb⟩; have G3 := Lib.hid (G2.out.below hb); have B3 := Lib.hid (B2.out.trans (hb.mono B2.out.size)); clear hb)
        | (go_at_call 22; (with_reducible refine (P3.out _ _ (HW.out _ B3.out) G3.out).mono ?_); rintro e V4 ⟨rfl, hb⟩; have G4 := Lib.hid (G3.out.below hb); have B4 := Lib.hid (B3.out.trans (hb.mono B3.out.size)); clear hb)
        | (go_at_call 22; (with_reducible refine (P4.out _ _ (HW.out _ B4.out) G4.out).mono ?_); rintro e V5 ⟨rfl, hb⟩; have G5 := Lib.hid (G4.out.below hb); have B5 := Lib.hid (B4.out.trans (hb.mono B4.out.size)); clear hb)
        | (fail "no arm"))
      go_ret
      exact ⟨rfl, B5.out⟩
theorem CalCount_walk {IsC : World → Value → List CalT → Prop} (HBg : BegunC) (H : CalC IsC) (rv : Value) (l : List Rule) (n b c : Int) (n0 : -9223372036854775808 ≤ n) (n1 : n ≤ 9223372036854775807) (w : World) (hw : Wd w) (hr : RulesO w rv l) :
    Calls Tryz.prog 13 #[rv, .int .i64 n, .int .i64 b, .int .i64 c] w fun e w' => e = .returned (.bool true) ∧ Below w.heap.size w w' := by
  have hd := Day_isDay n
  obtain ⟨D, hD⟩ : ∃ D, n % 109573 = D := ⟨_, rfl⟩
  rw [hD] at hd
  obtain ⟨cs, hcs⟩ : ∃ cs, ([⟨rules8 l 8, []⟩] : List CalT) = cs := ⟨_, rfl⟩
  have d0 := hd.1
  have d1 := hd.2
  obtain ⟨x, hx⟩ : ∃ x, b % 128 = x := ⟨_, rfl⟩
  obtain ⟨y, hy⟩ : ∃ y, c % 128 = y := ⟨_, rfl⟩
  have x0 : 0 ≤ x := by omega
  have x1 : x ≤ 127 := by omega
  have y0 : 0 ≤ y := by omega
  have y1 : y ≤ 127 := by omega
  have b1 : cntO cs D (D + x) ≤ 1000 := by have := ref6.cntN_le (openB cs) D (D + x - D).toNat; unfold cntO; omega
  have b2 : cntO cs (D + x) (D + x + y) ≤ 1000 := by have := ref6.cntN_le (openB cs) (D + x) (D + x + y - (D + x)).toNat; unfold cntO; omega
  have P4 := fun W v (hW : Wd W) (hv : CalV H W v cs) => H.count v cs (D + x + y) D W hW hv (by omega) (by omega) (by omega) (by omega)
  rw [ref6.cnt_empty cs (show D ≤ D + x + y by omega)] at P4
  exact CalCount_0 HBg H rv l cs hcs n b c D x y _ _ _ (x + y).toNat n0 n1 hD d0 d1 hx hy x0 x1 y0 y1 (by omega) (ref6.cnt_split cs (show D ≤ D + x by omega) (show D + x ≤ D + x + y by omega)).symm (ref6.cnt_nn _ _ _) b1 (ref6.cnt_nn _ _ _) b2 (by unfold cntO; rw [show (D + x + y - D).toNat = (x + y).toNat by omega])
    (fun j hj W v hW hv => H.isOpen v cs _ W hW hv (by omega) (by omega)) (fun W v hW hv => H.count v cs _ _ W hW hv (by omega) (by omega) (by omega) (by omega)) (fun W v hW hv => H.count v cs _ _ W hW hv (by omega) (by omega) (by omega) (by omega)) (fun W v hW hv => H.count v cs _ _ W hW hv (by omega) (by omega) (by omega) (by omega)) P4 w hw hr
end Go.Proofs.YtlhmfgbaefaneabGreatDoor.law6
namespace Go.Proofs.YtlhmfgbaefaneabGreatDoor.ref
open Go.RowKit
theorem Reads.of_own {w : World} {base : Nat} {sv : Value} {l : List Nat} (h : w.ownsRow base 80 1 sv l.length (l.map fun d => Value.int .u64 (d : Nat))) : Reads w sv l := by
  rcases h.2 with ⟨rfl, hl⟩ | ⟨g, cap, cur, rfl, _, _, hnc, hcm, _, _⟩
  · exact ⟨none, 0, by rw [hl], ⟨by omega, fun _ => rfl⟩, Nat.zero_le _, Or.inl (List.eq_nil_of_length_eq_zero hl)⟩
  · refine ⟨some ⟨g, 0, none⟩, cap, rfl, ⟨hnc, fun h => by cases h⟩, hcm, Or.inr ⟨g, rfl, fun k hk => ?_⟩⟩
    rw [h.cellAt k (by omega)]
    exact dg_map hk _
end Go.Proofs.YtlhmfgbaefaneabGreatDoor.ref
namespace Go.Proofs.YtlhmfgbaefaneabGreatDoor.ref
open Go.RowKit
theorem Own.reads {w : World} {base g cap : Nat} {o : List Nat} (h : Own w base g cap o) : Reads w (.slice (some ⟨g, 0, none⟩) o.length cap) o := Reads.of_own h
end Go.Proofs.YtlhmfgbaefaneabGreatDoor.ref
namespace Go.Proofs.YtlhmfgbaefaneabGreatDoor.law6
open Go Go.ChangeShapes Go.WideShapes Go.RowKit Go.Lib Go.Proofs.YtlhmfgbaefaneabGreatDoor.date
theorem own : ownKnob Tryz.prog.godebug = none := by kernel_rfl
theorem et : Tryz.prog.globalNamed "errors.errorType" = some 1 := by kernel_rfl
theorem rt : (Tryz.prog.cutTypes.find? (·.1 == "internal/reflectlite.rtype")).map (·.2) = some 223 := by kernel_rfl
theorem oneRow : ((List.range 304).filter fun t => Tryz.prog.rowNamed t [101, 114, 114, 111, 114]) = [24] := by kernel_rfl
theorem tsize : Tryz.prog.types.size = 304 := by kernel_rfl
theorem handle_of {W : World} (h : handlesMet Tryz.prog [("errors.errorType", Rows.laid_errors_errorType)] W) : flt.Handle W := by
  obtain ⟨name, u, ty, e1, e2, e3, e4, e5⟩ := h _ (List.mem_singleton.2 rfl)
  have en : name = [101, 114, 114, 111, 114] := (Option.some.inj e1).symm
  subst en
  obtain rfl := Option.some.inj (rt.symm.trans e2)
  have hm : ty ∈ (List.range 304).filter fun t => Tryz.prog.rowNamed t [101, 114, 114, 111, 114] := List.mem_filter.2 ⟨List.mem_range.2 (by rw [← tsize]; exact e3), e4⟩
  rw [oneRow] at hm
  obtain rfl := List.mem_singleton.1 hm
  have hh : typeHandle Tryz.prog 24 = .pointer (some ⟨10, 24, none⟩) := by kernel_rfl
  rw [hh] at e5
  unfold flt.Handle
  simpa using World.var?_cell et e5 0
def laidL : List (String × DataW Unit) := (Rows.countNoneRow.laid).filter fun x => x.2.handleName?.isNone
theorem in_pow : ("internal/strconv.uint64pow10", tabData .u64 pow10Tab) ∈ laidL := by
  unfold laidL
  refine List.mem_filter.2 ⟨?_, rfl⟩
  repeat (first | exact .head _ | refine .tail _ ?_)
theorem in_len : ("rentier/date.lengths", tabData .i64 [31, 28, 31, 30, 31, 30, 31, 31, 30, 31, 30, 31]) ∈ laidL := by
  unfold laidL
  refine List.mem_filter.2 ⟨?_, rfl⟩
  repeat (first | exact .head _ | refine .tail _ ?_)
theorem tab_of {W : World} {n : String} {k : IntKind} {zs : List Int} {g t e c : Nat} (h : VarReads Tryz.prog W n (tabData k zs)) (hg : Tryz.prog.globalNamed n = some g) (hty : (Tryz.prog.globals[g]?).map (·.type) = some t) (ht : Tryz.prog.underlying t = some (.array c e)) (he : Tryz.prog.underlying e = some (.int k)) (hce : Tryz.prog.cellsOf e = 1) (hct : Tryz.prog.cellsOf t = c) :
    ∃ u fr, W.heap[g]? = some (.cells (zs.map fun z => Value.int k z).toArray u fr) := by
  obtain ⟨g', t', cs, fuel, p, hg', ht', hvar, hd⟩ := h
  obtain rfl := Option.some.inj (hg.symm.trans hg')
  obtain rfl := Option.some.inj (hty.symm.trans ht')
  have hc := cells_of_tab ht he hce hct hd
  unfold World.var? at hvar
  rw [hg, Option.bind_some] at hvar
  split at hvar
  · rename_i cs' u fr hh
    cases hvar
    refine ⟨u, fr, ?_⟩
    rw [hh, ← hc]
  · cases hvar
theorem wd_of {W : World} (hL : laidMet Tryz.prog laidL W) (hH : handlesMet Tryz.prog [("errors.errorType", Rows.laid_errors_errorType)] W) : Wd W := by
  obtain ⟨u1, f1, h1⟩ := tab_of (laidMet.reads hL in_pow) (g := 2) (t := 256) (e := 80) (c := 20) (by kernel_rfl) (by kernel_rfl) (by kernel_rfl) (by kernel_rfl) (by kernel_rfl) (by kernel_rfl)
  obtain ⟨u2, f2, h2⟩ := tab_of (laidMet.reads hL in_len) (g := 0) (t := 93) (e := 3) (c := 12) (by kernel_rfl) (by kernel_rfl) (by kernel_rfl) (by kernel_rfl) (by kernel_rfl) (by kernel_rfl)
  refine ⟨handle_of hH, fun i hi => ?_, ⟨u1, f1, h1⟩⟩
  rw [cell_of_row _ _ i _ _ f2 h2]
  match i, hi with
  | 0, _ | 1, _ | 2, _ | 3, _ | 4, _ | 5, _ | 6, _ | 7, _ | 8, _ | 9, _ | 10, _ | 11, _ => rfl
noncomputable def laidBase (os : Os) : World :=
  { World.holding Tryz.prog os ⟨#[], #[], []⟩ with heap := (World.holding Tryz.prog os ⟨#[], #[], []⟩).heap.modify 1 fun
      | .cells _ t frozen => .cells #[.iface 223 (.agg #[.pointer (some ⟨10, 24, none⟩)])] t frozen
      | o => o }
noncomputable def laidWorld (os : Os) : World := (laidBase os).layVars Tryz.prog laidL
theorem laidWorld_os (os : Os) : (laidWorld os).os = os := World.layVars_os _ _ _
theorem laidWorld_met (os : Os) (args : Array Value) : laidMetH Tryz.prog Rows.countNoneRow.laid ((laidWorld os).forCall (fun _ _ => 0) ⟨#[], args, []⟩).memory := by
  refine laidMetH_of_parts ?_ (by kernel_rfl)
  have e1 : (laidL.filter fun x => (laidL.map (·.1)).contains x.1) = laidL := List.filter_eq_self.2 fun x hx => List.contains_iff_mem.2 (List.mem_map.2 ⟨x, hx, rfl⟩)
  have e2 : (laidL.filter fun x => !(laidL.map (·.1)).contains x.1) = [] := List.filter_eq_nil_iff.2 fun x hx => by rw [List.contains_iff_mem.2 (List.mem_map.2 ⟨x, hx, rfl⟩)]; simp
  have h : laidMet Tryz.prog laidL (laidWorld os) := laidMet_layVars (w0 := laidBase os) (laidL.map (·.1)) [] (by rw [e1]; rfl) (by rw [e1]; kernel_rfl) (by rw [e1]; kernel_rfl) (by rw [e2]; exact LaidIn.none)
  exact h.of_heap (by simp [World.memory, World.forCall, Input.heap])
theorem laid_vars (os : Os) (args : Array Value) : ((laidWorld os).forCall (fun _ _ => 0) ⟨#[], args, []⟩).variablesB Tryz.checked.prog = true := by kernel_rfl
theorem laid_rest (os : Os) (args : Array Value) : (((laidWorld os).forCall (fun _ _ => 0) ⟨#[], args, []⟩).heap.toList.drop Tryz.checked.prog.globals.size).take ((begin Tryz.checked.prog (fun _ _ => 0) default).world.heap.size - Tryz.checked.prog.globals.size) =
      (begin Tryz.checked.prog (fun _ _ => 0) default).world.heap.toList.drop Tryz.checked.prog.globals.size := by kernel_rfl
end Go.Proofs.YtlhmfgbaefaneabGreatDoor.law6
