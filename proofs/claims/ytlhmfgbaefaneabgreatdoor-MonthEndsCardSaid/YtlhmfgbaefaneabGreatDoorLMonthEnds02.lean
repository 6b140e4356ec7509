/-
  The steps of the walks, part 2: Lw6MonthEnds, Read, RefMul.
-/
import Derived.BigQuiet
import Derived.Deep.QuietTactic
import Derived.Test.YtlhmfgbaefaneabGreatDoorProg
import Derived.WalkKit
import Derived.WalkSpells
import Derived.Lib.Hide
import Derived.OwnWalk
import Derived.Below
import Derived.Carry
import Derived.Outline
import Derived.Laws.MakeOwn
import Derived.Test.YtlhmfgbaefaneabGreatDoorB01
import Derived.Test.YtlhmfgbaefaneabGreatDoorB02
import Derived.Test.YtlhmfgbaefaneabGreatDoorB03
import Derived.Test.YtlhmfgbaefaneabGreatDoorB04
import Derived.Test.YtlhmfgbaefaneabGreatDoorB05
import Derived.Test.YtlhmfgbaefaneabGreatDoorB06
import Derived.Test.YtlhmfgbaefaneabGreatDoorB07
import Derived.Test.YtlhmfgbaefaneabGreatDoorB08
import Derived.Test.YtlhmfgbaefaneabGreatDoorB09
import Derived.Test.YtlhmfgbaefaneabGreatDoorB10
import Derived.Test.YtlhmfgbaefaneabGreatDoorB11
import Derived.Test.YtlhmfgbaefaneabGreatDoorB12
import Derived.Test.YtlhmfgbaefaneabGreatDoorB13
import Derived.Test.YtlhmfgbaefaneabGreatDoorB14
import Derived.Test.YtlhmfgbaefaneabGreatDoorB15
import Derived.Test.YtlhmfgbaefaneabGreatDoorB16
import Derived.Test.YtlhmfgbaefaneabGreatDoorB17
import Derived.Test.YtlhmfgbaefaneabGreatDoorB18
import Derived.Test.YtlhmfgbaefaneabGreatDoorB19
import Derived.Test.YtlhmfgbaefaneabGreatDoorB20
import Derived.Test.YtlhmfgbaefaneabGreatDoorB21
import Derived.Test.YtlhmfgbaefaneabGreatDoorB22
import Derived.Test.YtlhmfgbaefaneabGreatDoorB23
import Derived.Test.YtlhmfgbaefaneabGreatDoorB24
import Derived.Test.YtlhmfgbaefaneabGreatDoorB25
import Derived.Test.YtlhmfgbaefaneabGreatDoorB26
import Derived.Test.YtlhmfgbaefaneabGreatDoorB27
import Derived.Test.YtlhmfgbaefaneabGreatDoorB28
import Derived.Test.YtlhmfgbaefaneabGreatDoorB29
import Derived.Test.YtlhmfgbaefaneabGreatDoorB30
import Derived.Test.YtlhmfgbaefaneabGreatDoorB31
import Derived.Test.YtlhmfgbaefaneabGreatDoorB32
import Derived.Test.YtlhmfgbaefaneabGreatDoorB33
import Derived.Test.YtlhmfgbaefaneabGreatDoorB34
import Derived.Test.YtlhmfgbaefaneabGreatDoorB35
import Derived.Test.YtlhmfgbaefaneabGreatDoorB36
import Derived.Test.YtlhmfgbaefaneabGreatDoorB37
import Derived.Test.YtlhmfgbaefaneabGreatDoorB38
import Derived.Test.YtlhmfgbaefaneabGreatDoorB39
import Derived.Test.YtlhmfgbaefaneabGreatDoorB40
import Derived.Test.YtlhmfgbaefaneabGreatDoorLMonthEnds01
namespace Go.Proofs.YtlhmfgbaefaneabGreatDoor.law6
open Go Go.RowKit Go.Proofs.YtlhmfgbaefaneabGreatDoor.day Go.Proofs.YtlhmfgbaefaneabGreatDoor.date
open Go.Proofs.YtlhmfgbaefaneabGreatDoor.ref (str str_size)
open Go.Proofs.YtlhmfgbaefaneabGreatDoor.ref6 (CAt dayText DayForm quiet_same drewN_below6)
open Go.Proofs.YtlhmfgbaefaneabGreatDoor.ref6 (clip)
set_option maxRecDepth 100000 in
set_option maxHeartbeats 4000000 in
theorem MonthEnds_0 (HBg : BegunC) (y m k : Int) (p q K : Int) (HY : y.tmod 250 % 250 = p) (HQ : m.tmod 12 % 12 = q) (HK : k.tmod 100 = K) (hp0 : 0 ≤ p) (hp1 : p ≤ 249) (hq0 : 0 ≤ q) (hq1 : q ≤ 11) (A B Y M ml : Int) (hb0 : 0 ≤ B) (hb1 : B ≤ 109572)
    (P1 : (∀ W, Wd W → Calls Tryz.prog 37 #[.int .i64 (1910 + p), .int .i64 (1 + q)] W fun e w' => e = .returned (.tuple #[.int .i64 A, .nilIface]) ∧ Below W.heap.size W w')) (P2 : (∀ W, Wd W → Calls Tryz.prog 35 #[.int .i64 A, .int .i64 K, .bool true] W fun e w' => e = .returned (.tuple #[.int .i64 B, .nilIface]) ∧ Below W.heap.size W w')) (P3 : (∀ W, Wd W → Calls Tryz.prog 36 #[.int .i64 B] W fun e w' => e = .returned (.tuple #[.agg #[.int .i64 Y, .int .i64 M, .int .i64 ml], .nilIface]) ∧ Below W.heap.size W w')) (P4 : (∀ W, Wd W → Calls Tryz.prog 37 #[.int .i64 Y, .int .i64 M] W fun e w' => e = .returned (.tuple #[.int .i64 B, .nilIface]) ∧ Below W.heap.size W w')) (P5 : (∀ W, Wd W → Calls Tryz.prog 26 #[.int .i64 A] W fun e w' => e = .returned (.bool true) ∧ Below W.heap.size W w')) (P6 : (∀ W, Wd W → Calls Tryz.prog 26 #[.int .i64 B] W fun e w' => e = .returned (.bool true) ∧ Below W.heap.size W w')) (P7 : (∀ W, Wd W → Calls Tryz.prog 25 #[.int .i64 A, .int .i64 B] W fun e w' => e = .returned (.int .i64 K) ∧ Below W.heap.size W w')) (P8 : (∀ W, Wd W → Calls Tryz.prog 26 #[.int .i64 (B - 1)] W fun e w' => e = .returned (.bool false) ∧ Below W.heap.size W w')) (w : World) (hw : Wd w) :
    Calls Tryz.prog 8 #[.int .i64 y, .int .i64 m, .int .i64 k] w fun e w' => e = .returned (.bool true) ∧ Below w.heap.size w w' := by
  have t2 := Int.tmod_lt_of_pos y (show (0 : Int) < 250 by decide)
  have t3 : -250 < y.tmod 250 := by
    rcases Int.le_total 0 y with h | h
    · rw [Int.tmod_eq_emod_of_nonneg h]; omega
    · have e := Int.tmod_eq_emod_of_nonneg (b := 250) (show 0 ≤ -y by omega)
      rw [Int.neg_tmod] at e
      omega
  have s2 := Int.tmod_lt_of_pos m (show (0 : Int) < 12 by decide)
  have s3 : -12 < m.tmod 12 := by
    rcases Int.le_total 0 m with h | h
    · rw [Int.tmod_eq_emod_of_nonneg h]; omega
    · have e := Int.tmod_eq_emod_of_nonneg (b := 12) (show 0 ≤ -m by omega)
      rw [Int.neg_tmod] at e
      omega
  have _ := HK
  have _ := hp0
  have _ := hp1
  have _ := hq0
  have _ := hq1
  have HW := Lib.hid (fun W (h : Below w.heap.size w W) => hw.keep h)
  have C1 := Lib.hid (fun (W : World) (hW : Wd W) => HBg W hW)
  have C2 := Lib.hid (fun (W : World) (hW : Wd W) => P1 W hW)
  have C3 := Lib.hid (fun (W : World) (hW : Wd W) => P2 W hW)
  have C4 := Lib.hid (fun (W : World) (hW : Wd W) => P3 W hW)
  have C5 := Lib.hid (fun (W : World) (hW : Wd W) => P4 W hW)
  have C6 := Lib.hid (fun (W : World) (hW : Wd W) => P5 W hW)
  have C7 := Lib.hid (fun (W : World) (hW : Wd W) => P6 W hW)
  have C8 := Lib.hid (fun (W : World) (hW : Wd W) => P7 W hW)
  have C9 := Lib.hid (fun (W : World) (hW : Wd W) => P8 W hW)
  have HR0 := Lib.hid (Below.refl w.heap.size w)
  clear P1 P2 P3 P4 P5 P6 P7 P8
  clear hw
  go_enter Tryz.func8, Tryz.ntmps8
  go_wp2_with (first
    | (go_at_call 20; (with_reducible refine (C1.out _ (HW.out _ HR0.out)).mono ?_); rintro e W1 ⟨rfl, hb⟩
       have HR1 := Lib.hid (below_tr6 HR0.out hb rfl)
       clear C1 hb)
    | (go_at_call 37; (with_reducible refine (C2.out _ (HW.out _ HR1.out)).mono ?_); rintro e W2 ⟨rfl, hb⟩
       have HR2 := Lib.hid (below_tr6 HR1.out hb rfl)
       clear C2 hb)
    | (go_at_call 35; (with_reducible refine (C3.out _ (HW.out _ HR2.out)).mono ?_); rintro e W3 ⟨rfl, hb⟩
       have HR3 := Lib.hid (below_tr6 HR2.out hb rfl)
       clear C3 hb)
    | (go_at_call 36; (with_reducible refine (C4.out _ (HW.out _ HR3.out)).mono ?_); rintro e W4 ⟨rfl, hb⟩
       have M4_0 := Lib.hid (CAt.new W4 Y M ml)
       have HR4 := Lib.hid (Below.alloc (below_tr6 HR3.out hb rfl) (Below.size (below_tr6 HR3.out hb rfl)) (.cells #[.int .i64 Y, .int .i64 M, .int .i64 ml] 48))
       obtain ⟨q4_0_0, q4_0_1, q4_0_2, -⟩ := M4_0.out.cells
       clear C4 hb)
    | (go_at_call 37; (with_reducible refine (C5.out _ (HW.out _ HR4.out)).mono ?_); rintro e W5 ⟨rfl, hb⟩
       have M5_0 := Lib.hid (M4_0.out.below hb)
       have HR5 := Lib.hid (below_tr6 HR4.out hb rfl)
       obtain ⟨q5_0_0, q5_0_1, q5_0_2, -⟩ := M5_0.out.cells
       clear q4_0_0 q4_0_1 q4_0_2 C5 hb)
    | (go_at_call 26; (with_reducible refine (C6.out _ (HW.out _ HR5.out)).mono ?_); rintro e W6 ⟨rfl, hb⟩
       have M6_0 := Lib.hid (M5_0.out.below hb)
       have HR6 := Lib.hid (below_tr6 HR5.out hb rfl)
       obtain ⟨q6_0_0, q6_0_1, q6_0_2, -⟩ := M6_0.out.cells
       clear q5_0_0 q5_0_1 q5_0_2 C6 hb)
    | (go_at_call 26; (with_reducible refine (C7.out _ (HW.out _ HR6.out)).mono ?_); rintro e W7 ⟨rfl, hb⟩
       have M7_0 := Lib.hid (M6_0.out.below hb)
       have HR7 := Lib.hid (below_tr6 HR6.out hb rfl)
       obtain ⟨q7_0_0, q7_0_1, q7_0_2, -⟩ := M7_0.out.cells
       clear q6_0_0 q6_0_1 q6_0_2 C7 hb)
    | (go_at_call 25; (with_reducible refine (C8.out _ (HW.out _ HR7.out)).mono ?_); rintro e W8 ⟨rfl, hb⟩
       have M8_0 := Lib.hid (M7_0.out.below hb)
       have HR8 := Lib.hid (below_tr6 HR7.out hb rfl)
       obtain ⟨q8_0_0, q8_0_1, q8_0_2, -⟩ := M8_0.out.cells
       clear q7_0_0 q7_0_1 q7_0_2 C8 hb)
    | (go_at_call 26; (with_reducible refine (C9.out _ (HW.out _ HR8.out)).mono ?_); rintro e W9 ⟨rfl, hb⟩
       have M9_0 := Lib.hid (M8_0.out.below hb)
       have HR9 := Lib.hid (below_tr6 HR8.out hb rfl)
       obtain ⟨q9_0_0, q9_0_1, q9_0_2, -⟩ := M9_0.out.cells
       clear q8_0_0 q8_0_1 q8_0_2 C9 hb)
    | (fail "no arm"))
  go_ret
  exact ⟨rfl, HR9.out⟩
theorem MonthEnds_walk (HBg : BegunC) (HM : MonC) (y m k : Int) (w : World) (hw : Wd w) :
    Calls Tryz.prog 8 #[.int .i64 y, .int .i64 m, .int .i64 k] w fun e w' => e = .returned (.bool true) ∧ Below w.heap.size w w' := by
  obtain ⟨p, hp⟩ : ∃ p, y.tmod 250 % 250 = p := ⟨_, rfl⟩
  obtain ⟨q, hq⟩ : ∃ q, m.tmod 12 % 12 = q := ⟨_, rfl⟩
  obtain ⟨K, hK⟩ : ∃ K, k.tmod 100 = K := ⟨_, rfl⟩
  have hp0 : 0 ≤ p ∧ p ≤ 249 := by omega
  have hq0 : 0 ≤ q ∧ q ≤ 11 := by omega
  have hK0 : -100 < K ∧ K < 100 := by rw [← hK]; exact tm_in k 100 (by decide)
  have l0 := mlen_lo (y := 1910 + p) (m := 1 + q) (by omega) (by omega)
  have hc : IsCivil (1910 + p) (1 + q) (mlen (1910 + p) (1 + q)) := ⟨by omega, by omega, by omega, by omega⟩
  have P1 := HM.endYes (1910 + p) (1 + q) (by omega) (by omega) (by omega) (by omega)
  have hT := mY_mM (1910 + p) (1 + q) K
  have hM := mM_in (1910 + p) (1 + q) K
  have hY : 1900 ≤ mY (1910 + p) (1 + q) K ∧ mY (1910 + p) (1 + q) K ≤ 2199 := by unfold mY; omega
  have P2 := HM.addYes (1910 + p) (1 + q) (mlen (1910 + p) (1 + q)) K true hc (by omega) (by omega) hY.1 hY.2
  have e : clip true (1910 + p) (1 + q) (mlen (1910 + p) (1 + q)) (mY (1910 + p) (1 + q) K) (mM (1910 + p) (1 + q) K) = mlen (mY (1910 + p) (1 + q) K) (mM (1910 + p) (1 + q) K) := by
    unfold clip
    rw [if_pos (Or.inl ⟨rfl, rfl⟩)]
  rw [e] at P2
  have P5 := HM.last _ _ _ hc
  rw [decide_eq_true rfl] at P5
  generalize mlen (1910 + p) (1 + q) = d0 at *
  generalize mY (1910 + p) (1 + q) K = Y at *
  generalize mM (1910 + p) (1 + q) K = M at *
  have l1 := mlen_lo (y := Y) (m := M) hM.1 hM.2
  have hc2 : IsCivil Y M (mlen Y M) := ⟨hY.1, hY.2, by omega, by omega⟩
  have hc3 : IsCivil Y M (mlen Y M - 1) := ⟨hY.1, hY.2, by omega, by omega⟩
  have P3 := fun W (hW : Wd W) => Civil_at Y M (mlen Y M) hc2 W hW.lens
  have P4 := HM.endYes Y M hY.1 hY.2 hM.1 hM.2
  have P6 := HM.last _ _ _ hc2
  rw [decide_eq_true rfl] at P6
  have P7 := HM.between _ _ _ _ _ _ hc hc2
  rw [show 12 * (Y - (1910 + p)) + (M - (1 + q)) = K by omega] at P7
  have P8 := HM.last _ _ _ hc3
  rw [decide_eq_false (by omega), show dayOf Y M (mlen Y M - 1) = dayOf Y M (mlen Y M) - 1 by unfold dayOf; omega] at P8
  exact MonthEnds_0 HBg y m k p q K hp hq hK hp0.1 hp0.2 hq0.1 hq0.2 _ _ Y M _ (dayOf_isDay hc2).1 (dayOf_isDay hc2).2 P1 P2 P3 P4 P5 P6 P7 P8 w hw
end Go.Proofs.YtlhmfgbaefaneabGreatDoor.law6
namespace Go.Proofs.YtlhmfgbaefaneabGreatDoor.ref
open Go.RowKit
theorem Reads.of_own {w : World} {base : Nat} {sv : Value} {l : List Nat} (h : w.ownsRow base 80 1 sv l.length (l.map fun d => Value.int .u64 (d : Nat))) : Reads w sv l := by
  rcases h.2 with ⟨rfl, hl⟩ | ⟨g, cap, cur, rfl, _, _, hnc, hcm, _, _⟩
  · exact ⟨none, 0, by rw [hl], ⟨by omega, fun _ => rfl⟩, Nat.zero_le _, Or.inl (List.eq_nil_of_length_eq_zero hl)⟩
  · refine ⟨some ⟨g, 0, none⟩, cap, rfl, ⟨hnc, fun h => by cases h⟩, hcm, Or.inr ⟨g, rfl, fun k hk => ?_⟩⟩
    rw [h.cellAt k (by omega)]
    exact dg_map hk _
end Go.Proofs.YtlhmfgbaefaneabGreatDoor.ref
namespace Go.Proofs.YtlhmfgbaefaneabGreatDoor.ref
open Go.RowKit
theorem Own.reads {w : World} {base g cap : Nat} {o : List Nat} (h : Own w base g cap o) : Reads w (.slice (some ⟨g, 0, none⟩) o.length cap) o := Reads.of_own h
end Go.Proofs.YtlhmfgbaefaneabGreatDoor.ref
