/-
  The steps of the walks, part 3: Lw6CalBack, Read, RefMul.
-/
import Derived.BigQuiet
import Derived.Deep.QuietTactic
import Derived.Test.YtlhmfgbaefaneabGreatDoorProg
import Derived.WalkKit
import Derived.WalkSpells
import Derived.Lib.Hide
import Derived.OwnWalk
import Derived.Below
import Derived.Carry
import Derived.Outline
import Derived.Laws.MakeOwn
import Derived.Test.YtlhmfgbaefaneabGreatDoorB01
import Derived.Test.YtlhmfgbaefaneabGreatDoorB02
import Derived.Test.YtlhmfgbaefaneabGreatDoorB03
import Derived.Test.YtlhmfgbaefaneabGreatDoorB04
import Derived.Test.YtlhmfgbaefaneabGreatDoorB05
import Derived.Test.YtlhmfgbaefaneabGreatDoorB06
import Derived.Test.YtlhmfgbaefaneabGreatDoorB07
import Derived.Test.YtlhmfgbaefaneabGreatDoorB08
import Derived.Test.YtlhmfgbaefaneabGreatDoorB09
import Derived.Test.YtlhmfgbaefaneabGreatDoorB10
import Derived.Test.YtlhmfgbaefaneabGreatDoorB11
import Derived.Test.YtlhmfgbaefaneabGreatDoorB12
import Derived.Test.YtlhmfgbaefaneabGreatDoorB13
import Derived.Test.YtlhmfgbaefaneabGreatDoorB14
import Derived.Test.YtlhmfgbaefaneabGreatDoorB15
import Derived.Test.YtlhmfgbaefaneabGreatDoorB16
import Derived.Test.YtlhmfgbaefaneabGreatDoorB17
import Derived.Test.YtlhmfgbaefaneabGreatDoorB18
import Derived.Test.YtlhmfgbaefaneabGreatDoorB19
import Derived.Test.YtlhmfgbaefaneabGreatDoorB20
import Derived.Test.YtlhmfgbaefaneabGreatDoorB21
import Derived.Test.YtlhmfgbaefaneabGreatDoorB22
import Derived.Test.YtlhmfgbaefaneabGreatDoorB23
import Derived.Test.YtlhmfgbaefaneabGreatDoorB24
import Derived.Test.YtlhmfgbaefaneabGreatDoorB25
import Derived.Test.YtlhmfgbaefaneabGreatDoorB26
import Derived.Test.YtlhmfgbaefaneabGreatDoorB27
import Derived.Test.YtlhmfgbaefaneabGreatDoorB28
import Derived.Test.YtlhmfgbaefaneabGreatDoorB29
import Derived.Test.YtlhmfgbaefaneabGreatDoorB30
import Derived.Test.YtlhmfgbaefaneabGreatDoorB31
import Derived.Test.YtlhmfgbaefaneabGreatDoorB32
import Derived.Test.YtlhmfgbaefaneabGreatDoorB33
import Derived.Test.YtlhmfgbaefaneabGreatDoorB34
import Derived.Test.YtlhmfgbaefaneabGreatDoorB35
import Derived.Test.YtlhmfgbaefaneabGreatDoorB36
import Derived.Test.YtlhmfgbaefaneabGreatDoorB37
import Derived.Test.YtlhmfgbaefaneabGreatDoorB38
import Derived.Test.YtlhmfgbaefaneabGreatDoorB39
import Derived.Test.YtlhmfgbaefaneabGreatDoorB40
import Derived.Test.YtlhmfgbaefaneabGreatDoorLCalBack01
import Derived.Test.YtlhmfgbaefaneabGreatDoorLCalBack02
namespace Go.Proofs.YtlhmfgbaefaneabGreatDoor.law6
open Go Go.RowKit Go.Proofs.YtlhmfgbaefaneabGreatDoor.day Go.Proofs.YtlhmfgbaefaneabGreatDoor.date
open Go.Proofs.YtlhmfgbaefaneabGreatDoor.ref (str str_size)
open Go.Proofs.YtlhmfgbaefaneabGreatDoor.ref6 (CAt dayText DayForm quiet_same drewN_below6)
open Go.Proofs.YtlhmfgbaefaneabGreatDoor.ref6 (IntsAt RulesAt CalsAt CalT Rule May openB nextD addN cntO rollD)
set_option maxRecDepth 100000 in
set_option maxHeartbeats 4000000 in
theorem CalBack_N {IsC : World → Value → List CalT → Prop} (HBg : BegunC) (H : CalC IsC) (rv : Value) (l : List Rule) (cs : List CalT) (hcs : ([⟨rules8 l 8, []⟩] : List CalT) = cs) (n D k K : Int) (n0 : -9223372036854775808 ≤ n) (n1 : n ≤ 9223372036854775807) (k0 : -9223372036854775808 ≤ k) (k1 : k ≤ 9223372036854775807) (hD : n % 109573 = D) (HT : k.tmod 30 % 30 = K) (hK0 : 0 ≤ K) (hK1 : K ≤ 29)
    (P1 : (∀ W v, Wd W → CalV H W v cs → Calls Tryz.prog 17 #[v, .int .i64 D, .int .i64 K] W fun e w' => e = .returned (.tuple #[.int .i64 0, errOf 4]) ∧ Below W.heap.size W w')) (w : World) (hw : Wd w) (hr : RulesO w rv l) :
    Calls Tryz.prog 14 #[rv, .int .i64 n, .int .i64 k] w fun e w' => e = .returned (.bool true) ∧ Below w.heap.size w w' := by
  have hDay := fun W => Day_any n n0 n1 W
  have _ := hK0
  have _ := hK1
  have t2 := Int.tmod_lt_of_pos k (show (0 : Int) < 30 by decide)
  have t3 : -30 < k.tmod 30 := by
    rcases Int.le_total 0 k with h | h
    · rw [Int.tmod_eq_emod_of_nonneg h]; omega
    · have e := Int.tmod_eq_emod_of_nonneg (b := 30) (show 0 ≤ -k by omega)
      rw [Int.neg_tmod] at e
      omega
  have HW := Lib.hid (fun W (h : Below w.heap.size w W) => hw.keep h)
  have C1 := Lib.hid (fun (W : World) (hW : Wd W) => HBg W hW)
  have C2 := Lib.hid (fun (W : World) (v : Value) (h : RulesO W v l) => rules_any _ l W h)
  have C3 := Lib.hid (fun (W : World) (hW : Wd W) (v : Value) (h : RulesAt W v (rules8 l 8)) => New_drawn0 H _ l W hW h)
  have C4 := Lib.hid (fun (W : World) (hW : Wd W) => hDay W)
  have C5 := Lib.hid (fun (W : World) (hW : Wd W) (v : Value) (h : CalV H W v cs) => P1 W v hW h)
  have C6 := Lib.hid (fun (W : World) (hW : Wd W) => Same_code 4 W hW)
  have HR0 := Lib.hid (Below.refl w.heap.size w)
  have Grs_0 := Lib.hid (hr)
  rw [hD] at *
  unfold errOf at *
  clear P1
  clear hDay hr
  clear hw
  go_enter Tryz.func14, Tryz.ntmps14
  go_wp2_with (first
    | (go_at_call 20; (with_reducible refine (C1.out _ (HW.out _ HR0.out)).mono ?_); rintro e W1 ⟨rfl, hb⟩
       have Grs_1 := Lib.hid (Grs_0.out.below hb)
       have HR1 := Lib.hid (below_tr6 HR0.out hb rfl)
       clear C1 hb)
    | (go_at_call 43; (with_reducible refine (C2.out _ _ Grs_1.out).mono ?_); rintro e W2 ⟨rv, rfl, h_rv, hb⟩
       have Grs_2 := Lib.hid (Grs_1.out.below hb)
       have Grv_2 := Lib.hid h_rv
       have HR2 := Lib.hid (below_tr6 HR1.out hb rfl)
       clear C2 hb h_rv)
    | (go_at_call 42; (with_reducible refine (C3.out _ (HW.out _ HR2.out) _ Grv_2.out).mono ?_); rintro e W3 ⟨ac, rfl, h_c, hb⟩
       rw [hcs] at h_c
       have Grs_3 := Lib.hid (Grs_2.out.below hb)
       have Grv_3 := Lib.hid (Grv_2.out.below hb)
       have Gc_3 := Lib.hid h_c
       have HR3 := Lib.hid (below_tr6 HR2.out hb rfl)
       clear C3 hb h_c)
    | (go_at_call 28; (with_reducible refine (C4.out _ (HW.out _ HR3.out)).mono ?_); rintro e w9 ⟨rfl, rfl⟩
       have HR4 := Lib.hid HR3.out
       clear C4)
    | (go_at_call 17; (with_reducible refine (C5.out _ (HW.out _ HR4.out) _ Gc_3.out).mono ?_); rintro e W5 ⟨rfl, hb⟩
       have Grs_5 := Lib.hid (Grs_3.out.below hb)
       have Grv_5 := Lib.hid (Grv_3.out.below hb)
       have Gc_5 := Lib.hid (Gc_3.out.below hb)
       have HR5 := Lib.hid (below_tr6 HR4.out hb rfl)
       clear C5 hb)
    | (go_at_call 23; (with_reducible refine (C6.out _ (HW.out _ HR5.out)).mono ?_); rintro e W6 ⟨rfl, hb⟩
       have Grs_6 := Lib.hid (Grs_5.out.below hb)
       have Grv_6 := Lib.hid (Grv_5.out.below hb)
       have Gc_6 := Lib.hid (Gc_5.out.below hb)
       have HR6 := Lib.hid (below_tr6 HR5.out hb rfl)
       clear C6 hb)
    | (fail "no arm"))
  go_ret
  exact ⟨rfl, HR6.out⟩
set_option maxRecDepth 100000 in
set_option maxHeartbeats 4000000 in
theorem CalBack_T {IsC : World → Value → List CalT → Prop} (HBg : BegunC) (H : CalC IsC) (rv : Value) (l : List Rule) (cs : List CalT) (hcs : ([⟨rules8 l 8, []⟩] : List CalT) = cs) (n D k K A : Int) (n0 : -9223372036854775808 ≤ n) (n1 : n ≤ 9223372036854775807) (k0 : -9223372036854775808 ≤ k) (k1 : k ≤ 9223372036854775807) (hD : n % 109573 = D) (HT : k.tmod 30 % 30 = K) (hK0 : 0 ≤ K) (hK1 : K ≤ 29)
    (P1 : (∀ W v, Wd W → CalV H W v cs → Calls Tryz.prog 17 #[v, .int .i64 D, .int .i64 K] W fun e w' => e = .returned (.tuple #[.int .i64 A, .nilIface]) ∧ Below W.heap.size W w')) (P2 : (∀ W v, Wd W → CalV H W v cs → Calls Tryz.prog 17 #[v, .int .i64 A, .int .i64 (-K)] W fun e w' => e = .returned (.tuple #[.int .i64 D, .nilIface]) ∧ Below W.heap.size W w')) (P3 : (∀ W v, Wd W → CalV H W v cs → Calls Tryz.prog 21 #[v, .int .i64 D] W fun e w' => e = .returned (.bool true) ∧ Below W.heap.size W w')) (w : World) (hw : Wd w) (hr : RulesO w rv l) :
    Calls Tryz.prog 14 #[rv, .int .i64 n, .int .i64 k] w fun e w' => e = .returned (.bool true) ∧ Below w.heap.size w w' := by
  have hDay := fun W => Day_any n n0 n1 W
  have _ := hK0
  have _ := hK1
  have t2 := Int.tmod_lt_of_pos k (show (0 : Int) < 30 by decide)
  have t3 : -30 < k.tmod 30 := by
    rcases Int.le_total 0 k with h | h
    · rw [Int.tmod_eq_emod_of_nonneg h]; omega
    · have e := Int.tmod_eq_emod_of_nonneg (b := 30) (show 0 ≤ -k by omega)
      rw [Int.neg_tmod] at e
      omega
  have HW := Lib.hid (fun W (h : Below w.heap.size w W) => hw.keep h)
  have C1 := Lib.hid (fun (W : World) (hW : Wd W) => HBg W hW)
  have C2 := Lib.hid (fun (W : World) (v : Value) (h : RulesO W v l) => rules_any _ l W h)
  have C3 := Lib.hid (fun (W : World) (hW : Wd W) (v : Value) (h : RulesAt W v (rules8 l 8)) => New_drawn0 H _ l W hW h)
  have C4 := Lib.hid (fun (W : World) (hW : Wd W) => hDay W)
  have C5 := Lib.hid (fun (W : World) (hW : Wd W) (v : Value) (h : CalV H W v cs) => P1 W v hW h)
  have C6 := Lib.hid (fun (W : World) (hW : Wd W) (v : Value) (h : CalV H W v cs) => P2 W v hW h)
  have C7 := Lib.hid (fun (W : World) (hW : Wd W) (v : Value) (h : CalV H W v cs) => P3 W v hW h)
  have HR0 := Lib.hid (Below.refl w.heap.size w)
  have Grs_0 := Lib.hid (hr)
  rw [hD] at *
  clear P1 P2 P3
  clear hDay hr
  clear hw
  go_enter Tryz.func14, Tryz.ntmps14
  go_wp2_with (first
    | (go_at_call 20; (with_reducible refine (C1.out _ (HW.out _ HR0.out)).mono ?_); rintro e W1 ⟨rfl, hb⟩
       have Grs_1 := Lib.hid (Grs_0.out.below hb)
       have HR1 := Lib.hid (below_tr6 HR0.out hb rfl)
       clear C1 hb)
    | (go_at_call 43; (with_reducible refine (C2.out _ _ Grs_1.out).mono ?_); rintro e W2 ⟨rv, rfl, h_rv, hb⟩
       have Grs_2 := Lib.hid (Grs_1.out.below hb)
       have Grv_2 := Lib.hid h_rv
       have HR2 := Lib.hid (below_tr6 HR1.out hb rfl)
       clear C2 hb h_rv)
    | (go_at_call 42; (with_reducible refine (C3.out _ (HW.out _ HR2.out) _ Grv_2.out).mono ?_); rintro e W3 ⟨ac, rfl, h_c, hb⟩
       rw [hcs] at h_c
       have Grs_3 := Lib.hid (Grs_2.out.below hb)
       have Grv_3 := Lib.hid (Grv_2.out.below hb)
       have Gc_3 := Lib.hid h_c
       have HR3 := Lib.hid (below_tr6 HR2.out hb rfl)
       clear C3 hb h_c)
    | (go_at_call 28; (with_reducible refine (C4.out _ (HW.out _ HR3.out)).mono ?_); rintro e w9 ⟨rfl, rfl⟩
       have HR4 := Lib.hid HR3.out
       clear C4)
    | (go_at_call 17; (with_reducible refine (C5.out _ (HW.out _ HR4.out) _ Gc_3.out).mono ?_); rintro e W5 ⟨rfl, hb⟩
       have Grs_5 := Lib.hid (Grs_3.out.below hb)
       have Grv_5 := Lib.hid (Grv_3.out.below hb)
       have Gc_5 := Lib.hid (Gc_3.out.below hb)
       have HR5 := Lib.hid (below_tr6 HR4.out hb rfl)
       clear C5 hb)
    | (go_at_call 17; (with_reducible refine (C6.out _ (HW.out _ HR5.out) _ Gc_5.out).mono ?_); rintro e W6 ⟨rfl, hb⟩
       have Grs_6 := Lib.hid (Grs_5.out.below hb)
       have Grv_6 := Lib.hid (Grv_5.out.below hb)
       have Gc_6 := Lib.hid (Gc_5.out.below hb)
       have HR6 := Lib.hid (below_tr6 HR5.out hb rfl)
       clear C6 hb)
    | (go_at_call 21; (with_reducible refine (C7.out _ (HW.out _ HR6.out) _ Gc_6.out).mono ?_); rintro e W7 ⟨rfl, hb⟩
       have Grs_7 := Lib.hid (Grs_6.out.below hb)
       have Grv_7 := Lib.hid (Grv_6.out.below hb)
       have Gc_7 := Lib.hid (Gc_6.out.below hb)
       have HR7 := Lib.hid (below_tr6 HR6.out hb rfl)
       clear C7 hb)
    | (fail "no arm"))
  go_ret
  exact ⟨rfl, HR7.out⟩
set_option maxRecDepth 100000 in
set_option maxHeartbeats 4000000 in
theorem CalBack_F1 {IsC : World → Value → List CalT → Prop} (HBg : BegunC) (H : CalC IsC) (rv : Value) (l : List Rule) (cs : List CalT) (hcs : ([⟨rules8 l 8, []⟩] : List CalT) = cs) (n D k K A E : Int) (n0 : -9223372036854775808 ≤ n) (n1 : n ≤ 9223372036854775807) (k0 : -9223372036854775808 ≤ k) (k1 : k ≤ 9223372036854775807) (hD : n % 109573 = D) (HT : k.tmod 30 % 30 = K) (hK0 : 0 ≤ K) (hK1 : K ≤ 29) (hE : E ≤ D)
    (P1 : (∀ W v, Wd W → CalV H W v cs → Calls Tryz.prog 17 #[v, .int .i64 D, .int .i64 K] W fun e w' => e = .returned (.tuple #[.int .i64 A, .nilIface]) ∧ Below W.heap.size W w')) (P2 : (∀ W v, Wd W → CalV H W v cs → Calls Tryz.prog 17 #[v, .int .i64 A, .int .i64 (-K)] W fun e w' => e = .returned (.tuple #[.int .i64 E, .nilIface]) ∧ Below W.heap.size W w')) (P3 : (∀ W v, Wd W → CalV H W v cs → Calls Tryz.prog 21 #[v, .int .i64 D] W fun e w' => e = .returned (.bool false) ∧ Below W.heap.size W w')) (w : World) (hw : Wd w) (hr : RulesO w rv l) :
    Calls Tryz.prog 14 #[rv, .int .i64 n, .int .i64 k] w fun e w' => e = .returned (.bool true) ∧ Below w.heap.size w w' := by
  have hDay := fun W => Day_any n n0 n1 W
  have _ := hK0
  have _ := hK1
  have t2 := Int.tmod_lt_of_pos k (show (0 : Int) < 30 by decide)
  have t3 : -30 < k.tmod 30 := by
    rcases Int.le_total 0 k with h | h
    · rw [Int.tmod_eq_emod_of_nonneg h]; omega
    · have e := Int.tmod_eq_emod_of_nonneg (b := 30) (show 0 ≤ -k by omega)
      rw [Int.neg_tmod] at e
      omega
  have HW := Lib.hid (fun W (h : Below w.heap.size w W) => hw.keep h)
  have C1 := Lib.hid (fun (W : World) (hW : Wd W) => HBg W hW)
  have C2 := Lib.hid (fun (W : World) (v : Value) (h : RulesO W v l) => rules_any _ l W h)
  have C3 := Lib.hid (fun (W : World) (hW : Wd W) (v : Value) (h : RulesAt W v (rules8 l 8)) => New_drawn0 H _ l W hW h)
  have C4 := Lib.hid (fun (W : World) (hW : Wd W) => hDay W)
  have C5 := Lib.hid (fun (W : World) (hW : Wd W) (v : Value) (h : CalV H W v cs) => P1 W v hW h)
  have C6 := Lib.hid (fun (W : World) (hW : Wd W) (v : Value) (h : CalV H W v cs) => P2 W v hW h)
  have C7 := Lib.hid (fun (W : World) (hW : Wd W) (v : Value) (h : CalV H W v cs) => P3 W v hW h)
  have HR0 := Lib.hid (Below.refl w.heap.size w)
  have Grs_0 := Lib.hid (hr)
  rw [hD] at *
  clear P1 P2 P3
  clear hDay hr
  clear hw
  go_enter Tryz.func14, Tryz.ntmps14
  go_wp2_with (first
    | (go_at_call 20; (with_reducible refine (C1.out _ (HW.out _ HR0.out)).mono ?_); rintro e W1 ⟨rfl, hb⟩
       have Grs_1 := Lib.hid (Grs_0.out.below hb)
       have HR1 := Lib.hid (below_tr6 HR0.out hb rfl)
       clear C1 hb)
    | (go_at_call 43; (with_reducible refine (C2.out _ _ Grs_1.out).mono ?_); rintro e W2 ⟨rv, rfl, h_rv, hb⟩
       have Grs_2 := Lib.hid (Grs_1.out.below hb)
       have Grv_2 := Lib.hid h_rv
       have HR2 := Lib.hid (below_tr6 HR1.out hb rfl)
       clear C2 hb h_rv)
    | (go_at_call 42; (with_reducible refine (C3.out _ (HW.out _ HR2.out) _ Grv_2.out).mono ?_); rintro e W3 ⟨ac, rfl, h_c, hb⟩
       rw [hcs] at h_c
       have Grs_3 := Lib.hid (Grs_2.out.below hb)
       have Grv_3 := Lib.hid (Grv_2.out.below hb)
       have Gc_3 := Lib.hid h_c
       have HR3 := Lib.hid (below_tr6 HR2.out hb rfl)
       clear C3 hb h_c)
    | (go_at_call 28; (with_reducible refine (C4.out _ (HW.out _ HR3.out)).mono ?_); rintro e w9 ⟨rfl, rfl⟩
       have HR4 := Lib.hid HR3.out
       clear C4)
    | (go_at_call 17; (with_reducible refine (C5.out _ (HW.out _ HR4.out) _ Gc_3.out).mono ?_); rintro e W5 ⟨rfl, hb⟩
       have Grs_5 := Lib.hid (Grs_3.out.below hb)
       have Grv_5 := Lib.hid (Grv_3.out.below hb)
       have Gc_5 := Lib.hid (Gc_3.out.below hb)
       have HR5 := Lib.hid (below_tr6 HR4.out hb rfl)
       clear C5 hb)
    | (go_at_call 17; (with_reducible refine (C6.out _ (HW.out _ HR5.out) _ Gc_5.out).mono ?_); rintro e W6 ⟨rfl, hb⟩
       have Grs_6 := Lib.hid (Grs_5.out.below hb)
       have Grv_6 := Lib.hid (Grv_5.out.below hb)
       have Gc_6 := Lib.hid (Gc_5.out.below hb)
       have HR6 := Lib.hid (below_tr6 HR5.out hb rfl)
       clear C6 hb)
    | (go_at_call 21; (with_reducible refine (C7.out _ (HW.out _ HR6.out) _ Gc_6.out).mono ?_); rintro e W7 ⟨rfl, hb⟩
       have Grs_7 := Lib.hid (Grs_6.out.below hb)
       have Grv_7 := Lib.hid (Grv_6.out.below hb)
       have Gc_7 := Lib.hid (Gc_6.out.below hb)
       have HR7 := Lib.hid (below_tr6 HR6.out hb rfl)
       clear C7 hb)
    | (fail "no arm"))
  go_ret
  exact ⟨rfl, HR7.out⟩
set_option maxRecDepth 100000 in
set_option maxHeartbeats 4000000 in
theorem CalBack_F0 {IsC : World → Value → List CalT → Prop} (HBg : BegunC) (H : CalC IsC) (rv : Value) (l : List Rule) (cs : List CalT) (hcs : ([⟨rules8 l 8, []⟩] : List CalT) = cs) (n D k K A : Int) (n0 : -9223372036854775808 ≤ n) (n1 : n ≤ 9223372036854775807) (k0 : -9223372036854775808 ≤ k) (k1 : k ≤ 9223372036854775807) (hD : n % 109573 = D) (HT : k.tmod 30 % 30 = K) (hK0 : 0 ≤ K) (hK1 : K ≤ 29)
    (P1 : (∀ W v, Wd W → CalV H W v cs → Calls Tryz.prog 17 #[v, .int .i64 D, .int .i64 K] W fun e w' => e = .returned (.tuple #[.int .i64 A, .nilIface]) ∧ Below W.heap.size W w')) (P2 : (∀ W v, Wd W → CalV H W v cs → Calls Tryz.prog 17 #[v, .int .i64 A, .int .i64 (-K)] W fun e w' => e = .returned (.tuple #[.int .i64 0, errOf 4]) ∧ Below W.heap.size W w')) (P3 : (∀ W v, Wd W → CalV H W v cs → Calls Tryz.prog 21 #[v, .int .i64 D] W fun e w' => e = .returned (.bool false) ∧ Below W.heap.size W w')) (w : World) (hw : Wd w) (hr : RulesO w rv l) :
    Calls Tryz.prog 14 #[rv, .int .i64 n, .int .i64 k] w fun e w' => e = .returned (.bool true) ∧ Below w.heap.size w w' := by
  have hDay := fun W => Day_any n n0 n1 W
  have _ := hK0
  have _ := hK1
  have t2 := Int.tmod_lt_of_pos k (show (0 : Int) < 30 by decide)
  have t3 : -30 < k.tmod 30 := by
    rcases Int.le_total 0 k with h | h
    · rw [Int.tmod_eq_emod_of_nonneg h]; omega
    · have e := Int.tmod_eq_emod_of_nonneg (b := 30) (show 0 ≤ -k by omega)
      rw [Int.neg_tmod] at e
      omega
  have HW := Lib.hid (fun W (h : Below w.heap.size w W) => hw.keep h)
  have C1 := Lib.hid (fun (W : World) (hW : Wd W) => HBg W hW)
  have C2 := Lib.hid (fun (W : World) (v : Value) (h : RulesO W v l) => rules_any _ l W h)
  have C3 := Lib.hid (fun (W : World) (hW : Wd W) (v : Value) (h : RulesAt W v (rules8 l 8)) => New_drawn0 H _ l W hW h)
  have C4 := Lib.hid (fun (W : World) (hW : Wd W) => hDay W)
  have C5 := Lib.hid (fun (W : World) (hW : Wd W) (v : Value) (h : CalV H W v cs) => P1 W v hW h)
  have C6 := Lib.hid (fun (W : World) (hW : Wd W) (v : Value) (h : CalV H W v cs) => P2 W v hW h)
  have C7 := Lib.hid (fun (W : World) (hW : Wd W) (v : Value) (h : CalV H W v cs) => P3 W v hW h)
  have HR0 := Lib.hid (Below.refl w.heap.size w)
  have Grs_0 := Lib.hid (hr)
  rw [hD] at *
  unfold errOf at *
  clear P1 P2 P3
  clear hDay hr
  clear hw
  go_enter Tryz.func14, Tryz.ntmps14
  go_wp2_with (first
    | (go_at_call 20; (with_reducible refine (C1.out _ (HW.out _ HR0.out)).mono ?_); rintro e W1 ⟨rfl, hb⟩
       have Grs_1 := Lib.hid (Grs_0.out.below hb)
       have HR1 := Lib.hid (below_tr6 HR0.out hb rfl)
       clear C1 hb)
    | (go_at_call 43; (with_reducible refine (C2.out _ _ Grs_1.out).mono ?_); rintro e W2 ⟨rv, rfl, h_rv, hb⟩
       have Grs_2 := Lib.hid (Grs_1.out.below hb)
       have Grv_2 := Lib.hid h_rv
       have HR2 := Lib.hid (below_tr6 HR1.out hb rfl)
       clear C2 hb h_rv)
    | (go_at_call 42; (with_reducible refine (C3.out _ (HW.out _ HR2.out) _ Grv_2.out).mono ?_); rintro e W3 ⟨ac, rfl, h_c, hb⟩
       rw [hcs] at h_c
       have Grs_3 := Lib.hid (Grs_2.out.below hb)
       have Grv_3 := Lib.hid (Grv_2.out.below hb)
       have Gc_3 := Lib.hid h_c
       have HR3 := Lib.hid (below_tr6 HR2.out hb rfl)
       clear C3 hb h_c)
    | (go_at_call 28; (with_reducible refine (C4.out _ (HW.out _ HR3.out)).mono ?_); rintro e w9 ⟨rfl, rfl⟩
       have HR4 := Lib.hid HR3.out
       clear C4)
    | (go_at_call 17; (with_reducible refine (C5.out _ (HW.out _ HR4.out) _ Gc_3.out).mono ?_); rintro e W5 ⟨rfl, hb⟩
       have Grs_5 := Lib.hid (Grs_3.out.below hb)
       have Grv_5 := Lib.hid (Grv_3.out.below hb)
       have Gc_5 := Lib.hid (Gc_3.out.below hb)
       have HR5 := Lib.hid (below_tr6 HR4.out hb rfl)
       clear C5 hb)
    | (go_at_call 17; (with_reducible refine (C6.out _ (HW.out _ HR5.out) _ Gc_5.out).mono ?_); rintro e W6 ⟨rfl, hb⟩
       have Grs_6 := Lib.hid (Grs_5.out.below hb)
       have Grv_6 := Lib.hid (Grv_5.out.below hb)
       have Gc_6 := Lib.hid (Gc_5.out.below hb)
       have HR6 := Lib.hid (below_tr6 HR5.out hb rfl)
       clear C6 hb)
    | (go_at_call 21; (with_reducible refine (C7.out _ (HW.out _ HR6.out) _ Gc_6.out).mono ?_); rintro e W7 ⟨rfl, hb⟩
       have Grs_7 := Lib.hid (Grs_6.out.below hb)
       have Grv_7 := Lib.hid (Grv_6.out.below hb)
       have Gc_7 := Lib.hid (Gc_6.out.below hb)
       have HR7 := Lib.hid (below_tr6 HR6.out hb rfl)
       clear C7 hb)
    | (fail "no arm"))
  go_ret
  exact ⟨rfl, HR7.out⟩
theorem CalBack_walk {IsC : World → Value → List CalT → Prop} (HBg : BegunC) (H : CalC IsC) (rv : Value) (l : List Rule) (n : Int) (n0 : -9223372036854775808 ≤ n) (n1 : n ≤ 9223372036854775807) (k : Int) (k0 : -9223372036854775808 ≤ k) (k1 : k ≤ 9223372036854775807) (w : World) (hw : Wd w) (hr : RulesO w rv l) :
    Calls Tryz.prog 14 #[rv, .int .i64 n, .int .i64 k] w fun e w' => e = .returned (.bool true) ∧ Below w.heap.size w w' := by
  have hd := Day_isDay n
  obtain ⟨D, hD⟩ : ∃ D, n % 109573 = D := ⟨_, rfl⟩
  rw [hD] at hd
  obtain ⟨cs, hcs⟩ : ∃ cs, ([⟨rules8 l 8, []⟩] : List CalT) = cs := ⟨_, rfl⟩
  have d0 := hd.1
  have d1 := hd.2
  have hK0 : 0 ≤ k.tmod 30 % 30 := by omega
  have hK1 : k.tmod 30 % 30 ≤ 29 := by omega
  obtain ⟨K, hK⟩ : ∃ K, k.tmod 30 % 30 = K := ⟨_, rfl⟩
  rw [hK] at hK0 hK1
  obtain ⟨j, rfl⟩ : ∃ j : Nat, K = j := ⟨K.toNat, by omega⟩
  have s1 : (if ((j : Nat) : Int) < 0 then (-1 : Int) else 1) = 1 := if_neg (by omega)
  have s2 : addN cs (if (-((j : Nat) : Int)) < 0 then (-1 : Int) else 1) (-((j : Nat) : Int)).natAbs = addN cs (-1) j := by
    rcases Nat.eq_zero_or_pos j with h | h
    · subst h; funext x; rfl
    · rw [if_pos (by omega), show (-((j : Nat) : Int)).natAbs = j from by omega]
  cases ha : addN cs 1 j D with
  | none => exact CalBack_N HBg H rv l cs hcs n D k j n0 n1 k0 k1 hD hK hK0 hK1 (fun W v hW hv => H.addNo v cs D j W hW hv hd (by omega) (by omega) (by rw [s1]; exact ha)) w hw hr
  | some A =>
    have hA := ref6.add_day hd ha
    have P1 := fun W v (hW : Wd W) (hv : CalV H W v cs) => H.add v cs D j A W hW hv hd (by omega) (by omega) (by rw [s1]; exact ha)
    obtain ⟨hT, hF⟩ := ref6.add_back hd ha
    have P3 := fun W v (hW : Wd W) (hv : CalV H W v cs) => H.isOpen v cs D W hW hv (by omega) (by omega)
    cases ho : openB cs D
    · rw [ho] at P3
      cases hb : addN cs (-1) j A with
      | none => exact CalBack_F0 HBg H rv l cs hcs n D k j A n0 n1 k0 k1 hD hK hK0 hK1 P1 (fun W v hW hv => H.addNo v cs A _ W hW hv hA (by omega) (by omega) (by rw [s2]; exact hb)) P3 w hw hr
      | some E => exact CalBack_F1 HBg H rv l cs hcs n D k j A E n0 n1 k0 k1 hD hK hK0 hK1 (hF E hb) P1 (fun W v hW hv => H.add v cs A _ E W hW hv hA (by omega) (by omega) (by rw [s2]; exact hb)) P3 w hw hr
    · rw [ho] at P3
      exact CalBack_T HBg H rv l cs hcs n D k j A n0 n1 k0 k1 hD hK hK0 hK1 P1 (fun W v hW hv => H.add v cs A _ D W hW hv hA (by omega) (by omega) (by rw [s2]; exact hT ho)) P3 w hw hr
end Go.Proofs.YtlhmfgbaefaneabGreatDoor.law6
namespace Go.Proofs.YtlhmfgbaefaneabGreatDoor.ref
open Go.RowKit
theorem Reads.of_own {w : World} {base : Nat} {sv : Value} {l : List Nat} (h : w.ownsRow base 80 1 sv l.length (l.map fun d => Value.int .u64 (d : Nat))) : Reads w sv l := by
  rcases h.2 with ⟨rfl, hl⟩ | ⟨g, cap, cur, rfl, _, _, hnc, hcm, _, _⟩
  · exact ⟨none, 0, by rw [hl], ⟨by omega, fun _ => rfl⟩, Nat.zero_le _, Or.inl (List.eq_nil_of_length_eq_zero hl)⟩
  · refine ⟨some ⟨g, 0, none⟩, cap, rfl, ⟨hnc, fun h => by cases h⟩, hcm, Or.inr ⟨g, rfl, fun k hk => ?_⟩⟩
    rw [h.cellAt k (by omega)]
    exact dg_map hk _
end Go.Proofs.YtlhmfgbaefaneabGreatDoor.ref
namespace Go.Proofs.YtlhmfgbaefaneabGreatDoor.ref
open Go.RowKit
theorem Own.reads {w : World} {base g cap : Nat} {o : List Nat} (h : Own w base g cap o) : Reads w (.slice (some ⟨g, 0, none⟩) o.length cap) o := Reads.of_own h
end Go.Proofs.YtlhmfgbaefaneabGreatDoor.ref
