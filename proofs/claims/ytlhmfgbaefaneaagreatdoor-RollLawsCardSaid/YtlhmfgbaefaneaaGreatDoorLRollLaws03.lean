/-
  The steps of the walks, part 3: Lw6RollLaws.
-/
import Derived.BigQuiet
import Derived.Deep.QuietTactic
import Derived.Test.YtlhmfgbaefaneaaGreatDoorB01
import Derived.Test.YtlhmfgbaefaneaaGreatDoorB02
import Derived.Test.YtlhmfgbaefaneaaGreatDoorB03
import Derived.Test.YtlhmfgbaefaneaaGreatDoorB04
import Derived.Test.YtlhmfgbaefaneaaGreatDoorB05
import Derived.Test.YtlhmfgbaefaneaaGreatDoorB06
import Derived.Test.YtlhmfgbaefaneaaGreatDoorB07
import Derived.Test.YtlhmfgbaefaneaaGreatDoorB08
import Derived.Test.YtlhmfgbaefaneaaGreatDoorB09
import Derived.Test.YtlhmfgbaefaneaaGreatDoorB10
import Derived.Test.YtlhmfgbaefaneaaGreatDoorB11
import Derived.Test.YtlhmfgbaefaneaaGreatDoorB12
import Derived.Test.YtlhmfgbaefaneaaGreatDoorB13
import Derived.Test.YtlhmfgbaefaneaaGreatDoorB14
import Derived.Test.YtlhmfgbaefaneaaGreatDoorB15
import Derived.Test.YtlhmfgbaefaneaaGreatDoorB16
import Derived.Test.YtlhmfgbaefaneaaGreatDoorB17
import Derived.Test.YtlhmfgbaefaneaaGreatDoorB18
import Derived.Test.YtlhmfgbaefaneaaGreatDoorB19
import Derived.Test.YtlhmfgbaefaneaaGreatDoorB20
import Derived.Test.YtlhmfgbaefaneaaGreatDoorB21
import Derived.Test.YtlhmfgbaefaneaaGreatDoorB22
import Derived.Test.YtlhmfgbaefaneaaGreatDoorLRollLaws01
import Derived.Test.YtlhmfgbaefaneaaGreatDoorLRollLaws02
namespace Go.Proofs.YtlhmfgbaefaneaaGreatDoor.law6
open Go Go.RowKit Go.Proofs.YtlhmfgbaefaneaaGreatDoor.day Go.Proofs.YtlhmfgbaefaneaaGreatDoor.date
open Go.Proofs.YtlhmfgbaefaneaaGreatDoor.ref (str str_size)
open Go.Proofs.YtlhmfgbaefaneaaGreatDoor.ref6 (CAt dayText DayForm quiet_same drewN_below6)
open Go.Proofs.YtlhmfgbaefaneaaGreatDoor.ref6 (IntsAt RulesAt CalsAt CalT Rule May openB nextD addN cntO rollD)
set_option maxRecDepth 100000 in
set_option maxHeartbeats 4000000 in
theorem RollLaws_N {IsC : World → Value → List CalT → Prop} (HBg : BegunC) (H : CalC IsC) (rv : Value) (l : List Rule) (cs : List CalT) (hcs : ([⟨rules8 l 8, []⟩] : List CalT) = cs) (n D k r : Int) (n0 : -9223372036854775808 ≤ n) (n1 : n ≤ 9223372036854775807) (hD : n % 109573 = D) (HT : k.tmod 5 % 5 = r)
    (P1 : (∀ W v, Wd W → CalV H W v cs → Calls Tryz.prog 55 #[v, .int .i64 D, .int .i64 r] W fun e w' => e = .returned (.tuple #[.int .i64 0, errOf 4]) ∧ Below W.heap.size W w')) (w : World) (hw : Wd w) (hr : RulesO w rv l) :
    Calls Tryz.prog 14 #[rv, .int .i64 n, .int .i64 k] w fun e w' => e = .returned (.bool true) ∧ Below w.heap.size w w' := by
  have hDay := fun W => Day_any n n0 n1 W
  rw [hD] at hDay
  have t2 := Int.tmod_lt_of_pos k (show (0 : Int) < 5 by decide)
  have t3 : -5 < k.tmod 5 := by
    rcases Int.le_total 0 k with h | h
    · rw [Int.tmod_eq_emod_of_nonneg h]; omega
    · have e := Int.tmod_eq_emod_of_nonneg (b := 5) (show 0 ≤ -k by omega)
      rw [Int.neg_tmod] at e
      omega
  have HW := Lib.hid (fun W (h : Below w.heap.size w W) => hw.keep h)
  have C1 := Lib.hid (fun (W : World) (hW : Wd W) => HBg W hW)
  have C2 := Lib.hid (fun (W : World) (v : Value) (h : RulesO W v l) => rules_any _ l W h)
  have C3 := Lib.hid (fun (W : World) (hW : Wd W) (v : Value) (h : RulesAt W v (rules8 l 8)) => New_drawn0 H _ l W hW h)
  have C4 := Lib.hid (fun (W : World) (hW : Wd W) => hDay W)
  have C5 := Lib.hid (fun (W : World) (hW : Wd W) (v : Value) (h : CalV H W v cs) => P1 W v hW h)
  have C6 := Lib.hid (fun (W : World) (hW : Wd W) => Same_code 4 W hW)
  have HR0 := Lib.hid (Below.refl w.heap.size w)
  have Grs_0 := Lib.hid (hr)
  unfold errOf at *
  clear hDay hr hD P1
  clear hw
  go_enter Tryz.func14, Tryz.ntmps14
  go_wp2_with (first
    | (go_at_call 17; (with_reducible refine (C1.out _ (HW.out _ HR0.out)).mono ?_); rintro e W1 ⟨rfl, hb⟩
       have Grs_1 := Lib.hid (Grs_0.out.below hb)
       have HR1 := Lib.hid (below_tr6 HR0.out hb rfl)
       clear C1 hb)
    | (go_at_call 47; (with_reducible refine (C2.out _ _ Grs_1.out).mono ?_); rintro e W2 ⟨rv, rfl, h_rv, hb⟩
       have Grs_2 := Lib.hid (Grs_1.out.below hb)
       have Grv_2 := Lib.hid h_rv
       have HR2 := Lib.hid (below_tr6 HR1.out hb rfl)
       clear C2 hb h_rv)
    | (go_at_call 44; (with_reducible refine (C3.out _ (HW.out _ HR2.out) _ Grv_2.out).mono ?_); rintro e W3 ⟨ac, rfl, h_c, hb⟩
       rw [hcs] at h_c
       have Grs_3 := Lib.hid (Grs_2.out.below hb)
       have Grv_3 := Lib.hid (Grv_2.out.below hb)
       have Gc_3 := Lib.hid h_c
       have HR3 := Lib.hid (below_tr6 HR2.out hb rfl)
       clear C3 hb h_c)
    | (go_at_call 19; (with_reducible refine (C4.out _ (HW.out _ HR3.out)).mono ?_); rintro e w9 ⟨rfl, rfl⟩
       have HR4 := Lib.hid HR3.out
       clear C4)
    | (go_at_call 55; (with_reducible refine (C5.out _ (HW.out _ HR4.out) _ Gc_3.out).mono ?_); rintro e W5 ⟨rfl, hb⟩
       have Grs_5 := Lib.hid (Grs_3.out.below hb)
       have Grv_5 := Lib.hid (Grv_3.out.below hb)
       have Gc_5 := Lib.hid (Gc_3.out.below hb)
       have HR5 := Lib.hid (below_tr6 HR4.out hb rfl)
       clear C5 hb)
    | (go_at_call 29; (with_reducible refine (C6.out _ (HW.out _ HR5.out)).mono ?_); rintro e W6 ⟨rfl, hb⟩
       have Grs_6 := Lib.hid (Grs_5.out.below hb)
       have Grv_6 := Lib.hid (Grv_5.out.below hb)
       have Gc_6 := Lib.hid (Gc_5.out.below hb)
       have HR6 := Lib.hid (below_tr6 HR5.out hb rfl)
       clear C6 hb)
    | (fail "no arm"))
  go_ret
  exact ⟨rfl, HR6.out⟩
set_option maxRecDepth 100000 in
set_option maxHeartbeats 4000000 in
theorem RollLaws_0T {IsC : World → Value → List CalT → Prop} (HBg : BegunC) (H : CalC IsC) (rv : Value) (l : List Rule) (cs : List CalT) (hcs : ([⟨rules8 l 8, []⟩] : List CalT) = cs) (n D k : Int) (n0 : -9223372036854775808 ≤ n) (n1 : n ≤ 9223372036854775807) (hD : n % 109573 = D) (HT : k.tmod 5 % 5 = 0)
    (P1 : (∀ W v, Wd W → CalV H W v cs → Calls Tryz.prog 55 #[v, .int .i64 D, .int .i64 0] W fun e w' => e = .returned (.tuple #[.int .i64 D, .nilIface]) ∧ Below W.heap.size W w')) (P2 : (∀ W v, Wd W → CalV H W v cs → Calls Tryz.prog 50 #[v, .int .i64 D] W fun e w' => e = .returned (.bool true) ∧ Below W.heap.size W w')) (w : World) (hw : Wd w) (hr : RulesO w rv l) :
    Calls Tryz.prog 14 #[rv, .int .i64 n, .int .i64 k] w fun e w' => e = .returned (.bool true) ∧ Below w.heap.size w w' := by
  have hDay := fun W => Day_any n n0 n1 W
  rw [hD] at hDay
  have t2 := Int.tmod_lt_of_pos k (show (0 : Int) < 5 by decide)
  have t3 : -5 < k.tmod 5 := by
    rcases Int.le_total 0 k with h | h
    · rw [Int.tmod_eq_emod_of_nonneg h]; omega
    · have e := Int.tmod_eq_emod_of_nonneg (b := 5) (show 0 ≤ -k by omega)
      rw [Int.neg_tmod] at e
      omega
  have HW := Lib.hid (fun W (h : Below w.heap.size w W) => hw.keep h)
  have C1 := Lib.hid (fun (W : World) (hW : Wd W) => HBg W hW)
  have C2 := Lib.hid (fun (W : World) (v : Value) (h : RulesO W v l) => rules_any _ l W h)
  have C3 := Lib.hid (fun (W : World) (hW : Wd W) (v : Value) (h : RulesAt W v (rules8 l 8)) => New_drawn0 H _ l W hW h)
  have C4 := Lib.hid (fun (W : World) (hW : Wd W) => hDay W)
  have C5 := Lib.hid (fun (W : World) (hW : Wd W) (v : Value) (h : CalV H W v cs) => P1 W v hW h)
  have C6 := Lib.hid (fun (W : World) (hW : Wd W) (v : Value) (h : CalV H W v cs) => P1 W v hW h)
  have C7 := Lib.hid (fun (W : World) (hW : Wd W) (v : Value) (h : CalV H W v cs) => P2 W v hW h)
  have HR0 := Lib.hid (Below.refl w.heap.size w)
  have Grs_0 := Lib.hid (hr)
  clear hDay hr hD P1 P2
  clear hw
  go_enter Tryz.func14, Tryz.ntmps14
  go_wp2_with (first
    | (go_at_call 17; (with_reducible refine (C1.out _ (HW.out _ HR0.out)).mono ?_); rintro e W1 ⟨rfl, hb⟩
       have Grs_1 := Lib.hid (Grs_0.out.below hb)
       have HR1 := Lib.hid (below_tr6 HR0.out hb rfl)
       clear C1 hb)
    | (go_at_call 47; (with_reducible refine (C2.out _ _ Grs_1.out).mono ?_); rintro e W2 ⟨rv, rfl, h_rv, hb⟩
       have Grs_2 := Lib.hid (Grs_1.out.below hb)
       have Grv_2 := Lib.hid h_rv
       have HR2 := Lib.hid (below_tr6 HR1.out hb rfl)
       clear C2 hb h_rv)
    | (go_at_call 44; (with_reducible refine (C3.out _ (HW.out _ HR2.out) _ Grv_2.out).mono ?_); rintro e W3 ⟨ac, rfl, h_c, hb⟩
       rw [hcs] at h_c
       have Grs_3 := Lib.hid (Grs_2.out.below hb)
       have Grv_3 := Lib.hid (Grv_2.out.below hb)
       have Gc_3 := Lib.hid h_c
       have HR3 := Lib.hid (below_tr6 HR2.out hb rfl)
       clear C3 hb h_c)
    | (go_at_call 19; (with_reducible refine (C4.out _ (HW.out _ HR3.out)).mono ?_); rintro e w9 ⟨rfl, rfl⟩
       have HR4 := Lib.hid HR3.out
       clear C4)
    | (go_at_call 55; (with_reducible refine (C5.out _ (HW.out _ HR4.out) _ Gc_3.out).mono ?_); rintro e W5 ⟨rfl, hb⟩
       have Grs_5 := Lib.hid (Grs_3.out.below hb)
       have Grv_5 := Lib.hid (Grv_3.out.below hb)
       have Gc_5 := Lib.hid (Gc_3.out.below hb)
       have HR5 := Lib.hid (below_tr6 HR4.out hb rfl)
       clear C5 hb)
    | (go_at_call 55; (with_reducible refine (C6.out _ (HW.out _ HR5.out) _ Gc_5.out).mono ?_); rintro e W6 ⟨rfl, hb⟩
       have Grs_6 := Lib.hid (Grs_5.out.below hb)
       have Grv_6 := Lib.hid (Grv_5.out.below hb)
       have Gc_6 := Lib.hid (Gc_5.out.below hb)
       have HR6 := Lib.hid (below_tr6 HR5.out hb rfl)
       clear C6 hb)
    | (go_at_call 50; (with_reducible refine (C7.out _ (HW.out _ HR6.out) _ Gc_6.out).mono ?_); rintro e W7 ⟨rfl, hb⟩
       have Grs_7 := Lib.hid (Grs_6.out.below hb)
       have Grv_7 := Lib.hid (Grv_6.out.below hb)
       have Gc_7 := Lib.hid (Gc_6.out.below hb)
       have HR7 := Lib.hid (below_tr6 HR6.out hb rfl)
       clear C7 hb)
    | (fail "no arm"))
  go_ret
  exact ⟨rfl, HR7.out⟩
set_option maxRecDepth 100000 in
set_option maxHeartbeats 4000000 in
theorem RollLaws_0F {IsC : World → Value → List CalT → Prop} (HBg : BegunC) (H : CalC IsC) (rv : Value) (l : List Rule) (cs : List CalT) (hcs : ([⟨rules8 l 8, []⟩] : List CalT) = cs) (n D k : Int) (n0 : -9223372036854775808 ≤ n) (n1 : n ≤ 9223372036854775807) (hD : n % 109573 = D) (HT : k.tmod 5 % 5 = 0)
    (P1 : (∀ W v, Wd W → CalV H W v cs → Calls Tryz.prog 55 #[v, .int .i64 D, .int .i64 0] W fun e w' => e = .returned (.tuple #[.int .i64 D, .nilIface]) ∧ Below W.heap.size W w')) (P2 : (∀ W v, Wd W → CalV H W v cs → Calls Tryz.prog 50 #[v, .int .i64 D] W fun e w' => e = .returned (.bool false) ∧ Below W.heap.size W w')) (w : World) (hw : Wd w) (hr : RulesO w rv l) :
    Calls Tryz.prog 14 #[rv, .int .i64 n, .int .i64 k] w fun e w' => e = .returned (.bool true) ∧ Below w.heap.size w w' := by
  have hDay := fun W => Day_any n n0 n1 W
  rw [hD] at hDay
  have t2 := Int.tmod_lt_of_pos k (show (0 : Int) < 5 by decide)
  have t3 : -5 < k.tmod 5 := by
    rcases Int.le_total 0 k with h | h
    · rw [Int.tmod_eq_emod_of_nonneg h]; omega
    · have e := Int.tmod_eq_emod_of_nonneg (b := 5) (show 0 ≤ -k by omega)
      rw [Int.neg_tmod] at e
      omega
  have HW := Lib.hid (fun W (h : Below w.heap.size w W) => hw.keep h)
  have C1 := Lib.hid (fun (W : World) (hW : Wd W) => HBg W hW)
  have C2 := Lib.hid (fun (W : World) (v : Value) (h : RulesO W v l) => rules_any _ l W h)
  have C3 := Lib.hid (fun (W : World) (hW : Wd W) (v : Value) (h : RulesAt W v (rules8 l 8)) => New_drawn0 H _ l W hW h)
  have C4 := Lib.hid (fun (W : World) (hW : Wd W) => hDay W)
  have C5 := Lib.hid (fun (W : World) (hW : Wd W) (v : Value) (h : CalV H W v cs) => P1 W v hW h)
  have C6 := Lib.hid (fun (W : World) (hW : Wd W) (v : Value) (h : CalV H W v cs) => P1 W v hW h)
  have C7 := Lib.hid (fun (W : World) (hW : Wd W) (v : Value) (h : CalV H W v cs) => P2 W v hW h)
  have HR0 := Lib.hid (Below.refl w.heap.size w)
  have Grs_0 := Lib.hid (hr)
  clear hDay hr hD P1 P2
  clear hw
  go_enter Tryz.func14, Tryz.ntmps14
  go_wp2_with (first
    | (go_at_call 17; (with_reducible refine (C1.out _ (HW.out _ HR0.out)).mono ?_); rintro e W1 ⟨rfl, hb⟩
       have Grs_1 := Lib.hid (Grs_0.out.below hb)
       have HR1 := Lib.hid (below_tr6 HR0.out hb rfl)
       clear C1 hb)
    | (go_at_call 47; (with_reducible refine (C2.out _ _ Grs_1.out).mono ?_); rintro e W2 ⟨rv, rfl, h_rv, hb⟩
       have Grs_2 := Lib.hid (Grs_1.out.below hb)
       have Grv_2 := Lib.hid h_rv
       have HR2 := Lib.hid (below_tr6 HR1.out hb rfl)
       clear C2 hb h_rv)
    | (go_at_call 44; (with_reducible refine (C3.out _ (HW.out _ HR2.out) _ Grv_2.out).mono ?_); rintro e W3 ⟨ac, rfl, h_c, hb⟩
       rw [hcs] at h_c
       have Grs_3 := Lib.hid (Grs_2.out.below hb)
       have Grv_3 := Lib.hid (Grv_2.out.below hb)
       have Gc_3 := Lib.hid h_c
       have HR3 := Lib.hid (below_tr6 HR2.out hb rfl)
       clear C3 hb h_c)
    | (go_at_call 19; (with_reducible refine (C4.out _ (HW.out _ HR3.out)).mono ?_); rintro e w9 ⟨rfl, rfl⟩
       have HR4 := Lib.hid HR3.out
       clear C4)
    | (go_at_call 55; (with_reducible refine (C5.out _ (HW.out _ HR4.out) _ Gc_3.out).mono ?_); rintro e W5 ⟨rfl, hb⟩
       have Grs_5 := Lib.hid (Grs_3.out.below hb)
       have Grv_5 := Lib.hid (Grv_3.out.below hb)
       have Gc_5 := Lib.hid (Gc_3.out.below hb)
       have HR5 := Lib.hid (below_tr6 HR4.out hb rfl)
       clear C5 hb)
    | (go_at_call 55; (with_reducible refine (C6.out _ (HW.out _ HR5.out) _ Gc_5.out).mono ?_); rintro e W6 ⟨rfl, hb⟩
       have Grs_6 := Lib.hid (Grs_5.out.below hb)
       have Grv_6 := Lib.hid (Grv_5.out.below hb)
       have Gc_6 := Lib.hid (Gc_5.out.below hb)
       have HR6 := Lib.hid (below_tr6 HR5.out hb rfl)
       clear C6 hb)
    | (go_at_call 50; (with_reducible refine (C7.out _ (HW.out _ HR6.out) _ Gc_6.out).mono ?_); rintro e W7 ⟨rfl, hb⟩
       have Grs_7 := Lib.hid (Grs_6.out.below hb)
       have Grv_7 := Lib.hid (Grv_6.out.below hb)
       have Gc_7 := Lib.hid (Gc_6.out.below hb)
       have HR7 := Lib.hid (below_tr6 HR6.out hb rfl)
       clear C7 hb)
    | (fail "no arm"))
  go_ret
  exact ⟨rfl, HR7.out⟩
set_option maxRecDepth 100000 in
set_option maxHeartbeats 4000000 in
theorem RollLaws_1T {IsC : World → Value → List CalT → Prop} (HBg : BegunC) (H : CalC IsC) (rv : Value) (l : List Rule) (cs : List CalT) (hcs : ([⟨rules8 l 8, []⟩] : List CalT) = cs) (n D k : Int) (n0 : -9223372036854775808 ≤ n) (n1 : n ≤ 9223372036854775807) (hD : n % 109573 = D) (HT : k.tmod 5 % 5 = 1)
    (P1 : (∀ W v, Wd W → CalV H W v cs → Calls Tryz.prog 55 #[v, .int .i64 D, .int .i64 1] W fun e w' => e = .returned (.tuple #[.int .i64 D, .nilIface]) ∧ Below W.heap.size W w')) (P2 : (∀ W v, Wd W → CalV H W v cs → Calls Tryz.prog 50 #[v, .int .i64 D] W fun e w' => e = .returned (.bool true) ∧ Below W.heap.size W w')) (w : World) (hw : Wd w) (hr : RulesO w rv l) :
    Calls Tryz.prog 14 #[rv, .int .i64 n, .int .i64 k] w fun e w' => e = .returned (.bool true) ∧ Below w.heap.size w w' := by
  have hDay := fun W => Day_any n n0 n1 W
  rw [hD] at hDay
  have t2 := Int.tmod_lt_of_pos k (show (0 : Int) < 5 by decide)
  have t3 : -5 < k.tmod 5 := by
    rcases Int.le_total 0 k with h | h
    · rw [Int.tmod_eq_emod_of_nonneg h]; omega
    · have e := Int.tmod_eq_emod_of_nonneg (b := 5) (show 0 ≤ -k by omega)
      rw [Int.neg_tmod] at e
      omega
  have HW := Lib.hid (fun W (h : Below w.heap.size w W) => hw.keep h)
  have C1 := Lib.hid (fun (W : World) (hW : Wd W) => HBg W hW)
  have C2 := Lib.hid (fun (W : World) (v : Value) (h : RulesO W v l) => rules_any _ l W h)
  have C3 := Lib.hid (fun (W : World) (hW : Wd W) (v : Value) (h : RulesAt W v (rules8 l 8)) => New_drawn0 H _ l W hW h)
  have C4 := Lib.hid (fun (W : World) (hW : Wd W) => hDay W)
  have C5 := Lib.hid (fun (W : World) (hW : Wd W) (v : Value) (h : CalV H W v cs) => P1 W v hW h)
  have C6 := Lib.hid (fun (W : World) (hW : Wd W) (v : Value) (h : CalV H W v cs) => P1 W v hW h)
  have C7 := Lib.hid (fun (W : World) (hW : Wd W) (v : Value) (h : CalV H W v cs) => P2 W v hW h)
  have C8 := Lib.hid (fun (W : World) (hW : Wd W) (v : Value) (h : CalV H W v cs) => P2 W v hW h)
  have HR0 := Lib.hid (Below.refl w.heap.size w)
  have Grs_0 := Lib.hid (hr)
  clear hDay hr hD P1 P2
  clear hw
  go_enter Tryz.func14, Tryz.ntmps14
  go_wp2_with (first
    | (go_at_call 17; (with_reducible refine (C1.out _ (HW.out _ HR0.out)).mono ?_); rintro e W1 ⟨rfl, hb⟩
       have Grs_1 := Lib.hid (Grs_0.out.below hb)
       have HR1 := Lib.hid (below_tr6 HR0.out hb rfl)
       clear C1 hb)
    | (go_at_call 47; (with_reducible refine (C2.out _ _ Grs_1.out).mono ?_); rintro e W2 ⟨rv, rfl, h_rv, hb⟩
       have Grs_2 := Lib.hid (Grs_1.out.below hb)
       have Grv_2 := Lib.hid h_rv
       have HR2 := Lib.hid (below_tr6 HR1.out hb rfl)
       clear C2 hb h_rv)
    | (go_at_call 44; (with_reducible refine (C3.out _ (HW.out _ HR2.out) _ Grv_2.out).mono ?_); rintro e W3 ⟨ac, rfl, h_c, hb⟩
       rw [hcs] at h_c
       have Grs_3 := Lib.hid (Grs_2.out.below hb)
       have Grv_3 := Lib.hid (Grv_2.out.below hb)
       have Gc_3 := Lib.hid h_c
       have HR3 := Lib.hid (below_tr6 HR2.out hb rfl)
       clear C3 hb h_c)
    | (go_at_call 19; (with_reducible refine (C4.out _ (HW.out _ HR3.out)).mono ?_); rintro e w9 ⟨rfl, rfl⟩
       have HR4 := Lib.hid HR3.out
       clear C4)
    | (go_at_call 55; (with_reducible refine (C5.out _ (HW.out _ HR4.out) _ Gc_3.out).mono ?_); rintro e W5 ⟨rfl, hb⟩
       have Grs_5 := Lib.hid (Grs_3.out.below hb)
       have Grv_5 := Lib.hid (Grv_3.out.below hb)
       have Gc_5 := Lib.hid (Gc_3.out.below hb)
       have HR5 := Lib.hid (below_tr6 HR4.out hb rfl)
       clear C5 hb)
    | (go_at_call 55; (with_reducible refine (C6.out _ (HW.out _ HR5.out) _ Gc_5.out).mono ?_); rintro e W6 ⟨rfl, hb⟩
       have Grs_6 := Lib.hid (Grs_5.out.below hb)
       have Grv_6 := Lib.hid (Grv_5.out.below hb)
       have Gc_6 := Lib.hid (Gc_5.out.below hb)
       have HR6 := Lib.hid (below_tr6 HR5.out hb rfl)
       clear C6 hb)
    | (go_at_call 50; (with_reducible refine (C7.out _ (HW.out _ HR6.out) _ Gc_6.out).mono ?_); rintro e W7 ⟨rfl, hb⟩
       have Grs_7 := Lib.hid (Grs_6.out.below hb)
       have Grv_7 := Lib.hid (Grv_6.out.below hb)
       have Gc_7 := Lib.hid (Gc_6.out.below hb)
       have HR7 := Lib.hid (below_tr6 HR6.out hb rfl)
       clear C7 hb)
    | (go_at_call 50; (with_reducible refine (C8.out _ (HW.out _ HR7.out) _ Gc_7.out).mono ?_); rintro e W8 ⟨rfl, hb⟩
       have Grs_8 := Lib.hid (Grs_7.out.below hb)
       have Grv_8 := Lib.hid (Grv_7.out.below hb)
       have Gc_8 := Lib.hid (Gc_7.out.below hb)
       have HR8 := Lib.hid (below_tr6 HR7.out hb rfl)
       clear C8 hb)
    | (fail "no arm"))
  go_ret
  exact ⟨rfl, HR8.out⟩
set_option maxRecDepth 100000 in
set_option maxHeartbeats 4000000 in
theorem RollLaws_1F {IsC : World → Value → List CalT → Prop} (HBg : BegunC) (H : CalC IsC) (rv : Value) (l : List Rule) (cs : List CalT) (hcs : ([⟨rules8 l 8, []⟩] : List CalT) = cs) (n D k A : Int) (n0 : -9223372036854775808 ≤ n) (n1 : n ≤ 9223372036854775807) (hD : n % 109573 = D) (HT : k.tmod 5 % 5 = 1)
    (P1 : (∀ W v, Wd W → CalV H W v cs → Calls Tryz.prog 55 #[v, .int .i64 D, .int .i64 1] W fun e w' => e = .returned (.tuple #[.int .i64 A, .nilIface]) ∧ Below W.heap.size W w')) (P2 : (∀ W v, Wd W → CalV H W v cs → Calls Tryz.prog 55 #[v, .int .i64 A, .int .i64 1] W fun e w' => e = .returned (.tuple #[.int .i64 A, .nilIface]) ∧ Below W.heap.size W w')) (P3 : (∀ W v, Wd W → CalV H W v cs → Calls Tryz.prog 50 #[v, .int .i64 D] W fun e w' => e = .returned (.bool false) ∧ Below W.heap.size W w')) (P4 : (∀ W v, Wd W → CalV H W v cs → Calls Tryz.prog 50 #[v, .int .i64 A] W fun e w' => e = .returned (.bool true) ∧ Below W.heap.size W w')) (w : World) (hw : Wd w) (hr : RulesO w rv l) :
    Calls Tryz.prog 14 #[rv, .int .i64 n, .int .i64 k] w fun e w' => e = .returned (.bool true) ∧ Below w.heap.size w w' := by
  have hDay := fun W => Day_any n n0 n1 W
  rw [hD] at hDay
  have t2 := Int.tmod_lt_of_pos k (show (0 : Int) < 5 by decide)
  have t3 : -5 < k.tmod 5 := by
    rcases Int.le_total 0 k with h | h
    · rw [Int.tmod_eq_emod_of_nonneg h]; omega
    · have e := Int.tmod_eq_emod_of_nonneg (b := 5) (show 0 ≤ -k by omega)
      rw [Int.neg_tmod] at e
      omega
  have HW := Lib.hid (fun W (h : Below w.heap.size w W) => hw.keep h)
  have C1 := Lib.hid (fun (W : World) (hW : Wd W) => HBg W hW)
  have C2 := Lib.hid (fun (W : World) (v : Value) (h : RulesO W v l) => rules_any _ l W h)
  have C3 := Lib.hid (fun (W : World) (hW : Wd W) (v : Value) (h : RulesAt W v (rules8 l 8)) => New_drawn0 H _ l W hW h)
  have C4 := Lib.hid (fun (W : World) (hW : Wd W) => hDay W)
  have C5 := Lib.hid (fun (W : World) (hW : Wd W) (v : Value) (h : CalV H W v cs) => P1 W v hW h)
  have C6 := Lib.hid (fun (W : World) (hW : Wd W) (v : Value) (h : CalV H W v cs) => P2 W v hW h)
  have C7 := Lib.hid (fun (W : World) (hW : Wd W) (v : Value) (h : CalV H W v cs) => P3 W v hW h)
  have C8 := Lib.hid (fun (W : World) (hW : Wd W) (v : Value) (h : CalV H W v cs) => P4 W v hW h)
  have HR0 := Lib.hid (Below.refl w.heap.size w)
  have Grs_0 := Lib.hid (hr)
  clear hDay hr hD P1 P2 P3 P4
  clear hw
  go_enter Tryz.func14, Tryz.ntmps14
  go_wp2_with (first
    | (go_at_call 17; (with_reducible refine (C1.out _ (HW.out _ HR0.out)).mono ?_); rintro e W1 ⟨rfl, hb⟩
       have Grs_1 := Lib.hid (Grs_0.out.below hb)
       have HR1 := Lib.hid (below_tr6 HR0.out hb rfl)
       clear C1 hb)
    | (go_at_call 47; (with_reducible refine (C2.out _ _ Grs_1.out).mono ?_); rintro e W2 ⟨rv, rfl, h_rv, hb⟩
       have Grs_2 := Lib.hid (Grs_1.out.below hb)
       have Grv_2 := Lib.hid h_rv
       have HR2 := Lib.hid (below_tr6 HR1.out hb rfl)
       clear C2 hb h_rv)
    | (go_at_call 44; (with_reducible refine (C3.out _ (HW.out _ HR2.out) _ Grv_2.out).mono ?_); rintro e W3 ⟨ac, rfl, h_c, hb⟩
       rw [hcs] at h_c
       have Grs_3 := Lib.hid (Grs_2.out.below hb)
       have Grv_3 := Lib.hid (Grv_2.out.below hb)
       have Gc_3 := Lib.hid h_c
       have HR3 := Lib.hid (below_tr6 HR2.out hb rfl)
       clear C3 hb h_c)
    | (go_at_call 19; (with_reducible refine (C4.out _ (HW.out _ HR3.out)).mono ?_); rintro e w9 ⟨rfl, rfl⟩
       have HR4 := Lib.hid HR3.out
       clear C4)
    | (go_at_call 55; (with_reducible refine (C5.out _ (HW.out _ HR4.out) _ Gc_3.out).mono ?_); rintro e W5 ⟨rfl, hb⟩
       have Grs_5 := Lib.hid (Grs_3.out.below hb)
       have Grv_5 := Lib.hid (Grv_3.out.below hb)
       have Gc_5 := Lib.hid (Gc_3.out.below hb)
       have HR5 := Lib.hid (below_tr6 HR4.out hb rfl)
       clear C5 hb)
    | (go_at_call 55; (with_reducible refine (C6.out _ (HW.out _ HR5.out) _ Gc_5.out).mono ?_); rintro e W6 ⟨rfl, hb⟩
       have Grs_6 := Lib.hid (Grs_5.out.below hb)
       have Grv_6 := Lib.hid (Grv_5.out.below hb)
       have Gc_6 := Lib.hid (Gc_5.out.below hb)
       have HR6 := Lib.hid (below_tr6 HR5.out hb rfl)
       clear C6 hb)
    | (go_at_call 50; (with_reducible refine (C7.out _ (HW.out _ HR6.out) _ Gc_6.out).mono ?_); rintro e W7 ⟨rfl, hb⟩
       have Grs_7 := Lib.hid (Grs_6.out.below hb)
       have Grv_7 := Lib.hid (Grv_6.out.below hb)
       have Gc_7 := Lib.hid (Gc_6.out.below hb)
       have HR7 := Lib.hid (below_tr6 HR6.out hb rfl)
       clear C7 hb)
    | (go_at_call 50; (with_reducible refine (C8.out _ (HW.out _ HR7.out) _ Gc_7.out).mono ?_); rintro e W8 ⟨rfl, hb⟩
       have Grs_8 := Lib.hid (Grs_7.out.below hb)
       have Grv_8 := Lib.hid (Grv_7.out.below hb)
       have Gc_8 := Lib.hid (Gc_7.out.below hb)
       have HR8 := Lib.hid (below_tr6 HR7.out hb rfl)
       clear C8 hb)
    | (fail "no arm"))
  go_ret
  exact ⟨rfl, HR8.out⟩
set_option maxRecDepth 100000 in
set_option maxHeartbeats 4000000 in
theorem RollLaws_3T {IsC : World → Value → List CalT → Prop} (HBg : BegunC) (H : CalC IsC) (rv : Value) (l : List Rule) (cs : List CalT) (hcs : ([⟨rules8 l 8, []⟩] : List CalT) = cs) (n D k : Int) (n0 : -9223372036854775808 ≤ n) (n1 : n ≤ 9223372036854775807) (hD : n % 109573 = D) (HT : k.tmod 5 % 5 = 3)
    (P1 : (∀ W v, Wd W → CalV H W v cs → Calls Tryz.prog 55 #[v, .int .i64 D, .int .i64 3] W fun e w' => e = .returned (.tuple #[.int .i64 D, .nilIface]) ∧ Below W.heap.size W w')) (P2 : (∀ W v, Wd W → CalV H W v cs → Calls Tryz.prog 50 #[v, .int .i64 D] W fun e w' => e = .returned (.bool true) ∧ Below W.heap.size W w')) (w : World) (hw : Wd w) (hr : RulesO w rv l) :
    Calls Tryz.prog 14 #[rv, .int .i64 n, .int .i64 k] w fun e w' => e = .returned (.bool true) ∧ Below w.heap.size w w' := by
  have hDay := fun W => Day_any n n0 n1 W
  rw [hD] at hDay
  have t2 := Int.tmod_lt_of_pos k (show (0 : Int) < 5 by decide)
  have t3 : -5 < k.tmod 5 := by
    rcases Int.le_total 0 k with h | h
    · rw [Int.tmod_eq_emod_of_nonneg h]; omega
    · have e := Int.tmod_eq_emod_of_nonneg (b := 5) (show 0 ≤ -k by omega)
      rw [Int.neg_tmod] at e
      omega
  have HW := Lib.hid (fun W (h : Below w.heap.size w W) => hw.keep h)
  have C1 := Lib.hid (fun (W : World) (hW : Wd W) => HBg W hW)
  have C2 := Lib.hid (fun (W : World) (v : Value) (h : RulesO W v l) => rules_any _ l W h)
  have C3 := Lib.hid (fun (W : World) (hW : Wd W) (v : Value) (h : RulesAt W v (rules8 l 8)) => New_drawn0 H _ l W hW h)
  have C4 := Lib.hid (fun (W : World) (hW : Wd W) => hDay W)
  have C5 := Lib.hid (fun (W : World) (hW : Wd W) (v : Value) (h : CalV H W v cs) => P1 W v hW h)
  have C6 := Lib.hid (fun (W : World) (hW : Wd W) (v : Value) (h : CalV H W v cs) => P1 W v hW h)
  have C7 := Lib.hid (fun (W : World) (hW : Wd W) (v : Value) (h : CalV H W v cs) => P2 W v hW h)
  have C8 := Lib.hid (fun (W : World) (hW : Wd W) (v : Value) (h : CalV H W v cs) => P2 W v hW h)
  have HR0 := Lib.hid (Below.refl w.heap.size w)
  have Grs_0 := Lib.hid (hr)
  clear hDay hr hD P1 P2
  clear hw
  go_enter Tryz.func14, Tryz.ntmps14
  go_wp2_with (first
    | (go_at_call 17; (with_reducible refine (C1.out _ (HW.out _ HR0.out)).mono ?_); rintro e W1 ⟨rfl, hb⟩
       have Grs_1 := Lib.hid (Grs_0.out.below hb)
       have HR1 := Lib.hid (below_tr6 HR0.out hb rfl)
       clear C1 hb)
    | (go_at_call 47; (with_reducible refine (C2.out _ _ Grs_1.out).mono ?_); rintro e W2 ⟨rv, rfl, h_rv, hb⟩
       have Grs_2 := Lib.hid (Grs_1.out.below hb)
       have Grv_2 := Lib.hid h_rv
       have HR2 := Lib.hid (below_tr6 HR1.out hb rfl)
       clear C2 hb h_rv)
    | (go_at_call 44; (with_reducible refine (C3.out _ (HW.out _ HR2.out) _ Grv_2.out).mono ?_); rintro e W3 ⟨ac, rfl, h_c, hb⟩
       rw [hcs] at h_c
       have Grs_3 := Lib.hid (Grs_2.out.below hb)
       have Grv_3 := Lib.hid (Grv_2.out.below hb)
       have Gc_3 := Lib.hid h_c
       have HR3 := Lib.hid (below_tr6 HR2.out hb rfl)
       clear C3 hb h_c)
    | (go_at_call 19; (with_reducible refine (C4.out _ (HW.out _ HR3.out)).mono ?_); rintro e w9 ⟨rfl, rfl⟩
       have HR4 := Lib.hid HR3.out
       clear C4)
    | (go_at_call 55; (with_reducible refine (C5.out _ (HW.out _ HR4.out) _ Gc_3.out).mono ?_); rintro e W5 ⟨rfl, hb⟩
       have Grs_5 := Lib.hid (Grs_3.out.below hb)
       have Grv_5 := Lib.hid (Grv_3.out.below hb)
       have Gc_5 := Lib.hid (Gc_3.out.below hb)
       have HR5 := Lib.hid (below_tr6 HR4.out hb rfl)
       clear C5 hb)
    | (go_at_call 55; (with_reducible refine (C6.out _ (HW.out _ HR5.out) _ Gc_5.out).mono ?_); rintro e W6 ⟨rfl, hb⟩
       have Grs_6 := Lib.hid (Grs_5.out.below hb)
       have Grv_6 := Lib.hid (Grv_5.out.below hb)
       have Gc_6 := Lib.hid (Gc_5.out.below hb)
       have HR6 := Lib.hid (below_tr6 HR5.out hb rfl)
       clear C6 hb)
    | (go_at_call 50; (with_reducible refine (C7.out _ (HW.out _ HR6.out) _ Gc_6.out).mono ?_); rintro e W7 ⟨rfl, hb⟩
       have Grs_7 := Lib.hid (Grs_6.out.below hb)
       have Grv_7 := Lib.hid (Grv_6.out.below hb)
       have Gc_7 := Lib.hid (Gc_6.out.below hb)
       have HR7 := Lib.hid (below_tr6 HR6.out hb rfl)
       clear C7 hb)
    | (go_at_call 50; (with_reducible refine (C8.out _ (HW.out _ HR7.out) _ Gc_7.out).mono ?_); rintro e W8 ⟨rfl, hb⟩
       have Grs_8 := Lib.hid (Grs_7.out.below hb)
       have Grv_8 := Lib.hid (Grv_7.out.below hb)
       have Gc_8 := Lib.hid (Gc_7.out.below hb)
       have HR8 := Lib.hid (below_tr6 HR7.out hb rfl)
       clear C8 hb)
    | (fail "no arm"))
  go_ret
  exact ⟨rfl, HR8.out⟩
set_option maxRecDepth 100000 in
set_option maxHeartbeats 4000000 in
theorem RollLaws_3F {IsC : World → Value → List CalT → Prop} (HBg : BegunC) (H : CalC IsC) (rv : Value) (l : List Rule) (cs : List CalT) (hcs : ([⟨rules8 l 8, []⟩] : List CalT) = cs) (n D k A : Int) (n0 : -9223372036854775808 ≤ n) (n1 : n ≤ 9223372036854775807) (hD : n % 109573 = D) (HT : k.tmod 5 % 5 = 3)
    (P1 : (∀ W v, Wd W → CalV H W v cs → Calls Tryz.prog 55 #[v, .int .i64 D, .int .i64 3] W fun e w' => e = .returned (.tuple #[.int .i64 A, .nilIface]) ∧ Below W.heap.size W w')) (P2 : (∀ W v, Wd W → CalV H W v cs → Calls Tryz.prog 55 #[v, .int .i64 A, .int .i64 3] W fun e w' => e = .returned (.tuple #[.int .i64 A, .nilIface]) ∧ Below W.heap.size W w')) (P3 : (∀ W v, Wd W → CalV H W v cs → Calls Tryz.prog 50 #[v, .int .i64 D] W fun e w' => e = .returned (.bool false) ∧ Below W.heap.size W w')) (P4 : (∀ W v, Wd W → CalV H W v cs → Calls Tryz.prog 50 #[v, .int .i64 A] W fun e w' => e = .returned (.bool true) ∧ Below W.heap.size W w')) (w : World) (hw : Wd w) (hr : RulesO w rv l) :
    Calls Tryz.prog 14 #[rv, .int .i64 n, .int .i64 k] w fun e w' => e = .returned (.bool true) ∧ Below w.heap.size w w' := by
  have hDay := fun W => Day_any n n0 n1 W
  rw [hD] at hDay
  have t2 := Int.tmod_lt_of_pos k (show (0 : Int) < 5 by decide)
  have t3 : -5 < k.tmod 5 := by
    rcases Int.le_total 0 k with h | h
    · rw [Int.tmod_eq_emod_of_nonneg h]; omega
    · have e := Int.tmod_eq_emod_of_nonneg (b := 5) (show 0 ≤ -k by omega)
      rw [Int.neg_tmod] at e
      omega
  have HW := Lib.hid (fun W (h : Below w.heap.size w W) => hw.keep h)
  have C1 := Lib.hid (fun (W : World) (hW : Wd W) => HBg W hW)
  have C2 := Lib.hid (fun (W : World) (v : Value) (h : RulesO W v l) => rules_any _ l W h)
  have C3 := Lib.hid (fun (W : World) (hW : Wd W) (v : Value) (h : RulesAt W v (rules8 l 8)) => New_drawn0 H _ l W hW h)
  have C4 := Lib.hid (fun (W : World) (hW : Wd W) => hDay W)
  have C5 := Lib.hid (fun (W : World) (hW : Wd W) (v : Value) (h : CalV H W v cs) => P1 W v hW h)
  have C6 := Lib.hid (fun (W : World) (hW : Wd W) (v : Value) (h : CalV H W v cs) => P2 W v hW h)
  have C7 := Lib.hid (fun (W : World) (hW : Wd W) (v : Value) (h : CalV H W v cs) => P3 W v hW h)
  have C8 := Lib.hid (fun (W : World) (hW : Wd W) (v : Value) (h : CalV H W v cs) => P4 W v hW h)
  have HR0 := Lib.hid (Below.refl w.heap.size w)
  have Grs_0 := Lib.hid (hr)
  clear hDay hr hD P1 P2 P3 P4
  clear hw
  go_enter Tryz.func14, Tryz.ntmps14
  go_wp2_with (first
    | (go_at_call 17; (with_reducible refine (C1.out _ (HW.out _ HR0.out)).mono ?_); rintro e W1 ⟨rfl, hb⟩
       have Grs_1 := Lib.hid (Grs_0.out.below hb)
       have HR1 := Lib.hid (below_tr6 HR0.out hb rfl)
       clear C1 hb)
    | (go_at_call 47; (with_reducible refine (C2.out _ _ Grs_1.out).mono ?_); rintro e W2 ⟨rv, rfl, h_rv, hb⟩
       have Grs_2 := Lib.hid (Grs_1.out.below hb)
       have Grv_2 := Lib.hid h_rv
       have HR2 := Lib.hid (below_tr6 HR1.out hb rfl)
       clear C2 hb h_rv)
    | (go_at_call 44; (with_reducible refine (C3.out _ (HW.out _ HR2.out) _ Grv_2.out).mono ?_); rintro e W3 ⟨ac, rfl, h_c, hb⟩
       rw [hcs] at h_c
       have Grs_3 := Lib.hid (Grs_2.out.below hb)
       have Grv_3 := Lib.hid (Grv_2.out.below hb)
       have Gc_3 := Lib.hid h_c
       have HR3 := Lib.hid (below_tr6 HR2.out hb rfl)
       clear C3 hb h_c)
    | (go_at_call 19; (with_reducible refine (C4.out _ (HW.out _ HR3.out)).mono ?_); rintro e w9 ⟨rfl, rfl⟩
       have HR4 := Lib.hid HR3.out
       clear C4)
    | (go_at_call 55; (with_reducible refine (C5.out _ (HW.out _ HR4.out) _ Gc_3.out).mono ?_); rintro e W5 ⟨rfl, hb⟩
       have Grs_5 := Lib.hid (Grs_3.out.below hb)
       have Grv_5 := Lib.hid (Grv_3.out.below hb)
       have Gc_5 := Lib.hid (Gc_3.out.below hb)
       have HR5 := Lib.hid (below_tr6 HR4.out hb rfl)
       clear C5 hb)
    | (go_at_call 55; (with_reducible refine (C6.out _ (HW.out _ HR5.out) _ Gc_5.out).mono ?_); rintro e W6 ⟨rfl, hb⟩
       have Grs_6 := Lib.hid (Grs_5.out.below hb)
       have Grv_6 := Lib.hid (Grv_5.out.below hb)
       have Gc_6 := Lib.hid (Gc_5.out.below hb)
       have HR6 := Lib.hid (below_tr6 HR5.out hb rfl)
       clear C6 hb)
    | (go_at_call 50; (with_reducible refine (C7.out _ (HW.out _ HR6.out) _ Gc_6.out).mono ?_); rintro e W7 ⟨rfl, hb⟩
       have Grs_7 := Lib.hid (Grs_6.out.below hb)
       have Grv_7 := Lib.hid (Grv_6.out.below hb)
       have Gc_7 := Lib.hid (Gc_6.out.below hb)
       have HR7 := Lib.hid (below_tr6 HR6.out hb rfl)
       clear C7 hb)
    | (go_at_call 50; (with_reducible refine (C8.out _ (HW.out _ HR7.out) _ Gc_7.out).mono ?_); rintro e W8 ⟨rfl, hb⟩
       have Grs_8 := Lib.hid (Grs_7.out.below hb)
       have Grv_8 := Lib.hid (Grv_7.out.below hb)
       have Gc_8 := Lib.hid (Gc_7.out.below hb)
       have HR8 := Lib.hid (below_tr6 HR7.out hb rfl)
       clear C8 hb)
    | (fail "no arm"))
  go_ret
  exact ⟨rfl, HR8.out⟩
set_option maxRecDepth 100000 in
set_option maxHeartbeats 4000000 in
theorem RollLaws_2T {IsC : World → Value → List CalT → Prop} (HBg : BegunC) (H : CalC IsC) (rv : Value) (l : List Rule) (cs : List CalT) (hcs : ([⟨rules8 l 8, []⟩] : List CalT) = cs) (n D k : Int) (n0 : -9223372036854775808 ≤ n) (n1 : n ≤ 9223372036854775807) (hD : n % 109573 = D) (HT : k.tmod 5 % 5 = 2) (y m d F E cn : Int) (g0 : 0 ≤ E) (g1 : E ≤ 109572) (hcn : (cn == 0) = false)
    (P1 : (∀ W v, Wd W → CalV H W v cs → Calls Tryz.prog 55 #[v, .int .i64 D, .int .i64 2] W fun e w' => e = .returned (.tuple #[.int .i64 D, .nilIface]) ∧ Below W.heap.size W w')) (P2 : (∀ W v, Wd W → CalV H W v cs → Calls Tryz.prog 50 #[v, .int .i64 D] W fun e w' => e = .returned (.bool true) ∧ Below W.heap.size W w')) (P3 : (∀ W, Wd W → Calls Tryz.prog 20 #[.int .i64 D] W fun e w' => e = .returned (.tuple #[.agg #[.int .i64 y, .int .i64 m, .int .i64 d], .nilIface]) ∧ Below W.heap.size W w')) (P4 : (∀ W, Wd W → Calls Tryz.prog 22 #[.agg #[.int .i64 y, .int .i64 m, .int .i64 1]] W fun e w' => e = .returned (.tuple #[.int .i64 F, .nilIface]) ∧ Below W.heap.size W w')) (P5 : (∀ W, Wd W → Calls Tryz.prog 37 #[.int .i64 y, .int .i64 m] W fun e w' => e = .returned (.tuple #[.int .i64 E, .nilIface]) ∧ Below W.heap.size W w')) (P6 : (∀ W v, Wd W → CalV H W v cs → Calls Tryz.prog 54 #[v, .int .i64 F, .int .i64 (E + 1)] W fun e w' => e = .returned (.int .i64 cn) ∧ Below W.heap.size W w')) (P7 : (∀ W, Wd W → Calls Tryz.prog 40 #[.int .i64 D, .int .i64 D] W fun e w' => e = .returned (.int .i64 0) ∧ Below W.heap.size W w')) (w : World) (hw : Wd w) (hr : RulesO w rv l) :
    Calls Tryz.prog 14 #[rv, .int .i64 n, .int .i64 k] w fun e w' => e = .returned (.bool true) ∧ Below w.heap.size w w' := by
  have hDay := fun W => Day_any n n0 n1 W
  rw [hD] at hDay
  have t2 := Int.tmod_lt_of_pos k (show (0 : Int) < 5 by decide)
  have t3 : -5 < k.tmod 5 := by
    rcases Int.le_total 0 k with h | h
    · rw [Int.tmod_eq_emod_of_nonneg h]; omega
    · have e := Int.tmod_eq_emod_of_nonneg (b := 5) (show 0 ≤ -k by omega)
      rw [Int.neg_tmod] at e
      omega
  have HW := Lib.hid (fun W (h : Below w.heap.size w W) => hw.keep h)
  have C1 := Lib.hid (fun (W : World) (hW : Wd W) => HBg W hW)
  have C2 := Lib.hid (fun (W : World) (v : Value) (h : RulesO W v l) => rules_any _ l W h)
  have C3 := Lib.hid (fun (W : World) (hW : Wd W) (v : Value) (h : RulesAt W v (rules8 l 8)) => New_drawn0 H _ l W hW h)
  have C4 := Lib.hid (fun (W : World) (hW : Wd W) => hDay W)
  have C5 := Lib.hid (fun (W : World) (hW : Wd W) (v : Value) (h : CalV H W v cs) => P1 W v hW h)
  have C6 := Lib.hid (fun (W : World) (hW : Wd W) (v : Value) (h : CalV H W v cs) => P1 W v hW h)
  have C7 := Lib.hid (fun (W : World) (hW : Wd W) (v : Value) (h : CalV H W v cs) => P2 W v hW h)
  have C8 := Lib.hid (fun (W : World) (hW : Wd W) (v : Value) (h : CalV H W v cs) => P2 W v hW h)
  have C9 := Lib.hid (fun (W : World) (hW : Wd W) => P3 W hW)
  have C10 := Lib.hid (fun (W : World) (hW : Wd W) => P4 W hW)
  have C11 := Lib.hid (fun (W : World) (hW : Wd W) => P5 W hW)
  have C12 := Lib.hid (fun (W : World) (hW : Wd W) (v : Value) (h : CalV H W v cs) => P6 W v hW h)
  have C13 := Lib.hid (fun (W : World) (hW : Wd W) => P7 W hW)
  have HR0 := Lib.hid (Below.refl w.heap.size w)
  have Grs_0 := Lib.hid (hr)
  clear hDay hr hD P1 P2 P3 P4 P5 P6 P7
  clear hw
  go_enter Tryz.func14, Tryz.ntmps14
  go_wp2_with (first
    | (go_at_call 17; (with_reducible refine (C1.out _ (HW.out _ HR0.out)).mono ?_); rintro e W1 ⟨rfl, hb⟩
       have Grs_1 := Lib.hid (Grs_0.out.below hb)
       have HR1 := Lib.hid (below_tr6 HR0.out hb rfl)
       clear C1 hb)
    | (go_at_call 47; (with_reducible refine (C2.out _ _ Grs_1.out).mono ?_); rintro e W2 ⟨rv, rfl, h_rv, hb⟩
       have Grs_2 := Lib.hid (Grs_1.out.below hb)
       have Grv_2 := Lib.hid h_rv
       have HR2 := Lib.hid (below_tr6 HR1.out hb rfl)
       clear C2 hb h_rv)
    | (go_at_call 44; (with_reducible refine (C3.out _ (HW.out _ HR2.out) _ Grv_2.out).mono ?_); rintro e W3 ⟨ac, rfl, h_c, hb⟩
       rw [hcs] at h_c
       have Grs_3 := Lib.hid (Grs_2.out.below hb)
       have Grv_3 := Lib.hid (Grv_2.out.below hb)
       have Gc_3 := Lib.hid h_c
       have HR3 := Lib.hid (below_tr6 HR2.out hb rfl)
       clear C3 hb h_c)
    | (go_at_call 19; (with_reducible refine (C4.out _ (HW.out _ HR3.out)).mono ?_); rintro e w9 ⟨rfl, rfl⟩
       have HR4 := Lib.hid HR3.out
       clear C4)
    | (go_at_call 55; (with_reducible refine (C5.out _ (HW.out _ HR4.out) _ Gc_3.out).mono ?_); rintro e W5 ⟨rfl, hb⟩
       have Grs_5 := Lib.hid (Grs_3.out.below hb)
       have Grv_5 := Lib.hid (Grv_3.out.below hb)
       have Gc_5 := Lib.hid (Gc_3.out.below hb)
       have HR5 := Lib.hid (below_tr6 HR4.out hb rfl)
       clear C5 hb)
    | (go_at_call 55; (with_reducible refine (C6.out _ (HW.out _ HR5.out) _ Gc_5.out).mono ?_); rintro e W6 ⟨rfl, hb⟩
       have Grs_6 := Lib.hid (Grs_5.out.below hb)
       have Grv_6 := Lib.hid (Grv_5.out.below hb)
       have Gc_6 := Lib.hid (Gc_5.out.below hb)
       have HR6 := Lib.hid (below_tr6 HR5.out hb rfl)
       clear C6 hb)
    | (go_at_call 50; (with_reducible refine (C7.out _ (HW.out _ HR6.out) _ Gc_6.out).mono ?_); rintro e W7 ⟨rfl, hb⟩
       have Grs_7 := Lib.hid (Grs_6.out.below hb)
       have Grv_7 := Lib.hid (Grv_6.out.below hb)
       have Gc_7 := Lib.hid (Gc_6.out.below hb)
       have HR7 := Lib.hid (below_tr6 HR6.out hb rfl)
       clear C7 hb)
    | (go_at_call 50; (with_reducible refine (C8.out _ (HW.out _ HR7.out) _ Gc_7.out).mono ?_); rintro e W8 ⟨rfl, hb⟩
       have Grs_8 := Lib.hid (Grs_7.out.below hb)
       have Grv_8 := Lib.hid (Grv_7.out.below hb)
       have Gc_8 := Lib.hid (Gc_7.out.below hb)
       have HR8 := Lib.hid (below_tr6 HR7.out hb rfl)
       clear C8 hb)
    | (go_at_call 20; (with_reducible refine (C9.out _ (HW.out _ HR8.out)).mono ?_); rintro e W9 ⟨rfl, hb⟩
       have Grs_9 := Lib.hid (Grs_8.out.below hb)
       have Grv_9 := Lib.hid (Grv_8.out.below hb)
       have Gc_9 := Lib.hid (Gc_8.out.below hb)
       have M9_0 := Lib.hid (CAt.new W9 y m d)
       have HR9 := Lib.hid (Below.alloc (below_tr6 HR8.out hb rfl) (Below.size (below_tr6 HR8.out hb rfl)) (.cells #[.int .i64 y, .int .i64 m, .int .i64 d] 23))
       have Grs_9a := Lib.hid (Grs_9.out.below ((Below.refl _ _).alloc (Nat.le_refl _) (.cells #[.int .i64 y, .int .i64 m, .int .i64 d] 23)))
       clear Grs_9; have Grs_9 := Grs_9a; clear Grs_9a
       have Grv_9a := Lib.hid (Grv_9.out.below ((Below.refl _ _).alloc (Nat.le_refl _) (.cells #[.int .i64 y, .int .i64 m, .int .i64 d] 23)))
       clear Grv_9; have Grv_9 := Grv_9a; clear Grv_9a
       have Gc_9a := Lib.hid (Gc_9.out.below ((Below.refl _ _).alloc (Nat.le_refl _) (.cells #[.int .i64 y, .int .i64 m, .int .i64 d] 23)))
       clear Gc_9; have Gc_9 := Gc_9a; clear Gc_9a
       obtain ⟨q9_0_0, q9_0_1, q9_0_2, -⟩ := M9_0.out.cells
       clear C9 hb)
    | (go_at_call 22; (with_reducible refine (C10.out _ (HW.out _ HR9.out)).mono ?_); rintro e W10 ⟨rfl, hb⟩
       have M10_0 := Lib.hid (M9_0.out.below hb)
       have Grs_10 := Lib.hid (Grs_9.out.below hb)
       have Grv_10 := Lib.hid (Grv_9.out.below hb)
       have Gc_10 := Lib.hid (Gc_9.out.below hb)
       have HR10 := Lib.hid (below_tr6 HR9.out hb rfl)
       obtain ⟨q10_0_0, q10_0_1, q10_0_2, -⟩ := M10_0.out.cells
       clear q9_0_0 q9_0_1 q9_0_2 C10 hb)
    | (go_at_call 37; (with_reducible refine (C11.out _ (HW.out _ HR10.out)).mono ?_); rintro e W11 ⟨rfl, hb⟩
       have M11_0 := Lib.hid (M10_0.out.below hb)
       have Grs_11 := Lib.hid (Grs_10.out.below hb)
       have Grv_11 := Lib.hid (Grv_10.out.below hb)
       have Gc_11 := Lib.hid (Gc_10.out.below hb)
       have HR11 := Lib.hid (below_tr6 HR10.out hb rfl)
       obtain ⟨q11_0_0, q11_0_1, q11_0_2, -⟩ := M11_0.out.cells
       clear q10_0_0 q10_0_1 q10_0_2 C11 hb)
    | (go_at_call 54; (with_reducible refine (C12.out _ (HW.out _ HR11.out) _ Gc_11.out).mono ?_); rintro e W12 ⟨rfl, hb⟩
       have M12_0 := Lib.hid (M11_0.out.below hb)
       have Grs_12 := Lib.hid (Grs_11.out.below hb)
       have Grv_12 := Lib.hid (Grv_11.out.below hb)
       have Gc_12 := Lib.hid (Gc_11.out.below hb)
       have HR12 := Lib.hid (below_tr6 HR11.out hb rfl)
       obtain ⟨q12_0_0, q12_0_1, q12_0_2, -⟩ := M12_0.out.cells
       clear q11_0_0 q11_0_1 q11_0_2 C12 hb)
    | (go_at_call 40; (with_reducible refine (C13.out _ (HW.out _ HR12.out)).mono ?_); rintro e W13 ⟨rfl, hb⟩
       have M13_0 := Lib.hid (M12_0.out.below hb)
       have Grs_13 := Lib.hid (Grs_12.out.below hb)
       have Grv_13 := Lib.hid (Grv_12.out.below hb)
       have Gc_13 := Lib.hid (Gc_12.out.below hb)
       have HR13 := Lib.hid (below_tr6 HR12.out hb rfl)
       obtain ⟨q13_0_0, q13_0_1, q13_0_2, -⟩ := M13_0.out.cells
       clear q12_0_0 q12_0_1 q12_0_2 C13 hb)
    | (fail "no arm"))
  go_ret
  exact ⟨rfl, HR13.out⟩
set_option maxRecDepth 100000 in
set_option maxHeartbeats 4000000 in
theorem RollLaws_2F0 {IsC : World → Value → List CalT → Prop} (HBg : BegunC) (H : CalC IsC) (rv : Value) (l : List Rule) (cs : List CalT) (hcs : ([⟨rules8 l 8, []⟩] : List CalT) = cs) (n D k A : Int) (n0 : -9223372036854775808 ≤ n) (n1 : n ≤ 9223372036854775807) (hD : n % 109573 = D) (HT : k.tmod 5 % 5 = 2) (y m d F E cn : Int) (g0 : 0 ≤ E) (g1 : E ≤ 109572) (hcn : cn = 0)
    (P1 : (∀ W v, Wd W → CalV H W v cs → Calls Tryz.prog 55 #[v, .int .i64 D, .int .i64 2] W fun e w' => e = .returned (.tuple #[.int .i64 A, .nilIface]) ∧ Below W.heap.size W w')) (P2 : (∀ W v, Wd W → CalV H W v cs → Calls Tryz.prog 55 #[v, .int .i64 A, .int .i64 2] W fun e w' => e = .returned (.tuple #[.int .i64 A, .nilIface]) ∧ Below W.heap.size W w')) (P3 : (∀ W v, Wd W → CalV H W v cs → Calls Tryz.prog 50 #[v, .int .i64 D] W fun e w' => e = .returned (.bool false) ∧ Below W.heap.size W w')) (P4 : (∀ W v, Wd W → CalV H W v cs → Calls Tryz.prog 50 #[v, .int .i64 A] W fun e w' => e = .returned (.bool true) ∧ Below W.heap.size W w')) (P5 : (∀ W, Wd W → Calls Tryz.prog 20 #[.int .i64 D] W fun e w' => e = .returned (.tuple #[.agg #[.int .i64 y, .int .i64 m, .int .i64 d], .nilIface]) ∧ Below W.heap.size W w')) (P6 : (∀ W, Wd W → Calls Tryz.prog 22 #[.agg #[.int .i64 y, .int .i64 m, .int .i64 1]] W fun e w' => e = .returned (.tuple #[.int .i64 F, .nilIface]) ∧ Below W.heap.size W w')) (P7 : (∀ W, Wd W → Calls Tryz.prog 37 #[.int .i64 y, .int .i64 m] W fun e w' => e = .returned (.tuple #[.int .i64 E, .nilIface]) ∧ Below W.heap.size W w')) (P8 : (∀ W v, Wd W → CalV H W v cs → Calls Tryz.prog 54 #[v, .int .i64 F, .int .i64 (E + 1)] W fun e w' => e = .returned (.int .i64 cn) ∧ Below W.heap.size W w')) (w : World) (hw : Wd w) (hr : RulesO w rv l) :
    Calls Tryz.prog 14 #[rv, .int .i64 n, .int .i64 k] w fun e w' => e = .returned (.bool true) ∧ Below w.heap.size w w' := by
  have hDay := fun W => Day_any n n0 n1 W
  rw [hD] at hDay
  have t2 := Int.tmod_lt_of_pos k (show (0 : Int) < 5 by decide)
  have t3 : -5 < k.tmod 5 := by
    rcases Int.le_total 0 k with h | h
    · rw [Int.tmod_eq_emod_of_nonneg h]; omega
    · have e := Int.tmod_eq_emod_of_nonneg (b := 5) (show 0 ≤ -k by omega)
      rw [Int.neg_tmod] at e
      omega
  have HW := Lib.hid (fun W (h : Below w.heap.size w W) => hw.keep h)
  have C1 := Lib.hid (fun (W : World) (hW : Wd W) => HBg W hW)
  have C2 := Lib.hid (fun (W : World) (v : Value) (h : RulesO W v l) => rules_any _ l W h)
  have C3 := Lib.hid (fun (W : World) (hW : Wd W) (v : Value) (h : RulesAt W v (rules8 l 8)) => New_drawn0 H _ l W hW h)
  have C4 := Lib.hid (fun (W : World) (hW : Wd W) => hDay W)
  have C5 := Lib.hid (fun (W : World) (hW : Wd W) (v : Value) (h : CalV H W v cs) => P1 W v hW h)
  have C6 := Lib.hid (fun (W : World) (hW : Wd W) (v : Value) (h : CalV H W v cs) => P2 W v hW h)
  have C7 := Lib.hid (fun (W : World) (hW : Wd W) (v : Value) (h : CalV H W v cs) => P3 W v hW h)
  have C8 := Lib.hid (fun (W : World) (hW : Wd W) (v : Value) (h : CalV H W v cs) => P4 W v hW h)
  have C9 := Lib.hid (fun (W : World) (hW : Wd W) => P5 W hW)
  have C10 := Lib.hid (fun (W : World) (hW : Wd W) => P6 W hW)
  have C11 := Lib.hid (fun (W : World) (hW : Wd W) => P7 W hW)
  have C12 := Lib.hid (fun (W : World) (hW : Wd W) (v : Value) (h : CalV H W v cs) => P8 W v hW h)
  have HR0 := Lib.hid (Below.refl w.heap.size w)
  have Grs_0 := Lib.hid (hr)
  clear hDay hr hD P1 P2 P3 P4 P5 P6 P7 P8
  subst hcn
  clear hw
  go_enter Tryz.func14, Tryz.ntmps14
  go_wp2_with (first
    | (go_at_call 17; (with_reducible refine (C1.out _ (HW.out _ HR0.out)).mono ?_); rintro e W1 ⟨rfl, hb⟩
       have Grs_1 := Lib.hid (Grs_0.out.below hb)
       have HR1 := Lib.hid (below_tr6 HR0.out hb rfl)
       clear C1 hb)
    | (go_at_call 47; (with_reducible refine (C2.out _ _ Grs_1.out).mono ?_); rintro e W2 ⟨rv, rfl, h_rv, hb⟩
       have Grs_2 := Lib.hid (Grs_1.out.below hb)
       have Grv_2 := Lib.hid h_rv
       have HR2 := Lib.hid (below_tr6 HR1.out hb rfl)
       clear C2 hb h_rv)
    | (go_at_call 44; (with_reducible refine (C3.out _ (HW.out _ HR2.out) _ Grv_2.out).mono ?_); rintro e W3 ⟨ac, rfl, h_c, hb⟩
       rw [hcs] at h_c
       have Grs_3 := Lib.hid (Grs_2.out.below hb)
       have Grv_3 := Lib.hid (Grv_2.out.below hb)
       have Gc_3 := Lib.hid h_c
       have HR3 := Lib.hid (below_tr6 HR2.out hb rfl)
       clear C3 hb h_c)
    | (go_at_call 19; (with_reducible refine (C4.out _ (HW.out _ HR3.out)).mono ?_); rintro e w9 ⟨rfl, rfl⟩
       have HR4 := Lib.hid HR3.out
       clear C4)
    | (go_at_call 55; (with_reducible refine (C5.out _ (HW.out _ HR4.out) _ Gc_3.out).mono ?_); rintro e W5 ⟨rfl, hb⟩
       have Grs_5 := Lib.hid (Grs_3.out.below hb)
       have Grv_5 := Lib.hid (Grv_3.out.below hb)
       have Gc_5 := Lib.hid (Gc_3.out.below hb)
       have HR5 := Lib.hid (below_tr6 HR4.out hb rfl)
       clear C5 hb)
    | (go_at_call 55; (with_reducible refine (C6.out _ (HW.out _ HR5.out) _ Gc_5.out).mono ?_); rintro e W6 ⟨rfl, hb⟩
       have Grs_6 := Lib.hid (Grs_5.out.below hb)
       have Grv_6 := Lib.hid (Grv_5.out.below hb)
       have Gc_6 := Lib.hid (Gc_5.out.below hb)
       have HR6 := Lib.hid (below_tr6 HR5.out hb rfl)
       clear C6 hb)
    | (go_at_call 50; (with_reducible refine (C7.out _ (HW.out _ HR6.out) _ Gc_6.out).mono ?_); rintro e W7 ⟨rfl, hb⟩
       have Grs_7 := Lib.hid (Grs_6.out.below hb)
       have Grv_7 := Lib.hid (Grv_6.out.below hb)
       have Gc_7 := Lib.hid (Gc_6.out.below hb)
       have HR7 := Lib.hid (below_tr6 HR6.out hb rfl)
       clear C7 hb)
    | (go_at_call 50; (with_reducible refine (C8.out _ (HW.out _ HR7.out) _ Gc_7.out).mono ?_); rintro e W8 ⟨rfl, hb⟩
       have Grs_8 := Lib.hid (Grs_7.out.below hb)
       have Grv_8 := Lib.hid (Grv_7.out.below hb)
       have Gc_8 := Lib.hid (Gc_7.out.below hb)
       have HR8 := Lib.hid (below_tr6 HR7.out hb rfl)
       clear C8 hb)
    | (go_at_call 20; (with_reducible refine (C9.out _ (HW.out _ HR8.out)).mono ?_); rintro e W9 ⟨rfl, hb⟩
       have Grs_9 := Lib.hid (Grs_8.out.below hb)
       have Grv_9 := Lib.hid (Grv_8.out.below hb)
       have Gc_9 := Lib.hid (Gc_8.out.below hb)
       have M9_0 := Lib.hid (CAt.new W9 y m d)
       have HR9 := Lib.hid (Below.alloc (below_tr6 HR8.out hb rfl) (Below.size (below_tr6 HR8.out hb rfl)) (.cells #[.int .i64 y, .int .i64 m, .int .i64 d] 23))
       have Grs_9a := Lib.hid (Grs_9.out.below ((Below.refl _ _).alloc (Nat.le_refl _) (.cells #[.int .i64 y, .int .i64 m, .int .i64 d] 23)))
       clear Grs_9; have Grs_9 := Grs_9a; clear Grs_9a
       have Grv_9a := Lib.hid (Grv_9.out.below ((Below.refl _ _).alloc (Nat.le_refl _) (.cells #[.int .i64 y, .int .i64 m, .int .i64 d] 23)))
       clear Grv_9; have Grv_9 := Grv_9a; clear Grv_9a
       have Gc_9a := Lib.hid (Gc_9.out.below ((Below.refl _ _).alloc (Nat.le_refl _) (.cells #[.int .i64 y, .int .i64 m, .int .i64 d] 23)))
       clear Gc_9; have Gc_9 := Gc_9a; clear Gc_9a
       obtain ⟨q9_0_0, q9_0_1, q9_0_2, -⟩ := M9_0.out.cells
       clear C9 hb)
    | (go_at_call 22; (with_reducible refine (C10.out _ (HW.out _ HR9.out)).mono ?_); rintro e W10 ⟨rfl, hb⟩
       have M10_0 := Lib.hid (M9_0.out.below hb)
       have Grs_10 := Lib.hid (Grs_9.out.below hb)
       have Grv_10 := Lib.hid (Grv_9.out.below hb)
       have Gc_10 := Lib.hid (Gc_9.out.below hb)
       have HR10 := Lib.hid (below_tr6 HR9.out hb rfl)
       obtain ⟨q10_0_0, q10_0_1, q10_0_2, -⟩ := M10_0.out.cells
       clear q9_0_0 q9_0_1 q9_0_2 C10 hb)
    | (go_at_call 37; (with_reducible refine (C11.out _ (HW.out _ HR10.out)).mono ?_); rintro e W11 ⟨rfl, hb⟩
       have M11_0 := Lib.hid (M10_0.out.below hb)
       have Grs_11 := Lib.hid (Grs_10.out.below hb)
       have Grv_11 := Lib.hid (Grv_10.out.below hb)
       have Gc_11 := Lib.hid (Gc_10.out.below hb)
       have HR11 := Lib.hid (below_tr6 HR10.out hb rfl)
       obtain ⟨q11_0_0, q11_0_1, q11_0_2, -⟩ := M11_0.out.cells
       clear q10_0_0 q10_0_1 q10_0_2 C11 hb)
    | (go_at_call 54; (with_reducible refine (C12.out _ (HW.out _ HR11.out) _ Gc_11.out).mono ?_); rintro e W12 ⟨rfl, hb⟩
       have M12_0 := Lib.hid (M11_0.out.below hb)
       have Grs_12 := Lib.hid (Grs_11.out.below hb)
       have Grv_12 := Lib.hid (Grv_11.out.below hb)
       have Gc_12 := Lib.hid (Gc_11.out.below hb)
       have HR12 := Lib.hid (below_tr6 HR11.out hb rfl)
       obtain ⟨q12_0_0, q12_0_1, q12_0_2, -⟩ := M12_0.out.cells
       clear q11_0_0 q11_0_1 q11_0_2 C12 hb)
    | (fail "no arm"))
  go_ret
  exact ⟨rfl, HR12.out⟩
set_option maxRecDepth 100000 in
set_option maxHeartbeats 4000000 in
theorem RollLaws_2F1 {IsC : World → Value → List CalT → Prop} (HBg : BegunC) (H : CalC IsC) (rv : Value) (l : List Rule) (cs : List CalT) (hcs : ([⟨rules8 l 8, []⟩] : List CalT) = cs) (n D k A : Int) (n0 : -9223372036854775808 ≤ n) (n1 : n ≤ 9223372036854775807) (hD : n % 109573 = D) (HT : k.tmod 5 % 5 = 2) (y m d F E cn : Int) (g0 : 0 ≤ E) (g1 : E ≤ 109572) (hcn : (cn == 0) = false)
    (P1 : (∀ W v, Wd W → CalV H W v cs → Calls Tryz.prog 55 #[v, .int .i64 D, .int .i64 2] W fun e w' => e = .returned (.tuple #[.int .i64 A, .nilIface]) ∧ Below W.heap.size W w')) (P2 : (∀ W v, Wd W → CalV H W v cs → Calls Tryz.prog 55 #[v, .int .i64 A, .int .i64 2] W fun e w' => e = .returned (.tuple #[.int .i64 A, .nilIface]) ∧ Below W.heap.size W w')) (P3 : (∀ W v, Wd W → CalV H W v cs → Calls Tryz.prog 50 #[v, .int .i64 D] W fun e w' => e = .returned (.bool false) ∧ Below W.heap.size W w')) (P4 : (∀ W v, Wd W → CalV H W v cs → Calls Tryz.prog 50 #[v, .int .i64 A] W fun e w' => e = .returned (.bool true) ∧ Below W.heap.size W w')) (P5 : (∀ W, Wd W → Calls Tryz.prog 20 #[.int .i64 D] W fun e w' => e = .returned (.tuple #[.agg #[.int .i64 y, .int .i64 m, .int .i64 d], .nilIface]) ∧ Below W.heap.size W w')) (P6 : (∀ W, Wd W → Calls Tryz.prog 22 #[.agg #[.int .i64 y, .int .i64 m, .int .i64 1]] W fun e w' => e = .returned (.tuple #[.int .i64 F, .nilIface]) ∧ Below W.heap.size W w')) (P7 : (∀ W, Wd W → Calls Tryz.prog 37 #[.int .i64 y, .int .i64 m] W fun e w' => e = .returned (.tuple #[.int .i64 E, .nilIface]) ∧ Below W.heap.size W w')) (P8 : (∀ W v, Wd W → CalV H W v cs → Calls Tryz.prog 54 #[v, .int .i64 F, .int .i64 (E + 1)] W fun e w' => e = .returned (.int .i64 cn) ∧ Below W.heap.size W w')) (P9 : (∀ W, Wd W → Calls Tryz.prog 40 #[.int .i64 A, .int .i64 D] W fun e w' => e = .returned (.int .i64 0) ∧ Below W.heap.size W w')) (w : World) (hw : Wd w) (hr : RulesO w rv l) :
    Calls Tryz.prog 14 #[rv, .int .i64 n, .int .i64 k] w fun e w' => e = .returned (.bool true) ∧ Below w.heap.size w w' := by
  have hDay := fun W => Day_any n n0 n1 W
  rw [hD] at hDay
  have t2 := Int.tmod_lt_of_pos k (show (0 : Int) < 5 by decide)
  have t3 : -5 < k.tmod 5 := by
    rcases Int.le_total 0 k with h | h
    · rw [Int.tmod_eq_emod_of_nonneg h]; omega
    · have e := Int.tmod_eq_emod_of_nonneg (b := 5) (show 0 ≤ -k by omega)
      rw [Int.neg_tmod] at e
      omega
  have HW := Lib.hid (fun W (h : Below w.heap.size w W) => hw.keep h)
  have C1 := Lib.hid (fun (W : World) (hW : Wd W) => HBg W hW)
  have C2 := Lib.hid (fun (W : World) (v : Value) (h : RulesO W v l) => rules_any _ l W h)
  have C3 := Lib.hid (fun (W : World) (hW : Wd W) (v : Value) (h : RulesAt W v (rules8 l 8)) => New_drawn0 H _ l W hW h)
  have C4 := Lib.hid (fun (W : World) (hW : Wd W) => hDay W)
  have C5 := Lib.hid (fun (W : World) (hW : Wd W) (v : Value) (h : CalV H W v cs) => P1 W v hW h)
  have C6 := Lib.hid (fun (W : World) (hW : Wd W) (v : Value) (h : CalV H W v cs) => P2 W v hW h)
  have C7 := Lib.hid (fun (W : World) (hW : Wd W) (v : Value) (h : CalV H W v cs) => P3 W v hW h)
  have C8 := Lib.hid (fun (W : World) (hW : Wd W) (v : Value) (h : CalV H W v cs) => P4 W v hW h)
  have C9 := Lib.hid (fun (W : World) (hW : Wd W) => P5 W hW)
  have C10 := Lib.hid (fun (W : World) (hW : Wd W) => P6 W hW)
  have C11 := Lib.hid (fun (W : World) (hW : Wd W) => P7 W hW)
  have C12 := Lib.hid (fun (W : World) (hW : Wd W) (v : Value) (h : CalV H W v cs) => P8 W v hW h)
  have C13 := Lib.hid (fun (W : World) (hW : Wd W) => P9 W hW)
  have HR0 := Lib.hid (Below.refl w.heap.size w)
  have Grs_0 := Lib.hid (hr)
  clear hDay hr hD P1 P2 P3 P4 P5 P6 P7 P8 P9
  clear hw
  go_enter Tryz.func14, Tryz.ntmps14
  go_wp2_with (first
    | (go_at_call 17; (with_reducible refine (C1.out _ (HW.out _ HR0.out)).mono ?_); rintro e W1 ⟨rfl, hb⟩
       have Grs_1 := Lib.hid (Grs_0.out.below hb)
       have HR1 := Lib.hid (below_tr6 HR0.out hb rfl)
       clear C1 hb)
    | (go_at_call 47; (with_reducible refine (C2.out _ _ Grs_1.out).mono ?_); rintro e W2 ⟨rv, rfl, h_rv, hb⟩
       have Grs_2 := Lib.hid (Grs_1.out.below hb)
       have Grv_2 := Lib.hid h_rv
       have HR2 := Lib.hid (below_tr6 HR1.out hb rfl)
       clear C2 hb h_rv)
    | (go_at_call 44; (with_reducible refine (C3.out _ (HW.out _ HR2.out) _ Grv_2.out).mono ?_); rintro e W3 ⟨ac, rfl, h_c, hb⟩
       rw [hcs] at h_c
       have Grs_3 := Lib.hid (Grs_2.out.below hb)
       have Grv_3 := Lib.hid (Grv_2.out.below hb)
       have Gc_3 := Lib.hid h_c
       have HR3 := Lib.hid (below_tr6 HR2.out hb rfl)
       clear C3 hb h_c)
    | (go_at_call 19; (with_reducible refine (C4.out _ (HW.out _ HR3.out)).mono ?_); rintro e w9 ⟨rfl, rfl⟩
       have HR4 := Lib.hid HR3.out
       clear C4)
    | (go_at_call 55; (with_reducible refine (C5.out _ (HW.out _ HR4.out) _ Gc_3.out).mono ?_); rintro e W5 ⟨rfl, hb⟩
       have Grs_5 := Lib.hid (Grs_3.out.below hb)
       have Grv_5 := Lib.hid (Grv_3.out.below hb)
       have Gc_5 := Lib.hid (Gc_3.out.below hb)
       have HR5 := Lib.hid (below_tr6 HR4.out hb rfl)
       clear C5 hb)
    | (go_at_call 55; (with_reducible refine (C6.out _ (HW.out _ HR5.out) _ Gc_5.out).mono ?_); rintro e W6 ⟨rfl, hb⟩
       have Grs_6 := Lib.hid (Grs_5.out.below hb)
       have Grv_6 := Lib.hid (Grv_5.out.below hb)
       have Gc_6 := Lib.hid (Gc_5.out.below hb)
       have HR6 := Lib.hid (below_tr6 HR5.out hb rfl)
       clear C6 hb)
    | (go_at_call 50; (with_reducible refine (C7.out _ (HW.out _ HR6.out) _ Gc_6.out).mono ?_); rintro e W7 ⟨rfl, hb⟩
       have Grs_7 := Lib.hid (Grs_6.out.below hb)
       have Grv_7 := Lib.hid (Grv_6.out.below hb)
       have Gc_7 := Lib.hid (Gc_6.out.below hb)
       have HR7 := Lib.hid (below_tr6 HR6.out hb rfl)
       clear C7 hb)
    | (go_at_call 50; (with_reducible refine (C8.out _ (HW.out _ HR7.out) _ Gc_7.out).mono ?_); rintro e W8 ⟨rfl, hb⟩
       have Grs_8 := Lib.hid (Grs_7.out.below hb)
       have Grv_8 := Lib.hid (Grv_7.out.below hb)
       have Gc_8 := Lib.hid (Gc_7.out.below hb)
       have HR8 := Lib.hid (below_tr6 HR7.out hb rfl)
       clear C8 hb)
    | (go_at_call 20; (with_reducible refine (C9.out _ (HW.out _ HR8.out)).mono ?_); rintro e W9 ⟨rfl, hb⟩
       have Grs_9 := Lib.hid (Grs_8.out.below hb)
       have Grv_9 := Lib.hid (Grv_8.out.below hb)
       have Gc_9 := Lib.hid (Gc_8.out.below hb)
       have M9_0 := Lib.hid (CAt.new W9 y m d)
       have HR9 := Lib.hid (Below.alloc (below_tr6 HR8.out hb rfl) (Below.size (below_tr6 HR8.out hb rfl)) (.cells #[.int .i64 y, .int .i64 m, .int .i64 d] 23))
       have Grs_9a := Lib.hid (Grs_9.out.below ((Below.refl _ _).alloc (Nat.le_refl _) (.cells #[.int .i64 y, .int .i64 m, .int .i64 d] 23)))
       clear Grs_9; have Grs_9 := Grs_9a; clear Grs_9a
       have Grv_9a := Lib.hid (Grv_9.out.below ((Below.refl _ _).alloc (Nat.le_refl _) (.cells #[.int .i64 y, .int .i64 m, .int .i64 d] 23)))
       clear Grv_9; have Grv_9 := Grv_9a; clear Grv_9a
       have Gc_9a := Lib.hid (Gc_9.out.below ((Below.refl _ _).alloc (Nat.le_refl _) (.cells #[.int .i64 y, .int .i64 m, .int .i64 d] 23)))
       clear Gc_9; have Gc_9 := Gc_9a; clear Gc_9a
       obtain ⟨q9_0_0, q9_0_1, q9_0_2, -⟩ := M9_0.out.cells
       clear C9 hb)
    | (go_at_call 22; (with_reducible refine (C10.out _ (HW.out _ HR9.out)).mono ?_); rintro e W10 ⟨rfl, hb⟩
       have M10_0 := Lib.hid (M9_0.out.below hb)
       have Grs_10 := Lib.hid (Grs_9.out.below hb)
       have Grv_10 := Lib.hid (Grv_9.out.below hb)
       have Gc_10 := Lib.hid (Gc_9.out.below hb)
       have HR10 := Lib.hid (below_tr6 HR9.out hb rfl)
       obtain ⟨q10_0_0, q10_0_1, q10_0_2, -⟩ := M10_0.out.cells
       clear q9_0_0 q9_0_1 q9_0_2 C10 hb)
    | (go_at_call 37; (with_reducible refine (C11.out _ (HW.out _ HR10.out)).mono ?_); rintro e W11 ⟨rfl, hb⟩
       have M11_0 := Lib.hid (M10_0.out.below hb)
       have Grs_11 := Lib.hid (Grs_10.out.below hb)
       have Grv_11 := Lib.hid (Grv_10.out.below hb)
       have Gc_11 := Lib.hid (Gc_10.out.below hb)
       have HR11 := Lib.hid (below_tr6 HR10.out hb rfl)
       obtain ⟨q11_0_0, q11_0_1, q11_0_2, -⟩ := M11_0.out.cells
       clear q10_0_0 q10_0_1 q10_0_2 C11 hb)
    | (go_at_call 54; (with_reducible refine (C12.out _ (HW.out _ HR11.out) _ Gc_11.out).mono ?_); rintro e W12 ⟨rfl, hb⟩
       have M12_0 := Lib.hid (M11_0.out.below hb)
       have Grs_12 := Lib.hid (Grs_11.out.below hb)
       have Grv_12 := Lib.hid (Grv_11.out.below hb)
       have Gc_12 := Lib.hid (Gc_11.out.below hb)
       have HR12 := Lib.hid (below_tr6 HR11.out hb rfl)
       obtain ⟨q12_0_0, q12_0_1, q12_0_2, -⟩ := M12_0.out.cells
       clear q11_0_0 q11_0_1 q11_0_2 C12 hb)
    | (go_at_call 40; (with_reducible refine (C13.out _ (HW.out _ HR12.out)).mono ?_); rintro e W13 ⟨rfl, hb⟩
       have M13_0 := Lib.hid (M12_0.out.below hb)
       have Grs_13 := Lib.hid (Grs_12.out.below hb)
       have Grv_13 := Lib.hid (Grv_12.out.below hb)
       have Gc_13 := Lib.hid (Gc_12.out.below hb)
       have HR13 := Lib.hid (below_tr6 HR12.out hb rfl)
       obtain ⟨q13_0_0, q13_0_1, q13_0_2, -⟩ := M13_0.out.cells
       clear q12_0_0 q12_0_1 q12_0_2 C13 hb)
    | (fail "no arm"))
  go_ret
  exact ⟨rfl, HR13.out⟩
set_option maxRecDepth 100000 in
set_option maxHeartbeats 4000000 in
theorem RollLaws_4T {IsC : World → Value → List CalT → Prop} (HBg : BegunC) (H : CalC IsC) (rv : Value) (l : List Rule) (cs : List CalT) (hcs : ([⟨rules8 l 8, []⟩] : List CalT) = cs) (n D k : Int) (n0 : -9223372036854775808 ≤ n) (n1 : n ≤ 9223372036854775807) (hD : n % 109573 = D) (HT : k.tmod 5 % 5 = 4) (y m d F E cn : Int) (g0 : 0 ≤ E) (g1 : E ≤ 109572) (hcn : (cn == 0) = false)
    (P1 : (∀ W v, Wd W → CalV H W v cs → Calls Tryz.prog 55 #[v, .int .i64 D, .int .i64 4] W fun e w' => e = .returned (.tuple #[.int .i64 D, .nilIface]) ∧ Below W.heap.size W w')) (P2 : (∀ W v, Wd W → CalV H W v cs → Calls Tryz.prog 50 #[v, .int .i64 D] W fun e w' => e = .returned (.bool true) ∧ Below W.heap.size W w')) (P3 : (∀ W, Wd W → Calls Tryz.prog 20 #[.int .i64 D] W fun e w' => e = .returned (.tuple #[.agg #[.int .i64 y, .int .i64 m, .int .i64 d], .nilIface]) ∧ Below W.heap.size W w')) (P4 : (∀ W, Wd W → Calls Tryz.prog 22 #[.agg #[.int .i64 y, .int .i64 m, .int .i64 1]] W fun e w' => e = .returned (.tuple #[.int .i64 F, .nilIface]) ∧ Below W.heap.size W w')) (P5 : (∀ W, Wd W → Calls Tryz.prog 37 #[.int .i64 y, .int .i64 m] W fun e w' => e = .returned (.tuple #[.int .i64 E, .nilIface]) ∧ Below W.heap.size W w')) (P6 : (∀ W v, Wd W → CalV H W v cs → Calls Tryz.prog 54 #[v, .int .i64 F, .int .i64 (E + 1)] W fun e w' => e = .returned (.int .i64 cn) ∧ Below W.heap.size W w')) (P7 : (∀ W, Wd W → Calls Tryz.prog 40 #[.int .i64 D, .int .i64 D] W fun e w' => e = .returned (.int .i64 0) ∧ Below W.heap.size W w')) (w : World) (hw : Wd w) (hr : RulesO w rv l) :
    Calls Tryz.prog 14 #[rv, .int .i64 n, .int .i64 k] w fun e w' => e = .returned (.bool true) ∧ Below w.heap.size w w' := by
  have hDay := fun W => Day_any n n0 n1 W
  rw [hD] at hDay
  have t2 := Int.tmod_lt_of_pos k (show (0 : Int) < 5 by decide)
  have t3 : -5 < k.tmod 5 := by
    rcases Int.le_total 0 k with h | h
    · rw [Int.tmod_eq_emod_of_nonneg h]; omega
    · have e := Int.tmod_eq_emod_of_nonneg (b := 5) (show 0 ≤ -k by omega)
      rw [Int.neg_tmod] at e
      omega
  have HW := Lib.hid (fun W (h : Below w.heap.size w W) => hw.keep h)
  have C1 := Lib.hid (fun (W : World) (hW : Wd W) => HBg W hW)
  have C2 := Lib.hid (fun (W : World) (v : Value) (h : RulesO W v l) => rules_any _ l W h)
  have C3 := Lib.hid (fun (W : World) (hW : Wd W) (v : Value) (h : RulesAt W v (rules8 l 8)) => New_drawn0 H _ l W hW h)
  have C4 := Lib.hid (fun (W : World) (hW : Wd W) => hDay W)
  have C5 := Lib.hid (fun (W : World) (hW : Wd W) (v : Value) (h : CalV H W v cs) => P1 W v hW h)
  have C6 := Lib.hid (fun (W : World) (hW : Wd W) (v : Value) (h : CalV H W v cs) => P1 W v hW h)
  have C7 := Lib.hid (fun (W : World) (hW : Wd W) (v : Value) (h : CalV H W v cs) => P2 W v hW h)
  have C8 := Lib.hid (fun (W : World) (hW : Wd W) (v : Value) (h : CalV H W v cs) => P2 W v hW h)
  have C9 := Lib.hid (fun (W : World) (hW : Wd W) => P3 W hW)
  have C10 := Lib.hid (fun (W : World) (hW : Wd W) => P4 W hW)
  have C11 := Lib.hid (fun (W : World) (hW : Wd W) => P5 W hW)
  have C12 := Lib.hid (fun (W : World) (hW : Wd W) (v : Value) (h : CalV H W v cs) => P6 W v hW h)
  have C13 := Lib.hid (fun (W : World) (hW : Wd W) => P7 W hW)
  have HR0 := Lib.hid (Below.refl w.heap.size w)
  have Grs_0 := Lib.hid (hr)
  clear hDay hr hD P1 P2 P3 P4 P5 P6 P7
  clear hw
  go_enter Tryz.func14, Tryz.ntmps14
  go_wp2_with (first
    | (go_at_call 17; (with_reducible refine (C1.out _ (HW.out _ HR0.out)).mono ?_); rintro e W1 ⟨rfl, hb⟩
       have Grs_1 := Lib.hid (Grs_0.out.below hb)
       have HR1 := Lib.hid (below_tr6 HR0.out hb rfl)
       clear C1 hb)
    | (go_at_call 47; (with_reducible refine (C2.out _ _ Grs_1.out).mono ?_); rintro e W2 ⟨rv, rfl, h_rv, hb⟩
       have Grs_2 := Lib.hid (Grs_1.out.below hb)
       have Grv_2 := Lib.hid h_rv
       have HR2 := Lib.hid (below_tr6 HR1.out hb rfl)
       clear C2 hb h_rv)
    | (go_at_call 44; (with_reducible refine (C3.out _ (HW.out _ HR2.out) _ Grv_2.out).mono ?_); rintro e W3 ⟨ac, rfl, h_c, hb⟩
       rw [hcs] at h_c
       have Grs_3 := Lib.hid (Grs_2.out.below hb)
       have Grv_3 := Lib.hid (Grv_2.out.below hb)
       have Gc_3 := Lib.hid h_c
       have HR3 := Lib.hid (below_tr6 HR2.out hb rfl)
       clear C3 hb h_c)
    | (go_at_call 19; (with_reducible refine (C4.out _ (HW.out _ HR3.out)).mono ?_); rintro e w9 ⟨rfl, rfl⟩
       have HR4 := Lib.hid HR3.out
       clear C4)
    | (go_at_call 55; (with_reducible refine (C5.out _ (HW.out _ HR4.out) _ Gc_3.out).mono ?_); rintro e W5 ⟨rfl, hb⟩
       have Grs_5 := Lib.hid (Grs_3.out.below hb)
       have Grv_5 := Lib.hid (Grv_3.out.below hb)
       have Gc_5 := Lib.hid (Gc_3.out.below hb)
       have HR5 := Lib.hid (below_tr6 HR4.out hb rfl)
       clear C5 hb)
    | (go_at_call 55; (with_reducible refine (C6.out _ (HW.out _ HR5.out) _ Gc_5.out).mono ?_); rintro e W6 ⟨rfl, hb⟩
       have Grs_6 := Lib.hid (Grs_5.out.below hb)
       have Grv_6 := Lib.hid (Grv_5.out.below hb)
       have Gc_6 := Lib.hid (Gc_5.out.below hb)
       have HR6 := Lib.hid (below_tr6 HR5.out hb rfl)
       clear C6 hb)
    | (go_at_call 50; (with_reducible refine (C7.out _ (HW.out _ HR6.out) _ Gc_6.out).mono ?_); rintro e W7 ⟨rfl, hb⟩
       have Grs_7 := Lib.hid (Grs_6.out.below hb)
       have Grv_7 := Lib.hid (Grv_6.out.below hb)
       have Gc_7 := Lib.hid (Gc_6.out.below hb)
       have HR7 := Lib.hid (below_tr6 HR6.out hb rfl)
       clear C7 hb)
    | (go_at_call 50; (with_reducible refine (C8.out _ (HW.out _ HR7.out) _ Gc_7.out).mono ?_); rintro e W8 ⟨rfl, hb⟩
       have Grs_8 := Lib.hid (Grs_7.out.below hb)
       have Grv_8 := Lib.hid (Grv_7.out.below hb)
       have Gc_8 := Lib.hid (Gc_7.out.below hb)
       have HR8 := Lib.hid (below_tr6 HR7.out hb rfl)
       clear C8 hb)
    | (go_at_call 20; (with_reducible refine (C9.out _ (HW.out _ HR8.out)).mono ?_); rintro e W9 ⟨rfl, hb⟩
       have Grs_9 := Lib.hid (Grs_8.out.below hb)
       have Grv_9 := Lib.hid (Grv_8.out.below hb)
       have Gc_9 := Lib.hid (Gc_8.out.below hb)
       have M9_0 := Lib.hid (CAt.new W9 y m d)
       have HR9 := Lib.hid (Below.alloc (below_tr6 HR8.out hb rfl) (Below.size (below_tr6 HR8.out hb rfl)) (.cells #[.int .i64 y, .int .i64 m, .int .i64 d] 23))
       have Grs_9a := Lib.hid (Grs_9.out.below ((Below.refl _ _).alloc (Nat.le_refl _) (.cells #[.int .i64 y, .int .i64 m, .int .i64 d] 23)))
       clear Grs_9; have Grs_9 := Grs_9a; clear Grs_9a
       have Grv_9a := Lib.hid (Grv_9.out.below ((Below.refl _ _).alloc (Nat.le_refl _) (.cells #[.int .i64 y, .int .i64 m, .int .i64 d] 23)))
       clear Grv_9; have Grv_9 := Grv_9a; clear Grv_9a
       have Gc_9a := Lib.hid (Gc_9.out.below ((Below.refl _ _).alloc (Nat.le_refl _) (.cells #[.int .i64 y, .int .i64 m, .int .i64 d] 23)))
       clear Gc_9; have Gc_9 := Gc_9a; clear Gc_9a
       obtain ⟨q9_0_0, q9_0_1, q9_0_2, -⟩ := M9_0.out.cells
       clear C9 hb)
    | (go_at_call 22; (with_reducible refine (C10.out _ (HW.out _ HR9.out)).mono ?_); rintro e W10 ⟨rfl, hb⟩
       have M10_0 := Lib.hid (M9_0.out.below hb)
       have Grs_10 := Lib.hid (Grs_9.out.below hb)
       have Grv_10 := Lib.hid (Grv_9.out.below hb)
       have Gc_10 := Lib.hid (Gc_9.out.below hb)
       have HR10 := Lib.hid (below_tr6 HR9.out hb rfl)
       obtain ⟨q10_0_0, q10_0_1, q10_0_2, -⟩ := M10_0.out.cells
       clear q9_0_0 q9_0_1 q9_0_2 C10 hb)
    | (go_at_call 37; (with_reducible refine (C11.out _ (HW.out _ HR10.out)).mono ?_); rintro e W11 ⟨rfl, hb⟩
       have M11_0 := Lib.hid (M10_0.out.below hb)
       have Grs_11 := Lib.hid (Grs_10.out.below hb)
       have Grv_11 := Lib.hid (Grv_10.out.below hb)
       have Gc_11 := Lib.hid (Gc_10.out.below hb)
       have HR11 := Lib.hid (below_tr6 HR10.out hb rfl)
       obtain ⟨q11_0_0, q11_0_1, q11_0_2, -⟩ := M11_0.out.cells
       clear q10_0_0 q10_0_1 q10_0_2 C11 hb)
    | (go_at_call 54; (with_reducible refine (C12.out _ (HW.out _ HR11.out) _ Gc_11.out).mono ?_); rintro e W12 ⟨rfl, hb⟩
       have M12_0 := Lib.hid (M11_0.out.below hb)
       have Grs_12 := Lib.hid (Grs_11.out.below hb)
       have Grv_12 := Lib.hid (Grv_11.out.below hb)
       have Gc_12 := Lib.hid (Gc_11.out.below hb)
       have HR12 := Lib.hid (below_tr6 HR11.out hb rfl)
       obtain ⟨q12_0_0, q12_0_1, q12_0_2, -⟩ := M12_0.out.cells
       clear q11_0_0 q11_0_1 q11_0_2 C12 hb)
    | (go_at_call 40; (with_reducible refine (C13.out _ (HW.out _ HR12.out)).mono ?_); rintro e W13 ⟨rfl, hb⟩
       have M13_0 := Lib.hid (M12_0.out.below hb)
       have Grs_13 := Lib.hid (Grs_12.out.below hb)
       have Grv_13 := Lib.hid (Grv_12.out.below hb)
       have Gc_13 := Lib.hid (Gc_12.out.below hb)
       have HR13 := Lib.hid (below_tr6 HR12.out hb rfl)
       obtain ⟨q13_0_0, q13_0_1, q13_0_2, -⟩ := M13_0.out.cells
       clear q12_0_0 q12_0_1 q12_0_2 C13 hb)
    | (fail "no arm"))
  go_ret
  exact ⟨rfl, HR13.out⟩
set_option maxRecDepth 100000 in
set_option maxHeartbeats 4000000 in
theorem RollLaws_4F0 {IsC : World → Value → List CalT → Prop} (HBg : BegunC) (H : CalC IsC) (rv : Value) (l : List Rule) (cs : List CalT) (hcs : ([⟨rules8 l 8, []⟩] : List CalT) = cs) (n D k A : Int) (n0 : -9223372036854775808 ≤ n) (n1 : n ≤ 9223372036854775807) (hD : n % 109573 = D) (HT : k.tmod 5 % 5 = 4) (y m d F E cn : Int) (g0 : 0 ≤ E) (g1 : E ≤ 109572) (hcn : cn = 0)
    (P1 : (∀ W v, Wd W → CalV H W v cs → Calls Tryz.prog 55 #[v, .int .i64 D, .int .i64 4] W fun e w' => e = .returned (.tuple #[.int .i64 A, .nilIface]) ∧ Below W.heap.size W w')) (P2 : (∀ W v, Wd W → CalV H W v cs → Calls Tryz.prog 55 #[v, .int .i64 A, .int .i64 4] W fun e w' => e = .returned (.tuple #[.int .i64 A, .nilIface]) ∧ Below W.heap.size W w')) (P3 : (∀ W v, Wd W → CalV H W v cs → Calls Tryz.prog 50 #[v, .int .i64 D] W fun e w' => e = .returned (.bool false) ∧ Below W.heap.size W w')) (P4 : (∀ W v, Wd W → CalV H W v cs → Calls Tryz.prog 50 #[v, .int .i64 A] W fun e w' => e = .returned (.bool true) ∧ Below W.heap.size W w')) (P5 : (∀ W, Wd W → Calls Tryz.prog 20 #[.int .i64 D] W fun e w' => e = .returned (.tuple #[.agg #[.int .i64 y, .int .i64 m, .int .i64 d], .nilIface]) ∧ Below W.heap.size W w')) (P6 : (∀ W, Wd W → Calls Tryz.prog 22 #[.agg #[.int .i64 y, .int .i64 m, .int .i64 1]] W fun e w' => e = .returned (.tuple #[.int .i64 F, .nilIface]) ∧ Below W.heap.size W w')) (P7 : (∀ W, Wd W → Calls Tryz.prog 37 #[.int .i64 y, .int .i64 m] W fun e w' => e = .returned (.tuple #[.int .i64 E, .nilIface]) ∧ Below W.heap.size W w')) (P8 : (∀ W v, Wd W → CalV H W v cs → Calls Tryz.prog 54 #[v, .int .i64 F, .int .i64 (E + 1)] W fun e w' => e = .returned (.int .i64 cn) ∧ Below W.heap.size W w')) (w : World) (hw : Wd w) (hr : RulesO w rv l) :
    Calls Tryz.prog 14 #[rv, .int .i64 n, .int .i64 k] w fun e w' => e = .returned (.bool true) ∧ Below w.heap.size w w' := by
  have hDay := fun W => Day_any n n0 n1 W
  rw [hD] at hDay
  have t2 := Int.tmod_lt_of_pos k (show (0 : Int) < 5 by decide)
  have t3 : -5 < k.tmod 5 := by
    rcases Int.le_total 0 k with h | h
    · rw [Int.tmod_eq_emod_of_nonneg h]; omega
    · have e := Int.tmod_eq_emod_of_nonneg (b := 5) (show 0 ≤ -k by omega)
      rw [Int.neg_tmod] at e
      omega
  have HW := Lib.hid (fun W (h : Below w.heap.size w W) => hw.keep h)
  have C1 := Lib.hid (fun (W : World) (hW : Wd W) => HBg W hW)
  have C2 := Lib.hid (fun (W : World) (v : Value) (h : RulesO W v l) => rules_any _ l W h)
  have C3 := Lib.hid (fun (W : World) (hW : Wd W) (v : Value) (h : RulesAt W v (rules8 l 8)) => New_drawn0 H _ l W hW h)
  have C4 := Lib.hid (fun (W : World) (hW : Wd W) => hDay W)
  have C5 := Lib.hid (fun (W : World) (hW : Wd W) (v : Value) (h : CalV H W v cs) => P1 W v hW h)
  have C6 := Lib.hid (fun (W : World) (hW : Wd W) (v : Value) (h : CalV H W v cs) => P2 W v hW h)
  have C7 := Lib.hid (fun (W : World) (hW : Wd W) (v : Value) (h : CalV H W v cs) => P3 W v hW h)
  have C8 := Lib.hid (fun (W : World) (hW : Wd W) (v : Value) (h : CalV H W v cs) => P4 W v hW h)
  have C9 := Lib.hid (fun (W : World) (hW : Wd W) => P5 W hW)
  have C10 := Lib.hid (fun (W : World) (hW : Wd W) => P6 W hW)
  have C11 := Lib.hid (fun (W : World) (hW : Wd W) => P7 W hW)
  have C12 := Lib.hid (fun (W : World) (hW : Wd W) (v : Value) (h : CalV H W v cs) => P8 W v hW h)
  have HR0 := Lib.hid (Below.refl w.heap.size w)
  have Grs_0 := Lib.hid (hr)
  clear hDay hr hD P1 P2 P3 P4 P5 P6 P7 P8
  subst hcn
  clear hw
  go_enter Tryz.func14, Tryz.ntmps14
  go_wp2_with (first
    | (go_at_call 17; (with_reducible refine (C1.out _ (HW.out _ HR0.out)).mono ?_); rintro e W1 ⟨rfl, hb⟩
       have Grs_1 := Lib.hid (Grs_0.out.below hb)
       have HR1 := Lib.hid (below_tr6 HR0.out hb rfl)
       clear C1 hb)
    | (go_at_call 47; (with_reducible refine (C2.out _ _ Grs_1.out).mono ?_); rintro e W2 ⟨rv, rfl, h_rv, hb⟩
       have Grs_2 := Lib.hid (Grs_1.out.below hb)
       have Grv_2 := Lib.hid h_rv
       have HR2 := Lib.hid (below_tr6 HR1.out hb rfl)
       clear C2 hb h_rv)
    | (go_at_call 44; (with_reducible refine (C3.out _ (HW.out _ HR2.out) _ Grv_2.out).mono ?_); rintro e W3 ⟨ac, rfl, h_c, hb⟩
       rw [hcs] at h_c
       have Grs_3 := Lib.hid (Grs_2.out.below hb)
       have Grv_3 := Lib.hid (Grv_2.out.below hb)
       have Gc_3 := Lib.hid h_c
       have HR3 := Lib.hid (below_tr6 HR2.out hb rfl)
       clear C3 hb h_c)
    | (go_at_call 19; (with_reducible refine (C4.out _ (HW.out _ HR3.out)).mono ?_); rintro e w9 ⟨rfl, rfl⟩
       have HR4 := Lib.hid HR3.out
       clear C4)
    | (go_at_call 55; (with_reducible refine (C5.out _ (HW.out _ HR4.out) _ Gc_3.out).mono ?_); rintro e W5 ⟨rfl, hb⟩
       have Grs_5 := Lib.hid (Grs_3.out.below hb)
       have Grv_5 := Lib.hid (Grv_3.out.below hb)
       have Gc_5 := Lib.hid (Gc_3.out.below hb)
       have HR5 := Lib.hid (below_tr6 HR4.out hb rfl)
       clear C5 hb)
    | (go_at_call 55; (with_reducible refine (C6.out _ (HW.out _ HR5.out) _ Gc_5.out).mono ?_); rintro e W6 ⟨rfl, hb⟩
       have Grs_6 := Lib.hid (Grs_5.out.below hb)
       have Grv_6 := Lib.hid (Grv_5.out.below hb)
       have Gc_6 := Lib.hid (Gc_5.out.below hb)
       have HR6 := Lib.hid (below_tr6 HR5.out hb rfl)
       clear C6 hb)
    | (go_at_call 50; (with_reducible refine (C7.out _ (HW.out _ HR6.out) _ Gc_6.out).mono ?_); rintro e W7 ⟨rfl, hb⟩
       have Grs_7 := Lib.hid (Grs_6.out.below hb)
       have Grv_7 := Lib.hid (Grv_6.out.below hb)
       have Gc_7 := Lib.hid (Gc_6.out.below hb)
       have HR7 := Lib.hid (below_tr6 HR6.out hb rfl)
       clear C7 hb)
    | (go_at_call 50; (with_reducible refine (C8.out _ (HW.out _ HR7.out) _ Gc_7.out).mono ?_); rintro e W8 ⟨rfl, hb⟩
       have Grs_8 := Lib.hid (Grs_7.out.below hb)
       have Grv_8 := Lib.hid (Grv_7.out.below hb)
       have Gc_8 := Lib.hid (Gc_7.out.below hb)
       have HR8 := Lib.hid (below_tr6 HR7.out hb rfl)
       clear C8 hb)
    | (go_at_call 20; (with_reducible refine (C9.out _ (HW.out _ HR8.out)).mono ?_); rintro e W9 ⟨rfl, hb⟩
       have Grs_9 := Lib.hid (Grs_8.out.below hb)
       have Grv_9 := Lib.hid (Grv_8.out.below hb)
       have Gc_9 := Lib.hid (Gc_8.out.below hb)
       have M9_0 := Lib.hid (CAt.new W9 y m d)
       have HR9 := Lib.hid (Below.alloc (below_tr6 HR8.out hb rfl) (Below.size (below_tr6 HR8.out hb rfl)) (.cells #[.int .i64 y, .int .i64 m, .int .i64 d] 23))
       have Grs_9a := Lib.hid (Grs_9.out.below ((Below.refl _ _).alloc (Nat.le_refl _) (.cells #[.int .i64 y, .int .i64 m, .int .i64 d] 23)))
       clear Grs_9; have Grs_9 := Grs_9a; clear Grs_9a
       have Grv_9a := Lib.hid (Grv_9.out.below ((Below.refl _ _).alloc (Nat.le_refl _) (.cells #[.int .i64 y, .int .i64 m, .int .i64 d] 23)))
       clear Grv_9; have Grv_9 := Grv_9a; clear Grv_9a
       have Gc_9a := Lib.hid (Gc_9.out.below ((Below.refl _ _).alloc (Nat.le_refl _) (.cells #[.int .i64 y, .int .i64 m, .int .i64 d] 23)))
       clear Gc_9; have Gc_9 := Gc_9a; clear Gc_9a
       obtain ⟨q9_0_0, q9_0_1, q9_0_2, -⟩ := M9_0.out.cells
       clear C9 hb)
    | (go_at_call 22; (with_reducible refine (C10.out _ (HW.out _ HR9.out)).mono ?_); rintro e W10 ⟨rfl, hb⟩
       have M10_0 := Lib.hid (M9_0.out.below hb)
       have Grs_10 := Lib.hid (Grs_9.out.below hb)
       have Grv_10 := Lib.hid (Grv_9.out.below hb)
       have Gc_10 := Lib.hid (Gc_9.out.below hb)
       have HR10 := Lib.hid (below_tr6 HR9.out hb rfl)
       obtain ⟨q10_0_0, q10_0_1, q10_0_2, -⟩ := M10_0.out.cells
       clear q9_0_0 q9_0_1 q9_0_2 C10 hb)
    | (go_at_call 37; (with_reducible refine (C11.out _ (HW.out _ HR10.out)).mono ?_); rintro e W11 ⟨rfl, hb⟩
       have M11_0 := Lib.hid (M10_0.out.below hb)
       have Grs_11 := Lib.hid (Grs_10.out.below hb)
       have Grv_11 := Lib.hid (Grv_10.out.below hb)
       have Gc_11 := Lib.hid (Gc_10.out.below hb)
       have HR11 := Lib.hid (below_tr6 HR10.out hb rfl)
       obtain ⟨q11_0_0, q11_0_1, q11_0_2, -⟩ := M11_0.out.cells
       clear q10_0_0 q10_0_1 q10_0_2 C11 hb)
    | (go_at_call 54; (with_reducible refine (C12.out _ (HW.out _ HR11.out) _ Gc_11.out).mono ?_); rintro e W12 ⟨rfl, hb⟩
       have M12_0 := Lib.hid (M11_0.out.below hb)
       have Grs_12 := Lib.hid (Grs_11.out.below hb)
       have Grv_12 := Lib.hid (Grv_11.out.below hb)
       have Gc_12 := Lib.hid (Gc_11.out.below hb)
       have HR12 := Lib.hid (below_tr6 HR11.out hb rfl)
       obtain ⟨q12_0_0, q12_0_1, q12_0_2, -⟩ := M12_0.out.cells
       clear q11_0_0 q11_0_1 q11_0_2 C12 hb)
    | (fail "no arm"))
  go_ret
  exact ⟨rfl, HR12.out⟩
set_option maxRecDepth 100000 in
set_option maxHeartbeats 4000000 in
theorem RollLaws_4F1 {IsC : World → Value → List CalT → Prop} (HBg : BegunC) (H : CalC IsC) (rv : Value) (l : List Rule) (cs : List CalT) (hcs : ([⟨rules8 l 8, []⟩] : List CalT) = cs) (n D k A : Int) (n0 : -9223372036854775808 ≤ n) (n1 : n ≤ 9223372036854775807) (hD : n % 109573 = D) (HT : k.tmod 5 % 5 = 4) (y m d F E cn : Int) (g0 : 0 ≤ E) (g1 : E ≤ 109572) (hcn : (cn == 0) = false)
    (P1 : (∀ W v, Wd W → CalV H W v cs → Calls Tryz.prog 55 #[v, .int .i64 D, .int .i64 4] W fun e w' => e = .returned (.tuple #[.int .i64 A, .nilIface]) ∧ Below W.heap.size W w')) (P2 : (∀ W v, Wd W → CalV H W v cs → Calls Tryz.prog 55 #[v, .int .i64 A, .int .i64 4] W fun e w' => e = .returned (.tuple #[.int .i64 A, .nilIface]) ∧ Below W.heap.size W w')) (P3 : (∀ W v, Wd W → CalV H W v cs → Calls Tryz.prog 50 #[v, .int .i64 D] W fun e w' => e = .returned (.bool false) ∧ Below W.heap.size W w')) (P4 : (∀ W v, Wd W → CalV H W v cs → Calls Tryz.prog 50 #[v, .int .i64 A] W fun e w' => e = .returned (.bool true) ∧ Below W.heap.size W w')) (P5 : (∀ W, Wd W → Calls Tryz.prog 20 #[.int .i64 D] W fun e w' => e = .returned (.tuple #[.agg #[.int .i64 y, .int .i64 m, .int .i64 d], .nilIface]) ∧ Below W.heap.size W w')) (P6 : (∀ W, Wd W → Calls Tryz.prog 22 #[.agg #[.int .i64 y, .int .i64 m, .int .i64 1]] W fun e w' => e = .returned (.tuple #[.int .i64 F, .nilIface]) ∧ Below W.heap.size W w')) (P7 : (∀ W, Wd W → Calls Tryz.prog 37 #[.int .i64 y, .int .i64 m] W fun e w' => e = .returned (.tuple #[.int .i64 E, .nilIface]) ∧ Below W.heap.size W w')) (P8 : (∀ W v, Wd W → CalV H W v cs → Calls Tryz.prog 54 #[v, .int .i64 F, .int .i64 (E + 1)] W fun e w' => e = .returned (.int .i64 cn) ∧ Below W.heap.size W w')) (P9 : (∀ W, Wd W → Calls Tryz.prog 40 #[.int .i64 A, .int .i64 D] W fun e w' => e = .returned (.int .i64 0) ∧ Below W.heap.size W w')) (w : World) (hw : Wd w) (hr : RulesO w rv l) :
    Calls Tryz.prog 14 #[rv, .int .i64 n, .int .i64 k] w fun e w' => e = .returned (.bool true) ∧ Below w.heap.size w w' := by
  have hDay := fun W => Day_any n n0 n1 W
  rw [hD] at hDay
  have t2 := Int.tmod_lt_of_pos k (show (0 : Int) < 5 by decide)
  have t3 : -5 < k.tmod 5 := by
    rcases Int.le_total 0 k with h | h
    · rw [Int.tmod_eq_emod_of_nonneg h]; omega
    · have e := Int.tmod_eq_emod_of_nonneg (b := 5) (show 0 ≤ -k by omega)
      rw [Int.neg_tmod] at e
      omega
  have HW := Lib.hid (fun W (h : Below w.heap.size w W) => hw.keep h)
  have C1 := Lib.hid (fun (W : World) (hW : Wd W) => HBg W hW)
  have C2 := Lib.hid (fun (W : World) (v : Value) (h : RulesO W v l) => rules_any _ l W h)
  have C3 := Lib.hid (fun (W : World) (hW : Wd W) (v : Value) (h : RulesAt W v (rules8 l 8)) => New_drawn0 H _ l W hW h)
  have C4 := Lib.hid (fun (W : World) (hW : Wd W) => hDay W)
  have C5 := Lib.hid (fun (W : World) (hW : Wd W) (v : Value) (h : CalV H W v cs) => P1 W v hW h)
  have C6 := Lib.hid (fun (W : World) (hW : Wd W) (v : Value) (h : CalV H W v cs) => P2 W v hW h)
  have C7 := Lib.hid (fun (W : World) (hW : Wd W) (v : Value) (h : CalV H W v cs) => P3 W v hW h)
  have C8 := Lib.hid (fun (W : World) (hW : Wd W) (v : Value) (h : CalV H W v cs) => P4 W v hW h)
  have C9 := Lib.hid (fun (W : World) (hW : Wd W) => P5 W hW)
  have C10 := Lib.hid (fun (W : World) (hW : Wd W) => P6 W hW)
  have C11 := Lib.hid (fun (W : World) (hW : Wd W) => P7 W hW)
  have C12 := Lib.hid (fun (W : World) (hW : Wd W) (v : Value) (h : CalV H W v cs) => P8 W v hW h)
  have C13 := Lib.hid (fun (W : World) (hW : Wd W) => P9 W hW)
  have HR0 := Lib.hid (Below.refl w.heap.size w)
  have Grs_0 := Lib.hid (hr)
  clear hDay hr hD P1 P2 P3 P4 P5 P6 P7 P8 P9
  clear hw
  go_enter Tryz.func14, Tryz.ntmps14
  go_wp2_with (first
    | (go_at_call 17; (with_reducible refine (C1.out _ (HW.out _ HR0.out)).mono ?_); rintro e W1 ⟨rfl, hb⟩
       have Grs_1 := Lib.hid (Grs_0.out.below hb)
       have HR1 := Lib.hid (below_tr6 HR0.out hb rfl)
       clear C1 hb)
    | (go_at_call 47; (with_reducible refine (C2.out _ _ Grs_1.out).mono ?_); rintro e W2 ⟨rv, rfl, h_rv, hb⟩
       have Grs_2 := Lib.hid (Grs_1.out.below hb)
       have Grv_2 := Lib.hid h_rv
       have HR2 := Lib.hid (below_tr6 HR1.out hb rfl)
       clear C2 hb h_rv)
    | (go_at_call 44; (with_reducible refine (C3.out _ (HW.out _ HR2.out) _ Grv_2.out).mono ?_); rintro e W3 ⟨ac, rfl, h_c, hb⟩
       rw [hcs] at h_c
       have Grs_3 := Lib.hid (Grs_2.out.below hb)
       have Grv_3 := Lib.hid (Grv_2.out.below hb)
       have Gc_3 := Lib.hid h_c
       have HR3 := Lib.hid (below_tr6 HR2.out hb rfl)
       clear C3 hb h_c)
    | (go_at_call 19; (with_reducible refine (C4.out _ (HW.out _ HR3.out)).mono ?_); rintro e w9 ⟨rfl, rfl⟩
       have HR4 := Lib.hid HR3.out
       clear C4)
    | (go_at_call 55; (with_reducible refine (C5.out _ (HW.out _ HR4.out) _ Gc_3.out).mono ?_); rintro e W5 ⟨rfl, hb⟩
       have Grs_5 := Lib.hid (Grs_3.out.below hb)
       have Grv_5 := Lib.hid (Grv_3.out.below hb)
       have Gc_5 := Lib.hid (Gc_3.out.below hb)
       have HR5 := Lib.hid (below_tr6 HR4.out hb rfl)
       clear C5 hb)
    | (go_at_call 55; (with_reducible refine (C6.out _ (HW.out _ HR5.out) _ Gc_5.out).mono ?_); rintro e W6 ⟨rfl, hb⟩
       have Grs_6 := Lib.hid (Grs_5.out.below hb)
       have Grv_6 := Lib.hid (Grv_5.out.below hb)
       have Gc_6 := Lib.hid (Gc_5.out.below hb)
       have HR6 := Lib.hid (below_tr6 HR5.out hb rfl)
       clear C6 hb)
    | (go_at_call 50; (with_reducible refine (C7.out _ (HW.out _ HR6.out) _ Gc_6.out).mono ?_); rintro e W7 ⟨rfl, hb⟩
       have Grs_7 := Lib.hid (Grs_6.out.below hb)
       have Grv_7 := Lib.hid (Grv_6.out.below hb)
       have Gc_7 := Lib.hid (Gc_6.out.below hb)
       have HR7 := Lib.hid (below_tr6 HR6.out hb rfl)
       clear C7 hb)
    | (go_at_call 50; (with_reducible refine (C8.out _ (HW.out _ HR7.out) _ Gc_7.out).mono ?_); rintro e W8 ⟨rfl, hb⟩
       have Grs_8 := Lib.hid (Grs_7.out.below hb)
       have Grv_8 := Lib.hid (Grv_7.out.below hb)
       have Gc_8 := Lib.hid (Gc_7.out.below hb)
       have HR8 := Lib.hid (below_tr6 HR7.out hb rfl)
       clear C8 hb)
    | (go_at_call 20; (with_reducible refine (C9.out _ (HW.out _ HR8.out)).mono ?_); rintro e W9 ⟨rfl, hb⟩
       have Grs_9 := Lib.hid (Grs_8.out.below hb)
       have Grv_9 := Lib.hid (Grv_8.out.below hb)
       have Gc_9 := Lib.hid (Gc_8.out.below hb)
       have M9_0 := Lib.hid (CAt.new W9 y m d)
       have HR9 := Lib.hid (Below.alloc (below_tr6 HR8.out hb rfl) (Below.size (below_tr6 HR8.out hb rfl)) (.cells #[.int .i64 y, .int .i64 m, .int .i64 d] 23))
       have Grs_9a := Lib.hid (Grs_9.out.below ((Below.refl _ _).alloc (Nat.le_refl _) (.cells #[.int .i64 y, .int .i64 m, .int .i64 d] 23)))
       clear Grs_9; have Grs_9 := Grs_9a; clear Grs_9a
       have Grv_9a := Lib.hid (Grv_9.out.below ((Below.refl _ _).alloc (Nat.le_refl _) (.cells #[.int .i64 y, .int .i64 m, .int .i64 d] 23)))
       clear Grv_9; have Grv_9 := Grv_9a; clear Grv_9a
       have Gc_9a := Lib.hid (Gc_9.out.below ((Below.refl _ _).alloc (Nat.le_refl _) (.cells #[.int .i64 y, .int .i64 m, .int .i64 d] 23)))
       clear Gc_9; have Gc_9 := Gc_9a; clear Gc_9a
       obtain ⟨q9_0_0, q9_0_1, q9_0_2, -⟩ := M9_0.out.cells
       clear C9 hb)
    | (go_at_call 22; (with_reducible refine (C10.out _ (HW.out _ HR9.out)).mono ?_); rintro e W10 ⟨rfl, hb⟩
       have M10_0 := Lib.hid (M9_0.out.below hb)
       have Grs_10 := Lib.hid (Grs_9.out.below hb)
       have Grv_10 := Lib.hid (Grv_9.out.below hb)
       have Gc_10 := Lib.hid (Gc_9.out.below hb)
       have HR10 := Lib.hid (below_tr6 HR9.out hb rfl)
       obtain ⟨q10_0_0, q10_0_1, q10_0_2, -⟩ := M10_0.out.cells
       clear q9_0_0 q9_0_1 q9_0_2 C10 hb)
    | (go_at_call 37; (with_reducible refine (C11.out _ (HW.out _ HR10.out)).mono ?_); rintro e W11 ⟨rfl, hb⟩
       have M11_0 := Lib.hid (M10_0.out.below hb)
       have Grs_11 := Lib.hid (Grs_10.out.below hb)
       have Grv_11 := Lib.hid (Grv_10.out.below hb)
       have Gc_11 := Lib.hid (Gc_10.out.below hb)
       have HR11 := Lib.hid (below_tr6 HR10.out hb rfl)
       obtain ⟨q11_0_0, q11_0_1, q11_0_2, -⟩ := M11_0.out.cells
       clear q10_0_0 q10_0_1 q10_0_2 C11 hb)
    | (go_at_call 54; (with_reducible refine (C12.out _ (HW.out _ HR11.out) _ Gc_11.out).mono ?_); rintro e W12 ⟨rfl, hb⟩
       have M12_0 := Lib.hid (M11_0.out.below hb)
       have Grs_12 := Lib.hid (Grs_11.out.below hb)
       have Grv_12 := Lib.hid (Grv_11.out.below hb)
       have Gc_12 := Lib.hid (Gc_11.out.below hb)
       have HR12 := Lib.hid (below_tr6 HR11.out hb rfl)
       obtain ⟨q12_0_0, q12_0_1, q12_0_2, -⟩ := M12_0.out.cells
       clear q11_0_0 q11_0_1 q11_0_2 C12 hb)
    | (go_at_call 40; (with_reducible refine (C13.out _ (HW.out _ HR12.out)).mono ?_); rintro e W13 ⟨rfl, hb⟩
       have M13_0 := Lib.hid (M12_0.out.below hb)
       have Grs_13 := Lib.hid (Grs_12.out.below hb)
       have Grv_13 := Lib.hid (Grv_12.out.below hb)
       have Gc_13 := Lib.hid (Gc_12.out.below hb)
       have HR13 := Lib.hid (below_tr6 HR12.out hb rfl)
       obtain ⟨q13_0_0, q13_0_1, q13_0_2, -⟩ := M13_0.out.cells
       clear q12_0_0 q12_0_1 q12_0_2 C13 hb)
    | (fail "no arm"))
  go_ret
  exact ⟨rfl, HR13.out⟩
theorem RollLaws_walk {IsC : World → Value → List CalT → Prop} (HBg : BegunC) (H : CalC IsC) (HR : RolC IsC) (HM : MonC) (rv : Value) (l : List Rule) (n : Int) (n0 : -9223372036854775808 ≤ n) (n1 : n ≤ 9223372036854775807) (k : Int) (w : World) (hw : Wd w) (hr : RulesO w rv l) :
    Calls Tryz.prog 14 #[rv, .int .i64 n, .int .i64 k] w fun e w' => e = .returned (.bool true) ∧ Below w.heap.size w w' := by
  have hd := Day_isDay n
  obtain ⟨D, hD⟩ : ∃ D, n % 109573 = D := ⟨_, rfl⟩
  rw [hD] at hd
  have h8 : (rules8 l 8).length ≤ 8 := rules8_len l 8
  obtain ⟨l8, hl8⟩ : ∃ l8, rules8 l 8 = l8 := ⟨_, rfl⟩
  obtain ⟨cs, hcs⟩ : ∃ cs, ([⟨rules8 l 8, []⟩] : List CalT) = cs := ⟨_, rfl⟩
  have hcs2 := hcs
  rw [hl8] at hcs2 h8
  have hNr : ref6.Near cs := hcs2 ▸ ref6.near_of h8 (Nat.zero_le _)
  have d0 := hd.1
  have d1 := hd.2
  have r0 : 0 ≤ k.tmod 5 % 5 := by omega
  have r1 : k.tmod 5 % 5 ≤ 4 := by omega
  obtain ⟨r, hK⟩ : ∃ r, k.tmod 5 % 5 = r := ⟨_, rfl⟩
  rw [hK] at r0 r1
  cases ht : rollD cs D r with
  | none => exact RollLaws_N HBg H rv l cs hcs n D k r n0 n1 hD hK (fun W v hW hv => HR.no v cs D r W hW hv (fun _ => hNr) hd r0 r1 ht) w hw hr
  | some A =>
    have PD := fun W v (hW : Wd W) (hv : CalV H W v cs) => H.isOpen v cs D W hW hv (by omega) (by omega)
    have P1 := fun W v (hW : Wd W) (hv : CalV H W v cs) => HR.yes v cs D r A W hW hv (fun _ => hNr) hd r0 r1 ht
    by_cases hr0 : r = 0
    · subst hr0
      cases ht
      cases ho : openB cs D
      · rw [ho] at PD
        exact RollLaws_0F HBg H rv l cs hcs n D k n0 n1 hD hK P1 PD w hw hr
      · rw [ho] at PD
        exact RollLaws_0T HBg H rv l cs hcs n D k n0 n1 hD hK P1 PD w hw hr
    · have hA := ref6.roll_open r0 r1 hr0 ht
      have hAd := ref6.openB_day hA
      have a0 := hAd.1
      have a1 := hAd.2
      have P2 := fun W v (hW : Wd W) (hv : CalV H W v cs) => HR.yes v cs A r A W hW hv (fun _ => hNr) hAd r0 r1 (ref6.roll_stays r0 r1 hA)
      have PA := fun W v (hW : Wd W) (hv : CalV H W v cs) => H.isOpen v cs A W hW hv (by omega) (by omega)
      rw [hA] at PA
      obtain ⟨y, m, d, hc, rfl⟩ := hd.civil
      obtain ⟨m1, m2⟩ := hc.month
      have ml := mlen_lo (y := y) m1 m2
      have Q1 := fun W (hW : Wd W) => Civil_at y m d hc W hW.lens
      have hF : IsCivil y m 1 := ⟨hc.1, hc.2.1, by omega, by omega⟩
      have hE : IsCivil y m (mlen y m) := ⟨hc.1, hc.2.1, by omega, by omega⟩
      have Q2 := fun W (hW : Wd W) => Of_yes y m 1 hF W hW.lens
      have Q3 := HM.endYes y m hc.1 hc.2.1 m1 m2
      obtain ⟨f0, f1⟩ := dayOf_isDay hF
      obtain ⟨g0, g1⟩ := dayOf_isDay hE
      have Q4 := fun W v (hW : Wd W) (hv : CalV H W v cs) => H.count v cs (dayOf y m 1) (dayOf y m (mlen y m) + 1) W hW hv (by omega) (by omega) (by omega) (by omega)
      have Q5 : (r = 2 ∨ r = 4) → cntO cs (dayOf y m 1) (dayOf y m (mlen y m) + 1) ≠ 0 → ∀ W, Wd W → Calls Tryz.prog 40 #[.int .i64 A, .int .i64 (dayOf y m d)] W fun e w' => e = .returned (.int .i64 0) ∧ Below W.heap.size W w' := by
        intro h24 hne
        obtain ⟨x, x1, x2, x3⟩ : ∃ x, dayOf y m 1 ≤ x ∧ x ≤ dayOf y m (mlen y m) ∧ openB cs x = true := by
          rcases Classical.em (∃ x, dayOf y m 1 ≤ x ∧ x ≤ dayOf y m (mlen y m) ∧ openB cs x = true) with h | h
          · exact h
          · exact absurd (ref6.cnt_zero cs fun x h1 h2 => by
              cases hx : openB cs x
              · rfl
              · exact absurd ⟨x, h1, by omega, hx⟩ h) hne
        subst hcs2
        obtain ⟨d', hc', rfl⟩ := ref6.mod_stays h8 hc h24 ht x1 x2 x3
        have h := HM.between y m d' y m d hc' hc
        rwa [show 12 * (y - y) + (m - m) = 0 by omega] at h
      cases ho : openB cs (dayOf y m d)
      · rw [ho] at PD
        rcases (show r = 1 ∨ r = 2 ∨ r = 3 ∨ r = 4 by omega) with rfl | rfl | rfl | rfl
        · exact RollLaws_1F HBg H rv l cs hcs n _ k A n0 n1 hD hK P1 P2 PD PA w hw hr
        · by_cases hz : cntO cs (dayOf y m 1) (dayOf y m (mlen y m) + 1) = 0
          · exact RollLaws_2F0 HBg H rv l cs hcs n _ k A n0 n1 hD hK y m d _ _ _ g0 g1 hz P1 P2 PD PA Q1 Q2 Q3 Q4 w hw hr
          · exact RollLaws_2F1 HBg H rv l cs hcs n _ k A n0 n1 hD hK y m d _ _ _ g0 g1 (by simpa using hz) P1 P2 PD PA Q1 Q2 Q3 Q4 (Q5 (by decide) hz) w hw hr
        · exact RollLaws_3F HBg H rv l cs hcs n _ k A n0 n1 hD hK P1 P2 PD PA w hw hr
        · by_cases hz : cntO cs (dayOf y m 1) (dayOf y m (mlen y m) + 1) = 0
          · exact RollLaws_4F0 HBg H rv l cs hcs n _ k A n0 n1 hD hK y m d _ _ _ g0 g1 hz P1 P2 PD PA Q1 Q2 Q3 Q4 w hw hr
          · exact RollLaws_4F1 HBg H rv l cs hcs n _ k A n0 n1 hD hK y m d _ _ _ g0 g1 (by simpa using hz) P1 P2 PD PA Q1 Q2 Q3 Q4 (Q5 (by decide) hz) w hw hr
      · rw [ho] at PD
        have hAD : A = dayOf y m d := by
          have := (ref6.roll_stays r0 r1 ho).symm.trans ht
          injection this with this
          exact this.symm
        subst hAD
        obtain ⟨o1, o2⟩ := ref6.of_le hc
        have hne : cntO cs (dayOf y m 1) (dayOf y m (mlen y m) + 1) ≠ 0 := by
          have := ref6.cnt_pos cs o1 (show dayOf y m d < dayOf y m (mlen y m) + 1 by omega) ho
          omega
        rcases (show r = 1 ∨ r = 2 ∨ r = 3 ∨ r = 4 by omega) with rfl | rfl | rfl | rfl
        · exact RollLaws_1T HBg H rv l cs hcs n _ k n0 n1 hD hK P1 PD w hw hr
        · exact RollLaws_2T HBg H rv l cs hcs n _ k n0 n1 hD hK y m d _ _ _ g0 g1 (by simpa using hne) P1 PD Q1 Q2 Q3 Q4 (Q5 (by decide) hne) w hw hr
        · exact RollLaws_3T HBg H rv l cs hcs n _ k n0 n1 hD hK P1 PD w hw hr
        · exact RollLaws_4T HBg H rv l cs hcs n _ k n0 n1 hD hK y m d _ _ _ g0 g1 (by simpa using hne) P1 PD Q1 Q2 Q3 Q4 (Q5 (by decide) hne) w hw hr
end Go.Proofs.YtlhmfgbaefaneaaGreatDoor.law6
