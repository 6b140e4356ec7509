/-
  The steps of the walks, part 3: Lw6MonthAll.
-/
import Derived.BigQuiet
import Derived.Deep.QuietTactic
import Derived.Test.YtlhmfgbaefaneaaGreatDoorB01
import Derived.Test.YtlhmfgbaefaneaaGreatDoorB02
import Derived.Test.YtlhmfgbaefaneaaGreatDoorB03
import Derived.Test.YtlhmfgbaefaneaaGreatDoorB04
import Derived.Test.YtlhmfgbaefaneaaGreatDoorB05
import Derived.Test.YtlhmfgbaefaneaaGreatDoorB06
import Derived.Test.YtlhmfgbaefaneaaGreatDoorB07
import Derived.Test.YtlhmfgbaefaneaaGreatDoorB08
import Derived.Test.YtlhmfgbaefaneaaGreatDoorB09
import Derived.Test.YtlhmfgbaefaneaaGreatDoorB10
import Derived.Test.YtlhmfgbaefaneaaGreatDoorB11
import Derived.Test.YtlhmfgbaefaneaaGreatDoorB12
import Derived.Test.YtlhmfgbaefaneaaGreatDoorB13
import Derived.Test.YtlhmfgbaefaneaaGreatDoorB14
import Derived.Test.YtlhmfgbaefaneaaGreatDoorB15
import Derived.Test.YtlhmfgbaefaneaaGreatDoorB16
import Derived.Test.YtlhmfgbaefaneaaGreatDoorB17
import Derived.Test.YtlhmfgbaefaneaaGreatDoorB18
import Derived.Test.YtlhmfgbaefaneaaGreatDoorB19
import Derived.Test.YtlhmfgbaefaneaaGreatDoorB20
import Derived.Test.YtlhmfgbaefaneaaGreatDoorB21
import Derived.Test.YtlhmfgbaefaneaaGreatDoorB22
import Derived.Test.YtlhmfgbaefaneaaGreatDoorLMonthAll02
namespace Go.Proofs.YtlhmfgbaefaneaaGreatDoor.law6
open Go Go.RowKit Go.Proofs.YtlhmfgbaefaneaaGreatDoor.day Go.Proofs.YtlhmfgbaefaneaaGreatDoor.date
open Go.Proofs.YtlhmfgbaefaneaaGreatDoor.ref (str str_size)
open Go.Proofs.YtlhmfgbaefaneaaGreatDoor.ref6 (CAt dayText DayForm quiet_same drewN_below6)
set_option maxRecDepth 100000 in
set_option maxHeartbeats 4000000 in
theorem MonthAll_11 (HBg : BegunC) (n : Int) (n0 : -9223372036854775808 ≤ n) (n1 : n ≤ 9223372036854775807) (k : Int) (fin : Bool) (y m to : Int) (q1 q2 q3 : Int) (hq1 : q1 = n % 109573) (hq2 : q2 = 1895 + y % 512) (hq3 : q3 = m.tmod 15) (a x z : Int) (lb : Bool)
    (P1 : (∀ W, Wd W → Calls Tryz.prog 35 #[.int .i64 q1, .int .i64 k, .bool fin] W fun e w' => e = .returned (.tuple #[.int .i64 a, .nilIface]) ∧ Below W.heap.size W w')) (P2 : (∀ W, Wd W → Calls Tryz.prog 36 #[.int .i64 q1, .int .i64 k, .bool fin] W fun e w' => e = .returned (.tuple #[.int .i64 a, .bool true]) ∧ Below W.heap.size W w')) (P3 : (∀ W, Wd W → Calls Tryz.prog 37 #[.int .i64 q2, .int .i64 q3] W fun e w' => e = .returned (.tuple #[.int .i64 x, .nilIface]) ∧ Below W.heap.size W w')) (P4 : (∀ W, Wd W → Calls Tryz.prog 28 #[.agg #[.int .i64 q2, .int .i64 q3, .int .i64 (mlen q2 q3)]] W fun e w' => e = .returned (.tuple #[.int .i64 x, .bool true]) ∧ Below W.heap.size W w')) (P5 : (∀ W, Wd W → Calls Tryz.prog 38 #[.int .i64 q1] W fun e w' => e = .returned (.bool lb) ∧ Below W.heap.size W w')) (P6 : (∀ W, Wd W → Calls Tryz.prog 39 #[.int .i64 q1] W fun e w' => e = .returned (.bool lb) ∧ Below W.heap.size W w')) (P7 : (∀ W, Wd W → Calls Tryz.prog 40 #[.int .i64 q1, .int .i64 to] W fun e w' => e = .returned (.int .i64 z) ∧ Below W.heap.size W w')) (P8 : (∀ W, Wd W → Calls Tryz.prog 41 #[.int .i64 q1, .int .i64 to] W fun e w' => e = .returned (.int .i64 z) ∧ Below W.heap.size W w')) (w : World) (hw : Wd w) :
    Calls Tryz.prog 6 #[.int .i64 n, .int .i64 k, .bool fin, .int .i64 y, .int .i64 m, .int .i64 to] w fun e w' => e = .returned (.bool true) ∧ Below w.heap.size w w' := by
  have hDay := fun W => Day_any n n0 n1 W
  have h511 := and511 y
  have t2 := Int.tmod_lt_of_pos m (show (0 : Int) < 15 by decide)
  have t3 : -15 < m.tmod 15 := by
    rcases Int.le_total 0 m with h | h
    · rw [Int.tmod_eq_emod_of_nonneg h]; omega
    · have e := Int.tmod_eq_emod_of_nonneg (b := 15) (show 0 ≤ -m by omega)
      rw [Int.neg_tmod] at e
      omega
  have HW := Lib.hid (fun W (h : Below w.heap.size w W) => hw.keep h)
  have C1 := Lib.hid (fun (W : World) (hW : Wd W) => HBg W hW)
  have C2 := Lib.hid (fun (W : World) (hW : Wd W) => hDay W)
  have C3 := Lib.hid (fun (W : World) (hW : Wd W) => P1 W hW)
  have C4 := Lib.hid (fun (W : World) (hW : Wd W) => P2 W hW)
  have C5 := Lib.hid (fun (W : World) (hW : Wd W) => P3 W hW)
  have C6 := Lib.hid (fun (W : World) (hW : Wd W) => ref6.Length_any q2 q3 W)
  have C7 := Lib.hid (fun (W : World) (hW : Wd W) => P4 W hW)
  have C8 := Lib.hid (fun (W : World) (hW : Wd W) => P5 W hW)
  have C9 := Lib.hid (fun (W : World) (hW : Wd W) => P6 W hW)
  have C10 := Lib.hid (fun (W : World) (hW : Wd W) => P7 W hW)
  have C11 := Lib.hid (fun (W : World) (hW : Wd W) => P8 W hW)
  have HR0 := Lib.hid (Below.refl w.heap.size w)
  subst hq1 hq2 hq3
  unfold errOf at *
  clear hDay P1 P2 P3 P4 P5 P6 P7 P8
  generalize n % 109573 = D at *
  generalize mlen (1895 + y % 512) (m.tmod 15) = ml at *
  clear hw
  go_enter Tryz.func6, Tryz.ntmps6
  go_wp2_with (first
    | (go_at_call 17; (with_reducible refine (C1.out _ (HW.out _ HR0.out)).mono ?_); rintro e W1 ⟨rfl, hb⟩
       have HR1 := Lib.hid (below_tr6 HR0.out hb rfl)
       clear C1 hb)
    | (go_at_call 19; (with_reducible refine (C2.out _ (HW.out _ HR1.out)).mono ?_); rintro e w9 ⟨rfl, rfl⟩
       have HR2 := Lib.hid HR1.out
       clear C2)
    | (go_at_call 35; (with_reducible refine (C3.out _ (HW.out _ HR2.out)).mono ?_); rintro e W3 ⟨rfl, hb⟩
       have HR3 := Lib.hid (below_tr6 HR2.out hb rfl)
       clear C3 hb)
    | (go_at_call 36; (with_reducible refine (C4.out _ (HW.out _ HR3.out)).mono ?_); rintro e W4 ⟨rfl, hb⟩
       have HR4 := Lib.hid (below_tr6 HR3.out hb rfl)
       clear C4 hb)
    | (go_at_call 37; (with_reducible refine (C5.out _ (HW.out _ HR4.out)).mono ?_); rintro e W5 ⟨rfl, hb⟩
       have HR5 := Lib.hid (below_tr6 HR4.out hb rfl)
       clear C5 hb)
    | (go_at_call 34; (with_reducible refine (C6.out _ (HW.out _ HR5.out)).mono ?_); rintro e w9 ⟨rfl, rfl⟩
       have HR6 := Lib.hid HR5.out
       clear C6)
    | (go_at_call 28; (with_reducible refine (C7.out _ (HW.out _ HR6.out)).mono ?_); rintro e W7 ⟨rfl, hb⟩
       have HR7 := Lib.hid (below_tr6 HR6.out hb rfl)
       clear C7 hb)
    | (go_at_call 38; (with_reducible refine (C8.out _ (HW.out _ HR7.out)).mono ?_); rintro e W8 ⟨rfl, hb⟩
       have HR8 := Lib.hid (below_tr6 HR7.out hb rfl)
       clear C8 hb)
    | (go_at_call 39; (with_reducible refine (C9.out _ (HW.out _ HR8.out)).mono ?_); rintro e W9 ⟨rfl, hb⟩
       have HR9 := Lib.hid (below_tr6 HR8.out hb rfl)
       clear C9 hb)
    | (go_at_call 40; (with_reducible refine (C10.out _ (HW.out _ HR9.out)).mono ?_); rintro e W10 ⟨rfl, hb⟩
       have HR10 := Lib.hid (below_tr6 HR9.out hb rfl)
       clear C10 hb)
    | (go_at_call 41; (with_reducible refine (C11.out _ (HW.out _ HR10.out)).mono ?_); rintro e W11 ⟨rfl, hb⟩
       have HR11 := Lib.hid (below_tr6 HR10.out hb rfl)
       clear C11 hb)
    | (fail "no arm"))
  go_ret
  exact ⟨rfl, HR11.out⟩
set_option maxRecDepth 100000 in
set_option maxHeartbeats 4000000 in
theorem MonthAll_10 (HBg : BegunC) (n : Int) (n0 : -9223372036854775808 ≤ n) (n1 : n ≤ 9223372036854775807) (k : Int) (fin : Bool) (y m to : Int) (q1 q2 q3 : Int) (hq1 : q1 = n % 109573) (hq2 : q2 = 1895 + y % 512) (hq3 : q3 = m.tmod 15) (a x z : Int) (lb : Bool)
    (P1 : (∀ W, Wd W → Calls Tryz.prog 35 #[.int .i64 q1, .int .i64 k, .bool fin] W fun e w' => e = .returned (.tuple #[.int .i64 a, .nilIface]) ∧ Below W.heap.size W w')) (P2 : (∀ W, Wd W → Calls Tryz.prog 36 #[.int .i64 q1, .int .i64 k, .bool fin] W fun e w' => e = .returned (.tuple #[.int .i64 a, .bool true]) ∧ Below W.heap.size W w')) (P3 : (∀ W, Wd W → Calls Tryz.prog 37 #[.int .i64 q2, .int .i64 q3] W fun e w' => e = .returned (.tuple #[.int .i64 x, errOf 4]) ∧ Below W.heap.size W w')) (P4 : (∀ W, Wd W → Calls Tryz.prog 28 #[.agg #[.int .i64 q2, .int .i64 q3, .int .i64 (mlen q2 q3)]] W fun e w' => e = .returned (.tuple #[.int .i64 x, .bool false]) ∧ Below W.heap.size W w')) (P5 : (∀ W, Wd W → Calls Tryz.prog 38 #[.int .i64 q1] W fun e w' => e = .returned (.bool lb) ∧ Below W.heap.size W w')) (P6 : (∀ W, Wd W → Calls Tryz.prog 39 #[.int .i64 q1] W fun e w' => e = .returned (.bool lb) ∧ Below W.heap.size W w')) (P7 : (∀ W, Wd W → Calls Tryz.prog 40 #[.int .i64 q1, .int .i64 to] W fun e w' => e = .returned (.int .i64 z) ∧ Below W.heap.size W w')) (P8 : (∀ W, Wd W → Calls Tryz.prog 41 #[.int .i64 q1, .int .i64 to] W fun e w' => e = .returned (.int .i64 z) ∧ Below W.heap.size W w')) (w : World) (hw : Wd w) :
    Calls Tryz.prog 6 #[.int .i64 n, .int .i64 k, .bool fin, .int .i64 y, .int .i64 m, .int .i64 to] w fun e w' => e = .returned (.bool true) ∧ Below w.heap.size w w' := by
  have hDay := fun W => Day_any n n0 n1 W
  have h511 := and511 y
  have t2 := Int.tmod_lt_of_pos m (show (0 : Int) < 15 by decide)
  have t3 : -15 < m.tmod 15 := by
    rcases Int.le_total 0 m with h | h
    · rw [Int.tmod_eq_emod_of_nonneg h]; omega
    · have e := Int.tmod_eq_emod_of_nonneg (b := 15) (show 0 ≤ -m by omega)
      rw [Int.neg_tmod] at e
      omega
  have HW := Lib.hid (fun W (h : Below w.heap.size w W) => hw.keep h)
  have C1 := Lib.hid (fun (W : World) (hW : Wd W) => HBg W hW)
  have C2 := Lib.hid (fun (W : World) (hW : Wd W) => hDay W)
  have C3 := Lib.hid (fun (W : World) (hW : Wd W) => P1 W hW)
  have C4 := Lib.hid (fun (W : World) (hW : Wd W) => P2 W hW)
  have C5 := Lib.hid (fun (W : World) (hW : Wd W) => P3 W hW)
  have C6 := Lib.hid (fun (W : World) (hW : Wd W) => ref6.Length_any q2 q3 W)
  have C7 := Lib.hid (fun (W : World) (hW : Wd W) => P4 W hW)
  have C8 := Lib.hid (fun (W : World) (hW : Wd W) => P5 W hW)
  have C9 := Lib.hid (fun (W : World) (hW : Wd W) => P6 W hW)
  have C10 := Lib.hid (fun (W : World) (hW : Wd W) => P7 W hW)
  have C11 := Lib.hid (fun (W : World) (hW : Wd W) => P8 W hW)
  have HR0 := Lib.hid (Below.refl w.heap.size w)
  subst hq1 hq2 hq3
  unfold errOf at *
  clear hDay P1 P2 P3 P4 P5 P6 P7 P8
  generalize n % 109573 = D at *
  generalize mlen (1895 + y % 512) (m.tmod 15) = ml at *
  clear hw
  go_enter Tryz.func6, Tryz.ntmps6
  go_wp2_with (first
    | (go_at_call 17; (with_reducible refine (C1.out _ (HW.out _ HR0.out)).mono ?_); rintro e W1 ⟨rfl, hb⟩
       have HR1 := Lib.hid (below_tr6 HR0.out hb rfl)
       clear C1 hb)
    | (go_at_call 19; (with_reducible refine (C2.out _ (HW.out _ HR1.out)).mono ?_); rintro e w9 ⟨rfl, rfl⟩
       have HR2 := Lib.hid HR1.out
       clear C2)
    | (go_at_call 35; (with_reducible refine (C3.out _ (HW.out _ HR2.out)).mono ?_); rintro e W3 ⟨rfl, hb⟩
       have HR3 := Lib.hid (below_tr6 HR2.out hb rfl)
       clear C3 hb)
    | (go_at_call 36; (with_reducible refine (C4.out _ (HW.out _ HR3.out)).mono ?_); rintro e W4 ⟨rfl, hb⟩
       have HR4 := Lib.hid (below_tr6 HR3.out hb rfl)
       clear C4 hb)
    | (go_at_call 37; (with_reducible refine (C5.out _ (HW.out _ HR4.out)).mono ?_); rintro e W5 ⟨rfl, hb⟩
       have HR5 := Lib.hid (below_tr6 HR4.out hb rfl)
       clear C5 hb)
    | (go_at_call 34; (with_reducible refine (C6.out _ (HW.out _ HR5.out)).mono ?_); rintro e w9 ⟨rfl, rfl⟩
       have HR6 := Lib.hid HR5.out
       clear C6)
    | (go_at_call 28; (with_reducible refine (C7.out _ (HW.out _ HR6.out)).mono ?_); rintro e W7 ⟨rfl, hb⟩
       have HR7 := Lib.hid (below_tr6 HR6.out hb rfl)
       clear C7 hb)
    | (go_at_call 38; (with_reducible refine (C8.out _ (HW.out _ HR7.out)).mono ?_); rintro e W8 ⟨rfl, hb⟩
       have HR8 := Lib.hid (below_tr6 HR7.out hb rfl)
       clear C8 hb)
    | (go_at_call 39; (with_reducible refine (C9.out _ (HW.out _ HR8.out)).mono ?_); rintro e W9 ⟨rfl, hb⟩
       have HR9 := Lib.hid (below_tr6 HR8.out hb rfl)
       clear C9 hb)
    | (go_at_call 40; (with_reducible refine (C10.out _ (HW.out _ HR9.out)).mono ?_); rintro e W10 ⟨rfl, hb⟩
       have HR10 := Lib.hid (below_tr6 HR9.out hb rfl)
       clear C10 hb)
    | (go_at_call 41; (with_reducible refine (C11.out _ (HW.out _ HR10.out)).mono ?_); rintro e W11 ⟨rfl, hb⟩
       have HR11 := Lib.hid (below_tr6 HR10.out hb rfl)
       clear C11 hb)
    | (fail "no arm"))
  go_ret
  exact ⟨rfl, HR11.out⟩
set_option maxRecDepth 100000 in
set_option maxHeartbeats 4000000 in
theorem MonthAll_01 (HBg : BegunC) (n : Int) (n0 : -9223372036854775808 ≤ n) (n1 : n ≤ 9223372036854775807) (k : Int) (fin : Bool) (y m to : Int) (q1 q2 q3 : Int) (hq1 : q1 = n % 109573) (hq2 : q2 = 1895 + y % 512) (hq3 : q3 = m.tmod 15) (a x z : Int) (lb : Bool)
    (P1 : (∀ W, Wd W → Calls Tryz.prog 35 #[.int .i64 q1, .int .i64 k, .bool fin] W fun e w' => e = .returned (.tuple #[.int .i64 a, errOf 4]) ∧ Below W.heap.size W w')) (P2 : (∀ W, Wd W → Calls Tryz.prog 36 #[.int .i64 q1, .int .i64 k, .bool fin] W fun e w' => e = .returned (.tuple #[.int .i64 a, .bool false]) ∧ Below W.heap.size W w')) (P3 : (∀ W, Wd W → Calls Tryz.prog 37 #[.int .i64 q2, .int .i64 q3] W fun e w' => e = .returned (.tuple #[.int .i64 x, .nilIface]) ∧ Below W.heap.size W w')) (P4 : (∀ W, Wd W → Calls Tryz.prog 28 #[.agg #[.int .i64 q2, .int .i64 q3, .int .i64 (mlen q2 q3)]] W fun e w' => e = .returned (.tuple #[.int .i64 x, .bool true]) ∧ Below W.heap.size W w')) (P5 : (∀ W, Wd W → Calls Tryz.prog 38 #[.int .i64 q1] W fun e w' => e = .returned (.bool lb) ∧ Below W.heap.size W w')) (P6 : (∀ W, Wd W → Calls Tryz.prog 39 #[.int .i64 q1] W fun e w' => e = .returned (.bool lb) ∧ Below W.heap.size W w')) (P7 : (∀ W, Wd W → Calls Tryz.prog 40 #[.int .i64 q1, .int .i64 to] W fun e w' => e = .returned (.int .i64 z) ∧ Below W.heap.size W w')) (P8 : (∀ W, Wd W → Calls Tryz.prog 41 #[.int .i64 q1, .int .i64 to] W fun e w' => e = .returned (.int .i64 z) ∧ Below W.heap.size W w')) (w : World) (hw : Wd w) :
    Calls Tryz.prog 6 #[.int .i64 n, .int .i64 k, .bool fin, .int .i64 y, .int .i64 m, .int .i64 to] w fun e w' => e = .returned (.bool true) ∧ Below w.heap.size w w' := by
  have hDay := fun W => Day_any n n0 n1 W
  have h511 := and511 y
  have t2 := Int.tmod_lt_of_pos m (show (0 : Int) < 15 by decide)
  have t3 : -15 < m.tmod 15 := by
    rcases Int.le_total 0 m with h | h
    · rw [Int.tmod_eq_emod_of_nonneg h]; omega
    · have e := Int.tmod_eq_emod_of_nonneg (b := 15) (show 0 ≤ -m by omega)
      rw [Int.neg_tmod] at e
      omega
  have HW := Lib.hid (fun W (h : Below w.heap.size w W) => hw.keep h)
  have C1 := Lib.hid (fun (W : World) (hW : Wd W) => HBg W hW)
  have C2 := Lib.hid (fun (W : World) (hW : Wd W) => hDay W)
  have C3 := Lib.hid (fun (W : World) (hW : Wd W) => P1 W hW)
  have C4 := Lib.hid (fun (W : World) (hW : Wd W) => P2 W hW)
  have C5 := Lib.hid (fun (W : World) (hW : Wd W) => Same_code 4 W hW)
  have C6 := Lib.hid (fun (W : World) (hW : Wd W) => P3 W hW)
  have C7 := Lib.hid (fun (W : World) (hW : Wd W) => ref6.Length_any q2 q3 W)
  have C8 := Lib.hid (fun (W : World) (hW : Wd W) => P4 W hW)
  have C9 := Lib.hid (fun (W : World) (hW : Wd W) => P5 W hW)
  have C10 := Lib.hid (fun (W : World) (hW : Wd W) => P6 W hW)
  have C11 := Lib.hid (fun (W : World) (hW : Wd W) => P7 W hW)
  have C12 := Lib.hid (fun (W : World) (hW : Wd W) => P8 W hW)
  have HR0 := Lib.hid (Below.refl w.heap.size w)
  subst hq1 hq2 hq3
  unfold errOf at *
  clear hDay P1 P2 P3 P4 P5 P6 P7 P8
  generalize n % 109573 = D at *
  generalize mlen (1895 + y % 512) (m.tmod 15) = ml at *
  clear hw
  go_enter Tryz.func6, Tryz.ntmps6
  go_wp2_with (first
    | (go_at_call 17; (with_reducible refine (C1.out _ (HW.out _ HR0.out)).mono ?_); rintro e W1 ⟨rfl, hb⟩
       have HR1 := Lib.hid (below_tr6 HR0.out hb rfl)
       clear C1 hb)
    | (go_at_call 19; (with_reducible refine (C2.out _ (HW.out _ HR1.out)).mono ?_); rintro e w9 ⟨rfl, rfl⟩
       have HR2 := Lib.hid HR1.out
       clear C2)
    | (go_at_call 35; (with_reducible refine (C3.out _ (HW.out _ HR2.out)).mono ?_); rintro e W3 ⟨rfl, hb⟩
       have HR3 := Lib.hid (below_tr6 HR2.out hb rfl)
       clear C3 hb)
    | (go_at_call 36; (with_reducible refine (C4.out _ (HW.out _ HR3.out)).mono ?_); rintro e W4 ⟨rfl, hb⟩
       have HR4 := Lib.hid (below_tr6 HR3.out hb rfl)
       clear C4 hb)
    | (go_at_call 29; (with_reducible refine (C5.out _ (HW.out _ HR4.out)).mono ?_); rintro e W5 ⟨rfl, hb⟩
       have HR5 := Lib.hid (below_tr6 HR4.out hb rfl)
       clear C5 hb)
    | (go_at_call 37; (with_reducible refine (C6.out _ (HW.out _ HR5.out)).mono ?_); rintro e W6 ⟨rfl, hb⟩
       have HR6 := Lib.hid (below_tr6 HR5.out hb rfl)
       clear C6 hb)
    | (go_at_call 34; (with_reducible refine (C7.out _ (HW.out _ HR6.out)).mono ?_); rintro e w9 ⟨rfl, rfl⟩
       have HR7 := Lib.hid HR6.out
       clear C7)
    | (go_at_call 28; (with_reducible refine (C8.out _ (HW.out _ HR7.out)).mono ?_); rintro e W8 ⟨rfl, hb⟩
       have HR8 := Lib.hid (below_tr6 HR7.out hb rfl)
       clear C8 hb)
    | (go_at_call 38; (with_reducible refine (C9.out _ (HW.out _ HR8.out)).mono ?_); rintro e W9 ⟨rfl, hb⟩
       have HR9 := Lib.hid (below_tr6 HR8.out hb rfl)
       clear C9 hb)
    | (go_at_call 39; (with_reducible refine (C10.out _ (HW.out _ HR9.out)).mono ?_); rintro e W10 ⟨rfl, hb⟩
       have HR10 := Lib.hid (below_tr6 HR9.out hb rfl)
       clear C10 hb)
    | (go_at_call 40; (with_reducible refine (C11.out _ (HW.out _ HR10.out)).mono ?_); rintro e W11 ⟨rfl, hb⟩
       have HR11 := Lib.hid (below_tr6 HR10.out hb rfl)
       clear C11 hb)
    | (go_at_call 41; (with_reducible refine (C12.out _ (HW.out _ HR11.out)).mono ?_); rintro e W12 ⟨rfl, hb⟩
       have HR12 := Lib.hid (below_tr6 HR11.out hb rfl)
       clear C12 hb)
    | (fail "no arm"))
  go_ret
  exact ⟨rfl, HR12.out⟩
set_option maxRecDepth 100000 in
set_option maxHeartbeats 4000000 in
theorem MonthAll_00 (HBg : BegunC) (n : Int) (n0 : -9223372036854775808 ≤ n) (n1 : n ≤ 9223372036854775807) (k : Int) (fin : Bool) (y m to : Int) (q1 q2 q3 : Int) (hq1 : q1 = n % 109573) (hq2 : q2 = 1895 + y % 512) (hq3 : q3 = m.tmod 15) (a x z : Int) (lb : Bool)
    (P1 : (∀ W, Wd W → Calls Tryz.prog 35 #[.int .i64 q1, .int .i64 k, .bool fin] W fun e w' => e = .returned (.tuple #[.int .i64 a, errOf 4]) ∧ Below W.heap.size W w')) (P2 : (∀ W, Wd W → Calls Tryz.prog 36 #[.int .i64 q1, .int .i64 k, .bool fin] W fun e w' => e = .returned (.tuple #[.int .i64 a, .bool false]) ∧ Below W.heap.size W w')) (P3 : (∀ W, Wd W → Calls Tryz.prog 37 #[.int .i64 q2, .int .i64 q3] W fun e w' => e = .returned (.tuple #[.int .i64 x, errOf 4]) ∧ Below W.heap.size W w')) (P4 : (∀ W, Wd W → Calls Tryz.prog 28 #[.agg #[.int .i64 q2, .int .i64 q3, .int .i64 (mlen q2 q3)]] W fun e w' => e = .returned (.tuple #[.int .i64 x, .bool false]) ∧ Below W.heap.size W w')) (P5 : (∀ W, Wd W → Calls Tryz.prog 38 #[.int .i64 q1] W fun e w' => e = .returned (.bool lb) ∧ Below W.heap.size W w')) (P6 : (∀ W, Wd W → Calls Tryz.prog 39 #[.int .i64 q1] W fun e w' => e = .returned (.bool lb) ∧ Below W.heap.size W w')) (P7 : (∀ W, Wd W → Calls Tryz.prog 40 #[.int .i64 q1, .int .i64 to] W fun e w' => e = .returned (.int .i64 z) ∧ Below W.heap.size W w')) (P8 : (∀ W, Wd W → Calls Tryz.prog 41 #[.int .i64 q1, .int .i64 to] W fun e w' => e = .returned (.int .i64 z) ∧ Below W.heap.size W w')) (w : World) (hw : Wd w) :
    Calls Tryz.prog 6 #[.int .i64 n, .int .i64 k, .bool fin, .int .i64 y, .int .i64 m, .int .i64 to] w fun e w' => e = .returned (.bool true) ∧ Below w.heap.size w w' := by
  have hDay := fun W => Day_any n n0 n1 W
  have h511 := and511 y
  have t2 := Int.tmod_lt_of_pos m (show (0 : Int) < 15 by decide)
  have t3 : -15 < m.tmod 15 := by
    rcases Int.le_total 0 m with h | h
    · rw [Int.tmod_eq_emod_of_nonneg h]; omega
    · have e := Int.tmod_eq_emod_of_nonneg (b := 15) (show 0 ≤ -m by omega)
      rw [Int.neg_tmod] at e
      omega
  have HW := Lib.hid (fun W (h : Below w.heap.size w W) => hw.keep h)
  have C1 := Lib.hid (fun (W : World) (hW : Wd W) => HBg W hW)
  have C2 := Lib.hid (fun (W : World) (hW : Wd W) => hDay W)
  have C3 := Lib.hid (fun (W : World) (hW : Wd W) => P1 W hW)
  have C4 := Lib.hid (fun (W : World) (hW : Wd W) => P2 W hW)
  have C5 := Lib.hid (fun (W : World) (hW : Wd W) => Same_code 4 W hW)
  have C6 := Lib.hid (fun (W : World) (hW : Wd W) => P3 W hW)
  have C7 := Lib.hid (fun (W : World) (hW : Wd W) => ref6.Length_any q2 q3 W)
  have C8 := Lib.hid (fun (W : World) (hW : Wd W) => P4 W hW)
  have C9 := Lib.hid (fun (W : World) (hW : Wd W) => P5 W hW)
  have C10 := Lib.hid (fun (W : World) (hW : Wd W) => P6 W hW)
  have C11 := Lib.hid (fun (W : World) (hW : Wd W) => P7 W hW)
  have C12 := Lib.hid (fun (W : World) (hW : Wd W) => P8 W hW)
  have HR0 := Lib.hid (Below.refl w.heap.size w)
  subst hq1 hq2 hq3
  unfold errOf at *
  clear hDay P1 P2 P3 P4 P5 P6 P7 P8
  generalize n % 109573 = D at *
  generalize mlen (1895 + y % 512) (m.tmod 15) = ml at *
  clear hw
  go_enter Tryz.func6, Tryz.ntmps6
  go_wp2_with (first
    | (go_at_call 17; (with_reducible refine (C1.out _ (HW.out _ HR0.out)).mono ?_); rintro e W1 ⟨rfl, hb⟩
       have HR1 := Lib.hid (below_tr6 HR0.out hb rfl)
       clear C1 hb)
    | (go_at_call 19; (with_reducible refine (C2.out _ (HW.out _ HR1.out)).mono ?_); rintro e w9 ⟨rfl, rfl⟩
       have HR2 := Lib.hid HR1.out
       clear C2)
    | (go_at_call 35; (with_reducible refine (C3.out _ (HW.out _ HR2.out)).mono ?_); rintro e W3 ⟨rfl, hb⟩
       have HR3 := Lib.hid (below_tr6 HR2.out hb rfl)
       clear C3 hb)
    | (go_at_call 36; (with_reducible refine (C4.out _ (HW.out _ HR3.out)).mono ?_); rintro e W4 ⟨rfl, hb⟩
       have HR4 := Lib.hid (below_tr6 HR3.out hb rfl)
       clear C4 hb)
    | (go_at_call 29; (with_reducible refine (C5.out _ (HW.out _ HR4.out)).mono ?_); rintro e W5 ⟨rfl, hb⟩
       have HR5 := Lib.hid (below_tr6 HR4.out hb rfl)
       clear C5 hb)
    | (go_at_call 37; (with_reducible refine (C6.out _ (HW.out _ HR5.out)).mono ?_); rintro e W6 ⟨rfl, hb⟩
       have HR6 := Lib.hid (below_tr6 HR5.out hb rfl)
       clear C6 hb)
    | (go_at_call 34; (with_reducible refine (C7.out _ (HW.out _ HR6.out)).mono ?_); rintro e w9 ⟨rfl, rfl⟩
       have HR7 := Lib.hid HR6.out
       clear C7)
    | (go_at_call 28; (with_reducible refine (C8.out _ (HW.out _ HR7.out)).mono ?_); rintro e W8 ⟨rfl, hb⟩
       have HR8 := Lib.hid (below_tr6 HR7.out hb rfl)
       clear C8 hb)
    | (go_at_call 38; (with_reducible refine (C9.out _ (HW.out _ HR8.out)).mono ?_); rintro e W9 ⟨rfl, hb⟩
       have HR9 := Lib.hid (below_tr6 HR8.out hb rfl)
       clear C9 hb)
    | (go_at_call 39; (with_reducible refine (C10.out _ (HW.out _ HR9.out)).mono ?_); rintro e W10 ⟨rfl, hb⟩
       have HR10 := Lib.hid (below_tr6 HR9.out hb rfl)
       clear C10 hb)
    | (go_at_call 40; (with_reducible refine (C11.out _ (HW.out _ HR10.out)).mono ?_); rintro e W11 ⟨rfl, hb⟩
       have HR11 := Lib.hid (below_tr6 HR10.out hb rfl)
       clear C11 hb)
    | (go_at_call 41; (with_reducible refine (C12.out _ (HW.out _ HR11.out)).mono ?_); rintro e W12 ⟨rfl, hb⟩
       have HR12 := Lib.hid (below_tr6 HR11.out hb rfl)
       clear C12 hb)
    | (fail "no arm"))
  go_ret
  exact ⟨rfl, HR12.out⟩
theorem MonthAll_walk (HBg : BegunC) (HM : MonC) (n : Int) (n0 : -9223372036854775808 ≤ n) (n1 : n ≤ 9223372036854775807) (k : Int) (k0 : -9223372036854775808 ≤ k) (k1 : k ≤ 9223372036854775807) (fin : Bool) (y m to : Int) (w : World) (hw : Wd w) :
    Calls Tryz.prog 6 #[.int .i64 n, .int .i64 k, .bool fin, .int .i64 y, .int .i64 m, .int .i64 to] w fun e w' => e = .returned (.bool true) ∧ Below w.heap.size w w' := by
  obtain ⟨Y, M, D, hc, hD⟩ := (Day_isDay n).civil
  obtain ⟨a, er, ok, h1, P1, P2⟩ := Add_pair HM Y M D k fin k0 k1 hc
  obtain ⟨x, er2, ok2, h2, P3, P4⟩ := End_pair HM (1895 + y % 512) (m.tmod 15)
  obtain ⟨z, P7, P8⟩ := Between_pair HM Y M D hc to
  have P5 := HM.last Y M D hc
  have P6 := fun W (_ : Wd W) => RefLast Y M D hc W
  rw [hD] at P1 P2 P5 P6 P7 P8
  rcases h1 with ⟨rfl, rfl⟩ | ⟨rfl, rfl⟩ <;> rcases h2 with ⟨rfl, rfl⟩ | ⟨rfl, rfl⟩
  · exact MonthAll_11 HBg n n0 n1 k fin y m to _ _ _ rfl rfl rfl a x z _ P1 P2 P3 P4 P5 P6 P7 P8 w hw
  · exact MonthAll_10 HBg n n0 n1 k fin y m to _ _ _ rfl rfl rfl a x z _ P1 P2 P3 P4 P5 P6 P7 P8 w hw
  · exact MonthAll_01 HBg n n0 n1 k fin y m to _ _ _ rfl rfl rfl a x z _ P1 P2 P3 P4 P5 P6 P7 P8 w hw
  · exact MonthAll_00 HBg n n0 n1 k fin y m to _ _ _ rfl rfl rfl a x z _ P1 P2 P3 P4 P5 P6 P7 P8 w hw
end Go.Proofs.YtlhmfgbaefaneaaGreatDoor.law6
