/-
  The steps of the walks, part 2: Lw6CountNone.
-/
import Derived.BigQuiet
import Derived.Deep.QuietTactic
import Derived.Test.YtlhmfgbaefaneabGreatDoorB01
import Derived.Test.YtlhmfgbaefaneabGreatDoorB02
import Derived.Test.YtlhmfgbaefaneabGreatDoorB03
import Derived.Test.YtlhmfgbaefaneabGreatDoorB04
import Derived.Test.YtlhmfgbaefaneabGreatDoorB05
import Derived.Test.YtlhmfgbaefaneabGreatDoorB06
import Derived.Test.YtlhmfgbaefaneabGreatDoorB07
import Derived.Test.YtlhmfgbaefaneabGreatDoorB08
import Derived.Test.YtlhmfgbaefaneabGreatDoorB09
import Derived.Test.YtlhmfgbaefaneabGreatDoorB10
import Derived.Test.YtlhmfgbaefaneabGreatDoorB11
import Derived.Test.YtlhmfgbaefaneabGreatDoorB12
import Derived.Test.YtlhmfgbaefaneabGreatDoorB13
import Derived.Test.YtlhmfgbaefaneabGreatDoorB14
import Derived.Test.YtlhmfgbaefaneabGreatDoorB15
import Derived.Test.YtlhmfgbaefaneabGreatDoorB16
import Derived.Test.YtlhmfgbaefaneabGreatDoorB17
import Derived.Test.YtlhmfgbaefaneabGreatDoorB18
import Derived.Test.YtlhmfgbaefaneabGreatDoorB19
import Derived.Test.YtlhmfgbaefaneabGreatDoorB20
import Derived.Test.YtlhmfgbaefaneabGreatDoorB21
import Derived.Test.YtlhmfgbaefaneabGreatDoorB22
import Derived.Test.YtlhmfgbaefaneabGreatDoorB23
import Derived.Test.YtlhmfgbaefaneabGreatDoorB24
import Derived.Test.YtlhmfgbaefaneabGreatDoorB25
import Derived.Test.YtlhmfgbaefaneabGreatDoorB26
import Derived.Test.YtlhmfgbaefaneabGreatDoorB27
import Derived.Test.YtlhmfgbaefaneabGreatDoorB28
import Derived.Test.YtlhmfgbaefaneabGreatDoorB29
import Derived.Test.YtlhmfgbaefaneabGreatDoorB30
import Derived.Test.YtlhmfgbaefaneabGreatDoorB31
import Derived.Test.YtlhmfgbaefaneabGreatDoorB32
import Derived.Test.YtlhmfgbaefaneabGreatDoorB33
import Derived.Test.YtlhmfgbaefaneabGreatDoorB34
import Derived.Test.YtlhmfgbaefaneabGreatDoorB35
import Derived.Test.YtlhmfgbaefaneabGreatDoorB36
import Derived.Test.YtlhmfgbaefaneabGreatDoorB37
import Derived.Test.YtlhmfgbaefaneabGreatDoorB38
import Derived.Test.YtlhmfgbaefaneabGreatDoorB39
import Derived.Test.YtlhmfgbaefaneabGreatDoorB40
import Derived.Test.YtlhmfgbaefaneabGreatDoorLCountNone01
namespace Go.Proofs.YtlhmfgbaefaneabGreatDoor.law6
open Go Go.RowKit Go.Proofs.YtlhmfgbaefaneabGreatDoor.day Go.Proofs.YtlhmfgbaefaneabGreatDoor.date
open Go.Proofs.YtlhmfgbaefaneabGreatDoor.ref (str str_size)
open Go.Proofs.YtlhmfgbaefaneabGreatDoor.ref6 (CAt dayText DayForm quiet_same drewN_below6)
open Go.Proofs.YtlhmfgbaefaneabGreatDoor.ref6 (IntsAt RulesAt CalsAt CalT Rule May openB nextD addN cntO rollD)
set_option maxRecDepth 100000 in
set_option maxHeartbeats 4000000 in
theorem CountNone_0 (HBg : BegunC)
    (P1 : (∀ W, Wd W → Calls Tryz.prog 17 #[.pointer none, .int .i64 0, .int .i64 1] W fun e w' => e = .returned (.tuple #[.int .i64 1, .nilIface]) ∧ Below W.heap.size W w')) (P2 : (∀ W, Wd W → Calls Tryz.prog 18 #[.pointer none, .int .i64 5, .int .i64 9] W fun e w' => e = .returned (.tuple #[.int .i64 0, errOf 1]) ∧ Below W.heap.size W w')) (P3 : (∀ W, Wd W → Calls Tryz.prog 18 #[.pointer none, .int .i64 5, .int .i64 1] W fun e w' => e = .returned (.tuple #[.int .i64 7, .nilIface]) ∧ Below W.heap.size W w')) (P4 : (∀ W, Wd W → Calls Tryz.prog 19 #[.int .i64 0, .int .i64 1, .int .i64 2, .int .i64 3, .int .i64 4, .int .i64 5] W fun e w' => e = .returned (.tuple #[.pointer none, errOf 1]) ∧ Below W.heap.size W w')) (P5 : (∀ W, Wd W → Calls Tryz.prog 21 #[.pointer none, .int .i64 0] W fun e w' => e = .returned (.bool true) ∧ Below W.heap.size W w')) (P6 : (∀ W, Wd W → Calls Tryz.prog 21 #[.pointer none, .int .i64 5] W fun e w' => e = .returned (.bool false) ∧ Below W.heap.size W w')) (P7 : (∀ W, Wd W → Calls Tryz.prog 22 #[.pointer none, .int .i64 0, .int .i64 7] W fun e w' => e = .returned (.int .i64 5) ∧ Below W.heap.size W w')) (P8 : (∀ W, Wd W → Calls Tryz.prog 24 #[.agg #[.int .i64 0, .int .i64 0, .int .i64 0, .int .i64 0, .int .i64 0, .bool false]] W fun e w' => e = .returned (.bool false) ∧ Below W.heap.size W w')) (P9 : (∀ W, Wd W → Calls Tryz.prog 25 #[.int .i64 (-1), .int .i64 5] W fun e w' => e = .returned (.int .i64 0) ∧ Below W.heap.size W w')) (P10 : (∀ W, Wd W → Calls Tryz.prog 26 #[.int .i64 (-1)] W fun e w' => e = .returned (.bool false) ∧ Below W.heap.size W w')) (P11 : (∀ W, Wd W → Calls Tryz.prog 27 #[.int .i64 109572] W fun e w' => e = .returned (.string ⟨#[50, 49, 57, 57, 45, 49, 50, 45, 51, 49]⟩) ∧ Below W.heap.size W w')) (w : World) (hw : Wd w) :
    Calls Tryz.prog 3 #[] w fun e w' => e = .returned (.bool true) ∧ Below w.heap.size w w' := by
  have HW := Lib.hid (fun W (h : Below w.heap.size w W) => hw.keep h)
  have C1 := Lib.hid (fun (W : World) (hW : Wd W) => P1 W hW)
  have C2 := Lib.hid (fun (W : World) (hW : Wd W) => P2 W hW)
  have C3 := Lib.hid (fun (W : World) (hW : Wd W) => P3 W hW)
  have C4 := Lib.hid (fun (W : World) (hW : Wd W) => P4 W hW)
  have C5 := Lib.hid (fun (W : World) (hW : Wd W) => HBg W hW)
  have C6 := Lib.hid (fun (W : World) (hW : Wd W) => P5 W hW)
  have C7 := Lib.hid (fun (W : World) (hW : Wd W) => P6 W hW)
  have C8 := Lib.hid (fun (W : World) (hW : Wd W) => P7 W hW)
  have C9 := Lib.hid (fun (W : World) (hW : Wd W) => Same_code 1 W hW)
  have C10 := Lib.hid (fun (W : World) (hW : Wd W) => Same_code 1 W hW)
  have C11 := Lib.hid (fun (W : World) (hW : Wd W) => P8 W hW)
  have C12 := Lib.hid (fun (W : World) (hW : Wd W) => P9 W hW)
  have C13 := Lib.hid (fun (W : World) (hW : Wd W) => P10 W hW)
  have C14 := Lib.hid (fun (W : World) (hW : Wd W) => P11 W hW)
  have HR0 := Lib.hid (Below.refl w.heap.size w)
  clear P1 P2 P3 P4 P5 P6 P7 P8 P9 P10 P11
  clear hw
  go_enter Tryz.func3, Tryz.ntmps3
  go_wp2_with (first
    | (go_at_call 17; (with_reducible refine (C1.out _ (HW.out _ HR0.out)).mono ?_); rintro e W1 ⟨rfl, hb⟩
       have HR1 := Lib.hid (below_tr6 HR0.out hb rfl)
       clear C1 hb)
    | (go_at_call 18; (with_reducible refine (C2.out _ (HW.out _ HR1.out)).mono ?_); rintro e W2 ⟨rfl, hb⟩
       have HR2 := Lib.hid (below_tr6 HR1.out hb rfl)
       clear C2 hb)
    | (go_at_call 18; (with_reducible refine (C3.out _ (HW.out _ HR2.out)).mono ?_); rintro e W3 ⟨rfl, hb⟩
       have HR3 := Lib.hid (below_tr6 HR2.out hb rfl)
       clear C3 hb)
    | (go_at_call 19; (with_reducible refine (C4.out _ (HW.out _ HR3.out)).mono ?_); rintro e W4 ⟨rfl, hb⟩
       have HR4 := Lib.hid (below_tr6 HR3.out hb rfl)
       clear C4 hb)
    | (go_at_call 20; (with_reducible refine (C5.out _ (HW.out _ HR4.out)).mono ?_); rintro e W5 ⟨rfl, hb⟩
       have HR5 := Lib.hid (below_tr6 HR4.out hb rfl)
       clear C5 hb)
    | (go_at_call 21; (with_reducible refine (C6.out _ (HW.out _ HR5.out)).mono ?_); rintro e W6 ⟨rfl, hb⟩
       have HR6 := Lib.hid (below_tr6 HR5.out hb rfl)
       clear C6 hb)
    | (go_at_call 21; (with_reducible refine (C7.out _ (HW.out _ HR6.out)).mono ?_); rintro e W7 ⟨rfl, hb⟩
       have HR7 := Lib.hid (below_tr6 HR6.out hb rfl)
       clear C7 hb)
    | (go_at_call 22; (with_reducible refine (C8.out _ (HW.out _ HR7.out)).mono ?_); rintro e W8 ⟨rfl, hb⟩
       have HR8 := Lib.hid (below_tr6 HR7.out hb rfl)
       clear C8 hb)
    | (go_at_call 23; (with_reducible refine (C9.out _ (HW.out _ HR8.out)).mono ?_); rintro e W9 ⟨rfl, hb⟩
       have HR9 := Lib.hid (below_tr6 HR8.out hb rfl)
       clear C9 hb)
    | (go_at_call 23; (with_reducible refine (C10.out _ (HW.out _ HR9.out)).mono ?_); rintro e W10 ⟨rfl, hb⟩
       have HR10 := Lib.hid (below_tr6 HR9.out hb rfl)
       clear C10 hb)
    | (go_at_call 24; (with_reducible refine (C11.out _ (HW.out _ HR10.out)).mono ?_); rintro e W11 ⟨rfl, hb⟩
       have HR11 := Lib.hid (below_tr6 HR10.out hb rfl)
       clear C11 hb)
    | (go_at_call 25; (with_reducible refine (C12.out _ (HW.out _ HR11.out)).mono ?_); rintro e W12 ⟨rfl, hb⟩
       have HR12 := Lib.hid (below_tr6 HR11.out hb rfl)
       clear C12 hb)
    | (go_at_call 26; (with_reducible refine (C13.out _ (HW.out _ HR12.out)).mono ?_); rintro e W13 ⟨rfl, hb⟩
       have HR13 := Lib.hid (below_tr6 HR12.out hb rfl)
       clear C13 hb)
    | (go_at_call 27; (with_reducible refine (C14.out _ (HW.out _ HR13.out)).mono ?_); rintro e W14 ⟨rfl, hb⟩
       have HR14 := Lib.hid (below_tr6 HR13.out hb rfl)
       clear C14 hb)
    | (fail "no arm"))
  go_ret
  exact ⟨rfl, HR14.out⟩
theorem open_nil (D : Int) (h : IsDay D) (b : Bool) (hb : decide ((D + 1) % 7 ≠ 0 ∧ (D + 1) % 7 ≠ 6) = b) : openB [] D = b := (ref6.openB_nil h).trans hb
theorem CountNone_walk {IsC : World → Value → List CalT → Prop} (HBg : BegunC) (H : CalC IsC) (HR : RolC IsC) (HM : MonC) (HH : HolC) (HCn : CntC) (w : World) (hw : Wd w) :
    Calls Tryz.prog 3 #[] w fun e w' => e = .returned (.bool true) ∧ Below w.heap.size w w' := by
  have o0 := open_nil 0 (by decide) true (by decide)
  have o1 := open_nil 1 (by decide) true (by decide)
  have o2 := open_nil 2 (by decide) true (by decide)
  have o3 := open_nil 3 (by decide) true (by decide)
  have o4 := open_nil 4 (by decide) true (by decide)
  have o5 := open_nil 5 (by decide) false (by decide)
  have o6 := open_nil 6 (by decide) false (by decide)
  have o7 := open_nil 7 (by decide) true (by decide)
  have n1 : nextD [] 1 (0 + 1) = some 1 := ref6.next_up_is (by decide) (by decide) o1 (fun x h1 h2 => by omega)
  have n5 : nextD [] 1 5 = some 7 := ref6.next_up_is (by decide) (by decide) o7 (fun x h1 h2 => by
    rcases (show x = 5 ∨ x = 6 by omega) with rfl | rfl
    · exact o5
    · exact o6)
  have a1 : addN [] (if (1 : Int) < 0 then -1 else 1) (1 : Int).natAbs 0 = some 1 := by
    show addN [] 1 1 0 = some 1
    simp only [addN, n1]
  have c5 : cntO [] 0 7 = 5 := by
    rw [ref6.cnt_split [] (show (0 : Int) ≤ 1 by decide) (show (1 : Int) ≤ 7 by decide), ref6.cnt_split [] (show (1 : Int) ≤ 2 by decide) (show (2 : Int) ≤ 7 by decide), ref6.cnt_split [] (show (2 : Int) ≤ 3 by decide) (show (3 : Int) ≤ 7 by decide), ref6.cnt_split [] (show (3 : Int) ≤ 4 by decide) (show (4 : Int) ≤ 7 by decide), ref6.cnt_split [] (show (4 : Int) ≤ 5 by decide) (show (5 : Int) ≤ 7 by decide), ref6.cnt_split [] (show (5 : Int) ≤ 6 by decide) (show (6 : Int) ≤ 7 by decide),
      show cntO [] 0 1 = 1 from (ref6.cnt_one [] 0).trans (if_pos o0), show cntO [] 1 2 = 1 from (ref6.cnt_one [] 1).trans (if_pos o1), show cntO [] 2 3 = 1 from (ref6.cnt_one [] 2).trans (if_pos o2), show cntO [] 3 4 = 1 from (ref6.cnt_one [] 3).trans (if_pos o3), show cntO [] 4 5 = 1 from (ref6.cnt_one [] 4).trans (if_pos o4),
      show cntO [] 5 6 = 0 from (ref6.cnt_one [] 5).trans (if_neg (by rw [o5]; decide)), show cntO [] 6 7 = 0 from (ref6.cnt_one [] 6).trans (if_neg (by rw [o6]; decide))]
    rfl
  have hT := fun W (hW : Wd W) => Text_at 2199 12 31 (by decide) W hW.lens hW.tab
  rw [show dayOf 2199 12 31 = 109572 by decide +kernel, show str (dayText 2199 12 31) = ⟨#[50, 49, 57, 57, 45, 49, 50, 45, 51, 49]⟩ by kernel_rfl] at hT
  have hm := fun W (hW : Wd W) => HH.may 0 0 0 0 0 false W hW
  rw [show decide (May ⟨0, 0, 0, 0, 0, false⟩) = false by decide] at hm
  have ho := fun W (hW : Wd W) => H.isOpen (.pointer none) [] 0 W hW (H.none_ W) (by decide) (by decide)
  have ho5 := fun W (hW : Wd W) => H.isOpen (.pointer none) [] 5 W hW (H.none_ W) (by decide) (by decide)
  have hc := fun W (hW : Wd W) => H.count (.pointer none) [] 0 7 W hW (H.none_ W) (by decide) (by decide) (by decide) (by decide)
  rw [o0] at ho
  rw [o5] at ho5
  rw [c5] at hc
  exact CountNone_0 HBg (fun W hW => H.add (.pointer none) [] 0 1 1 W hW (H.none_ W) (by decide) (by decide) (by decide) a1) (fun W hW => HR.form (.pointer none) [] 5 9 W hW (H.none_ W) (by decide)) (fun W hW => HR.yes (.pointer none) [] 5 1 7 W hW (H.none_ W) (fun h => by omega) (by decide) (by decide) (by decide) ((ref6.roll_1 [] 5).trans n5))
    (fun W hW => HCn.partForm 0 1 2 3 4 5 (by decide) W hW) ho ho5 hc hm (fun W hW => HM.betweenNo (-1) 5 (by decide) W hW) (fun W _ => month.Last_no (-1) (by decide) W) hT w hw
end Go.Proofs.YtlhmfgbaefaneabGreatDoor.law6
