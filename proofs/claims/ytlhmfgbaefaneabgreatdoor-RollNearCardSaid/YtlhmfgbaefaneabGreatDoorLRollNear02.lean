/-
  The steps of the walks, part 2: Law6Cal, Lw6RollNear.
-/
import Derived.BigQuiet
import Derived.Deep.QuietTactic
import Derived.Test.YtlhmfgbaefaneabGreatDoorB01
import Derived.Test.YtlhmfgbaefaneabGreatDoorB02
import Derived.Test.YtlhmfgbaefaneabGreatDoorB03
import Derived.Test.YtlhmfgbaefaneabGreatDoorB04
import Derived.Test.YtlhmfgbaefaneabGreatDoorB05
import Derived.Test.YtlhmfgbaefaneabGreatDoorB06
import Derived.Test.YtlhmfgbaefaneabGreatDoorB07
import Derived.Test.YtlhmfgbaefaneabGreatDoorB08
import Derived.Test.YtlhmfgbaefaneabGreatDoorB09
import Derived.Test.YtlhmfgbaefaneabGreatDoorB10
import Derived.Test.YtlhmfgbaefaneabGreatDoorB11
import Derived.Test.YtlhmfgbaefaneabGreatDoorB12
import Derived.Test.YtlhmfgbaefaneabGreatDoorB13
import Derived.Test.YtlhmfgbaefaneabGreatDoorB14
import Derived.Test.YtlhmfgbaefaneabGreatDoorB15
import Derived.Test.YtlhmfgbaefaneabGreatDoorB16
import Derived.Test.YtlhmfgbaefaneabGreatDoorB17
import Derived.Test.YtlhmfgbaefaneabGreatDoorB18
import Derived.Test.YtlhmfgbaefaneabGreatDoorB19
import Derived.Test.YtlhmfgbaefaneabGreatDoorB20
import Derived.Test.YtlhmfgbaefaneabGreatDoorB21
import Derived.Test.YtlhmfgbaefaneabGreatDoorB22
import Derived.Test.YtlhmfgbaefaneabGreatDoorB23
import Derived.Test.YtlhmfgbaefaneabGreatDoorB24
import Derived.Test.YtlhmfgbaefaneabGreatDoorB25
import Derived.Test.YtlhmfgbaefaneabGreatDoorB26
import Derived.Test.YtlhmfgbaefaneabGreatDoorB27
import Derived.Test.YtlhmfgbaefaneabGreatDoorB28
import Derived.Test.YtlhmfgbaefaneabGreatDoorB29
import Derived.Test.YtlhmfgbaefaneabGreatDoorB30
import Derived.Test.YtlhmfgbaefaneabGreatDoorB31
import Derived.Test.YtlhmfgbaefaneabGreatDoorB32
import Derived.Test.YtlhmfgbaefaneabGreatDoorB33
import Derived.Test.YtlhmfgbaefaneabGreatDoorB34
import Derived.Test.YtlhmfgbaefaneabGreatDoorB35
import Derived.Test.YtlhmfgbaefaneabGreatDoorB36
import Derived.Test.YtlhmfgbaefaneabGreatDoorB37
import Derived.Test.YtlhmfgbaefaneabGreatDoorB38
import Derived.Test.YtlhmfgbaefaneabGreatDoorB39
import Derived.Test.YtlhmfgbaefaneabGreatDoorB40
import Derived.Test.YtlhmfgbaefaneabGreatDoorLRollNear01
namespace Go.Proofs.YtlhmfgbaefaneabGreatDoor.law6
open Go Go.RowKit Go.Proofs.YtlhmfgbaefaneabGreatDoor.day Go.Proofs.YtlhmfgbaefaneabGreatDoor.date
open Go.Proofs.YtlhmfgbaefaneabGreatDoor.ref6 (IntsAt RulesAt CalsAt CalT Rule May openB nextD addN cntO rollD Near)
theorem rulesO_of {w : World} {v : Value} {l : List Rule} (h : RulesAt w v l) : RulesO w v l := by
  obtain ⟨ao, cap, rfl, h1, h2⟩ := h
  refine ⟨ao, cap, rfl, by omega, fun k r hk => ?_⟩
  obtain ⟨g, e, c0, c1, c2, c3, c4, c5⟩ := h2 k r hk
  refine ⟨g, 0, e, ?_, ?_, ?_, ?_, ?_, ?_⟩ <;> rw [Nat.zero_add] <;> assumption
theorem newCode_ok (l : List Rule) (m : List Int) (hm : m.length ≤ 100) (hd : ∀ z ∈ m, IsDay z) : newCode (rules8 l 8) m = 0 := by
  have h1 := rules8_len l 8
  unfold newCode
  rw [if_neg (by omega), if_neg (by
    rw [Bool.not_eq_false, List.all_eq_true]
    intro r hr
    exact (List.mem_filter.1 hr).2), if_neg (by
    rw [Bool.not_eq_false, List.all_eq_true]
    intro z hz
    exact decide_eq_true (hd z hz))]
theorem newCode80 (l : List Rule) : newCode (rules8 l 8) [] = 0 := newCode_ok l _ (by simp) (fun z hz => by cases hz)
theorem New_drawn0 {IsC : World → Value → List CalT → Prop} (H : CalC IsC) (rv : Value) (l : List Rule) (w : World) (hw : Wd w) (hr : RulesAt w rv (rules8 l 8)) :
    Calls Tryz.prog 42 #[rv, .slice none 0 0] w fun e w' => ∃ ad, e = .returned (.tuple #[.pointer (some ad), .nilIface]) ∧ CalV H w' (.pointer (some ad)) [⟨rules8 l 8, []⟩] ∧ Below w.heap.size w w' :=
  H.new rv _ _ _ w hw (rulesO_of hr) (intsO_nil w) (newCode80 l)
end Go.Proofs.YtlhmfgbaefaneabGreatDoor.law6
namespace Go.Proofs.YtlhmfgbaefaneabGreatDoor.law6
open Go Go.RowKit Go.Proofs.YtlhmfgbaefaneabGreatDoor.day Go.Proofs.YtlhmfgbaefaneabGreatDoor.date
open Go.Proofs.YtlhmfgbaefaneabGreatDoor.ref (str str_size)
open Go.Proofs.YtlhmfgbaefaneabGreatDoor.ref6 (CAt dayText DayForm quiet_same drewN_below6)
open Go.Proofs.YtlhmfgbaefaneabGreatDoor.ref6 (IntsAt RulesAt CalsAt CalT Rule May openB nextD addN cntO rollD)
set_option maxRecDepth 100000 in
set_option maxHeartbeats 4000000 in
theorem RollNear_11 {IsC : World → Value → List CalT → Prop} (HBg : BegunC) (H : CalC IsC) (rv : Value) (l : List Rule) (cs : List CalT) (hcs : ([⟨rules8 l 8, []⟩] : List CalT) = cs) (n D t : Int) (n0 : -9223372036854775808 ≤ n) (n1 : n ≤ 9223372036854775807) (hD : n % 109573 = D) (d0 : 0 ≤ D) (d1 : D ≤ 109572) (hb : t ≤ D)
    (P1 : (∀ W v, Wd W → CalV H W v cs → Calls Tryz.prog 18 #[v, .int .i64 D, .int .i64 3] W fun e w' => e = .returned (.tuple #[.int .i64 t, .nilIface]) ∧ Below W.heap.size W w')) (P2 : (∀ W v, Wd W → CalV H W v cs → Calls Tryz.prog 21 #[v, .int .i64 t] W fun e w' => e = .returned (.bool true) ∧ Below W.heap.size W w')) (P3 : (∀ W v, Wd W → CalV H W v cs → Calls Tryz.prog 22 #[v, .int .i64 t, .int .i64 (D + 1)] W fun e w' => e = .returned (.int .i64 1) ∧ Below W.heap.size W w')) (w : World) (hw : Wd w) (hr : RulesO w rv l) :
    Calls Tryz.prog 15 #[rv, .int .i64 n, .bool true] w fun e w' => e = .returned (.bool true) ∧ Below w.heap.size w w' := by
  have hDay := fun W => Day_any n n0 n1 W
  have HW := Lib.hid (fun W (h : Below w.heap.size w W) => hw.keep h)
  have C1 := Lib.hid (fun (W : World) (hW : Wd W) => HBg W hW)
  have C2 := Lib.hid (fun (W : World) (v : Value) (h : RulesO W v l) => rules_any _ l W h)
  have C3 := Lib.hid (fun (W : World) (hW : Wd W) (v : Value) (h : RulesAt W v (rules8 l 8)) => New_drawn0 H _ l W hW h)
  have C4 := Lib.hid (fun (W : World) (hW : Wd W) => hDay W)
  have C5 := Lib.hid (fun (W : World) (hW : Wd W) (v : Value) (h : CalV H W v cs) => P1 W v hW h)
  have C6 := Lib.hid (fun (W : World) (hW : Wd W) (v : Value) (h : CalV H W v cs) => P2 W v hW h)
  have C7 := Lib.hid (fun (W : World) (hW : Wd W) (v : Value) (h : CalV H W v cs) => P3 W v hW h)
  have HR0 := Lib.hid (Below.refl w.heap.size w)
  have Grs_0 := Lib.hid (hr)
  rw [hD] at *
  clear P1 P2 P3
  clear hDay hr
  clear hw
  go_enter Tryz.func15, Tryz.ntmps15
  go_wp2_with (first
    | (go_at_call 20; (with_reducible refine (C1.out _ (HW.out _ HR0.out)).mono ?_); rintro e W1 ⟨rfl, hb⟩
       have Grs_1 := Lib.hid (Grs_0.out.below hb)
       have HR1 := Lib.hid (below_tr6 HR0.out hb rfl)
       clear C1 hb)
    | (go_at_call 43; (with_reducible refine (C2.out _ _ Grs_1.out).mono ?_); rintro e W2 ⟨rv, rfl, h_rv, hb⟩
       have Grs_2 := Lib.hid (Grs_1.out.below hb)
       have Grv_2 := Lib.hid h_rv
       have HR2 := Lib.hid (below_tr6 HR1.out hb rfl)
       clear C2 hb h_rv)
    | (go_at_call 42; (with_reducible refine (C3.out _ (HW.out _ HR2.out) _ Grv_2.out).mono ?_); rintro e W3 ⟨ac, rfl, h_c, hb⟩
       rw [hcs] at h_c
       have Grs_3 := Lib.hid (Grs_2.out.below hb)
       have Grv_3 := Lib.hid (Grv_2.out.below hb)
       have Gc_3 := Lib.hid h_c
       have HR3 := Lib.hid (below_tr6 HR2.out hb rfl)
       clear C3 hb h_c)
    | (go_at_call 28; (with_reducible refine (C4.out _ (HW.out _ HR3.out)).mono ?_); rintro e w9 ⟨rfl, rfl⟩
       have HR4 := Lib.hid HR3.out
       clear C4)
    | (go_at_call 18; (with_reducible refine (C5.out _ (HW.out _ HR4.out) _ Gc_3.out).mono ?_); rintro e W5 ⟨rfl, hb⟩
       have Grs_5 := Lib.hid (Grs_3.out.below hb)
       have Grv_5 := Lib.hid (Grv_3.out.below hb)
       have Gc_5 := Lib.hid (Gc_3.out.below hb)
       have HR5 := Lib.hid (below_tr6 HR4.out hb rfl)
       clear C5 hb)
    | (go_at_call 21; (with_reducible refine (C6.out _ (HW.out _ HR5.out) _ Gc_5.out).mono ?_); rintro e W6 ⟨rfl, hb⟩
       have Grs_6 := Lib.hid (Grs_5.out.below hb)
       have Grv_6 := Lib.hid (Grv_5.out.below hb)
       have Gc_6 := Lib.hid (Gc_5.out.below hb)
       have HR6 := Lib.hid (below_tr6 HR5.out hb rfl)
       clear C6 hb)
    | (go_at_call 22; (with_reducible refine (C7.out _ (HW.out _ HR6.out) _ Gc_6.out).mono ?_); rintro e W7 ⟨rfl, hb⟩
       have Grs_7 := Lib.hid (Grs_6.out.below hb)
       have Grv_7 := Lib.hid (Grv_6.out.below hb)
       have Gc_7 := Lib.hid (Gc_6.out.below hb)
       have HR7 := Lib.hid (below_tr6 HR6.out hb rfl)
       clear C7 hb)
    | (fail "no arm"))
  go_ret
  exact ⟨rfl, HR7.out⟩
set_option maxRecDepth 100000 in
set_option maxHeartbeats 4000000 in
theorem RollNear_10 {IsC : World → Value → List CalT → Prop} (HBg : BegunC) (H : CalC IsC) (rv : Value) (l : List Rule) (cs : List CalT) (hcs : ([⟨rules8 l 8, []⟩] : List CalT) = cs) (n D : Int) (n0 : -9223372036854775808 ≤ n) (n1 : n ≤ 9223372036854775807) (hD : n % 109573 = D)
    (P1 : (∀ W v, Wd W → CalV H W v cs → Calls Tryz.prog 18 #[v, .int .i64 D, .int .i64 3] W fun e w' => e = .returned (.tuple #[.int .i64 0, errOf 4]) ∧ Below W.heap.size W w')) (w : World) (hw : Wd w) (hr : RulesO w rv l) :
    Calls Tryz.prog 15 #[rv, .int .i64 n, .bool true] w fun e w' => e = .returned (.bool true) ∧ Below w.heap.size w w' := by
  have hDay := fun W => Day_any n n0 n1 W
  have HW := Lib.hid (fun W (h : Below w.heap.size w W) => hw.keep h)
  have C1 := Lib.hid (fun (W : World) (hW : Wd W) => HBg W hW)
  have C2 := Lib.hid (fun (W : World) (v : Value) (h : RulesO W v l) => rules_any _ l W h)
  have C3 := Lib.hid (fun (W : World) (hW : Wd W) (v : Value) (h : RulesAt W v (rules8 l 8)) => New_drawn0 H _ l W hW h)
  have C4 := Lib.hid (fun (W : World) (hW : Wd W) => hDay W)
  have C5 := Lib.hid (fun (W : World) (hW : Wd W) (v : Value) (h : CalV H W v cs) => P1 W v hW h)
  have C6 := Lib.hid (fun (W : World) (hW : Wd W) => Same_code 4 W hW)
  have HR0 := Lib.hid (Below.refl w.heap.size w)
  have Grs_0 := Lib.hid (hr)
  rw [hD] at *
  unfold errOf at *
  clear P1
  clear hDay hr
  clear hw
  go_enter Tryz.func15, Tryz.ntmps15
  go_wp2_with (first
    | (go_at_call 20; (with_reducible refine (C1.out _ (HW.out _ HR0.out)).mono ?_); rintro e W1 ⟨rfl, hb⟩
       have Grs_1 := Lib.hid (Grs_0.out.below hb)
       have HR1 := Lib.hid (below_tr6 HR0.out hb rfl)
       clear C1 hb)
    | (go_at_call 43; (with_reducible refine (C2.out _ _ Grs_1.out).mono ?_); rintro e W2 ⟨rv, rfl, h_rv, hb⟩
       have Grs_2 := Lib.hid (Grs_1.out.below hb)
       have Grv_2 := Lib.hid h_rv
       have HR2 := Lib.hid (below_tr6 HR1.out hb rfl)
       clear C2 hb h_rv)
    | (go_at_call 42; (with_reducible refine (C3.out _ (HW.out _ HR2.out) _ Grv_2.out).mono ?_); rintro e W3 ⟨ac, rfl, h_c, hb⟩
       rw [hcs] at h_c
       have Grs_3 := Lib.hid (Grs_2.out.below hb)
       have Grv_3 := Lib.hid (Grv_2.out.below hb)
       have Gc_3 := Lib.hid h_c
       have HR3 := Lib.hid (below_tr6 HR2.out hb rfl)
       clear C3 hb h_c)
    | (go_at_call 28; (with_reducible refine (C4.out _ (HW.out _ HR3.out)).mono ?_); rintro e w9 ⟨rfl, rfl⟩
       have HR4 := Lib.hid HR3.out
       clear C4)
    | (go_at_call 18; (with_reducible refine (C5.out _ (HW.out _ HR4.out) _ Gc_3.out).mono ?_); rintro e W5 ⟨rfl, hb⟩
       have Grs_5 := Lib.hid (Grs_3.out.below hb)
       have Grv_5 := Lib.hid (Grv_3.out.below hb)
       have Gc_5 := Lib.hid (Gc_3.out.below hb)
       have HR5 := Lib.hid (below_tr6 HR4.out hb rfl)
       clear C5 hb)
    | (go_at_call 23; (with_reducible refine (C6.out _ (HW.out _ HR5.out)).mono ?_); rintro e W6 ⟨rfl, hb⟩
       have Grs_6 := Lib.hid (Grs_5.out.below hb)
       have Grv_6 := Lib.hid (Grv_5.out.below hb)
       have Gc_6 := Lib.hid (Gc_5.out.below hb)
       have HR6 := Lib.hid (below_tr6 HR5.out hb rfl)
       clear C6 hb)
    | (fail "no arm"))
  go_ret
  exact ⟨rfl, HR6.out⟩
set_option maxRecDepth 100000 in
set_option maxHeartbeats 4000000 in
theorem RollNear_01 {IsC : World → Value → List CalT → Prop} (HBg : BegunC) (H : CalC IsC) (rv : Value) (l : List Rule) (cs : List CalT) (hcs : ([⟨rules8 l 8, []⟩] : List CalT) = cs) (n D t : Int) (n0 : -9223372036854775808 ≤ n) (n1 : n ≤ 9223372036854775807) (hD : n % 109573 = D) (hb : D ≤ t)
    (P1 : (∀ W v, Wd W → CalV H W v cs → Calls Tryz.prog 18 #[v, .int .i64 D, .int .i64 1] W fun e w' => e = .returned (.tuple #[.int .i64 t, .nilIface]) ∧ Below W.heap.size W w')) (P2 : (∀ W v, Wd W → CalV H W v cs → Calls Tryz.prog 21 #[v, .int .i64 t] W fun e w' => e = .returned (.bool true) ∧ Below W.heap.size W w')) (P3 : (∀ W v, Wd W → CalV H W v cs → Calls Tryz.prog 22 #[v, .int .i64 D, .int .i64 t] W fun e w' => e = .returned (.int .i64 0) ∧ Below W.heap.size W w')) (w : World) (hw : Wd w) (hr : RulesO w rv l) :
    Calls Tryz.prog 15 #[rv, .int .i64 n, .bool false] w fun e w' => e = .returned (.bool true) ∧ Below w.heap.size w w' := by
  have hDay := fun W => Day_any n n0 n1 W
  have HW := Lib.hid (fun W (h : Below w.heap.size w W) => hw.keep h)
  have C1 := Lib.hid (fun (W : World) (hW : Wd W) => HBg W hW)
  have C2 := Lib.hid (fun (W : World) (v : Value) (h : RulesO W v l) => rules_any _ l W h)
  have C3 := Lib.hid (fun (W : World) (hW : Wd W) (v : Value) (h : RulesAt W v (rules8 l 8)) => New_drawn0 H _ l W hW h)
  have C4 := Lib.hid (fun (W : World) (hW : Wd W) => hDay W)
  have C5 := Lib.hid (fun (W : World) (hW : Wd W) (v : Value) (h : CalV H W v cs) => P1 W v hW h)
  have C6 := Lib.hid (fun (W : World) (hW : Wd W) (v : Value) (h : CalV H W v cs) => P2 W v hW h)
  have C7 := Lib.hid (fun (W : World) (hW : Wd W) (v : Value) (h : CalV H W v cs) => P3 W v hW h)
  have HR0 := Lib.hid (Below.refl w.heap.size w)
  have Grs_0 := Lib.hid (hr)
  rw [hD] at *
  clear P1 P2 P3
  clear hDay hr
  clear hw
  go_enter Tryz.func15, Tryz.ntmps15
  go_wp2_with (first
    | (go_at_call 20; (with_reducible refine (C1.out _ (HW.out _ HR0.out)).mono ?_); rintro e W1 ⟨rfl, hb⟩
       have Grs_1 := Lib.hid (Grs_0.out.below hb)
       have HR1 := Lib.hid (below_tr6 HR0.out hb rfl)
       clear C1 hb)
    | (go_at_call 43; (with_reducible refine (C2.out _ _ Grs_1.out).mono ?_); rintro e W2 ⟨rv, rfl, h_rv, hb⟩
       have Grs_2 := Lib.hid (Grs_1.out.below hb)
       have Grv_2 := Lib.hid h_rv
       have HR2 := Lib.hid (below_tr6 HR1.out hb rfl)
       clear C2 hb h_rv)
    | (go_at_call 42; (with_reducible refine (C3.out _ (HW.out _ HR2.out) _ Grv_2.out).mono ?_); rintro e W3 ⟨ac, rfl, h_c, hb⟩
       rw [hcs] at h_c
       have Grs_3 := Lib.hid (Grs_2.out.below hb)
       have Grv_3 := Lib.hid (Grv_2.out.below hb)
       have Gc_3 := Lib.hid h_c
       have HR3 := Lib.hid (below_tr6 HR2.out hb rfl)
       clear C3 hb h_c)
    | (go_at_call 28; (with_reducible refine (C4.out _ (HW.out _ HR3.out)).mono ?_); rintro e w9 ⟨rfl, rfl⟩
       have HR4 := Lib.hid HR3.out
       clear C4)
    | (go_at_call 18; (with_reducible refine (C5.out _ (HW.out _ HR4.out) _ Gc_3.out).mono ?_); rintro e W5 ⟨rfl, hb⟩
       have Grs_5 := Lib.hid (Grs_3.out.below hb)
       have Grv_5 := Lib.hid (Grv_3.out.below hb)
       have Gc_5 := Lib.hid (Gc_3.out.below hb)
       have HR5 := Lib.hid (below_tr6 HR4.out hb rfl)
       clear C5 hb)
    | (go_at_call 21; (with_reducible refine (C6.out _ (HW.out _ HR5.out) _ Gc_5.out).mono ?_); rintro e W6 ⟨rfl, hb⟩
       have Grs_6 := Lib.hid (Grs_5.out.below hb)
       have Grv_6 := Lib.hid (Grv_5.out.below hb)
       have Gc_6 := Lib.hid (Gc_5.out.below hb)
       have HR6 := Lib.hid (below_tr6 HR5.out hb rfl)
       clear C6 hb)
    | (go_at_call 22; (with_reducible refine (C7.out _ (HW.out _ HR6.out) _ Gc_6.out).mono ?_); rintro e W7 ⟨rfl, hb⟩
       have Grs_7 := Lib.hid (Grs_6.out.below hb)
       have Grv_7 := Lib.hid (Grv_6.out.below hb)
       have Gc_7 := Lib.hid (Gc_6.out.below hb)
       have HR7 := Lib.hid (below_tr6 HR6.out hb rfl)
       clear C7 hb)
    | (fail "no arm"))
  go_ret
  exact ⟨rfl, HR7.out⟩
set_option maxRecDepth 100000 in
set_option maxHeartbeats 4000000 in
theorem RollNear_00 {IsC : World → Value → List CalT → Prop} (HBg : BegunC) (H : CalC IsC) (rv : Value) (l : List Rule) (cs : List CalT) (hcs : ([⟨rules8 l 8, []⟩] : List CalT) = cs) (n D : Int) (n0 : -9223372036854775808 ≤ n) (n1 : n ≤ 9223372036854775807) (hD : n % 109573 = D)
    (P1 : (∀ W v, Wd W → CalV H W v cs → Calls Tryz.prog 18 #[v, .int .i64 D, .int .i64 1] W fun e w' => e = .returned (.tuple #[.int .i64 0, errOf 4]) ∧ Below W.heap.size W w')) (w : World) (hw : Wd w) (hr : RulesO w rv l) :
    Calls Tryz.prog 15 #[rv, .int .i64 n, .bool false] w fun e w' => e = .returned (.bool true) ∧ Below w.heap.size w w' := by
  have hDay := fun W => Day_any n n0 n1 W
  have HW := Lib.hid (fun W (h : Below w.heap.size w W) => hw.keep h)
  have C1 := Lib.hid (fun (W : World) (hW : Wd W) => HBg W hW)
  have C2 := Lib.hid (fun (W : World) (v : Value) (h : RulesO W v l) => rules_any _ l W h)
  have C3 := Lib.hid (fun (W : World) (hW : Wd W) (v : Value) (h : RulesAt W v (rules8 l 8)) => New_drawn0 H _ l W hW h)
  have C4 := Lib.hid (fun (W : World) (hW : Wd W) => hDay W)
  have C5 := Lib.hid (fun (W : World) (hW : Wd W) (v : Value) (h : CalV H W v cs) => P1 W v hW h)
  have C6 := Lib.hid (fun (W : World) (hW : Wd W) => Same_code 4 W hW)
  have HR0 := Lib.hid (Below.refl w.heap.size w)
  have Grs_0 := Lib.hid (hr)
  rw [hD] at *
  unfold errOf at *
  clear P1
  clear hDay hr
  clear hw
  go_enter Tryz.func15, Tryz.ntmps15
  go_wp2_with (first
    | (go_at_call 20; (with_reducible refine (C1.out _ (HW.out _ HR0.out)).mono ?_); rintro e W1 ⟨rfl, hb⟩
       have Grs_1 := Lib.hid (Grs_0.out.below hb)
       have HR1 := Lib.hid (below_tr6 HR0.out hb rfl)
       clear C1 hb)
    | (go_at_call 43; (with_reducible refine (C2.out _ _ Grs_1.out).mono ?_); rintro e W2 ⟨rv, rfl, h_rv, hb⟩
       have Grs_2 := Lib.hid (Grs_1.out.below hb)
       have Grv_2 := Lib.hid h_rv
       have HR2 := Lib.hid (below_tr6 HR1.out hb rfl)
       clear C2 hb h_rv)
    | (go_at_call 42; (with_reducible refine (C3.out _ (HW.out _ HR2.out) _ Grv_2.out).mono ?_); rintro e W3 ⟨ac, rfl, h_c, hb⟩
       rw [hcs] at h_c
       have Grs_3 := Lib.hid (Grs_2.out.below hb)
       have Grv_3 := Lib.hid (Grv_2.out.below hb)
       have Gc_3 := Lib.hid h_c
       have HR3 := Lib.hid (below_tr6 HR2.out hb rfl)
       clear C3 hb h_c)
    | (go_at_call 28; (with_reducible refine (C4.out _ (HW.out _ HR3.out)).mono ?_); rintro e w9 ⟨rfl, rfl⟩
       have HR4 := Lib.hid HR3.out
       clear C4)
    | (go_at_call 18; (with_reducible refine (C5.out _ (HW.out _ HR4.out) _ Gc_3.out).mono ?_); rintro e W5 ⟨rfl, hb⟩
       have Grs_5 := Lib.hid (Grs_3.out.below hb)
       have Grv_5 := Lib.hid (Grv_3.out.below hb)
       have Gc_5 := Lib.hid (Gc_3.out.below hb)
       have HR5 := Lib.hid (below_tr6 HR4.out hb rfl)
       clear C5 hb)
    | (go_at_call 23; (with_reducible refine (C6.out _ (HW.out _ HR5.out)).mono ?_); rintro e W6 ⟨rfl, hb⟩
       have Grs_6 := Lib.hid (Grs_5.out.below hb)
       have Grv_6 := Lib.hid (Grv_5.out.below hb)
       have Gc_6 := Lib.hid (Gc_5.out.below hb)
       have HR6 := Lib.hid (below_tr6 HR5.out hb rfl)
       clear C6 hb)
    | (fail "no arm"))
  go_ret
  exact ⟨rfl, HR6.out⟩
theorem RollNear_walk {IsC : World → Value → List CalT → Prop} (HBg : BegunC) (H : CalC IsC) (HR : RolC IsC) (rv : Value) (l : List Rule) (n : Int) (n0 : -9223372036854775808 ≤ n) (n1 : n ≤ 9223372036854775807) (back : Bool) (w : World) (hw : Wd w) (hr : RulesO w rv l) :
    Calls Tryz.prog 15 #[rv, .int .i64 n, .bool back] w fun e w' => e = .returned (.bool true) ∧ Below w.heap.size w w' := by
  have hd := Day_isDay n
  obtain ⟨D, hD⟩ : ∃ D, n % 109573 = D := ⟨_, rfl⟩
  rw [hD] at hd
  obtain ⟨cs, hcs⟩ : ∃ cs, ([⟨rules8 l 8, []⟩] : List CalT) = cs := ⟨_, rfl⟩
  have d0 := hd.1
  have d1 := hd.2
  cases back
  · cases ht : nextD cs 1 D with
    | none => exact RollNear_00 HBg H rv l cs hcs n D n0 n1 hD (fun W v hW hv => HR.no v cs D 1 W hW hv (fun h => by omega) hd (by decide) (by decide) ((ref6.roll_1 cs D).trans ht)) w hw hr
    | some t =>
      obtain ⟨h1, h2, h3⟩ := ref6.next_up ht
      have hT := ref6.openB_day h2
      have t0 := hT.1
      have t1 := hT.2
      exact RollNear_01 HBg H rv l cs hcs n D t n0 n1 hD h1 (fun W v hW hv => HR.yes v cs D 1 t W hW hv (fun h => by omega) hd (by decide) (by decide) ((ref6.roll_1 cs D).trans ht)) (fun W v hW hv => by have h := H.isOpen v cs t W hW hv (by omega) (by omega); rwa [h2] at h)
        (fun W v hW hv => by have h := H.count v cs D t W hW hv (by omega) (by omega) (by omega) (by omega); rwa [ref6.cnt_zero cs h3] at h) w hw hr
  · cases ht : nextD cs (-1) D with
    | none => exact RollNear_10 HBg H rv l cs hcs n D n0 n1 hD (fun W v hW hv => HR.no v cs D 3 W hW hv (fun h => by omega) hd (by decide) (by decide) ((ref6.roll_3 cs D).trans ht)) w hw hr
    | some t =>
      obtain ⟨h1, h2, h3⟩ := ref6.next_down ht
      have hT := ref6.openB_day h2
      have t0 := hT.1
      have t1 := hT.2
      have hc : cntO cs t (D + 1) = 1 := by
        rw [ref6.cnt_split cs (show t ≤ t + 1 by omega) (show t + 1 ≤ D + 1 by omega), ref6.cnt_one, if_pos h2, ref6.cnt_zero cs (a := t + 1) (b := D + 1) (fun x hx hx2 => h3 x (by omega) (by omega))]
        rfl
      exact RollNear_11 HBg H rv l cs hcs n D t n0 n1 hD d0 d1 h1 (fun W v hW hv => HR.yes v cs D 3 t W hW hv (fun h => by omega) hd (by decide) (by decide) ((ref6.roll_3 cs D).trans ht)) (fun W v hW hv => by have h := H.isOpen v cs t W hW hv (by omega) (by omega); rwa [h2] at h)
        (fun W v hW hv => by have h := H.count v cs t (D + 1) W hW hv (by omega) (by omega) (by omega) (by omega); rwa [hc] at h) w hw hr
end Go.Proofs.YtlhmfgbaefaneabGreatDoor.law6
