/-
  The steps of the walks, part 3: Lw6CalJoin.
-/
import Derived.BigQuiet
import Derived.Deep.QuietTactic
import Derived.Test.YtlhmfgbaefaneabGreatDoorB01
import Derived.Test.YtlhmfgbaefaneabGreatDoorB02
import Derived.Test.YtlhmfgbaefaneabGreatDoorB03
import Derived.Test.YtlhmfgbaefaneabGreatDoorB04
import Derived.Test.YtlhmfgbaefaneabGreatDoorB05
import Derived.Test.YtlhmfgbaefaneabGreatDoorB06
import Derived.Test.YtlhmfgbaefaneabGreatDoorB07
import Derived.Test.YtlhmfgbaefaneabGreatDoorB08
import Derived.Test.YtlhmfgbaefaneabGreatDoorB09
import Derived.Test.YtlhmfgbaefaneabGreatDoorB10
import Derived.Test.YtlhmfgbaefaneabGreatDoorB11
import Derived.Test.YtlhmfgbaefaneabGreatDoorB12
import Derived.Test.YtlhmfgbaefaneabGreatDoorB13
import Derived.Test.YtlhmfgbaefaneabGreatDoorB14
import Derived.Test.YtlhmfgbaefaneabGreatDoorB15
import Derived.Test.YtlhmfgbaefaneabGreatDoorB16
import Derived.Test.YtlhmfgbaefaneabGreatDoorB17
import Derived.Test.YtlhmfgbaefaneabGreatDoorB18
import Derived.Test.YtlhmfgbaefaneabGreatDoorB19
import Derived.Test.YtlhmfgbaefaneabGreatDoorB20
import Derived.Test.YtlhmfgbaefaneabGreatDoorB21
import Derived.Test.YtlhmfgbaefaneabGreatDoorB22
import Derived.Test.YtlhmfgbaefaneabGreatDoorB23
import Derived.Test.YtlhmfgbaefaneabGreatDoorB24
import Derived.Test.YtlhmfgbaefaneabGreatDoorB25
import Derived.Test.YtlhmfgbaefaneabGreatDoorB26
import Derived.Test.YtlhmfgbaefaneabGreatDoorB27
import Derived.Test.YtlhmfgbaefaneabGreatDoorB28
import Derived.Test.YtlhmfgbaefaneabGreatDoorB29
import Derived.Test.YtlhmfgbaefaneabGreatDoorB30
import Derived.Test.YtlhmfgbaefaneabGreatDoorB31
import Derived.Test.YtlhmfgbaefaneabGreatDoorB32
import Derived.Test.YtlhmfgbaefaneabGreatDoorB33
import Derived.Test.YtlhmfgbaefaneabGreatDoorB34
import Derived.Test.YtlhmfgbaefaneabGreatDoorB35
import Derived.Test.YtlhmfgbaefaneabGreatDoorB36
import Derived.Test.YtlhmfgbaefaneabGreatDoorB37
import Derived.Test.YtlhmfgbaefaneabGreatDoorB38
import Derived.Test.YtlhmfgbaefaneabGreatDoorB39
import Derived.Test.YtlhmfgbaefaneabGreatDoorB40
import Derived.Test.YtlhmfgbaefaneabGreatDoorLCalJoin01
import Derived.Test.YtlhmfgbaefaneabGreatDoorLCalJoin02
namespace Go.Proofs.YtlhmfgbaefaneabGreatDoor.law6
open Go Go.RowKit Go.Proofs.YtlhmfgbaefaneabGreatDoor.day Go.Proofs.YtlhmfgbaefaneabGreatDoor.date
open Go.Proofs.YtlhmfgbaefaneabGreatDoor.ref (str str_size)
open Go.Proofs.YtlhmfgbaefaneabGreatDoor.ref6 (CAt dayText DayForm quiet_same drewN_below6)
open Go.Proofs.YtlhmfgbaefaneabGreatDoor.ref6 (IntsAt RulesAt CalsAt CalT Rule May openB nextD addN cntO rollD)
def JRel {IsC : World → Value → List CalT → Prop} (H : CalC IsC) (w : World) (xv yv av : Value) (cx cy ca : List CalT) (D : Int) (dv : Value) (wr : World) : Prop :=
  ∃ d : Int, dv = .int .i64 d ∧ D - 5 ≤ d ∧ d ≤ D + 6 ∧ CalV H wr xv cx ∧ CalV H wr yv cy ∧ CalV H wr av ca ∧ Below w.heap.size w wr
set_option maxRecDepth 100000 in
set_option maxHeartbeats 4000000 in
theorem CalJoin_0 {IsC : World → Value → List CalT → Prop} (HBg : BegunC) (H : CalC IsC) (rv sv mv : Value) (l l2 : List Rule) (m : List Int) (ca cb cc : List CalT) (hca : ([⟨rules8 l 8, days8 m 8⟩] : List CalT) = ca) (hcb : ([⟨rules8 l2 8, []⟩] : List CalT) = cb) (n D : Int) (n0 : -9223372036854775808 ≤ n) (n1 : n ≤ 9223372036854775807) (hD : n % 109573 = D) (hd : IsDay D) (hcc : ([⟨[], [D]⟩] : List CalT) = cc)
    (PX : (∀ W v d, Wd W → CalV H W v (ca ++ (cb ++ cc)) → -9223372036854775808 ≤ d → d ≤ 9223372036854775807 → Calls Tryz.prog 21 #[v, .int .i64 d] W fun e w' => e = .returned (.bool (openB (ca ++ (cb ++ cc)) d)) ∧ Below W.heap.size W w')) (PY : (∀ W v d, Wd W → CalV H W v (cc ++ (cb ++ ca)) → -9223372036854775808 ≤ d → d ≤ 9223372036854775807 → Calls Tryz.prog 21 #[v, .int .i64 d] W fun e w' => e = .returned (.bool (openB (ca ++ (cb ++ cc)) d)) ∧ Below W.heap.size W w')) (PU : (∀ W v d, Wd W → CalV H W v (ca ++ ca) → -9223372036854775808 ≤ d → d ≤ 9223372036854775807 → Calls Tryz.prog 21 #[v, .int .i64 d] W fun e w' => e = .returned (.bool (openB ca d)) ∧ Below W.heap.size W w')) (PA : (∀ W v d, Wd W → CalV H W v (ca) → -9223372036854775808 ≤ d → d ≤ 9223372036854775807 → Calls Tryz.prog 21 #[v, .int .i64 d] W fun e w' => e = .returned (.bool (openB ca d)) ∧ Below W.heap.size W w')) (PZ : openB (ca ++ (cb ++ cc)) D = false) (w : World) (hw : Wd w) (hr : RulesO w rv l) (hs : RulesO w sv l2) (hm : IntsO w mv m) :
    Calls Tryz.prog 12 #[rv, sv, mv, .int .i64 n] w fun e w' => e = .returned (.bool true) ∧ Below w.heap.size w w' := by
  have hDay := fun W => Day_any n n0 n1 W
  rw [hD] at hDay
  have HW := Lib.hid (fun W (h : Below w.heap.size w W) => hw.keep h)
  have C1 := Lib.hid (fun (W : World) (hW : Wd W) => HBg W hW)
  have C2 := Lib.hid (fun (W : World) (v : Value) (h : RulesO W v l) => rules_any _ l W h)
  have C3 := Lib.hid (fun (W : World) (v : Value) (h : IntsO W v m) => days_any _ m W h)
  have C4 := Lib.hid (fun (W : World) (hW : Wd W) (v v2 : Value) (h : RulesAt W v (rules8 l 8)) (h2 : IntsAt W v2 (days8 m 8)) => New_drawn H _ _ l m W hW h h2)
  have C5 := Lib.hid (fun (W : World) (v : Value) (h : RulesO W v l2) => rules_any _ l2 W h)
  have C6 := Lib.hid (fun (W : World) (hW : Wd W) (v : Value) (h : RulesAt W v (rules8 l2 8)) => New_drawn0 H _ l2 W hW h)
  have C7 := Lib.hid (fun (W : World) (hW : Wd W) => hDay W)
  have C8 := Lib.hid (fun (W : World) (hW : Wd W) (v : Value) (h : IntsO W v [D]) => New_one H v D hd W hW h)
  have C9 := Lib.hid (fun (W : World) (hW : Wd W) (v : Value) (h : CalP H W v (ca ++ (cb ++ cc))) => Join_any H v (ca ++ (cb ++ cc)) W hW h)
  have C10 := Lib.hid (fun (W : World) (hW : Wd W) (v : Value) (h : CalP H W v (cb ++ ca)) => Join_any H v (cb ++ ca) W hW h)
  have C11 := Lib.hid (fun (W : World) (hW : Wd W) (v : Value) (h : CalP H W v (cc ++ (cb ++ ca))) => Join_any H v (cc ++ (cb ++ ca)) W hW h)
  have C12 := Lib.hid (fun (W : World) (hW : Wd W) => hDay W)
  have HR0 := Lib.hid (Below.refl w.heap.size w)
  have Grs_0 := Lib.hid (hr)
  have Gss_0 := Lib.hid (hs)
  have Gms_0 := Lib.hid (hm)
  replace PX := Lib.hid PX
  replace PY := Lib.hid PY
  replace PU := Lib.hid PU
  replace PA := Lib.hid PA
  replace PZ := Lib.hid PZ
  have HDy := Lib.hid (fun W => hDay W)
  have d0 := hd.1
  have d1 := hd.2
  clear hDay hr hs hm hD
  clear hw
  go_enter Tryz.func12, Tryz.ntmps12
  go_wp2_with (first
    | (go_at_call 20; (with_reducible refine (C1.out _ (HW.out _ HR0.out)).mono ?_); rintro e W1 ⟨rfl, hb⟩
       have Grs_1 := Lib.hid (Grs_0.out.below hb)
       have Gss_1 := Lib.hid (Gss_0.out.below hb)
       have Gms_1 := Lib.hid (Gms_0.out.below hb)
       have HR1 := Lib.hid (below_tr6 HR0.out hb rfl)
       clear C1 hb)
    | (go_at_call 43; (with_reducible refine (C2.out _ _ Grs_1.out).mono ?_); rintro e W2 ⟨rv, rfl, h_rv, hb⟩
       have Grs_2 := Lib.hid (Grs_1.out.below hb)
       have Gss_2 := Lib.hid (Gss_1.out.below hb)
       have Gms_2 := Lib.hid (Gms_1.out.below hb)
       have Grv_2 := Lib.hid h_rv
       have HR2 := Lib.hid (below_tr6 HR1.out hb rfl)
       clear C2 hb h_rv)
    | (go_at_call 44; (with_reducible refine (C3.out _ _ Gms_2.out).mono ?_); rintro e W3 ⟨mv, rfl, h_mv, hb⟩
       have Grs_3 := Lib.hid (Grs_2.out.below hb)
       have Gss_3 := Lib.hid (Gss_2.out.below hb)
       have Gms_3 := Lib.hid (Gms_2.out.below hb)
       have Grv_3 := Lib.hid (Grv_2.out.below hb)
       have Gmv_3 := Lib.hid h_mv
       have HR3 := Lib.hid (below_tr6 HR2.out hb rfl)
       clear C3 hb h_mv)
    | (go_at_call 42; (with_reducible refine (C4.out _ (HW.out _ HR3.out) _ _ Grv_3.out Gmv_3.out).mono ?_); rintro e W4 ⟨aa, rfl, h_a, hb⟩
       rw [hca] at h_a
       have Grs_4 := Lib.hid (Grs_3.out.below hb)
       have Gss_4 := Lib.hid (Gss_3.out.below hb)
       have Gms_4 := Lib.hid (Gms_3.out.below hb)
       have Grv_4 := Lib.hid (Grv_3.out.below hb)
       have Gmv_4 := Lib.hid (Gmv_3.out.below hb)
       have Ga_4 := Lib.hid h_a
       have HR4 := Lib.hid (below_tr6 HR3.out hb rfl)
       clear C4 hb h_a)
    | (go_at_call 43; (with_reducible refine (C5.out _ _ Gss_4.out).mono ?_); rintro e W5 ⟨sv, rfl, h_sv, hb⟩
       have Grs_5 := Lib.hid (Grs_4.out.below hb)
       have Gss_5 := Lib.hid (Gss_4.out.below hb)
       have Gms_5 := Lib.hid (Gms_4.out.below hb)
       have Grv_5 := Lib.hid (Grv_4.out.below hb)
       have Gmv_5 := Lib.hid (Gmv_4.out.below hb)
       have Ga_5 := Lib.hid (Ga_4.out.below hb)
       have Gsv_5 := Lib.hid h_sv
       have HR5 := Lib.hid (below_tr6 HR4.out hb rfl)
       clear C5 hb h_sv)
    | (go_at_call 42; (with_reducible refine (C6.out _ (HW.out _ HR5.out) _ Gsv_5.out).mono ?_); rintro e W6 ⟨ab, rfl, h_b, hb⟩
       rw [hcb] at h_b
       have Grs_6 := Lib.hid (Grs_5.out.below hb)
       have Gss_6 := Lib.hid (Gss_5.out.below hb)
       have Gms_6 := Lib.hid (Gms_5.out.below hb)
       have Grv_6 := Lib.hid (Grv_5.out.below hb)
       have Gmv_6 := Lib.hid (Gmv_5.out.below hb)
       have Ga_6 := Lib.hid (Ga_5.out.below hb)
       have Gsv_6 := Lib.hid (Gsv_5.out.below hb)
       have Gb_6 := Lib.hid h_b
       have HR6 := Lib.hid (below_tr6 HR5.out hb rfl)
       clear C6 hb h_b)
    | (go_at_call 28; (with_reducible refine (C7.out _ (HW.out _ HR6.out)).mono ?_); rintro e w9 ⟨rfl, rfl⟩
       have HR7 := Lib.hid HR6.out
       have Gdm_7x := Lib.hid ((show IntsO (W6.alloc (.cells #[.int .i64 D] 3)) (.slice (some ⟨W6.heap.size, 0, none⟩) 1 1) [D] from intsO_one W6 hd))
       have Grs_7 := Lib.hid (Grs_6.out.below ((Below.refl _ _).alloc (Nat.le_refl _) (.cells #[.int .i64 D] 3))); clear Grs_6
       have Gss_7 := Lib.hid (Gss_6.out.below ((Below.refl _ _).alloc (Nat.le_refl _) (.cells #[.int .i64 D] 3))); clear Gss_6
       have Gms_7 := Lib.hid (Gms_6.out.below ((Below.refl _ _).alloc (Nat.le_refl _) (.cells #[.int .i64 D] 3))); clear Gms_6
       have Grv_7 := Lib.hid (Grv_6.out.below ((Below.refl _ _).alloc (Nat.le_refl _) (.cells #[.int .i64 D] 3))); clear Grv_6
       have Gmv_7 := Lib.hid (Gmv_6.out.below ((Below.refl _ _).alloc (Nat.le_refl _) (.cells #[.int .i64 D] 3))); clear Gmv_6
       have Ga_7 := Lib.hid (Ga_6.out.below ((Below.refl _ _).alloc (Nat.le_refl _) (.cells #[.int .i64 D] 3))); clear Ga_6
       have Gsv_7 := Lib.hid (Gsv_6.out.below ((Below.refl _ _).alloc (Nat.le_refl _) (.cells #[.int .i64 D] 3))); clear Gsv_6
       have Gb_7 := Lib.hid (Gb_6.out.below ((Below.refl _ _).alloc (Nat.le_refl _) (.cells #[.int .i64 D] 3))); clear Gb_6
       have HR7a := Lib.hid (HR7.out.alloc HR7.out.size (.cells #[.int .i64 D] 3))
       clear HR7; have HR7 := HR7a; clear HR7a
       have Gdm_7 := Gdm_7x; clear Gdm_7x)
    | (go_at_call 42; (with_reducible refine (C8.out _ (HW.out _ HR7.out) _ Gdm_7.out).mono ?_); rintro e W8 ⟨ac, rfl, h_c, hb⟩
       rw [hcc] at h_c
       have Grs_8 := Lib.hid (Grs_7.out.below hb)
       have Gss_8 := Lib.hid (Gss_7.out.below hb)
       have Gms_8 := Lib.hid (Gms_7.out.below hb)
       have Grv_8 := Lib.hid (Grv_7.out.below hb)
       have Gmv_8 := Lib.hid (Gmv_7.out.below hb)
       have Ga_8 := Lib.hid (Ga_7.out.below hb)
       have Gsv_8 := Lib.hid (Gsv_7.out.below hb)
       have Gb_8 := Lib.hid (Gb_7.out.below hb)
       have Gdm_8 := Lib.hid (Gdm_7.out.below hb)
       have Gc_8 := Lib.hid h_c
       have HR8 := Lib.hid (below_tr6 HR7.out hb rfl)
       have Gp_8x := Lib.hid ((show CalP H (W8.alloc (.cells #[.pointer (some aa), .pointer (some ab), .pointer (some ac)] 22)) (.slice (some ⟨W8.heap.size, 0, none⟩) 3 3) (ca ++ (cb ++ cc)) from CalP_three Ga_8.out Gb_8.out Gc_8.out))
       have Grs_8a := Lib.hid (Grs_8.out.below ((Below.refl _ _).alloc (Nat.le_refl _) (.cells #[.pointer (some aa), .pointer (some ab), .pointer (some ac)] 22)))
       clear Grs_8; have Grs_8 := Grs_8a; clear Grs_8a
       have Gss_8a := Lib.hid (Gss_8.out.below ((Below.refl _ _).alloc (Nat.le_refl _) (.cells #[.pointer (some aa), .pointer (some ab), .pointer (some ac)] 22)))
       clear Gss_8; have Gss_8 := Gss_8a; clear Gss_8a
       have Gms_8a := Lib.hid (Gms_8.out.below ((Below.refl _ _).alloc (Nat.le_refl _) (.cells #[.pointer (some aa), .pointer (some ab), .pointer (some ac)] 22)))
       clear Gms_8; have Gms_8 := Gms_8a; clear Gms_8a
       have Grv_8a := Lib.hid (Grv_8.out.below ((Below.refl _ _).alloc (Nat.le_refl _) (.cells #[.pointer (some aa), .pointer (some ab), .pointer (some ac)] 22)))
       clear Grv_8; have Grv_8 := Grv_8a; clear Grv_8a
       have Gmv_8a := Lib.hid (Gmv_8.out.below ((Below.refl _ _).alloc (Nat.le_refl _) (.cells #[.pointer (some aa), .pointer (some ab), .pointer (some ac)] 22)))
       clear Gmv_8; have Gmv_8 := Gmv_8a; clear Gmv_8a
       have Ga_8a := Lib.hid (Ga_8.out.below ((Below.refl _ _).alloc (Nat.le_refl _) (.cells #[.pointer (some aa), .pointer (some ab), .pointer (some ac)] 22)))
       clear Ga_8; have Ga_8 := Ga_8a; clear Ga_8a
       have Gsv_8a := Lib.hid (Gsv_8.out.below ((Below.refl _ _).alloc (Nat.le_refl _) (.cells #[.pointer (some aa), .pointer (some ab), .pointer (some ac)] 22)))
       clear Gsv_8; have Gsv_8 := Gsv_8a; clear Gsv_8a
       have Gb_8a := Lib.hid (Gb_8.out.below ((Below.refl _ _).alloc (Nat.le_refl _) (.cells #[.pointer (some aa), .pointer (some ab), .pointer (some ac)] 22)))
       clear Gb_8; have Gb_8 := Gb_8a; clear Gb_8a
       have Gdm_8a := Lib.hid (Gdm_8.out.below ((Below.refl _ _).alloc (Nat.le_refl _) (.cells #[.pointer (some aa), .pointer (some ab), .pointer (some ac)] 22)))
       clear Gdm_8; have Gdm_8 := Gdm_8a; clear Gdm_8a
       have Gc_8a := Lib.hid (Gc_8.out.below ((Below.refl _ _).alloc (Nat.le_refl _) (.cells #[.pointer (some aa), .pointer (some ab), .pointer (some ac)] 22)))
       clear Gc_8; have Gc_8 := Gc_8a; clear Gc_8a
       have HR8a := Lib.hid (HR8.out.alloc HR8.out.size (.cells #[.pointer (some aa), .pointer (some ab), .pointer (some ac)] 22))
       clear HR8; have HR8 := HR8a; clear HR8a
       have Gp_8 := Gp_8x; clear Gp_8x
       clear C8 hb h_c)
    | (go_at_call 45; (with_reducible refine (C9.out _ (HW.out _ HR8.out) _ Gp_8.out).mono ?_); rintro e W9 ⟨ax, rfl, h_x, hb⟩
       have Grs_9 := Lib.hid (Grs_8.out.below hb)
       have Gss_9 := Lib.hid (Gss_8.out.below hb)
       have Gms_9 := Lib.hid (Gms_8.out.below hb)
       have Grv_9 := Lib.hid (Grv_8.out.below hb)
       have Gmv_9 := Lib.hid (Gmv_8.out.below hb)
       have Ga_9 := Lib.hid (Ga_8.out.below hb)
       have Gsv_9 := Lib.hid (Gsv_8.out.below hb)
       have Gb_9 := Lib.hid (Gb_8.out.below hb)
       have Gdm_9 := Lib.hid (Gdm_8.out.below hb)
       have Gc_9 := Lib.hid (Gc_8.out.below hb)
       have Gp_9 := Lib.hid (Gp_8.out.below hb)
       have Gx_9 := Lib.hid h_x
       have HR9 := Lib.hid (below_tr6 HR8.out hb rfl)
       have Gq_9x := Lib.hid ((show CalP H (W9.alloc (.cells #[.pointer (some ab), .pointer (some aa)] 22)) (.slice (some ⟨W9.heap.size, 0, none⟩) 2 2) (cb ++ ca) from CalP_two Gb_9.out Ga_9.out))
       have Grs_9a := Lib.hid (Grs_9.out.below ((Below.refl _ _).alloc (Nat.le_refl _) (.cells #[.pointer (some ab), .pointer (some aa)] 22)))
       clear Grs_9; have Grs_9 := Grs_9a; clear Grs_9a
       have Gss_9a := Lib.hid (Gss_9.out.below ((Below.refl _ _).alloc (Nat.le_refl _) (.cells #[.pointer (some ab), .pointer (some aa)] 22)))
       clear Gss_9; have Gss_9 := Gss_9a; clear Gss_9a
       have Gms_9a := Lib.hid (Gms_9.out.below ((Below.refl _ _).alloc (Nat.le_refl _) (.cells #[.pointer (some ab), .pointer (some aa)] 22)))
       clear Gms_9; have Gms_9 := Gms_9a; clear Gms_9a
       have Grv_9a := Lib.hid (Grv_9.out.below ((Below.refl _ _).alloc (Nat.le_refl _) (.cells #[.pointer (some ab), .pointer (some aa)] 22)))
       clear Grv_9; have Grv_9 := Grv_9a; clear Grv_9a
       have Gmv_9a := Lib.hid (Gmv_9.out.below ((Below.refl _ _).alloc (Nat.le_refl _) (.cells #[.pointer (some ab), .pointer (some aa)] 22)))
       clear Gmv_9; have Gmv_9 := Gmv_9a; clear Gmv_9a
       have Ga_9a := Lib.hid (Ga_9.out.below ((Below.refl _ _).alloc (Nat.le_refl _) (.cells #[.pointer (some ab), .pointer (some aa)] 22)))
       clear Ga_9; have Ga_9 := Ga_9a; clear Ga_9a
       have Gsv_9a := Lib.hid (Gsv_9.out.below ((Below.refl _ _).alloc (Nat.le_refl _) (.cells #[.pointer (some ab), .pointer (some aa)] 22)))
       clear Gsv_9; have Gsv_9 := Gsv_9a; clear Gsv_9a
       have Gb_9a := Lib.hid (Gb_9.out.below ((Below.refl _ _).alloc (Nat.le_refl _) (.cells #[.pointer (some ab), .pointer (some aa)] 22)))
       clear Gb_9; have Gb_9 := Gb_9a; clear Gb_9a
       have Gdm_9a := Lib.hid (Gdm_9.out.below ((Below.refl _ _).alloc (Nat.le_refl _) (.cells #[.pointer (some ab), .pointer (some aa)] 22)))
       clear Gdm_9; have Gdm_9 := Gdm_9a; clear Gdm_9a
       have Gc_9a := Lib.hid (Gc_9.out.below ((Below.refl _ _).alloc (Nat.le_refl _) (.cells #[.pointer (some ab), .pointer (some aa)] 22)))
       clear Gc_9; have Gc_9 := Gc_9a; clear Gc_9a
       have Gp_9a := Lib.hid (Gp_9.out.below ((Below.refl _ _).alloc (Nat.le_refl _) (.cells #[.pointer (some ab), .pointer (some aa)] 22)))
       clear Gp_9; have Gp_9 := Gp_9a; clear Gp_9a
       have Gx_9a := Lib.hid (Gx_9.out.below ((Below.refl _ _).alloc (Nat.le_refl _) (.cells #[.pointer (some ab), .pointer (some aa)] 22)))
       clear Gx_9; have Gx_9 := Gx_9a; clear Gx_9a
       have HR9a := Lib.hid (HR9.out.alloc HR9.out.size (.cells #[.pointer (some ab), .pointer (some aa)] 22))
       clear HR9; have HR9 := HR9a; clear HR9a
       have Gq_9 := Gq_9x; clear Gq_9x
       clear C9 hb h_x)
    | (go_at_call 45; (with_reducible refine (C10.out _ (HW.out _ HR9.out) _ Gq_9.out).mono ?_); rintro e W10 ⟨az, rfl, h_z, hb⟩
       have Grs_10 := Lib.hid (Grs_9.out.below hb)
       have Gss_10 := Lib.hid (Gss_9.out.below hb)
       have Gms_10 := Lib.hid (Gms_9.out.below hb)
       have Grv_10 := Lib.hid (Grv_9.out.below hb)
       have Gmv_10 := Lib.hid (Gmv_9.out.below hb)
       have Ga_10 := Lib.hid (Ga_9.out.below hb)
       have Gsv_10 := Lib.hid (Gsv_9.out.below hb)
       have Gb_10 := Lib.hid (Gb_9.out.below hb)
       have Gdm_10 := Lib.hid (Gdm_9.out.below hb)
       have Gc_10 := Lib.hid (Gc_9.out.below hb)
       have Gp_10 := Lib.hid (Gp_9.out.below hb)
       have Gx_10 := Lib.hid (Gx_9.out.below hb)
       have Gq_10 := Lib.hid (Gq_9.out.below hb)
       have Gz_10 := Lib.hid h_z
       have HR10 := Lib.hid (below_tr6 HR9.out hb rfl)
       have Gr_10x := Lib.hid ((show CalP H (W10.alloc (.cells #[.pointer (some ac), .pointer az] 22)) (.slice (some ⟨W10.heap.size, 0, none⟩) 2 2) (cc ++ (cb ++ ca)) from CalP_two Gc_10.out Gz_10.out))
       have Grs_10a := Lib.hid (Grs_10.out.below ((Below.refl _ _).alloc (Nat.le_refl _) (.cells #[.pointer (some ac), .pointer az] 22)))
       clear Grs_10; have Grs_10 := Grs_10a; clear Grs_10a
       have Gss_10a := Lib.hid (Gss_10.out.below ((Below.refl _ _).alloc (Nat.le_refl _) (.cells #[.pointer (some ac), .pointer az] 22)))
       clear Gss_10; have Gss_10 := Gss_10a; clear Gss_10a
       have Gms_10a := Lib.hid (Gms_10.out.below ((Below.refl _ _).alloc (Nat.le_refl _) (.cells #[.pointer (some ac), .pointer az] 22)))
       clear Gms_10; have Gms_10 := Gms_10a; clear Gms_10a
       have Grv_10a := Lib.hid (Grv_10.out.below ((Below.refl _ _).alloc (Nat.le_refl _) (.cells #[.pointer (some ac), .pointer az] 22)))
       clear Grv_10; have Grv_10 := Grv_10a; clear Grv_10a
       have Gmv_10a := Lib.hid (Gmv_10.out.below ((Below.refl _ _).alloc (Nat.le_refl _) (.cells #[.pointer (some ac), .pointer az] 22)))
       clear Gmv_10; have Gmv_10 := Gmv_10a; clear Gmv_10a
       have Ga_10a := Lib.hid (Ga_10.out.below ((Below.refl _ _).alloc (Nat.le_refl _) (.cells #[.pointer (some ac), .pointer az] 22)))
       clear Ga_10; have Ga_10 := Ga_10a; clear Ga_10a
       have Gsv_10a := Lib.hid (Gsv_10.out.below ((Below.refl _ _).alloc (Nat.le_refl _) (.cells #[.pointer (some ac), .pointer az] 22)))
       clear Gsv_10; have Gsv_10 := Gsv_10a; clear Gsv_10a
       have Gb_10a := Lib.hid (Gb_10.out.below ((Below.refl _ _).alloc (Nat.le_refl _) (.cells #[.pointer (some ac), .pointer az] 22)))
       clear Gb_10; have Gb_10 := Gb_10a; clear Gb_10a
       have Gdm_10a := Lib.hid (Gdm_10.out.below ((Below.refl _ _).alloc (Nat.le_refl _) (.cells #[.pointer (some ac), .pointer az] 22)))
       clear Gdm_10; have Gdm_10 := Gdm_10a; clear Gdm_10a
       have Gc_10a := Lib.hid (Gc_10.out.below ((Below.refl _ _).alloc (Nat.le_refl _) (.cells #[.pointer (some ac), .pointer az] 22)))
       clear Gc_10; have Gc_10 := Gc_10a; clear Gc_10a
       have Gp_10a := Lib.hid (Gp_10.out.below ((Below.refl _ _).alloc (Nat.le_refl _) (.cells #[.pointer (some ac), .pointer az] 22)))
       clear Gp_10; have Gp_10 := Gp_10a; clear Gp_10a
       have Gx_10a := Lib.hid (Gx_10.out.below ((Below.refl _ _).alloc (Nat.le_refl _) (.cells #[.pointer (some ac), .pointer az] 22)))
       clear Gx_10; have Gx_10 := Gx_10a; clear Gx_10a
       have Gq_10a := Lib.hid (Gq_10.out.below ((Below.refl _ _).alloc (Nat.le_refl _) (.cells #[.pointer (some ac), .pointer az] 22)))
       clear Gq_10; have Gq_10 := Gq_10a; clear Gq_10a
       have Gz_10a := Lib.hid (Gz_10.out.below ((Below.refl _ _).alloc (Nat.le_refl _) (.cells #[.pointer (some ac), .pointer az] 22)))
       clear Gz_10; have Gz_10 := Gz_10a; clear Gz_10a
       have HR10a := Lib.hid (HR10.out.alloc HR10.out.size (.cells #[.pointer (some ac), .pointer az] 22))
       clear HR10; have HR10 := HR10a; clear HR10a
       have Gr_10 := Gr_10x; clear Gr_10x
       clear C10 hb h_z)
    | (go_at_call 45; (with_reducible refine (C11.out _ (HW.out _ HR10.out) _ Gr_10.out).mono ?_); rintro e W11 ⟨ay, rfl, h_y, hb⟩
       have Grs_11 := Lib.hid (Grs_10.out.below hb)
       have Gss_11 := Lib.hid (Gss_10.out.below hb)
       have Gms_11 := Lib.hid (Gms_10.out.below hb)
       have Grv_11 := Lib.hid (Grv_10.out.below hb)
       have Gmv_11 := Lib.hid (Gmv_10.out.below hb)
       have Ga_11 := Lib.hid (Ga_10.out.below hb)
       have Gsv_11 := Lib.hid (Gsv_10.out.below hb)
       have Gb_11 := Lib.hid (Gb_10.out.below hb)
       have Gdm_11 := Lib.hid (Gdm_10.out.below hb)
       have Gc_11 := Lib.hid (Gc_10.out.below hb)
       have Gp_11 := Lib.hid (Gp_10.out.below hb)
       have Gx_11 := Lib.hid (Gx_10.out.below hb)
       have Gq_11 := Lib.hid (Gq_10.out.below hb)
       have Gz_11 := Lib.hid (Gz_10.out.below hb)
       have Gr_11 := Lib.hid (Gr_10.out.below hb)
       have Gy_11 := Lib.hid h_y
       have HR11 := Lib.hid (below_tr6 HR10.out hb rfl)
       clear C11 hb h_y)
    | (go_at_call 28; (with_reducible refine (C12.out _ (HW.out _ HR11.out)).mono ?_); rintro e w9 ⟨rfl, rfl⟩
       have HR12 := Lib.hid HR11.out
       clear C12)
    | (fail "no arm"))
  have HJ := Lib.hid (fun W v h1 h2 => Join_any H v (ca ++ ca) W h1 h2)
  go_loopw [18] (fun dv wr => JRel H w (.pointer ax) (.pointer ay) (.pointer (some aa)) (ca ++ (cb ++ cc)) (cc ++ (cb ++ ca)) ca D dv wr) (fun dv _ => (D + 6 - intOf dv).toNat)
  case atStart => exact ⟨D - 5, rfl, by omega, by omega, Gx_11.out, Gy_11.out, Ga_11.out, HR12.out⟩
  case round =>
    obtain ⟨d, rfl, e0, e1, hx, hy, ha, hb⟩ := hrel
    have X0 := Lib.hid hx
    have Y0 := Lib.hid hy
    have A0 := Lib.hid ha
    have B0 := Lib.hid hb
    clear hx hy ha hb
    by_cases hlt : d < D + 6
    · have HX := Lib.hid (fun W h1 h2 => PX.out W (.pointer ax) d h1 h2 (by omega) (by omega))
      have HY := Lib.hid (fun W h1 h2 => PY.out W (.pointer ay) d h1 h2 (by omega) (by omega))
      have HU := Lib.hid (fun W v h1 h2 => PU.out W v d h1 h2 (by omega) (by omega))
      have HA := Lib.hid (fun W h1 h2 => PA.out W (.pointer (some aa)) d h1 h2 (by omega) (by omega))
      generalize openB (ca ++ (cb ++ cc)) d = bx at *
      generalize openB ca d = ba at *
      go_wp2_with (first
        | (go_at_call 28; (with_reducible refine (HDy.out _).mono ?_); rintro e w9 ⟨rfl, rfl⟩)
        | (go_at_call 21; (with_reducible refine (HX.out _ (HW.out _ B0.out) X0.out).mono ?_); rintro e V1 ⟨rfl, hb⟩; have X1 := Lib.hid (X0.out.below hb); have Y1 := Lib.hid (Y0.out.below hb); have A1 := Lib.hid (A0.out.below hb); have B1 := Lib.hid (B0.out.trans (hb.mono B0.out.size)); clear hb)
        | (go_at_call 21; (with_reducible refine (HY.out _ (HW.out _ B1.out) Y1.out).mono ?_); rintro e V2 ⟨rfl, hb⟩; have X2 := Lib.hid ((X1.out.below hb).below ((Below.refl _ _).alloc (Nat.le_refl _) (.cells #[.pointer (some aa), .pointer (some aa)] 22))); have Y2 := Lib.hid ((Y1.out.below hb).below ((Below.refl _ _).alloc (Nat.le_refl _) (.cells #[.pointer (some aa), .pointer (some aa)] 22))); have A2 := Lib.hid ((A1.out.below hb).below ((Below.refl _ _).alloc (Nat.le_refl _) (.cells #[.pointer (some aa), .pointer (some aa)] 22))); have P2 := Lib.hid (show CalP H (V2.alloc (.cells #[.pointer (some aa), .pointer (some aa)] 22)) (.slice (some ⟨V2.heap.size, 0, none⟩) 2 2) (ca ++ ca) from CalP_two (A1.out.below hb) (A1.out.below hb)); have B2 := Lib.hid ((B1.out.trans (hb.mono B1.out.size)).alloc (B1.out.trans (hb.mono B1.out.size)).size (.cells #[.pointer (some aa), .pointer (some aa)] 22)); clear hb)
        | (go_at_call 45; (with_reducible refine (HJ.out _ _ (HW.out _ B2.out) P2.out).mono ?_); rintro e V3 ⟨au, rfl, hu, hb⟩; have X3 := Lib.hid (X2.out.below hb); have Y3 := Lib.hid (Y2.out.below hb); have A3 := Lib.hid (A2.out.below hb); have U3 := Lib.hid hu; have B3 := Lib.hid (B2.out.trans (hb.mono B2.out.size)); clear hb hu)
        | (go_at_call 21; (with_reducible refine (HU.out _ _ (HW.out _ B3.out) U3.out).mono ?_); rintro e V4 ⟨rfl, hb⟩; have X4 := Lib.hid (X3.out.below hb); have Y4 := Lib.hid (Y3.out.below hb); have A4 := Lib.hid (A3.out.below hb); have B4 := Lib.hid (B3.out.trans (hb.mono B3.out.size)); clear hb)
        | (go_at_call 21; (with_reducible refine (HA.out _ (HW.out _ B4.out) A4.out).mono ?_); rintro e V5 ⟨rfl, hb⟩; have X5 := Lib.hid (X4.out.below hb); have Y5 := Lib.hid (Y4.out.below hb); have A5 := Lib.hid (A4.out.below hb); have B5 := Lib.hid (B4.out.trans (hb.mono B4.out.size)); clear hb)
        | (fail "no arm"))
      go_roundw
      case rel => exact ⟨d + 1, by go_num, by omega, by omega, X5.out, Y5.out, A5.out, B5.out⟩
      case measure => simp [intOf] <;> omega
    · have HX := Lib.hid (fun W h1 h2 => PX.out W (.pointer ax) D h1 h2 (by omega) (by omega))
      rw [PZ.out] at HX
      go_wp2_with (first
        | (go_at_call 28; (with_reducible refine (HDy.out _).mono ?_); rintro e w9 ⟨rfl, rfl⟩)
        | (go_at_call 21; (with_reducible refine (HX.out _ (HW.out _ B0.out) X0.out).mono ?_); rintro e V1 ⟨rfl, hb⟩; have B1 := Lib.hid (B0.out.trans (hb.mono B0.out.size)); clear hb)
        | (fail "no arm"))
      go_ret
      exact ⟨rfl, B1.out⟩
theorem CalJoin_walk {IsC : World → Value → List CalT → Prop} (HBg : BegunC) (H : CalC IsC) (rv sv mv : Value) (l l2 : List Rule) (m : List Int) (n : Int) (n0 : -9223372036854775808 ≤ n) (n1 : n ≤ 9223372036854775807) (w : World) (hw : Wd w) (hr : RulesO w rv l) (hs : RulesO w sv l2) (hm : IntsO w mv m) :
    Calls Tryz.prog 12 #[rv, sv, mv, .int .i64 n] w fun e w' => e = .returned (.bool true) ∧ Below w.heap.size w w' := by
  have hd := Day_isDay n
  obtain ⟨D, hD⟩ : ∃ D, n % 109573 = D := ⟨_, rfl⟩
  rw [hD] at hd
  obtain ⟨ca, hca⟩ : ∃ cs, ([⟨rules8 l 8, days8 m 8⟩] : List CalT) = cs := ⟨_, rfl⟩
  obtain ⟨cb, hcb⟩ : ∃ cs, ([⟨rules8 l2 8, []⟩] : List CalT) = cs := ⟨_, rfl⟩
  obtain ⟨cc, hcc⟩ : ∃ cs, ([⟨[], [D]⟩] : List CalT) = cs := ⟨_, rfl⟩
  have hZ : openB (ca ++ (cb ++ cc)) D = false := by
    rw [ref6.openB_append, ref6.openB_append, ← hcc, ref6.openB_more (show D ∈ [D] from List.mem_singleton.2 rfl), Bool.and_false, Bool.and_false]
  exact CalJoin_0 HBg H rv sv mv l l2 m ca cb cc hca hcb n D n0 n1 hD hd hcc (fun W v d h1 h2 h3 h4 => H.isOpen v _ d W h1 h2 h3 h4)
    (fun W v d h1 h2 h3 h4 => by
      have h := H.isOpen v _ d W h1 h2 h3 h4
      rwa [ref6.openB_mem (cs' := ca ++ (cb ++ cc)) (fun c => by simp only [List.mem_append]; constructor <;> (rintro (h | h | h) <;> simp [h])) d] at h)
    (fun W v d h1 h2 h3 h4 => by
      have h := H.isOpen v _ d W h1 h2 h3 h4
      rwa [ref6.openB_append, Bool.and_self] at h)
    (fun W v d h1 h2 h3 h4 => H.isOpen v _ d W h1 h2 h3 h4) hZ w hw hr hs hm
end Go.Proofs.YtlhmfgbaefaneabGreatDoor.law6
