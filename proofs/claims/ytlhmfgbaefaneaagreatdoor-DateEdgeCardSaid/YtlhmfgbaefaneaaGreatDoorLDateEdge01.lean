/-
  The steps of the walks, part 1: RefDay, DateT, Code, Law6Kit, Lw6DateEdge, Read, RefMul.
-/
import Derived.Test.YtlhmfgbaefaneaaGreatDoorProg
import Derived.WalkKit
import Derived.WalkSpells
import Derived.Lib.Hide
import Derived.OwnWalk
import Derived.Below
import Derived.Carry
import Derived.Outline
import Derived.Deep.Draws
import Derived.BigQuiet
import Derived.Deep.QuietTactic
import Derived.Laws.BitsLemmas
import Derived.Laws.MakeOwn
import Derived.Test.YtlhmfgbaefaneaaGreatDoorB01
import Derived.Test.YtlhmfgbaefaneaaGreatDoorB02
import Derived.Test.YtlhmfgbaefaneaaGreatDoorB03
import Derived.Test.YtlhmfgbaefaneaaGreatDoorB04
import Derived.Test.YtlhmfgbaefaneaaGreatDoorB05
import Derived.Test.YtlhmfgbaefaneaaGreatDoorB06
import Derived.Test.YtlhmfgbaefaneaaGreatDoorB07
import Derived.Test.YtlhmfgbaefaneaaGreatDoorB08
import Derived.Test.YtlhmfgbaefaneaaGreatDoorB09
import Derived.Test.YtlhmfgbaefaneaaGreatDoorB10
import Derived.Test.YtlhmfgbaefaneaaGreatDoorB11
import Derived.Test.YtlhmfgbaefaneaaGreatDoorB12
import Derived.Test.YtlhmfgbaefaneaaGreatDoorB13
import Derived.Test.YtlhmfgbaefaneaaGreatDoorB14
import Derived.Test.YtlhmfgbaefaneaaGreatDoorB15
import Derived.Test.YtlhmfgbaefaneaaGreatDoorB16
import Derived.Test.YtlhmfgbaefaneaaGreatDoorB17
import Derived.Test.YtlhmfgbaefaneaaGreatDoorB18
import Derived.Test.YtlhmfgbaefaneaaGreatDoorB19
import Derived.Test.YtlhmfgbaefaneaaGreatDoorB20
import Derived.Test.YtlhmfgbaefaneaaGreatDoorB21
import Derived.Test.YtlhmfgbaefaneaaGreatDoorB22
namespace Go.Proofs.YtlhmfgbaefaneaaGreatDoor.ref6
open Go Go.RowKit Go.Proofs.YtlhmfgbaefaneaaGreatDoor.day
set_option maxRecDepth 100000 in
set_option maxHeartbeats 4000000 in
theorem Leap_any (y : Int) (w : World) :
    Calls Tryz.prog 32 #[.int .i64 y] w fun e w' => e = .returned (.bool (leap y)) ∧ w = w' := by
  have KEY := Lib.hid (show leap y = (y.tmod 4 == 0 && (y.tmod 100 != 0 || y.tmod 400 == 0)) from by rw [tmod_zero, tmod_ne, tmod_zero]; rfl)
  go_enter Tryz.func32, Tryz.ntmps32
  go_wp2
  all_goals
    go_ret
    refine ⟨?_, rfl⟩
    rw [KEY.out]
    simp [*]
set_option maxRecDepth 100000 in
set_option maxHeartbeats 4000000 in
theorem Length_any (y m : Int) (w : World) :
    Calls Tryz.prog 34 #[.int .i64 y, .int .i64 m] w fun e w' => e = .returned (.int .i64 (mlen y m)) ∧ w = w' := by
  have HL := Lib.hid (fun W => Leap_any y W)
  cases hl : leap y
  all_goals
    rw [hl] at HL
    have HY := Lib.hid hl
    clear hl
    go_enter Tryz.func34, Tryz.ntmps34
    go_wp2_with (go_at_call 32; (with_reducible refine (HL.out _).mono ?_); rintro e w1 ⟨rfl, rfl⟩; clear HL)
    all_goals
      go_ret
      refine ⟨?_, rfl⟩
      simp only [beq_iff_eq, beq_eq_false_iff_ne, ne_eq] at *
      simp [mlen, HY.out, *]
end Go.Proofs.YtlhmfgbaefaneaaGreatDoor.ref6
namespace Go.Proofs.YtlhmfgbaefaneaaGreatDoor.date
open Go Go.RowKit Go.Proofs.YtlhmfgbaefaneaaGreatDoor.day
open Go.Proofs.YtlhmfgbaefaneaaGreatDoor.ref (str str_size str_append ch seg IsDig seg_lt pad pad_dec pad_nought pad_length)
open Go.Proofs.YtlhmfgbaefaneaaGreatDoor.ref6 (CAt dayText DayForm quiet_same drewN_below6)
open Go.Proofs.YtlhmfgbaefaneaaGreatDoor.itoa (Tab)
set_option maxRecDepth 100000 in
set_option maxHeartbeats 4000000 in
theorem Text_no (n : Int) (h : ¬ IsDay n) (w : World) :
    Calls Tryz.prog 23 #[.int .i64 n] w fun e w' => e = .returned (.string (str [])) ∧ Below w.heap.size w w' := by
  have HC := Lib.hid (fun W => Civil_no n h W)
  unfold errOf at HC
  clear h
  go_enter Tryz.func23, Tryz.ntmps23
  go_wp2_with (first
    | (go_at_call 20; (with_reducible refine (HC.out _).mono ?_); rintro e w1 ⟨rfl, hb⟩; have HB1 := Lib.hid hb; clear hb HC)
    | (fail "no arm"))
  go_ret
  exact ⟨rfl, HB1.out.alloc HB1.out.size _⟩
end Go.Proofs.YtlhmfgbaefaneaaGreatDoor.date
namespace Go.Proofs.YtlhmfgbaefaneaaGreatDoor.flt
open Go.RowKit Go.Extern.Stop Go.Stop Go.Extern
theorem Code_plain (c : Int) (w : World) (hg : Handle w) :
    Calls Tryz.prog 80 #[.iface 128 (.int .i64 c)] w fun ev w' => ev = .returned (.int .i64 c) ∧ Below w.heap.size w w' :=
  Code_hit _ _ c w ((first_plain c w hg).mono fun _ _ ⟨b, he, _, hb, hk⟩ => ⟨b, he, hb, by simp [World.cell?, hk]⟩)
end Go.Proofs.YtlhmfgbaefaneaaGreatDoor.flt
namespace Go.Proofs.YtlhmfgbaefaneaaGreatDoor.law6
open Go Go.RowKit Go.Proofs.YtlhmfgbaefaneaaGreatDoor.day Go.Proofs.YtlhmfgbaefaneaaGreatDoor.date
open Go.Proofs.YtlhmfgbaefaneaaGreatDoor.ref (str str_size)
open Go.Proofs.YtlhmfgbaefaneaaGreatDoor.ref6 (CAt dayText DayForm quiet_same drewN_below6)
open Go.Proofs.YtlhmfgbaefaneaaGreatDoor.itoa (Tab)
set_option maxRecDepth 100000 in
theorem Same_code (c : Int) (w : World) (h : Wd w) :
    Calls Tryz.prog 29 #[errOf c, .int .i64 c] w fun e w' => e = .returned (.bool true) ∧ Below w.heap.size w w' := by
  unfold errOf
  have HC := Lib.hid (flt.Code_plain c w h.hd)
  clear h
  go_enter Tryz.func29, Tryz.ntmps29
  go_wp2_with (first
    | (go_at_call 80; (with_reducible refine (HC.out).mono ?_); rintro e w1 ⟨rfl, hb⟩; have HB := Lib.hid hb; clear hb)
    | (fail "no arm"))
  go_ret
  exact ⟨rfl, HB.out⟩
theorem Text_none (n : Int) (h : ¬ IsDay n) (w : World) :
    Calls Tryz.prog 23 #[.int .i64 n] w fun e w' => e = .returned (.string ⟨#[]⟩) ∧ Below w.heap.size w w' := Text_no n h w
end Go.Proofs.YtlhmfgbaefaneaaGreatDoor.law6
namespace Go.Proofs.YtlhmfgbaefaneaaGreatDoor.law6
open Go Go.RowKit Go.Proofs.YtlhmfgbaefaneaaGreatDoor.day Go.Proofs.YtlhmfgbaefaneaaGreatDoor.date
open Go.Proofs.YtlhmfgbaefaneaaGreatDoor.ref (str str_size)
open Go.Proofs.YtlhmfgbaefaneaaGreatDoor.ref6 (CAt dayText DayForm quiet_same drewN_below6)
set_option maxRecDepth 100000 in
set_option maxHeartbeats 4000000 in
theorem DateEdge_walk (HBg : BegunC) (n : Int) (n0 : -9223372036854775808 ≤ n) (n1 : n ≤ 9223372036854775807) (y : Int) (m : Int) (w : World) (hw : Wd w) :
    Calls Tryz.prog 4 #[.int .i64 n, .int .i64 y, .int .i64 m] w fun e w' => e = .returned (.bool true) ∧ Below w.heap.size w w' := by
  obtain ⟨N, hN, hcase⟩ : ∃ N, ¬ IsDay N ∧ ((0 ≤ n ∧ n ≤ 109572 ∧ N = -n - 1) ∨ (n < 0 ∧ N = n) ∨ (0 ≤ n ∧ 109572 < n ∧ N = n)) := by
    rcases (show (0 ≤ n ∧ n ≤ 109572) ∨ n < 0 ∨ (0 ≤ n ∧ 109572 < n) by omega) with ⟨h1, h2⟩ | h | ⟨h1, h2⟩
    · exact ⟨-n - 1, by unfold IsDay; omega, Or.inl ⟨h1, h2, rfl⟩⟩
    · exact ⟨n, by unfold IsDay; omega, Or.inr (Or.inl ⟨h, rfl⟩)⟩
    · exact ⟨n, by unfold IsDay; omega, Or.inr (Or.inr ⟨h1, h2, rfl⟩)⟩
  have HW := Lib.hid (fun W (h : Below w.heap.size w W) => hw.keep h)
  have C1 := Lib.hid (fun (W : World) (hW : Wd W) => HBg W hW)
  have C2 := Lib.hid (fun (W : World) (hW : Wd W) => Civil_no N hN W)
  have C3 := Lib.hid (fun (W : World) (hW : Wd W) => Same_code 4 W hW)
  have C4 := Lib.hid (fun (W : World) (hW : Wd W) => Weekday_none N hN W)
  have C5 := Lib.hid (fun (W : World) (hW : Wd W) => Text_none N hN W)
  have C6 := Lib.hid (fun (W : World) (hW : Wd W) (yy : Int) => Leap_any yy W)
  have C7 := Lib.hid (fun (W : World) (hW : Wd W) (yy : Int) => ref6.Leap_any yy W)
  have C8 := Lib.hid (fun (W : World) (hW : Wd W) (yy mm : Int) => Length_any yy mm W hW.lens)
  have C9 := Lib.hid (fun (W : World) (hW : Wd W) (yy mm : Int) => ref6.Length_any yy mm W)
  have HR0 := Lib.hid (Below.refl w.heap.size w)
  unfold errOf at *
  clear hN
  clear hw
  rcases hcase with ⟨a1, a2, rfl⟩ | ⟨a1, rfl⟩ | ⟨a1, a2, rfl⟩
  all_goals
    go_enter Tryz.func4, Tryz.ntmps4
    go_wp2_with (first
      | (go_at_call 17; (with_reducible refine (C1.out _ (HW.out _ HR0.out)).mono ?_); rintro e W1 ⟨rfl, hb⟩
         have HR1 := Lib.hid (below_tr6 HR0.out hb rfl)
         clear C1 hb)
      | (go_at_call 20; (with_reducible refine (C2.out _ (HW.out _ HR1.out)).mono ?_); rintro e W2 ⟨rfl, hb⟩
         have M2_0 := Lib.hid (CAt.new W2 0 0 0)
         have HR2 := Lib.hid (Below.alloc (below_tr6 HR1.out hb rfl) (Below.size (below_tr6 HR1.out hb rfl)) (.cells #[.int .i64 0, .int .i64 0, .int .i64 0] 23))
         obtain ⟨q2_0_0, q2_0_1, q2_0_2, -⟩ := M2_0.out.cells
         clear C2 hb)
      | (go_at_call 29; (with_reducible refine (C3.out _ (HW.out _ HR2.out)).mono ?_); rintro e W3 ⟨rfl, hb⟩
         have M3_0 := Lib.hid (M2_0.out.below hb)
         have HR3 := Lib.hid (below_tr6 HR2.out hb rfl)
         obtain ⟨q3_0_0, q3_0_1, q3_0_2, -⟩ := M3_0.out.cells
         clear q2_0_0 q2_0_1 q2_0_2 C3 hb)
      | (go_at_call 26; (with_reducible refine (C4.out _ (HW.out _ HR3.out)).mono ?_); rintro e w9 ⟨rfl, rfl⟩
         have HR4 := Lib.hid HR3.out
         clear C4)
      | (go_at_call 23; (with_reducible refine (C5.out _ (HW.out _ HR4.out)).mono ?_); rintro e W5 ⟨rfl, hb⟩
         have M5_0 := Lib.hid (M3_0.out.below hb)
         have HR5 := Lib.hid (below_tr6 HR4.out hb rfl)
         obtain ⟨q5_0_0, q5_0_1, q5_0_2, -⟩ := M5_0.out.cells
         clear q3_0_0 q3_0_1 q3_0_2 C5 hb)
      | (go_at_call 31; (with_reducible refine (C6.out _ (HW.out _ HR5.out) _).mono ?_); rintro e w9 ⟨rfl, rfl⟩
         have HR6 := Lib.hid HR5.out
         clear C6)
      | (go_at_call 32; (with_reducible refine (C7.out _ (HW.out _ HR6.out) _).mono ?_); rintro e w9 ⟨rfl, rfl⟩
         have HR7 := Lib.hid HR6.out
         clear C7)
      | (go_at_call 33; (with_reducible refine (C8.out _ (HW.out _ HR7.out) _ _).mono ?_); rintro e w9 ⟨rfl, rfl⟩
         have HR8 := Lib.hid HR7.out
         clear C8)
      | (go_at_call 34; (with_reducible refine (C9.out _ (HW.out _ HR8.out) _ _).mono ?_); rintro e w9 ⟨rfl, rfl⟩
         have HR9 := Lib.hid HR8.out
         clear C9)
      | (fail "no arm"))
    go_ret
    exact ⟨rfl, HR9.out⟩
end Go.Proofs.YtlhmfgbaefaneaaGreatDoor.law6
namespace Go.Proofs.YtlhmfgbaefaneaaGreatDoor.ref
open Go.RowKit
theorem Reads.of_own {w : World} {base : Nat} {sv : Value} {l : List Nat} (h : w.ownsRow base 104 1 sv l.length (l.map fun d => Value.int .u64 (d : Nat))) : Reads w sv l := by
  rcases h.2 with ⟨rfl, hl⟩ | ⟨g, cap, cur, rfl, _, _, hnc, hcm, _, _⟩
  · exact ⟨none, 0, by rw [hl], ⟨by omega, fun _ => rfl⟩, Nat.zero_le _, Or.inl (List.eq_nil_of_length_eq_zero hl)⟩
  · refine ⟨some ⟨g, 0, none⟩, cap, rfl, ⟨hnc, fun h => by cases h⟩, hcm, Or.inr ⟨g, rfl, fun k hk => ?_⟩⟩
    rw [h.cellAt k (by omega)]
    exact dg_map hk _
end Go.Proofs.YtlhmfgbaefaneaaGreatDoor.ref
namespace Go.Proofs.YtlhmfgbaefaneaaGreatDoor.ref
open Go.RowKit
theorem Own.reads {w : World} {base g cap : Nat} {o : List Nat} (h : Own w base g cap o) : Reads w (.slice (some ⟨g, 0, none⟩) o.length cap) o := Reads.of_own h
end Go.Proofs.YtlhmfgbaefaneaaGreatDoor.ref
