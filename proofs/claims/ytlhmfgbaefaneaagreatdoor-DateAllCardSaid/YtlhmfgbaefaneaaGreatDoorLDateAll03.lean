/-
  The steps of the walks, part 3: Code, Law6Kit, Lw6DateAll, Read, RefMul.
-/
import Derived.Laws.BitsLemmas
import Derived.Test.YtlhmfgbaefaneaaGreatDoorProg
import Derived.WalkKit
import Derived.WalkSpells
import Derived.Lib.Hide
import Derived.OwnWalk
import Derived.Below
import Derived.Carry
import Derived.Outline
import Derived.Laws.MakeOwn
import Derived.Test.YtlhmfgbaefaneaaGreatDoorB01
import Derived.Test.YtlhmfgbaefaneaaGreatDoorB02
import Derived.Test.YtlhmfgbaefaneaaGreatDoorB03
import Derived.Test.YtlhmfgbaefaneaaGreatDoorB04
import Derived.Test.YtlhmfgbaefaneaaGreatDoorB05
import Derived.Test.YtlhmfgbaefaneaaGreatDoorB06
import Derived.Test.YtlhmfgbaefaneaaGreatDoorB07
import Derived.Test.YtlhmfgbaefaneaaGreatDoorB08
import Derived.Test.YtlhmfgbaefaneaaGreatDoorB09
import Derived.Test.YtlhmfgbaefaneaaGreatDoorB10
import Derived.Test.YtlhmfgbaefaneaaGreatDoorB11
import Derived.Test.YtlhmfgbaefaneaaGreatDoorB12
import Derived.Test.YtlhmfgbaefaneaaGreatDoorB13
import Derived.Test.YtlhmfgbaefaneaaGreatDoorB14
import Derived.Test.YtlhmfgbaefaneaaGreatDoorB15
import Derived.Test.YtlhmfgbaefaneaaGreatDoorB16
import Derived.Test.YtlhmfgbaefaneaaGreatDoorB17
import Derived.Test.YtlhmfgbaefaneaaGreatDoorB18
import Derived.Test.YtlhmfgbaefaneaaGreatDoorB19
import Derived.Test.YtlhmfgbaefaneaaGreatDoorB20
import Derived.Test.YtlhmfgbaefaneaaGreatDoorB21
import Derived.Test.YtlhmfgbaefaneaaGreatDoorB22
import Derived.Test.YtlhmfgbaefaneaaGreatDoorLDateAll02
import Derived.Test.YtlhmfgbaefaneaaGreatDoorLDateAll01
namespace Go.Proofs.YtlhmfgbaefaneaaGreatDoor.flt
open Go.RowKit Go.Extern.Stop Go.Stop Go.Extern
theorem Code_nil (w : World) : Calls Tryz.prog 80 #[.nilIface] w fun ev w' => ev = .returned (.int .i64 0) ∧ Below w.heap.size w w' := by
  go_enter Tryz.func80, Tryz.ntmps80
  go_wp2
  go_ret
  exact ⟨rfl, Below.refl _ _⟩
theorem Code_plain (c : Int) (w : World) (hg : Handle w) :
    Calls Tryz.prog 80 #[.iface 128 (.int .i64 c)] w fun ev w' => ev = .returned (.int .i64 c) ∧ Below w.heap.size w w' :=
  Code_hit _ _ c w ((first_plain c w hg).mono fun _ _ ⟨b, he, _, hb, hk⟩ => ⟨b, he, hb, by simp [World.cell?, hk]⟩)
end Go.Proofs.YtlhmfgbaefaneaaGreatDoor.flt
namespace Go.Proofs.YtlhmfgbaefaneaaGreatDoor.law6
open Go Go.RowKit Go.Proofs.YtlhmfgbaefaneaaGreatDoor.day Go.Proofs.YtlhmfgbaefaneaaGreatDoor.date
open Go.Proofs.YtlhmfgbaefaneaaGreatDoor.ref (str str_size)
open Go.Proofs.YtlhmfgbaefaneaaGreatDoor.ref6 (CAt dayText DayForm quiet_same drewN_below6)
open Go.Proofs.YtlhmfgbaefaneaaGreatDoor.itoa (Tab)
theorem Day_isDay (n : Int) : IsDay (n % 109573) := ⟨by omega, by omega⟩
set_option maxRecDepth 100000 in
theorem Same_code (c : Int) (w : World) (h : Wd w) :
    Calls Tryz.prog 29 #[errOf c, .int .i64 c] w fun e w' => e = .returned (.bool true) ∧ Below w.heap.size w w' := by
  unfold errOf
  have HC := Lib.hid (flt.Code_plain c w h.hd)
  clear h
  go_enter Tryz.func29, Tryz.ntmps29
  go_wp2_with (first
    | (go_at_call 80; (with_reducible refine (HC.out).mono ?_); rintro e w1 ⟨rfl, hb⟩; have HB := Lib.hid hb; clear hb)
    | (fail "no arm"))
  go_ret
  exact ⟨rfl, HB.out⟩
set_option maxRecDepth 100000 in
theorem Same_nil (w : World) (_h : Wd w) :
    Calls Tryz.prog 29 #[.nilIface, .int .i64 0] w fun e w' => e = .returned (.bool true) ∧ Below w.heap.size w w' := by
  have HC := Lib.hid (flt.Code_nil w)
  go_enter Tryz.func29, Tryz.ntmps29
  go_wp2_with (first
    | (go_at_call 80; (with_reducible refine (HC.out).mono ?_); rintro e w1 ⟨rfl, hb⟩; have HB := Lib.hid hb; clear hb)
    | (fail "no arm"))
  go_ret
  exact ⟨rfl, HB.out⟩
theorem str_take6 (l : List UInt8) (m : Nat) : (str l).extract 0 m = str (l.take m) := by
  apply ByteArray.ext
  simp [str]
set_option maxRecDepth 100000 in
theorem Text1_any (l : List UInt8) (n : Nat) (w : World) (hl : l.length ≤ 4611686018427387904) (hn : n ≤ 100000) :
    Calls Tryz.prog 18 #[.string (str l), .int .i64 (n : Nat)] w fun e w' => e = .returned (.string (str (l.take n))) ∧ w = w' := by
  have hz : (str l).size = l.length := str_size l
  have HX := Lib.hid (fun m => str_take6 l m)
  obtain ⟨N, hN⟩ : ∃ N, l.length = N := ⟨_, rfl⟩
  rw [hN] at hz hl
  have HT := Lib.hid (show l.take (min N n) = l.take n by
    rcases Nat.le_total N n with h | h
    · rw [Nat.min_eq_left h, List.take_of_length_le (by omega), List.take_of_length_le (by omega)]
    · rw [Nat.min_eq_right h])
  generalize str l = s at *
  clear hN
  go_enter Tryz.func18, Tryz.ntmps18
  go_wp2
  go_ret
  refine ⟨?_, rfl⟩
  show Ending.returned (.string (s.extract 0 (min (N : Int) (n : Int)).toNat)) = _
  rw [show (min (N : Int) (n : Int)).toNat = min N n by omega, HX.out, HT.out]
theorem Text1_at (l : List UInt8) (z : Int) (n : Nat) (hz : z = n) (w : World) (hl : l.length ≤ 4611686018427387904) (hn : n ≤ 100000) :
    Calls Tryz.prog 18 #[.string (str l), .int .i64 z] w fun e w' => e = .returned (.string (str (l.take n))) ∧ w = w' := by
  subst hz
  exact Text1_any l n w hl hn
theorem Get_pair (l : List UInt8) (hl : l.length ≤ 4611686018427387904) : ∃ (p : Int) (er : Value) (c : Int),
    (∀ W, Wd W → Calls Tryz.prog 24 #[.string (str l)] W fun e w' => e = .returned (.tuple #[.int .i64 p, er]) ∧ Below W.heap.size W w') ∧
    (∀ W, Wd W → Calls Tryz.prog 30 #[.string (str l)] W fun e w' => e = .returned (.tuple #[.int .i64 p, .int .i64 c]) ∧ Below W.heap.size W w') ∧
    (∀ W, Wd W → Calls Tryz.prog 29 #[er, .int .i64 c] W fun e w' => e = .returned (.bool true) ∧ Below W.heap.size W w') := by
  by_cases h : DayForm l
  · by_cases hc : IsCivil (ref.seg l 0 4 : Nat) (ref.seg l 5 2 : Nat) (ref.seg l 8 2 : Nat)
    · exact ⟨_, .nilIface, 0, fun W hW => (Get_any l W hW.lens).mono fun e w' h' => ⟨h'.1.2.1 h hc, h'.2⟩, fun W _ => (ref6.Get_any l hl W).mono fun e w' h' => ⟨h'.2.1 h hc, h'.2.2.2⟩, fun W hW => Same_nil W hW⟩
    · exact ⟨_, errOf 4, 4, fun W hW => (Get_any l W hW.lens).mono fun e w' h' => ⟨h'.1.2.2 h hc, h'.2⟩, fun W _ => (ref6.Get_any l hl W).mono fun e w' h' => ⟨h'.2.2.1 h hc, h'.2.2.2⟩, fun W hW => Same_code 4 W hW⟩
  · exact ⟨_, errOf 1, 1, fun W hW => (Get_any l W hW.lens).mono fun e w' h' => ⟨h'.1.1 h, h'.2⟩, fun W _ => (ref6.Get_any l hl W).mono fun e w' h' => ⟨h'.1 h, h'.2.2.2⟩, fun W hW => Same_code 1 W hW⟩
theorem ref_wday (n : Int) (h : IsDay n) (w : World) : Calls Tryz.prog 27 #[.int .i64 n] w fun e w' => e = .returned (.int .i64 (wday n)) ∧ w = w' := ref6.Weekday_any n h w
theorem pad_two (d : Nat) : ref.pad 2 d = [UInt8.ofNat (48 + d / 10 % 10), UInt8.ofNat (48 + d % 10)] := by
  rw [ref.pad_cons, ref.pad_cons]; simp [ref.pad]
theorem pad_four (d : Nat) : ref.pad 4 d = [UInt8.ofNat (48 + d / 1000 % 10), UInt8.ofNat (48 + d / 100 % 10), UInt8.ofNat (48 + d / 10 % 10), UInt8.ofNat (48 + d % 10)] := by
  rw [ref.pad_cons, ref.pad_cons, ref.pad_cons, ref.pad_cons]; simp [ref.pad]
theorem dg_toNat (x : Nat) : (UInt8.ofNat (48 + x % 10)).toNat = 48 + x % 10 := by
  simp only [UInt8.toNat_ofNat']
  omega
theorem text_form {y m d : Int} (y0 : 0 ≤ y) (y1 : y ≤ 9999) (m0 : 0 ≤ m) (m1 : m ≤ 99) (d0 : 0 ≤ d) (d1 : d ≤ 99) : DayForm (dayText y m d) ∧ ref.seg (dayText y m d) 0 4 = y.toNat ∧ ref.seg (dayText y m d) 5 2 = m.toNat ∧ ref.seg (dayText y m d) 8 2 = d.toNat := by
  have e : dayText y m d = [UInt8.ofNat (48 + y.toNat / 1000 % 10), UInt8.ofNat (48 + y.toNat / 100 % 10), UInt8.ofNat (48 + y.toNat / 10 % 10), UInt8.ofNat (48 + y.toNat % 10), 45,
    UInt8.ofNat (48 + m.toNat / 10 % 10), UInt8.ofNat (48 + m.toNat % 10), 45, UInt8.ofNat (48 + d.toNat / 10 % 10), UInt8.ofNat (48 + d.toNat % 10)] := by
    unfold dayText
    rw [pad_four, pad_two, pad_two]
    rfl
  rw [e]
  have b1 : y.toNat < 10000 := by omega
  have b2 : m.toNat < 100 := by omega
  have b3 : d.toNat < 100 := by omega
  generalize y.toNat = Y at *
  generalize m.toNat = M at *
  generalize d.toNat = D at *
  refine ⟨⟨rfl, rfl, rfl, fun i hi h4 h7 => ?_⟩, ?_, ?_, ?_⟩
  · rcases (show i = 0 ∨ i = 1 ∨ i = 2 ∨ i = 3 ∨ i = 5 ∨ i = 6 ∨ i = 8 ∨ i = 9 by omega) with rfl | rfl | rfl | rfl | rfl | rfl | rfl | rfl <;>
    · simp only [ref.IsDig, ref.ch, List.getD_eq_getElem?_getD, List.getElem?_cons_zero, List.getElem?_cons_succ, Option.getD_some, dg_toNat]
      omega
  all_goals
    simp only [ref.seg, ref.ch, Nat.reduceAdd, List.getD_eq_getElem?_getD, List.getElem?_cons_zero, List.getElem?_cons_succ, Option.getD_some, dg_toNat]
    omega
theorem dayText_form {y m d : Int} (h : IsCivil y m d) : DayForm (dayText y m d) ∧ ref.seg (dayText y m d) 0 4 = y.toNat ∧ ref.seg (dayText y m d) 5 2 = m.toNat ∧ ref.seg (dayText y m d) 8 2 = d.toNat := by
  obtain ⟨a1, a2, a5, a6⟩ := id h
  obtain ⟨a3, a4⟩ := h.month
  have a7 := mlen_hi y m
  exact text_form (by omega) (by omega) (by omega) (by omega) (by omega) (by omega)
theorem Get_day (y m d : Int) (h : IsCivil y m d) (w : World) (hw : Wd w) :
    Calls Tryz.prog 24 #[.string (str (dayText y m d))] w fun e w' => e = .returned (.tuple #[.int .i64 (dayOf y m d), .nilIface]) ∧ Below w.heap.size w w' := by
  obtain ⟨f1, f2, f3, f4⟩ := dayText_form h
  have hm := h.month
  have e1 : (y.toNat : Int) = y := Int.toNat_of_nonneg (by have := h.1; omega)
  have e2 : (m.toNat : Int) = m := Int.toNat_of_nonneg (by omega)
  have e3 : (d.toNat : Int) = d := Int.toNat_of_nonneg (by have := h.2.2; omega)
  refine (Get_any (dayText y m d) w hw.lens).mono fun e w' h' => ?_
  have := h'.1.2.1 f1
  rw [f2, f3, f4, e1, e2, e3] at this
  exact ⟨this h, h'.2⟩
end Go.Proofs.YtlhmfgbaefaneaaGreatDoor.law6
namespace Go.Proofs.YtlhmfgbaefaneaaGreatDoor.law6
open Go Go.RowKit Go.Proofs.YtlhmfgbaefaneaaGreatDoor.day Go.Proofs.YtlhmfgbaefaneaaGreatDoor.date
open Go.Proofs.YtlhmfgbaefaneaaGreatDoor.ref (str str_size)
open Go.Proofs.YtlhmfgbaefaneaaGreatDoor.ref6 (CAt dayText DayForm quiet_same drewN_below6)
set_option maxRecDepth 100000 in
set_option maxHeartbeats 4000000 in
theorem DateAll_yes (HBg : BegunC) (n : Int) (n0 : -9223372036854775808 ≤ n) (n1 : n ≤ 9223372036854775807) (cy cm cd : Int) (l : List UInt8) (hl : l.length ≤ 4611686018427387904) (hciv : IsCivil cy cm cd) (w : World) (hw : Wd w) :
    Calls Tryz.prog 3 #[.int .i64 n, .agg #[.int .i64 cy, .int .i64 cm, .int .i64 cd], .string (str l)] w fun e w' => e = .returned (.bool true) ∧ Below w.heap.size w w' := by
  obtain ⟨y, m, d, hc, hD⟩ := (Day_isDay n).civil
  have hDay := fun W => Day_any n n0 n1 W
  rw [← hD] at hDay
  obtain ⟨p, er2, c2, P3, P4, P5⟩ := Get_pair (l.take 15) (by simp; omega)
  have hGet := fun W (hW : Wd W) => Get_day y m d hc W hW
  have hday := dayOf_isDay hc
  have HW := Lib.hid (fun W (h : Below w.heap.size w W) => hw.keep h)
  have C1 := Lib.hid (fun (W : World) (hW : Wd W) => HBg W hW)
  have C2 := Lib.hid (fun (W : World) (hW : Wd W) => Text1_at l 15 15 rfl W hl (by omega))
  have C3 := Lib.hid (fun (W : World) (hW : Wd W) => hDay W)
  have C4 := Lib.hid (fun (W : World) (hW : Wd W) => Civil_at y m d hc W hW.lens)
  have C5 := Lib.hid (fun (W : World) (hW : Wd W) => ref6.Civil_at y m d hc W)
  have C6 := Lib.hid (fun (W : World) (hW : Wd W) => Of_yes y m d hc W hW.lens)
  have C7 := Lib.hid (fun (W : World) (hW : Wd W) => Text_at y m d hc W hW.lens hW.tab)
  have C8 := Lib.hid (fun (W : World) (hW : Wd W) => hGet W hW)
  have C9 := Lib.hid (fun (W : World) (hW : Wd W) => ref6.Text_at y m d hc W)
  have C10 := Lib.hid (fun (W : World) (hW : Wd W) => Weekday_day _ hday W)
  have C11 := Lib.hid (fun (W : World) (hW : Wd W) => ref_wday _ hday W)
  have C12 := Lib.hid (fun (W : World) (hW : Wd W) => Of_yes cy cm cd hciv W hW.lens)
  have C13 := Lib.hid (fun (W : World) (hW : Wd W) => ref6.Of_yes cy cm cd hciv W)
  have C14 := Lib.hid (fun (W : World) (hW : Wd W) => P3 W hW)
  have C15 := Lib.hid (fun (W : World) (hW : Wd W) => P4 W hW)
  have C16 := Lib.hid (fun (W : World) (hW : Wd W) => P5 W hW)
  have M0_0 := Lib.hid (CAt.new w cy cm cd)
  have HR0 := Lib.hid (Below.alloc (Below.refl w.heap.size w) (Below.size (Below.refl w.heap.size w)) (.cells #[.int .i64 cy, .int .i64 cm, .int .i64 cd] 23))
  obtain ⟨q0_0_0, q0_0_1, q0_0_2, -⟩ := M0_0.out.cells
  clear hDay P3 P4 P5 hGet hc hD hciv
  generalize str (dayText y m d) = tx at *
  generalize dayOf y m d = D at *
  generalize dayOf cy cm cd = D2 at *
  clear hw
  go_enter Tryz.func3, Tryz.ntmps3
  go_wp2_with (first
    | (go_at_call 17; (with_reducible refine (C1.out _ (HW.out _ HR0.out)).mono ?_); rintro e W1 ⟨rfl, hb⟩
       have M1_0 := Lib.hid (M0_0.out.below hb)
       have HR1 := Lib.hid (below_tr6 HR0.out hb rfl)
       obtain ⟨q1_0_0, q1_0_1, q1_0_2, -⟩ := M1_0.out.cells
       clear q0_0_0 q0_0_1 q0_0_2 C1 hb)
    | (go_at_call 18; (with_reducible refine (C2.out _ (HW.out _ HR1.out)).mono ?_); rintro e w9 ⟨rfl, rfl⟩
       have HR2 := Lib.hid HR1.out
       clear C2)
    | (go_at_call 19; (with_reducible refine (C3.out _ (HW.out _ HR2.out)).mono ?_); rintro e w9 ⟨rfl, rfl⟩
       have HR3 := Lib.hid HR2.out
       clear C3)
    | (go_at_call 20; (with_reducible refine (C4.out _ (HW.out _ HR3.out)).mono ?_); rintro e W4 ⟨rfl, hb⟩
       have M4_0 := Lib.hid (M1_0.out.below hb)
       have N4_0 := Lib.hid (M4_0.out.below ((Below.refl _ _).alloc (Nat.le_refl _) (.cells #[.int .i64 y, .int .i64 m, .int .i64 d] 23)))
       have M4_1 := Lib.hid (CAt.new W4 y m d)
       have HR4 := Lib.hid (Below.alloc (below_tr6 HR3.out hb rfl) (Below.size (below_tr6 HR3.out hb rfl)) (.cells #[.int .i64 y, .int .i64 m, .int .i64 d] 23))
       clear M4_0; have M4_0 := N4_0; clear N4_0
       obtain ⟨q4_0_0, q4_0_1, q4_0_2, -⟩ := M4_0.out.cells
       obtain ⟨q4_1_0, q4_1_1, q4_1_2, -⟩ := M4_1.out.cells
       clear q1_0_0 q1_0_1 q1_0_2 C4 hb)
    | (go_at_call 21; (with_reducible refine (C5.out _ (HW.out _ HR4.out)).mono ?_); rintro e W5 ⟨rfl, hb⟩
       have M5_0 := Lib.hid (M4_0.out.below hb)
       have M5_1 := Lib.hid (M4_1.out.below hb)
       have N5_0 := Lib.hid (M5_0.out.below ((Below.refl _ _).alloc (Nat.le_refl _) (.cells #[.int .i64 y, .int .i64 m, .int .i64 d] 23)))
       have N5_1 := Lib.hid (M5_1.out.below ((Below.refl _ _).alloc (Nat.le_refl _) (.cells #[.int .i64 y, .int .i64 m, .int .i64 d] 23)))
       have M5_2 := Lib.hid (CAt.new W5 y m d)
       have HR5 := Lib.hid (Below.alloc (below_tr6 HR4.out hb rfl) (Below.size (below_tr6 HR4.out hb rfl)) (.cells #[.int .i64 y, .int .i64 m, .int .i64 d] 23))
       clear M5_0; have M5_0 := N5_0; clear N5_0
       clear M5_1; have M5_1 := N5_1; clear N5_1
       obtain ⟨q5_0_0, q5_0_1, q5_0_2, -⟩ := M5_0.out.cells
       obtain ⟨q5_1_0, q5_1_1, q5_1_2, -⟩ := M5_1.out.cells
       obtain ⟨q5_2_0, q5_2_1, q5_2_2, -⟩ := M5_2.out.cells
       clear q4_0_0 q4_0_1 q4_0_2 q4_1_0 q4_1_1 q4_1_2 C5 hb)
    | (go_at_call 22; (with_reducible refine (C6.out _ (HW.out _ HR5.out)).mono ?_); rintro e W6 ⟨rfl, hb⟩
       have M6_0 := Lib.hid (M5_0.out.below hb)
       have M6_1 := Lib.hid (M5_1.out.below hb)
       have M6_2 := Lib.hid (M5_2.out.below hb)
       have HR6 := Lib.hid (below_tr6 HR5.out hb rfl)
       obtain ⟨q6_0_0, q6_0_1, q6_0_2, -⟩ := M6_0.out.cells
       obtain ⟨q6_1_0, q6_1_1, q6_1_2, -⟩ := M6_1.out.cells
       obtain ⟨q6_2_0, q6_2_1, q6_2_2, -⟩ := M6_2.out.cells
       clear q5_0_0 q5_0_1 q5_0_2 q5_1_0 q5_1_1 q5_1_2 q5_2_0 q5_2_1 q5_2_2 C6 hb)
    | (go_at_call 23; (with_reducible refine (C7.out _ (HW.out _ HR6.out)).mono ?_); rintro e W7 ⟨rfl, hb⟩
       have M7_0 := Lib.hid (M6_0.out.below hb)
       have M7_1 := Lib.hid (M6_1.out.below hb)
       have M7_2 := Lib.hid (M6_2.out.below hb)
       have HR7 := Lib.hid (below_tr6 HR6.out hb rfl)
       obtain ⟨q7_0_0, q7_0_1, q7_0_2, -⟩ := M7_0.out.cells
       obtain ⟨q7_1_0, q7_1_1, q7_1_2, -⟩ := M7_1.out.cells
       obtain ⟨q7_2_0, q7_2_1, q7_2_2, -⟩ := M7_2.out.cells
       clear q6_0_0 q6_0_1 q6_0_2 q6_1_0 q6_1_1 q6_1_2 q6_2_0 q6_2_1 q6_2_2 C7 hb)
    | (go_at_call 24; (with_reducible refine (C8.out _ (HW.out _ HR7.out)).mono ?_); rintro e W8 ⟨rfl, hb⟩
       have M8_0 := Lib.hid (M7_0.out.below hb)
       have M8_1 := Lib.hid (M7_1.out.below hb)
       have M8_2 := Lib.hid (M7_2.out.below hb)
       have HR8 := Lib.hid (below_tr6 HR7.out hb rfl)
       obtain ⟨q8_0_0, q8_0_1, q8_0_2, -⟩ := M8_0.out.cells
       obtain ⟨q8_1_0, q8_1_1, q8_1_2, -⟩ := M8_1.out.cells
       obtain ⟨q8_2_0, q8_2_1, q8_2_2, -⟩ := M8_2.out.cells
       clear q7_0_0 q7_0_1 q7_0_2 q7_1_0 q7_1_1 q7_1_2 q7_2_0 q7_2_1 q7_2_2 C8 hb)
    | (go_at_call 25; (with_reducible refine (C9.out _ (HW.out _ HR8.out)).mono ?_); rintro e W9 ⟨rfl, hb⟩
       have M9_0 := Lib.hid (M8_0.out.below hb)
       have M9_1 := Lib.hid (M8_1.out.below hb)
       have M9_2 := Lib.hid (M8_2.out.below hb)
       have HR9 := Lib.hid (below_tr6 HR8.out hb rfl)
       obtain ⟨q9_0_0, q9_0_1, q9_0_2, -⟩ := M9_0.out.cells
       obtain ⟨q9_1_0, q9_1_1, q9_1_2, -⟩ := M9_1.out.cells
       obtain ⟨q9_2_0, q9_2_1, q9_2_2, -⟩ := M9_2.out.cells
       clear q8_0_0 q8_0_1 q8_0_2 q8_1_0 q8_1_1 q8_1_2 q8_2_0 q8_2_1 q8_2_2 C9 hb)
    | (go_at_call 26; (with_reducible refine (C10.out _ (HW.out _ HR9.out)).mono ?_); rintro e w9 ⟨rfl, rfl⟩
       have HR10 := Lib.hid HR9.out
       clear C10)
    | (go_at_call 27; (with_reducible refine (C11.out _ (HW.out _ HR10.out)).mono ?_); rintro e w9 ⟨rfl, rfl⟩
       have HR11 := Lib.hid HR10.out
       clear C11)
    | (go_at_call 22; (with_reducible refine (C12.out _ (HW.out _ HR11.out)).mono ?_); rintro e W12 ⟨rfl, hb⟩
       have M12_0 := Lib.hid (M9_0.out.below hb)
       have M12_1 := Lib.hid (M9_1.out.below hb)
       have M12_2 := Lib.hid (M9_2.out.below hb)
       have HR12 := Lib.hid (below_tr6 HR11.out hb rfl)
       obtain ⟨q12_0_0, q12_0_1, q12_0_2, -⟩ := M12_0.out.cells
       obtain ⟨q12_1_0, q12_1_1, q12_1_2, -⟩ := M12_1.out.cells
       obtain ⟨q12_2_0, q12_2_1, q12_2_2, -⟩ := M12_2.out.cells
       clear q9_0_0 q9_0_1 q9_0_2 q9_1_0 q9_1_1 q9_1_2 q9_2_0 q9_2_1 q9_2_2 C12 hb)
    | (go_at_call 28; (with_reducible refine (C13.out _ (HW.out _ HR12.out)).mono ?_); rintro e W13 ⟨rfl, hb⟩
       have M13_0 := Lib.hid (M12_0.out.below hb)
       have M13_1 := Lib.hid (M12_1.out.below hb)
       have M13_2 := Lib.hid (M12_2.out.below hb)
       have HR13 := Lib.hid (below_tr6 HR12.out hb rfl)
       obtain ⟨q13_0_0, q13_0_1, q13_0_2, -⟩ := M13_0.out.cells
       obtain ⟨q13_1_0, q13_1_1, q13_1_2, -⟩ := M13_1.out.cells
       obtain ⟨q13_2_0, q13_2_1, q13_2_2, -⟩ := M13_2.out.cells
       clear q12_0_0 q12_0_1 q12_0_2 q12_1_0 q12_1_1 q12_1_2 q12_2_0 q12_2_1 q12_2_2 C13 hb)
    | (go_at_call 24; (with_reducible refine (C14.out _ (HW.out _ HR13.out)).mono ?_); rintro e W14 ⟨rfl, hb⟩
       have M14_0 := Lib.hid (M13_0.out.below hb)
       have M14_1 := Lib.hid (M13_1.out.below hb)
       have M14_2 := Lib.hid (M13_2.out.below hb)
       have HR14 := Lib.hid (below_tr6 HR13.out hb rfl)
       obtain ⟨q14_0_0, q14_0_1, q14_0_2, -⟩ := M14_0.out.cells
       obtain ⟨q14_1_0, q14_1_1, q14_1_2, -⟩ := M14_1.out.cells
       obtain ⟨q14_2_0, q14_2_1, q14_2_2, -⟩ := M14_2.out.cells
       clear q13_0_0 q13_0_1 q13_0_2 q13_1_0 q13_1_1 q13_1_2 q13_2_0 q13_2_1 q13_2_2 C14 hb)
    | (go_at_call 30; (with_reducible refine (C15.out _ (HW.out _ HR14.out)).mono ?_); rintro e W15 ⟨rfl, hb⟩
       have M15_0 := Lib.hid (M14_0.out.below hb)
       have M15_1 := Lib.hid (M14_1.out.below hb)
       have M15_2 := Lib.hid (M14_2.out.below hb)
       have HR15 := Lib.hid (below_tr6 HR14.out hb rfl)
       obtain ⟨q15_0_0, q15_0_1, q15_0_2, -⟩ := M15_0.out.cells
       obtain ⟨q15_1_0, q15_1_1, q15_1_2, -⟩ := M15_1.out.cells
       obtain ⟨q15_2_0, q15_2_1, q15_2_2, -⟩ := M15_2.out.cells
       clear q14_0_0 q14_0_1 q14_0_2 q14_1_0 q14_1_1 q14_1_2 q14_2_0 q14_2_1 q14_2_2 C15 hb)
    | (go_at_call 29; (with_reducible refine (C16.out _ (HW.out _ HR15.out)).mono ?_); rintro e W16 ⟨rfl, hb⟩
       have M16_0 := Lib.hid (M15_0.out.below hb)
       have M16_1 := Lib.hid (M15_1.out.below hb)
       have M16_2 := Lib.hid (M15_2.out.below hb)
       have HR16 := Lib.hid (below_tr6 HR15.out hb rfl)
       obtain ⟨q16_0_0, q16_0_1, q16_0_2, -⟩ := M16_0.out.cells
       obtain ⟨q16_1_0, q16_1_1, q16_1_2, -⟩ := M16_1.out.cells
       obtain ⟨q16_2_0, q16_2_1, q16_2_2, -⟩ := M16_2.out.cells
       clear q15_0_0 q15_0_1 q15_0_2 q15_1_0 q15_1_1 q15_1_2 q15_2_0 q15_2_1 q15_2_2 C16 hb)
    | (fail "no arm"))
  go_ret
  exact ⟨rfl, HR16.out⟩
set_option maxRecDepth 100000 in
set_option maxHeartbeats 4000000 in
theorem DateAll_no (HBg : BegunC) (n : Int) (n0 : -9223372036854775808 ≤ n) (n1 : n ≤ 9223372036854775807) (cy cm cd : Int) (l : List UInt8) (hl : l.length ≤ 4611686018427387904) (hciv : ¬ IsCivil cy cm cd) (w : World) (hw : Wd w) :
    Calls Tryz.prog 3 #[.int .i64 n, .agg #[.int .i64 cy, .int .i64 cm, .int .i64 cd], .string (str l)] w fun e w' => e = .returned (.bool true) ∧ Below w.heap.size w w' := by
  obtain ⟨y, m, d, hc, hD⟩ := (Day_isDay n).civil
  have hDay := fun W => Day_any n n0 n1 W
  rw [← hD] at hDay
  obtain ⟨p, er2, c2, P3, P4, P5⟩ := Get_pair (l.take 15) (by simp; omega)
  have hGet := fun W (hW : Wd W) => Get_day y m d hc W hW
  have hday := dayOf_isDay hc
  have HW := Lib.hid (fun W (h : Below w.heap.size w W) => hw.keep h)
  have C1 := Lib.hid (fun (W : World) (hW : Wd W) => HBg W hW)
  have C2 := Lib.hid (fun (W : World) (hW : Wd W) => Text1_at l 15 15 rfl W hl (by omega))
  have C3 := Lib.hid (fun (W : World) (hW : Wd W) => hDay W)
  have C4 := Lib.hid (fun (W : World) (hW : Wd W) => Civil_at y m d hc W hW.lens)
  have C5 := Lib.hid (fun (W : World) (hW : Wd W) => ref6.Civil_at y m d hc W)
  have C6 := Lib.hid (fun (W : World) (hW : Wd W) => Of_yes y m d hc W hW.lens)
  have C7 := Lib.hid (fun (W : World) (hW : Wd W) => Text_at y m d hc W hW.lens hW.tab)
  have C8 := Lib.hid (fun (W : World) (hW : Wd W) => hGet W hW)
  have C9 := Lib.hid (fun (W : World) (hW : Wd W) => ref6.Text_at y m d hc W)
  have C10 := Lib.hid (fun (W : World) (hW : Wd W) => Weekday_day _ hday W)
  have C11 := Lib.hid (fun (W : World) (hW : Wd W) => ref_wday _ hday W)
  have C12 := Lib.hid (fun (W : World) (hW : Wd W) => Of_no cy cm cd hciv W hW.lens)
  have C13 := Lib.hid (fun (W : World) (hW : Wd W) => ref6.Of_no cy cm cd hciv W)
  have C14 := Lib.hid (fun (W : World) (hW : Wd W) => Same_code 4 W hW)
  have C15 := Lib.hid (fun (W : World) (hW : Wd W) => P3 W hW)
  have C16 := Lib.hid (fun (W : World) (hW : Wd W) => P4 W hW)
  have C17 := Lib.hid (fun (W : World) (hW : Wd W) => P5 W hW)
  have M0_0 := Lib.hid (CAt.new w cy cm cd)
  have HR0 := Lib.hid (Below.alloc (Below.refl w.heap.size w) (Below.size (Below.refl w.heap.size w)) (.cells #[.int .i64 cy, .int .i64 cm, .int .i64 cd] 23))
  obtain ⟨q0_0_0, q0_0_1, q0_0_2, -⟩ := M0_0.out.cells
  clear hDay P3 P4 P5 hGet hc hD hciv
  generalize str (dayText y m d) = tx at *
  generalize dayOf y m d = D at *
  unfold errOf at *
  clear hw
  go_enter Tryz.func3, Tryz.ntmps3
  go_wp2_with (first
    | (go_at_call 17; (with_reducible refine (C1.out _ (HW.out _ HR0.out)).mono ?_); rintro e W1 ⟨rfl, hb⟩
       have M1_0 := Lib.hid (M0_0.out.below hb)
       have HR1 := Lib.hid (below_tr6 HR0.out hb rfl)
       obtain ⟨q1_0_0, q1_0_1, q1_0_2, -⟩ := M1_0.out.cells
       clear q0_0_0 q0_0_1 q0_0_2 C1 hb)
    | (go_at_call 18; (with_reducible refine (C2.out _ (HW.out _ HR1.out)).mono ?_); rintro e w9 ⟨rfl, rfl⟩
       have HR2 := Lib.hid HR1.out
       clear C2)
    | (go_at_call 19; (with_reducible refine (C3.out _ (HW.out _ HR2.out)).mono ?_); rintro e w9 ⟨rfl, rfl⟩
       have HR3 := Lib.hid HR2.out
       clear C3)
    | (go_at_call 20; (with_reducible refine (C4.out _ (HW.out _ HR3.out)).mono ?_); rintro e W4 ⟨rfl, hb⟩
       have M4_0 := Lib.hid (M1_0.out.below hb)
       have N4_0 := Lib.hid (M4_0.out.below ((Below.refl _ _).alloc (Nat.le_refl _) (.cells #[.int .i64 y, .int .i64 m, .int .i64 d] 23)))
       have M4_1 := Lib.hid (CAt.new W4 y m d)
       have HR4 := Lib.hid (Below.alloc (below_tr6 HR3.out hb rfl) (Below.size (below_tr6 HR3.out hb rfl)) (.cells #[.int .i64 y, .int .i64 m, .int .i64 d] 23))
       clear M4_0; have M4_0 := N4_0; clear N4_0
       obtain ⟨q4_0_0, q4_0_1, q4_0_2, -⟩ := M4_0.out.cells
       obtain ⟨q4_1_0, q4_1_1, q4_1_2, -⟩ := M4_1.out.cells
       clear q1_0_0 q1_0_1 q1_0_2 C4 hb)
    | (go_at_call 21; (with_reducible refine (C5.out _ (HW.out _ HR4.out)).mono ?_); rintro e W5 ⟨rfl, hb⟩
       have M5_0 := Lib.hid (M4_0.out.below hb)
       have M5_1 := Lib.hid (M4_1.out.below hb)
       have N5_0 := Lib.hid (M5_0.out.below ((Below.refl _ _).alloc (Nat.le_refl _) (.cells #[.int .i64 y, .int .i64 m, .int .i64 d] 23)))
       have N5_1 := Lib.hid (M5_1.out.below ((Below.refl _ _).alloc (Nat.le_refl _) (.cells #[.int .i64 y, .int .i64 m, .int .i64 d] 23)))
       have M5_2 := Lib.hid (CAt.new W5 y m d)
       have HR5 := Lib.hid (Below.alloc (below_tr6 HR4.out hb rfl) (Below.size (below_tr6 HR4.out hb rfl)) (.cells #[.int .i64 y, .int .i64 m, .int .i64 d] 23))
       clear M5_0; have M5_0 := N5_0; clear N5_0
       clear M5_1; have M5_1 := N5_1; clear N5_1
       obtain ⟨q5_0_0, q5_0_1, q5_0_2, -⟩ := M5_0.out.cells
       obtain ⟨q5_1_0, q5_1_1, q5_1_2, -⟩ := M5_1.out.cells
       obtain ⟨q5_2_0, q5_2_1, q5_2_2, -⟩ := M5_2.out.cells
       clear q4_0_0 q4_0_1 q4_0_2 q4_1_0 q4_1_1 q4_1_2 C5 hb)
    | (go_at_call 22; (with_reducible refine (C6.out _ (HW.out _ HR5.out)).mono ?_); rintro e W6 ⟨rfl, hb⟩
       have M6_0 := Lib.hid (M5_0.out.below hb)
       have M6_1 := Lib.hid (M5_1.out.below hb)
       have M6_2 := Lib.hid (M5_2.out.below hb)
       have HR6 := Lib.hid (below_tr6 HR5.out hb rfl)
       obtain ⟨q6_0_0, q6_0_1, q6_0_2, -⟩ := M6_0.out.cells
       obtain ⟨q6_1_0, q6_1_1, q6_1_2, -⟩ := M6_1.out.cells
       obtain ⟨q6_2_0, q6_2_1, q6_2_2, -⟩ := M6_2.out.cells
       clear q5_0_0 q5_0_1 q5_0_2 q5_1_0 q5_1_1 q5_1_2 q5_2_0 q5_2_1 q5_2_2 C6 hb)
    | (go_at_call 23; (with_reducible refine (C7.out _ (HW.out _ HR6.out)).mono ?_); rintro e W7 ⟨rfl, hb⟩
       have M7_0 := Lib.hid (M6_0.out.below hb)
       have M7_1 := Lib.hid (M6_1.out.below hb)
       have M7_2 := Lib.hid (M6_2.out.below hb)
       have HR7 := Lib.hid (below_tr6 HR6.out hb rfl)
       obtain ⟨q7_0_0, q7_0_1, q7_0_2, -⟩ := M7_0.out.cells
       obtain ⟨q7_1_0, q7_1_1, q7_1_2, -⟩ := M7_1.out.cells
       obtain ⟨q7_2_0, q7_2_1, q7_2_2, -⟩ := M7_2.out.cells
       clear q6_0_0 q6_0_1 q6_0_2 q6_1_0 q6_1_1 q6_1_2 q6_2_0 q6_2_1 q6_2_2 C7 hb)
    | (go_at_call 24; (with_reducible refine (C8.out _ (HW.out _ HR7.out)).mono ?_); rintro e W8 ⟨rfl, hb⟩
       have M8_0 := Lib.hid (M7_0.out.below hb)
       have M8_1 := Lib.hid (M7_1.out.below hb)
       have M8_2 := Lib.hid (M7_2.out.below hb)
       have HR8 := Lib.hid (below_tr6 HR7.out hb rfl)
       obtain ⟨q8_0_0, q8_0_1, q8_0_2, -⟩ := M8_0.out.cells
       obtain ⟨q8_1_0, q8_1_1, q8_1_2, -⟩ := M8_1.out.cells
       obtain ⟨q8_2_0, q8_2_1, q8_2_2, -⟩ := M8_2.out.cells
       clear q7_0_0 q7_0_1 q7_0_2 q7_1_0 q7_1_1 q7_1_2 q7_2_0 q7_2_1 q7_2_2 C8 hb)
    | (go_at_call 25; (with_reducible refine (C9.out _ (HW.out _ HR8.out)).mono ?_); rintro e W9 ⟨rfl, hb⟩
       have M9_0 := Lib.hid (M8_0.out.below hb)
       have M9_1 := Lib.hid (M8_1.out.below hb)
       have M9_2 := Lib.hid (M8_2.out.below hb)
       have HR9 := Lib.hid (below_tr6 HR8.out hb rfl)
       obtain ⟨q9_0_0, q9_0_1, q9_0_2, -⟩ := M9_0.out.cells
       obtain ⟨q9_1_0, q9_1_1, q9_1_2, -⟩ := M9_1.out.cells
       obtain ⟨q9_2_0, q9_2_1, q9_2_2, -⟩ := M9_2.out.cells
       clear q8_0_0 q8_0_1 q8_0_2 q8_1_0 q8_1_1 q8_1_2 q8_2_0 q8_2_1 q8_2_2 C9 hb)
    | (go_at_call 26; (with_reducible refine (C10.out _ (HW.out _ HR9.out)).mono ?_); rintro e w9 ⟨rfl, rfl⟩
       have HR10 := Lib.hid HR9.out
       clear C10)
    | (go_at_call 27; (with_reducible refine (C11.out _ (HW.out _ HR10.out)).mono ?_); rintro e w9 ⟨rfl, rfl⟩
       have HR11 := Lib.hid HR10.out
       clear C11)
    | (go_at_call 22; (with_reducible refine (C12.out _ (HW.out _ HR11.out)).mono ?_); rintro e W12 ⟨rfl, hb⟩
       have M12_0 := Lib.hid (M9_0.out.below hb)
       have M12_1 := Lib.hid (M9_1.out.below hb)
       have M12_2 := Lib.hid (M9_2.out.below hb)
       have HR12 := Lib.hid (below_tr6 HR11.out hb rfl)
       obtain ⟨q12_0_0, q12_0_1, q12_0_2, -⟩ := M12_0.out.cells
       obtain ⟨q12_1_0, q12_1_1, q12_1_2, -⟩ := M12_1.out.cells
       obtain ⟨q12_2_0, q12_2_1, q12_2_2, -⟩ := M12_2.out.cells
       clear q9_0_0 q9_0_1 q9_0_2 q9_1_0 q9_1_1 q9_1_2 q9_2_0 q9_2_1 q9_2_2 C12 hb)
    | (go_at_call 28; (with_reducible refine (C13.out _ (HW.out _ HR12.out)).mono ?_); rintro e W13 ⟨rfl, hb⟩
       have M13_0 := Lib.hid (M12_0.out.below hb)
       have M13_1 := Lib.hid (M12_1.out.below hb)
       have M13_2 := Lib.hid (M12_2.out.below hb)
       have HR13 := Lib.hid (below_tr6 HR12.out hb rfl)
       obtain ⟨q13_0_0, q13_0_1, q13_0_2, -⟩ := M13_0.out.cells
       obtain ⟨q13_1_0, q13_1_1, q13_1_2, -⟩ := M13_1.out.cells
       obtain ⟨q13_2_0, q13_2_1, q13_2_2, -⟩ := M13_2.out.cells
       clear q12_0_0 q12_0_1 q12_0_2 q12_1_0 q12_1_1 q12_1_2 q12_2_0 q12_2_1 q12_2_2 C13 hb)
    | (go_at_call 29; (with_reducible refine (C14.out _ (HW.out _ HR13.out)).mono ?_); rintro e W14 ⟨rfl, hb⟩
       have M14_0 := Lib.hid (M13_0.out.below hb)
       have M14_1 := Lib.hid (M13_1.out.below hb)
       have M14_2 := Lib.hid (M13_2.out.below hb)
       have HR14 := Lib.hid (below_tr6 HR13.out hb rfl)
       obtain ⟨q14_0_0, q14_0_1, q14_0_2, -⟩ := M14_0.out.cells
       obtain ⟨q14_1_0, q14_1_1, q14_1_2, -⟩ := M14_1.out.cells
       obtain ⟨q14_2_0, q14_2_1, q14_2_2, -⟩ := M14_2.out.cells
       clear q13_0_0 q13_0_1 q13_0_2 q13_1_0 q13_1_1 q13_1_2 q13_2_0 q13_2_1 q13_2_2 C14 hb)
    | (go_at_call 24; (with_reducible refine (C15.out _ (HW.out _ HR14.out)).mono ?_); rintro e W15 ⟨rfl, hb⟩
       have M15_0 := Lib.hid (M14_0.out.below hb)
       have M15_1 := Lib.hid (M14_1.out.below hb)
       have M15_2 := Lib.hid (M14_2.out.below hb)
       have HR15 := Lib.hid (below_tr6 HR14.out hb rfl)
       obtain ⟨q15_0_0, q15_0_1, q15_0_2, -⟩ := M15_0.out.cells
       obtain ⟨q15_1_0, q15_1_1, q15_1_2, -⟩ := M15_1.out.cells
       obtain ⟨q15_2_0, q15_2_1, q15_2_2, -⟩ := M15_2.out.cells
       clear q14_0_0 q14_0_1 q14_0_2 q14_1_0 q14_1_1 q14_1_2 q14_2_0 q14_2_1 q14_2_2 C15 hb)
    | (go_at_call 30; (with_reducible refine (C16.out _ (HW.out _ HR15.out)).mono ?_); rintro e W16 ⟨rfl, hb⟩
       have M16_0 := Lib.hid (M15_0.out.below hb)
       have M16_1 := Lib.hid (M15_1.out.below hb)
       have M16_2 := Lib.hid (M15_2.out.below hb)
       have HR16 := Lib.hid (below_tr6 HR15.out hb rfl)
       obtain ⟨q16_0_0, q16_0_1, q16_0_2, -⟩ := M16_0.out.cells
       obtain ⟨q16_1_0, q16_1_1, q16_1_2, -⟩ := M16_1.out.cells
       obtain ⟨q16_2_0, q16_2_1, q16_2_2, -⟩ := M16_2.out.cells
       clear q15_0_0 q15_0_1 q15_0_2 q15_1_0 q15_1_1 q15_1_2 q15_2_0 q15_2_1 q15_2_2 C16 hb)
    | (go_at_call 29; (with_reducible refine (C17.out _ (HW.out _ HR16.out)).mono ?_); rintro e W17 ⟨rfl, hb⟩
       have M17_0 := Lib.hid (M16_0.out.below hb)
       have M17_1 := Lib.hid (M16_1.out.below hb)
       have M17_2 := Lib.hid (M16_2.out.below hb)
       have HR17 := Lib.hid (below_tr6 HR16.out hb rfl)
       obtain ⟨q17_0_0, q17_0_1, q17_0_2, -⟩ := M17_0.out.cells
       obtain ⟨q17_1_0, q17_1_1, q17_1_2, -⟩ := M17_1.out.cells
       obtain ⟨q17_2_0, q17_2_1, q17_2_2, -⟩ := M17_2.out.cells
       clear q16_0_0 q16_0_1 q16_0_2 q16_1_0 q16_1_1 q16_1_2 q16_2_0 q16_2_1 q16_2_2 C17 hb)
    | (fail "no arm"))
  go_ret
  exact ⟨rfl, HR17.out⟩
theorem DateAll_walk (HBg : BegunC) (n : Int) (n0 : -9223372036854775808 ≤ n) (n1 : n ≤ 9223372036854775807) (cy cm cd : Int) (l : List UInt8) (hl : l.length ≤ 4611686018427387904) (w : World) (hw : Wd w) :
    Calls Tryz.prog 3 #[.int .i64 n, .agg #[.int .i64 cy, .int .i64 cm, .int .i64 cd], .string (str l)] w fun e w' => e = .returned (.bool true) ∧ Below w.heap.size w w' := by
  by_cases h : IsCivil cy cm cd
  · exact DateAll_yes HBg n n0 n1 cy cm cd l hl h w hw
  · exact DateAll_no HBg n n0 n1 cy cm cd l hl h w hw
end Go.Proofs.YtlhmfgbaefaneaaGreatDoor.law6
namespace Go.Proofs.YtlhmfgbaefaneaaGreatDoor.ref
open Go.RowKit
theorem Reads.of_own {w : World} {base : Nat} {sv : Value} {l : List Nat} (h : w.ownsRow base 104 1 sv l.length (l.map fun d => Value.int .u64 (d : Nat))) : Reads w sv l := by
  rcases h.2 with ⟨rfl, hl⟩ | ⟨g, cap, cur, rfl, _, _, hnc, hcm, _, _⟩
  · exact ⟨none, 0, by rw [hl], ⟨by omega, fun _ => rfl⟩, Nat.zero_le _, Or.inl (List.eq_nil_of_length_eq_zero hl)⟩
  · refine ⟨some ⟨g, 0, none⟩, cap, rfl, ⟨hnc, fun h => by cases h⟩, hcm, Or.inr ⟨g, rfl, fun k hk => ?_⟩⟩
    rw [h.cellAt k (by omega)]
    exact dg_map hk _
end Go.Proofs.YtlhmfgbaefaneaaGreatDoor.ref
namespace Go.Proofs.YtlhmfgbaefaneaaGreatDoor.ref
open Go.RowKit
theorem Own.reads {w : World} {base g cap : Nat} {o : List Nat} (h : Own w base g cap o) : Reads w (.slice (some ⟨g, 0, none⟩) o.length cap) o := Reads.of_own h
end Go.Proofs.YtlhmfgbaefaneaaGreatDoor.ref
