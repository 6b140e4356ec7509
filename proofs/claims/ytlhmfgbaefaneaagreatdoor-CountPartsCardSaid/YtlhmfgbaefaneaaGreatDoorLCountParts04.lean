/-
  The steps of the walks, part 4: Lw6CountParts, Bnd, Laid6, Stay6, Arg6, C6CountParts.
-/
import Derived.BigQuiet
import Derived.Deep.QuietTactic
import Derived.Test.YtlhmfgbaefaneaaGreatDoorRows
import Derived.Lib.LaidU8
import Derived.ChangeSame
import Derived.ChangeVars
import Derived.JoinedOf
import Derived.RowKit
import Derived.RowKitTokens
import Derived.LaidLaws
import Derived.LaidHandle
import Derived.Stop.Joined
import Derived.Lay
import Derived.ReadAgain
import Derived.ChangeBears
import Derived.Below
import Derived.Deep.Slices
import Derived.ChangeArms
import Derived.OpenShut
import Derived.ProofKit
import Derived.Test.YtlhmfgbaefaneaaGreatDoorTie
import Derived.Test.YtlhmfgbaefaneaaGreatDoorCards
import Derived.Carry
import Derived.SizedLaws
import Derived.Test.YtlhmfgbaefaneaaGreatDoorB01
import Derived.Test.YtlhmfgbaefaneaaGreatDoorB02
import Derived.Test.YtlhmfgbaefaneaaGreatDoorB03
import Derived.Test.YtlhmfgbaefaneaaGreatDoorB04
import Derived.Test.YtlhmfgbaefaneaaGreatDoorB05
import Derived.Test.YtlhmfgbaefaneaaGreatDoorB06
import Derived.Test.YtlhmfgbaefaneaaGreatDoorB07
import Derived.Test.YtlhmfgbaefaneaaGreatDoorB08
import Derived.Test.YtlhmfgbaefaneaaGreatDoorB09
import Derived.Test.YtlhmfgbaefaneaaGreatDoorB10
import Derived.Test.YtlhmfgbaefaneaaGreatDoorB11
import Derived.Test.YtlhmfgbaefaneaaGreatDoorB12
import Derived.Test.YtlhmfgbaefaneaaGreatDoorB13
import Derived.Test.YtlhmfgbaefaneaaGreatDoorB14
import Derived.Test.YtlhmfgbaefaneaaGreatDoorB15
import Derived.Test.YtlhmfgbaefaneaaGreatDoorB16
import Derived.Test.YtlhmfgbaefaneaaGreatDoorB17
import Derived.Test.YtlhmfgbaefaneaaGreatDoorB18
import Derived.Test.YtlhmfgbaefaneaaGreatDoorB19
import Derived.Test.YtlhmfgbaefaneaaGreatDoorB20
import Derived.Test.YtlhmfgbaefaneaaGreatDoorB21
import Derived.Test.YtlhmfgbaefaneaaGreatDoorB22
import Derived.Test.YtlhmfgbaefaneaaGreatDoorLCountParts01
import Derived.Test.YtlhmfgbaefaneaaGreatDoorLCountParts03
import Derived.Test.YtlhmfgbaefaneaaGreatDoorLCountParts02
import Derived.Test.YtlhmfgbaefaneaaGreatDoorLaw6Facts
namespace Go.Proofs.YtlhmfgbaefaneaaGreatDoor.law6
open Go Go.RowKit Go.Proofs.YtlhmfgbaefaneaaGreatDoor.day Go.Proofs.YtlhmfgbaefaneaaGreatDoor.date
open Go.Proofs.YtlhmfgbaefaneaaGreatDoor.ref (str str_size)
open Go.Proofs.YtlhmfgbaefaneaaGreatDoor.ref6 (CAt dayText DayForm quiet_same drewN_below6)
set_option maxRecDepth 100000 in
set_option maxHeartbeats 4000000 in
theorem CountParts_T1 (HBg : BegunC) (kind a b c fr g f A B C : Int) (a0 : -9223372036854775808 ≤ a) (a1 : a ≤ 9223372036854775807) (hA : a % 109573 = A) (HG : kind.tmod 4 % 4 = g) (HF : fr % 8 = f) (hg : 0 ≤ g) (hg2 : g ≤ 3) (hf : 0 ≤ f) (hf2 : f ≤ 7) (hA0 : 0 ≤ A) (hA1 : A ≤ 109572) (HB : min (A + 1 + b % 512) 109572 = B) (hB1 : B ≤ 109572) (HC : min (B + 1 + c % 512) 109572 = C) (hAB : ¬ A < B) (w : World) (hw : Wd w) :
    Calls Tryz.prog 16 #[.int .i64 kind, .int .i64 a, .int .i64 b, .int .i64 c, .int .i64 fr] w fun e w' => e = .returned (.bool true) ∧ Below w.heap.size w w' := by
  have hDay := fun W => Day_any a a0 a1 W
  rw [hA] at hDay
  have h7 := and7 fr
  have h511 := and511 b
  have h512 := and511 c
  have t2 := Int.tmod_lt_of_pos kind (show (0 : Int) < 4 by decide)
  have t3 : -4 < kind.tmod 4 := by
    rcases Int.le_total 0 kind with h | h
    · rw [Int.tmod_eq_emod_of_nonneg h]; omega
    · have e := Int.tmod_eq_emod_of_nonneg (b := 4) (show 0 ≤ -kind by omega)
      rw [Int.neg_tmod] at e
      omega
  have _ := hA
  have _ := hg
  have _ := hg2
  have _ := hf
  have _ := hf2
  have _ := hA0
  have _ := hA1
  have _ := hB1
  have _ := hAB
  have _ := HC
  have _ := g
  have HW := Lib.hid (fun W (h : Below w.heap.size w W) => hw.keep h)
  have C1 := Lib.hid (fun (W : World) (hW : Wd W) => HBg W hW)
  have C2 := Lib.hid (fun (W : World) (hW : Wd W) => hDay W)
  have HR0 := Lib.hid (Below.refl w.heap.size w)
  clear hDay hA
  clear hw
  go_enter Tryz.func16, Tryz.ntmps16
  go_wp2_with (first
    | (go_at_call 17; (with_reducible refine (C1.out _ (HW.out _ HR0.out)).mono ?_); rintro e W1 ⟨rfl, hb⟩
       have HR1 := Lib.hid (below_tr6 HR0.out hb rfl)
       clear C1 hb)
    | (go_at_call 19; (with_reducible refine (C2.out _ (HW.out _ HR1.out)).mono ?_); rintro e w9 ⟨rfl, rfl⟩
       have HR2 := Lib.hid HR1.out
       clear C2)
    | (fail "no arm"))
  go_ret
  exact ⟨rfl, HR2.out⟩
set_option maxRecDepth 100000 in
set_option maxHeartbeats 4000000 in
theorem CountParts_T2 (HBg : BegunC) (kind a b c fr g f A B C : Int) (a0 : -9223372036854775808 ≤ a) (a1 : a ≤ 9223372036854775807) (hA : a % 109573 = A) (HG : kind.tmod 4 % 4 = g) (HF : fr % 8 = f) (hg : 0 ≤ g) (hg2 : g ≤ 3) (hf : 0 ≤ f) (hf2 : f ≤ 7) (hA0 : 0 ≤ A) (hA1 : A ≤ 109572) (HB : min (A + 1 + b % 512) 109572 = B) (hB1 : B ≤ 109572) (HC : min (B + 1 + c % 512) 109572 = C) (hAB : A < B) (hBC : ¬ B < C) (w : World) (hw : Wd w) :
    Calls Tryz.prog 16 #[.int .i64 kind, .int .i64 a, .int .i64 b, .int .i64 c, .int .i64 fr] w fun e w' => e = .returned (.bool true) ∧ Below w.heap.size w w' := by
  have hDay := fun W => Day_any a a0 a1 W
  rw [hA] at hDay
  have h7 := and7 fr
  have h511 := and511 b
  have h512 := and511 c
  have t2 := Int.tmod_lt_of_pos kind (show (0 : Int) < 4 by decide)
  have t3 : -4 < kind.tmod 4 := by
    rcases Int.le_total 0 kind with h | h
    · rw [Int.tmod_eq_emod_of_nonneg h]; omega
    · have e := Int.tmod_eq_emod_of_nonneg (b := 4) (show 0 ≤ -kind by omega)
      rw [Int.neg_tmod] at e
      omega
  have _ := hA
  have _ := hg
  have _ := hg2
  have _ := hf
  have _ := hf2
  have _ := hA0
  have _ := hA1
  have _ := hB1
  have _ := hAB
  have _ := hBC
  have _ := HC
  have _ := g
  have HW := Lib.hid (fun W (h : Below w.heap.size w W) => hw.keep h)
  have C1 := Lib.hid (fun (W : World) (hW : Wd W) => HBg W hW)
  have C2 := Lib.hid (fun (W : World) (hW : Wd W) => hDay W)
  have HR0 := Lib.hid (Below.refl w.heap.size w)
  clear hDay hA
  clear hw
  go_enter Tryz.func16, Tryz.ntmps16
  go_wp2_with (first
    | (go_at_call 17; (with_reducible refine (C1.out _ (HW.out _ HR0.out)).mono ?_); rintro e W1 ⟨rfl, hb⟩
       have HR1 := Lib.hid (below_tr6 HR0.out hb rfl)
       clear C1 hb)
    | (go_at_call 19; (with_reducible refine (C2.out _ (HW.out _ HR1.out)).mono ?_); rintro e w9 ⟨rfl, rfl⟩
       have HR2 := Lib.hid HR1.out
       clear C2)
    | (fail "no arm"))
  go_ret
  exact ⟨rfl, HR2.out⟩
set_option maxRecDepth 100000 in
set_option maxHeartbeats 4000000 in
theorem CountParts_K (HBg : BegunC) (kind a b c fr g f A B C : Int) (a0 : -9223372036854775808 ≤ a) (a1 : a ≤ 9223372036854775807) (hA : a % 109573 = A) (HG : kind.tmod 4 % 4 = g) (HF : fr % 8 = f) (hg : 0 ≤ g) (hg2 : g ≤ 3) (hf : 0 ≤ f) (hf2 : f ≤ 7) (hA0 : 0 ≤ A) (hA1 : A ≤ 109572) (HB : min (A + 1 + b % 512) 109572 = B) (hB1 : B ≤ 109572) (HC : min (B + 1 + c % 512) 109572 = C) (hAB : A < B) (hBC : B < C) (hC1 : C ≤ 109572) (q1 q2 q3 : Rat) (d1 d2 : Int) (hd1 : -1000000 ≤ d1 ∧ d1 ≤ 1000000) (hd2 : -1000000 ≤ d2 ∧ d2 ≤ 1000000) (hk : ¬ 1 + g = 4)
    (P1 : (∀ W, Wd W → Calls Tryz.prog 57 #[.int .i64 (1 + g), .int .i64 A, .int .i64 B, .int .i64 A, .int .i64 C, .int .i64 (1 + f)] W fun e w' => ∃ u, e = .returned (.tuple #[u, .nilIface]) ∧ (rat.IsR w' u (q1) ∧ u ≠ .pointer none) ∧ Below W.heap.size W w'))
    (P2 : (∀ W, Wd W → Calls Tryz.prog 57 #[.int .i64 (1 + g), .int .i64 B, .int .i64 C, .int .i64 A, .int .i64 C, .int .i64 (1 + f)] W fun e w' => ∃ u, e = .returned (.tuple #[u, .nilIface]) ∧ (rat.IsR w' u (q2) ∧ u ≠ .pointer none) ∧ Below W.heap.size W w'))
    (P3 : (∀ W, Wd W → Calls Tryz.prog 57 #[.int .i64 (1 + g), .int .i64 A, .int .i64 C, .int .i64 A, .int .i64 C, .int .i64 (1 + f)] W fun e w' => ∃ u, e = .returned (.tuple #[u, .nilIface]) ∧ (rat.IsR w' u (q3) ∧ u ≠ .pointer none) ∧ Below W.heap.size W w'))
    (P4 : (∀ (W : World) (u : Value) (v : Value), rat.IsR W u q1 → rat.IsR W v q2 → Calls Tryz.prog 64 #[u, v] W fun e w' => ∃ x, e = .returned x ∧ (rat.IsR w' x (q1 + q2) ∧ x ≠ .pointer none) ∧ Below W.heap.size W w'))
    (P5 : (∀ (W : World) (u : Value) (v : Value), rat.IsR W u (q1 + q2) → rat.IsR W v q3 → Calls Tryz.prog 65 #[u, v] W fun e w' => e = .returned (.int .i64 0) ∧ Below W.heap.size W w'))
    (P6 : (∀ W, Wd W → Calls Tryz.prog 59 #[.int .i64 (1 + g), .int .i64 A, .int .i64 B] W fun e w' => e = .returned (.int .i64 d1) ∧ Below W.heap.size W w'))
    (P7 : (∀ W, Wd W → Calls Tryz.prog 59 #[.int .i64 (1 + g), .int .i64 B, .int .i64 C] W fun e w' => e = .returned (.int .i64 d2) ∧ Below W.heap.size W w'))
    (P8 : (∀ W, Wd W → Calls Tryz.prog 59 #[.int .i64 (1 + g), .int .i64 A, .int .i64 C] W fun e w' => e = .returned (.int .i64 (d1 + d2)) ∧ Below W.heap.size W w')) (w : World) (hw : Wd w) :
    Calls Tryz.prog 16 #[.int .i64 kind, .int .i64 a, .int .i64 b, .int .i64 c, .int .i64 fr] w fun e w' => e = .returned (.bool true) ∧ Below w.heap.size w w' := by
  have hDay := fun W => Day_any a a0 a1 W
  rw [hA] at hDay
  have h7 := and7 fr
  have h511 := and511 b
  have h512 := and511 c
  have t2 := Int.tmod_lt_of_pos kind (show (0 : Int) < 4 by decide)
  have t3 : -4 < kind.tmod 4 := by
    rcases Int.le_total 0 kind with h | h
    · rw [Int.tmod_eq_emod_of_nonneg h]; omega
    · have e := Int.tmod_eq_emod_of_nonneg (b := 4) (show 0 ≤ -kind by omega)
      rw [Int.neg_tmod] at e
      omega
  have _ := hA
  have _ := hg
  have _ := hg2
  have _ := hf
  have _ := hf2
  have _ := hA0
  have _ := hA1
  have _ := hB1
  have _ := hAB
  have _ := hBC
  have _ := hC1
  have _ := hd1
  have _ := hd2
  have _ := hk
  have _ := HC
  have _ := g
  obtain ⟨hd1, hd1b⟩ := hd1
  obtain ⟨hd2, hd2b⟩ := hd2
  have HW := Lib.hid (fun W (h : Below w.heap.size w W) => hw.keep h)
  have C1 := Lib.hid (fun (W : World) (hW : Wd W) => HBg W hW)
  have C2 := Lib.hid (fun (W : World) (hW : Wd W) => hDay W)
  have C3 := Lib.hid (fun (W : World) (hW : Wd W) => P1 W hW)
  have C4 := Lib.hid (fun (W : World) (hW : Wd W) => P2 W hW)
  have C5 := Lib.hid (fun (W : World) (hW : Wd W) => P3 W hW)
  have C6 := Lib.hid (fun (W : World) (u v : Value) (hu : rat.IsR W u q1) (hv : rat.IsR W v q2) => P4 W u v hu hv)
  have C7 := Lib.hid (fun (W : World) (u v : Value) (hu : rat.IsR W u (q1 + q2)) (hv : rat.IsR W v q3) => P5 W u v hu hv)
  have C8 := Lib.hid (fun (W : World) (hW : Wd W) => P6 W hW)
  have C9 := Lib.hid (fun (W : World) (hW : Wd W) => P7 W hW)
  have C10 := Lib.hid (fun (W : World) (hW : Wd W) => P8 W hW)
  have HR0 := Lib.hid (Below.refl w.heap.size w)
  clear hDay hA P1 P2 P3 P4 P5 P6 P7 P8
  clear hw
  go_enter Tryz.func16, Tryz.ntmps16
  go_wp2_with (first
    | (go_at_call 17; (with_reducible refine (C1.out _ (HW.out _ HR0.out)).mono ?_); rintro e W1 ⟨rfl, hb⟩
       have HR1 := Lib.hid (below_tr6 HR0.out hb rfl)
       clear C1 hb)
    | (go_at_call 19; (with_reducible refine (C2.out _ (HW.out _ HR1.out)).mono ?_); rintro e w9 ⟨rfl, rfl⟩
       have HR2 := Lib.hid HR1.out
       clear C2)
    | (go_at_call 57; (with_reducible refine (C3.out _ (HW.out _ HR2.out)).mono ?_); rintro e W3 ⟨ua, rfl, ⟨h_a, n_a⟩, hb⟩
       have Ga_3 := Lib.hid h_a
       have HR3 := Lib.hid (below_tr6 HR2.out hb rfl)
       clear n_a
       clear C3 hb h_a)
    | (go_at_call 57; (with_reducible refine (C4.out _ (HW.out _ HR3.out)).mono ?_); rintro e W4 ⟨ub, rfl, ⟨h_b, n_b⟩, hb⟩
       have Ga_4 := Lib.hid (Ga_3.out.below hb)
       have Gb_4 := Lib.hid h_b
       have HR4 := Lib.hid (below_tr6 HR3.out hb rfl)
       clear n_b
       clear C4 hb h_b)
    | (go_at_call 57; (with_reducible refine (C5.out _ (HW.out _ HR4.out)).mono ?_); rintro e W5 ⟨uc, rfl, ⟨h_c, n_c⟩, hb⟩
       have Ga_5 := Lib.hid (Ga_4.out.below hb)
       have Gb_5 := Lib.hid (Gb_4.out.below hb)
       have Gc_5 := Lib.hid h_c
       have HR5 := Lib.hid (below_tr6 HR4.out hb rfl)
       clear n_c
       clear C5 hb h_c)
    | (go_at_call 64; (with_reducible refine (C6.out _ _ _ Ga_5.out Gb_5.out).mono ?_); rintro e W6 ⟨us, rfl, ⟨h_s, n_s⟩, hb⟩
       have Ga_6 := Lib.hid (Ga_5.out.below hb)
       have Gb_6 := Lib.hid (Gb_5.out.below hb)
       have Gc_6 := Lib.hid (Gc_5.out.below hb)
       have Gs_6 := Lib.hid h_s
       have HR6 := Lib.hid (below_tr6 HR5.out hb rfl)
       clear n_s
       clear C6 hb h_s)
    | (go_at_call 65; (with_reducible refine (C7.out _ _ _ Gs_6.out Gc_6.out).mono ?_); rintro e W7 ⟨rfl, hb⟩
       have Ga_7 := Lib.hid (Ga_6.out.below hb)
       have Gb_7 := Lib.hid (Gb_6.out.below hb)
       have Gc_7 := Lib.hid (Gc_6.out.below hb)
       have Gs_7 := Lib.hid (Gs_6.out.below hb)
       have HR7 := Lib.hid (below_tr6 HR6.out hb rfl)
       clear C7 hb)
    | (go_at_call 59; (with_reducible refine (C8.out _ (HW.out _ HR7.out)).mono ?_); rintro e W8 ⟨rfl, hb⟩
       have Ga_8 := Lib.hid (Ga_7.out.below hb)
       have Gb_8 := Lib.hid (Gb_7.out.below hb)
       have Gc_8 := Lib.hid (Gc_7.out.below hb)
       have Gs_8 := Lib.hid (Gs_7.out.below hb)
       have HR8 := Lib.hid (below_tr6 HR7.out hb rfl)
       clear C8 hb)
    | (go_at_call 59; (with_reducible refine (C9.out _ (HW.out _ HR8.out)).mono ?_); rintro e W9 ⟨rfl, hb⟩
       have Ga_9 := Lib.hid (Ga_8.out.below hb)
       have Gb_9 := Lib.hid (Gb_8.out.below hb)
       have Gc_9 := Lib.hid (Gc_8.out.below hb)
       have Gs_9 := Lib.hid (Gs_8.out.below hb)
       have HR9 := Lib.hid (below_tr6 HR8.out hb rfl)
       clear C9 hb)
    | (go_at_call 59; (with_reducible refine (C10.out _ (HW.out _ HR9.out)).mono ?_); rintro e W10 ⟨rfl, hb⟩
       have Ga_10 := Lib.hid (Ga_9.out.below hb)
       have Gb_10 := Lib.hid (Gb_9.out.below hb)
       have Gc_10 := Lib.hid (Gc_9.out.below hb)
       have Gs_10 := Lib.hid (Gs_9.out.below hb)
       have HR10 := Lib.hid (below_tr6 HR9.out hb rfl)
       clear C10 hb)
    | (fail "no arm"))
  go_ret
  exact ⟨rfl, HR10.out⟩
set_option maxRecDepth 100000 in
set_option maxHeartbeats 4000000 in
theorem CountParts_F (HBg : BegunC) (kind a b c fr g f A B C : Int) (a0 : -9223372036854775808 ≤ a) (a1 : a ≤ 9223372036854775807) (hA : a % 109573 = A) (HG : kind.tmod 4 % 4 = 3) (HF : fr % 8 = f) (hg : 0 ≤ g) (hg2 : g ≤ 3) (hf : 0 ≤ f) (hf2 : f ≤ 7) (hA0 : 0 ≤ A) (hA1 : A ≤ 109572) (HB : min (A + 1 + b % 512) 109572 = B) (hB1 : B ≤ 109572) (HC : min (B + 1 + c % 512) 109572 = C) (hAB : A < B) (hBC : B < C) (hC1 : C ≤ 109572) (q1 q2 q3 : Rat) (d1 d2 : Int) (hd1 : -1000000 ≤ d1 ∧ d1 ≤ 1000000) (hd2 : -1000000 ≤ d2 ∧ d2 ≤ 1000000) (tx : ByteArray) (z : Int) (d : Nat)
    (P1 : (∀ W, Wd W → Calls Tryz.prog 57 #[.int .i64 4, .int .i64 A, .int .i64 B, .int .i64 A, .int .i64 C, .int .i64 (1 + f)] W fun e w' => ∃ u, e = .returned (.tuple #[u, .nilIface]) ∧ (rat.IsR w' u (q1) ∧ u ≠ .pointer none) ∧ Below W.heap.size W w'))
    (P2 : (∀ W, Wd W → Calls Tryz.prog 57 #[.int .i64 4, .int .i64 B, .int .i64 C, .int .i64 A, .int .i64 C, .int .i64 (1 + f)] W fun e w' => ∃ u, e = .returned (.tuple #[u, .nilIface]) ∧ (rat.IsR w' u (q2) ∧ u ≠ .pointer none) ∧ Below W.heap.size W w'))
    (P3 : (∀ W, Wd W → Calls Tryz.prog 57 #[.int .i64 4, .int .i64 A, .int .i64 C, .int .i64 A, .int .i64 C, .int .i64 (1 + f)] W fun e w' => ∃ u, e = .returned (.tuple #[u, .nilIface]) ∧ (rat.IsR w' u (q3) ∧ u ≠ .pointer none) ∧ Below W.heap.size W w'))
    (P4 : (∀ (W : World) (u : Value) (v : Value), rat.IsR W u q1 → rat.IsR W v q2 → Calls Tryz.prog 64 #[u, v] W fun e w' => ∃ x, e = .returned x ∧ (rat.IsR w' x (q1 + q2) ∧ x ≠ .pointer none) ∧ Below W.heap.size W w'))
    (P5 : (∀ (W : World) (u : Value) (v : Value), rat.IsR W u (q1 + q2) → rat.IsR W v q3 → Calls Tryz.prog 65 #[u, v] W fun e w' => e = .returned (.int .i64 0) ∧ Below W.heap.size W w'))
    (P6 : (∀ W, Wd W → Calls Tryz.prog 59 #[.int .i64 4, .int .i64 A, .int .i64 B] W fun e w' => e = .returned (.int .i64 d1) ∧ Below W.heap.size W w'))
    (P7 : (∀ W, Wd W → Calls Tryz.prog 59 #[.int .i64 4, .int .i64 B, .int .i64 C] W fun e w' => e = .returned (.int .i64 d2) ∧ Below W.heap.size W w'))
    (P8 : (∀ W, Wd W → Calls Tryz.prog 59 #[.int .i64 4, .int .i64 A, .int .i64 C] W fun e w' => e = .returned (.int .i64 (d1 + d2)) ∧ Below W.heap.size W w'))
    (P9 : (∀ (W : World) (u : Value), rat.IsR W u q3 → Calls Tryz.prog 62 #[u] W fun e w' => e = .returned (.string tx) ∧ Below W.heap.size W w'))
    (P10 : (∀ (W : World), Calls Tryz.prog 66 #[.int .i64 1, .int .i64 (1 + f)] W fun e w' => ∃ x, e = .returned x ∧ ref.IsQ w' x z d ∧ Below W.heap.size W w'))
    (P11 : (∀ (W : World) (u : Value), ref.IsQ W u z d → Calls Tryz.prog 63 #[u] W fun e w' => e = .returned (.string tx) ∧ Below W.heap.size W w')) (w : World) (hw : Wd w) :
    Calls Tryz.prog 16 #[.int .i64 kind, .int .i64 a, .int .i64 b, .int .i64 c, .int .i64 fr] w fun e w' => e = .returned (.bool true) ∧ Below w.heap.size w w' := by
  have hDay := fun W => Day_any a a0 a1 W
  rw [hA] at hDay
  have h7 := and7 fr
  have h511 := and511 b
  have h512 := and511 c
  have t2 := Int.tmod_lt_of_pos kind (show (0 : Int) < 4 by decide)
  have t3 : -4 < kind.tmod 4 := by
    rcases Int.le_total 0 kind with h | h
    · rw [Int.tmod_eq_emod_of_nonneg h]; omega
    · have e := Int.tmod_eq_emod_of_nonneg (b := 4) (show 0 ≤ -kind by omega)
      rw [Int.neg_tmod] at e
      omega
  have _ := hA
  have _ := hg
  have _ := hg2
  have _ := hf
  have _ := hf2
  have _ := hA0
  have _ := hA1
  have _ := hB1
  have _ := hAB
  have _ := hBC
  have _ := hC1
  have _ := hd1
  have _ := hd2
  have _ := HC
  have _ := g
  obtain ⟨hd1, hd1b⟩ := hd1
  obtain ⟨hd2, hd2b⟩ := hd2
  have HW := Lib.hid (fun W (h : Below w.heap.size w W) => hw.keep h)
  have C1 := Lib.hid (fun (W : World) (hW : Wd W) => HBg W hW)
  have C2 := Lib.hid (fun (W : World) (hW : Wd W) => hDay W)
  have C3 := Lib.hid (fun (W : World) (hW : Wd W) => P1 W hW)
  have C4 := Lib.hid (fun (W : World) (hW : Wd W) => P2 W hW)
  have C5 := Lib.hid (fun (W : World) (hW : Wd W) => P3 W hW)
  have C6 := Lib.hid (fun (W : World) (u v : Value) (hu : rat.IsR W u q1) (hv : rat.IsR W v q2) => P4 W u v hu hv)
  have C7 := Lib.hid (fun (W : World) (u v : Value) (hu : rat.IsR W u (q1 + q2)) (hv : rat.IsR W v q3) => P5 W u v hu hv)
  have C8 := Lib.hid (fun (W : World) (hW : Wd W) => P6 W hW)
  have C9 := Lib.hid (fun (W : World) (hW : Wd W) => P7 W hW)
  have C10 := Lib.hid (fun (W : World) (hW : Wd W) => P8 W hW)
  have C11 := Lib.hid (fun (W : World) (u : Value) (hu : rat.IsR W u q3) => P9 W u hu)
  have C12 := Lib.hid (fun (W : World) => P10 W)
  have C13 := Lib.hid (fun (W : World) (u : Value) (hu : ref.IsQ W u z d) => P11 W u hu)
  have HR0 := Lib.hid (Below.refl w.heap.size w)
  clear hDay hA P1 P2 P3 P4 P5 P6 P7 P8 P9 P10 P11
  clear hw
  go_enter Tryz.func16, Tryz.ntmps16
  go_wp2_with (first
    | (go_at_call 17; (with_reducible refine (C1.out _ (HW.out _ HR0.out)).mono ?_); rintro e W1 ⟨rfl, hb⟩
       have HR1 := Lib.hid (below_tr6 HR0.out hb rfl)
       clear C1 hb)
    | (go_at_call 19; (with_reducible refine (C2.out _ (HW.out _ HR1.out)).mono ?_); rintro e w9 ⟨rfl, rfl⟩
       have HR2 := Lib.hid HR1.out
       clear C2)
    | (go_at_call 57; (with_reducible refine (C3.out _ (HW.out _ HR2.out)).mono ?_); rintro e W3 ⟨ua, rfl, ⟨h_a, n_a⟩, hb⟩
       have Ga_3 := Lib.hid h_a
       have HR3 := Lib.hid (below_tr6 HR2.out hb rfl)
       clear n_a
       clear C3 hb h_a)
    | (go_at_call 57; (with_reducible refine (C4.out _ (HW.out _ HR3.out)).mono ?_); rintro e W4 ⟨ub, rfl, ⟨h_b, n_b⟩, hb⟩
       have Ga_4 := Lib.hid (Ga_3.out.below hb)
       have Gb_4 := Lib.hid h_b
       have HR4 := Lib.hid (below_tr6 HR3.out hb rfl)
       clear n_b
       clear C4 hb h_b)
    | (go_at_call 57; (with_reducible refine (C5.out _ (HW.out _ HR4.out)).mono ?_); rintro e W5 ⟨uc, rfl, ⟨h_c, n_c⟩, hb⟩
       have Ga_5 := Lib.hid (Ga_4.out.below hb)
       have Gb_5 := Lib.hid (Gb_4.out.below hb)
       have Gc_5 := Lib.hid h_c
       have HR5 := Lib.hid (below_tr6 HR4.out hb rfl)
       clear n_c
       clear C5 hb h_c)
    | (go_at_call 64; (with_reducible refine (C6.out _ _ _ Ga_5.out Gb_5.out).mono ?_); rintro e W6 ⟨us, rfl, ⟨h_s, n_s⟩, hb⟩
       have Ga_6 := Lib.hid (Ga_5.out.below hb)
       have Gb_6 := Lib.hid (Gb_5.out.below hb)
       have Gc_6 := Lib.hid (Gc_5.out.below hb)
       have Gs_6 := Lib.hid h_s
       have HR6 := Lib.hid (below_tr6 HR5.out hb rfl)
       clear n_s
       clear C6 hb h_s)
    | (go_at_call 65; (with_reducible refine (C7.out _ _ _ Gs_6.out Gc_6.out).mono ?_); rintro e W7 ⟨rfl, hb⟩
       have Ga_7 := Lib.hid (Ga_6.out.below hb)
       have Gb_7 := Lib.hid (Gb_6.out.below hb)
       have Gc_7 := Lib.hid (Gc_6.out.below hb)
       have Gs_7 := Lib.hid (Gs_6.out.below hb)
       have HR7 := Lib.hid (below_tr6 HR6.out hb rfl)
       clear C7 hb)
    | (go_at_call 59; (with_reducible refine (C8.out _ (HW.out _ HR7.out)).mono ?_); rintro e W8 ⟨rfl, hb⟩
       have Ga_8 := Lib.hid (Ga_7.out.below hb)
       have Gb_8 := Lib.hid (Gb_7.out.below hb)
       have Gc_8 := Lib.hid (Gc_7.out.below hb)
       have Gs_8 := Lib.hid (Gs_7.out.below hb)
       have HR8 := Lib.hid (below_tr6 HR7.out hb rfl)
       clear C8 hb)
    | (go_at_call 59; (with_reducible refine (C9.out _ (HW.out _ HR8.out)).mono ?_); rintro e W9 ⟨rfl, hb⟩
       have Ga_9 := Lib.hid (Ga_8.out.below hb)
       have Gb_9 := Lib.hid (Gb_8.out.below hb)
       have Gc_9 := Lib.hid (Gc_8.out.below hb)
       have Gs_9 := Lib.hid (Gs_8.out.below hb)
       have HR9 := Lib.hid (below_tr6 HR8.out hb rfl)
       clear C9 hb)
    | (go_at_call 59; (with_reducible refine (C10.out _ (HW.out _ HR9.out)).mono ?_); rintro e W10 ⟨rfl, hb⟩
       have Ga_10 := Lib.hid (Ga_9.out.below hb)
       have Gb_10 := Lib.hid (Gb_9.out.below hb)
       have Gc_10 := Lib.hid (Gc_9.out.below hb)
       have Gs_10 := Lib.hid (Gs_9.out.below hb)
       have HR10 := Lib.hid (below_tr6 HR9.out hb rfl)
       clear C10 hb)
    | (go_at_call 62; (with_reducible refine (C11.out _ _ Gc_10.out).mono ?_); rintro e W11 ⟨rfl, hb⟩
       have Ga_11 := Lib.hid (Ga_10.out.below hb)
       have Gb_11 := Lib.hid (Gb_10.out.below hb)
       have Gc_11 := Lib.hid (Gc_10.out.below hb)
       have Gs_11 := Lib.hid (Gs_10.out.below hb)
       have HR11 := Lib.hid (below_tr6 HR10.out hb rfl)
       clear C11 hb)
    | (go_at_call 66; (with_reducible refine (C12.out _).mono ?_); rintro e W12 ⟨uf, rfl, h_f, hb⟩
       have Ga_12 := Lib.hid (Ga_11.out.below hb)
       have Gb_12 := Lib.hid (Gb_11.out.below hb)
       have Gc_12 := Lib.hid (Gc_11.out.below hb)
       have Gs_12 := Lib.hid (Gs_11.out.below hb)
       have Gf_12 := Lib.hid h_f
       have HR12 := Lib.hid (below_tr6 HR11.out hb rfl)
       obtain ⟨f1, f2, rfl, -⟩ := id Gf_12.out
       clear C12 hb h_f)
    | (go_at_call 63; (with_reducible refine (C13.out _ _ Gf_12.out).mono ?_); rintro e W13 ⟨rfl, hb⟩
       have Ga_13 := Lib.hid (Ga_12.out.below hb)
       have Gb_13 := Lib.hid (Gb_12.out.below hb)
       have Gc_13 := Lib.hid (Gc_12.out.below hb)
       have Gs_13 := Lib.hid (Gs_12.out.below hb)
       have Gf_13 := Lib.hid (Gf_12.out.below hb)
       have HR13 := Lib.hid (below_tr6 HR12.out hb rfl)
       clear C13 hb)
    | (fail "no arm"))
  go_ret
  exact ⟨rfl, HR13.out⟩
theorem cmpR_same (q : Rat) : rat.cmpR q q = 0 := by unfold rat.cmpR; rw [if_neg (by grind), if_neg (by grind)]
theorem cdays_in {k y m d y' m' d' : Int} (h : IsCivil y m d) (h' : IsCivil y' m' d') : -1000000 ≤ cdays k y m d y' m' d' ∧ cdays k y m d y' m' d' ≤ 1000000 := by
  have a1 := h.1
  have a2 := h.2.1
  have a3 := h.2.2.1
  have a4 := h.2.2.2
  have a5 := h.month
  have b1 := h'.1
  have b2 := h'.2.1
  have b3 := h'.2.2.1
  have b4 := h'.2.2.2
  have b5 := h'.month
  have l1 := mlen_hi y m
  have l2 := mlen_hi y' m'
  have c1 := (dayOf_isDay h).1
  have c2 := (dayOf_isDay h).2
  have c3 := (dayOf_isDay h').1
  have c4 := (dayOf_isDay h').2
  unfold cdays ref6.thirty
  split <;> omega
theorem cdays_add (k y m d y' m' d' y2 m2 d2 : Int) : cdays k y m d y' m' d' + cdays k y' m' d' y2 m2 d2 = cdays k y m d y2 m2 d2 := by
  unfold cdays ref6.thirty
  split <;> omega
theorem cpart_add {k y m d y' m' d' y2 m2 d2 f : Int} :
    cpart k y m d y' m' d' (dayOf y m d) (dayOf y2 m2 d2) f + cpart k y' m' d' y2 m2 d2 (dayOf y m d) (dayOf y2 m2 d2) f = cpart k y m d y2 m2 d2 (dayOf y m d) (dayOf y2 m2 d2) f := by
  unfold cpart
  by_cases h4 : k = 4
  · rw [if_pos h4, if_pos h4, if_pos h4]
    generalize ((f * (dayOf y2 m2 d2 - dayOf y m d) : Int) : Rat) = n
    rw [Rat.intCast_sub, Rat.intCast_sub, Rat.intCast_sub, Rat.div_def, Rat.div_def, Rat.div_def]
    grind
  · rw [if_neg h4, if_neg h4, if_neg h4, ← cdays_add k y m d y' m' d' y2 m2 d2]
    generalize (((if k = 3 then 365 else 360) : Int) : Rat) = n
    rw [Rat.intCast_add, Rat.div_def, Rat.div_def, Rat.div_def]
    grind
theorem cpart_lr {k y m d y' m' d' s t f : Int} (h : IsCivil y m d) (h' : IsCivil y' m' d') (h4 : k = 4 → IsDay s ∧ IsDay t ∧ s < t ∧ 1 ≤ f ∧ f ≤ 1000) : rat.Lr (cpart k y m d y' m' d' s t f) 1 := by
  have c1 := (dayOf_isDay h).1
  have c2 := (dayOf_isDay h).2
  have c3 := (dayOf_isDay h').1
  have c4 := (dayOf_isDay h').2
  unfold cpart
  split
  · rename_i hk
    obtain ⟨⟨s1, s2⟩, ⟨t1, t2⟩, hst, f1, f2⟩ := h4 hk
    have e1 : 1 * 1 ≤ f * (t - s) := Int.mul_le_mul f1 (by omega) (by decide) (by omega)
    have e2 : f * (t - s) ≤ 1000 * 109572 := Int.mul_le_mul f2 (by omega) (by omega) (by decide)
    exact lr_int (by omega) (by omega) (by omega)
  · have hb := cdays_in (k := k) h h'
    exact lr_int (by split <;> decide) (by omega) (by split <;> decide)
theorem cpart_whole {y m d y2 m2 d2 f : Int} (hf : 1 ≤ f) (hlt : dayOf y m d < dayOf y2 m2 d2) : cpart 4 y m d y2 m2 d2 (dayOf y m d) (dayOf y2 m2 d2) f = ((1 : Int) : Rat) / ((f.toNat : Nat) : Rat) := by
  unfold cpart
  rw [if_pos rfl, Rat.intCast_mul, show ((f.toNat : Nat) : Rat) = (f : Rat) from by rw [← Rat.intCast_natCast, Int.toNat_of_nonneg (by omega)]]
  have hn : ((dayOf y2 m2 d2 - dayOf y m d : Int) : Rat) ≠ 0 := by
    intro h
    have : dayOf y2 m2 d2 - dayOf y m d = 0 := by exact_mod_cast h
    omega
  have hf0 : (f : Rat) ≠ 0 := by
    intro h
    have : f = 0 := by exact_mod_cast h
    omega
  generalize ((dayOf y2 m2 d2 - dayOf y m d : Int) : Rat) = n at *
  rw [show ((1 : Int) : Rat) = 1 from rfl]
  grind
theorem CountParts_walk (HBg : BegunC) (HC : CntC) (kind a b c fr : Int) (a0 : -9223372036854775808 ≤ a) (a1 : a ≤ 9223372036854775807) (w : World) (hw : Wd w) :
    Calls Tryz.prog 16 #[.int .i64 kind, .int .i64 a, .int .i64 b, .int .i64 c, .int .i64 fr] w fun e w' => e = .returned (.bool true) ∧ Below w.heap.size w w' := by
  obtain ⟨A, hA⟩ : ∃ A, a % 109573 = A := ⟨_, rfl⟩
  obtain ⟨g, hg⟩ : ∃ A, kind.tmod 4 % 4 = A := ⟨_, rfl⟩
  obtain ⟨f, hf⟩ : ∃ A, fr % 8 = A := ⟨_, rfl⟩
  obtain ⟨B, hB⟩ : ∃ B, min (A + 1 + b % 512) 109572 = B := ⟨_, rfl⟩
  obtain ⟨C, hC⟩ : ∃ B', min (B + 1 + c % 512) 109572 = B' := ⟨_, rfl⟩
  have hA0 : 0 ≤ A ∧ A ≤ 109572 := by omega
  have hg0 : 0 ≤ g ∧ g ≤ 3 := by omega
  have hf0 : 0 ≤ f ∧ f ≤ 7 := by omega
  have hB1 : B ≤ 109572 := by omega
  by_cases hAB : A < B
  · by_cases hBC : B < C
    · have hC1 : C ≤ 109572 := by omega
      obtain ⟨y, m, d, i1, e1⟩ := (show IsDay A from ⟨hA0.1, hA0.2⟩).civil
      obtain ⟨y', m', d', i2, e2⟩ := (show IsDay B from ⟨by omega, hB1⟩).civil
      obtain ⟨y2, m2, d2, i3, e3⟩ := (show IsDay C from ⟨by omega, hC1⟩).civil
      have hday1 := dayOf_isDay i1
      have hday3 := dayOf_isDay i3
      have h4 : ∀ k : Int, k = 4 → IsDay (dayOf y m d) ∧ IsDay (dayOf y2 m2 d2) ∧ dayOf y m d < dayOf y2 m2 d2 ∧ 1 ≤ 1 + f ∧ 1 + f ≤ 1000 := fun k _ => ⟨hday1, hday3, by omega, by omega, by omega⟩
      have hp := fun k h1 h2 => HC.part k y m d y' m' d' (dayOf y m d) (dayOf y2 m2 d2) (1 + f) h1 h2 i1 i2 (by omega) (h4 k)
      have hp2 := fun k h1 h2 => HC.part k y' m' d' y2 m2 d2 (dayOf y m d) (dayOf y2 m2 d2) (1 + f) h1 h2 i2 i3 (by omega) (h4 k)
      have hp3 := fun k h1 h2 => HC.part k y m d y2 m2 d2 (dayOf y m d) (dayOf y2 m2 d2) (1 + f) h1 h2 i1 i3 (by omega) (h4 k)
      have hd := fun k h1 h2 => HC.days k y m d y' m' d' h1 h2 i1 i2
      have hd2 := fun k h1 h2 => HC.days k y' m' d' y2 m2 d2 h1 h2 i2 i3
      have hd3 := fun k h1 h2 => HC.days k y m d y2 m2 d2 h1 h2 i1 i3
      have s1 := fun k => cpart_lr (k := k) (s := dayOf y m d) (t := dayOf y2 m2 d2) (f := 1 + f) i1 i2 (h4 k)
      have s2 := fun k => cpart_lr (k := k) (s := dayOf y m d) (t := dayOf y2 m2 d2) (f := 1 + f) i2 i3 (h4 k)
      have s3 := fun k => cpart_lr (k := k) (s := dayOf y m d) (t := dayOf y2 m2 d2) (f := 1 + f) i1 i3 (h4 k)
      have hs := fun k => cpart_add (k := k) (y := y) (m := m) (d := d) (y' := y') (m' := m') (d' := d') (y2 := y2) (m2 := m2) (d2 := d2) (f := 1 + f)
      have P4 := fun k W (u v : Value) hu hv => rat.Add_any u v _ _ W hu hv ((s1 k).le (by decide)) ((s2 k).le (by decide))
      have P5 : ∀ k, ∀ (W : World) (u v : Value), rat.IsR W u (cpart k y m d y' m' d' (dayOf y m d) (dayOf y2 m2 d2) (1 + f) + cpart k y' m' d' y2 m2 d2 (dayOf y m d) (dayOf y2 m2 d2) (1 + f)) → rat.IsR W v (cpart k y m d y2 m2 d2 (dayOf y m d) (dayOf y2 m2 d2) (1 + f)) →
          Calls Tryz.prog 65 #[u, v] W fun e w' => e = .returned (.int .i64 0) ∧ Below W.heap.size W w' := fun k W u v hu hv => by
        rw [hs k] at hu
        have h := rat.Cmp_any u v _ _ W hu hv ((s3 k).le (by decide)) ((s3 k).le (by decide))
        rwa [cmpR_same] at h
      have hin := fun k => cdays_in (k := k) i1 i2
      have hin2 := fun k => cdays_in (k := k) i2 i3
      have P9 := fun (W : World) (u : Value) hu => rat.Text_any u _ W hu ((s3 4).le (by decide))
      have hw3 := cpart_whole (y := y) (m := m) (d := d) (y2 := y2) (m2 := m2) (d2 := d2) (f := 1 + f) (by omega) (by omega)
      have htx : ref.str (rat.rtxt (cpart 4 y m d y2 m2 d2 (dayOf y m d) (dayOf y2 m2 d2) (1 + f))) = ref.str (ref.ratText 1 (1 + f).toNat) := by rw [hw3, rat.ratText_rtxt (by omega)]
      rw [htx] at P9
      have hq := fun k => cdays_add k y m d y' m' d' y2 m2 d2
      rw [e1, e2, e3] at *
      by_cases hk : g = 3
      · subst hk
        have P3 := hp3 4 (by decide) (by decide)
        have P8 := hd3 4 (by decide) (by decide)
        rw [← hq 4] at P8
        refine CountParts_F HBg kind a b c fr 3 f A B C a0 a1 hA hg hf hg0.1 hg0.2 hf0.1 hf0.2 hA0.1 hA0.2 hB hB1 hC hAB hBC hC1 _ _ _ _ _ (hin 4) (hin2 4) _ 1 (1 + f).toNat (hp 4 (by decide) (by decide)) (hp2 4 (by decide) (by decide)) P3 (P4 4) (P5 4) (hd 4 (by decide) (by decide)) (hd2 4 (by decide) (by decide)) P8 P9 ?_ ?_ w hw
        · intro W
          refine (ref.Frac_any 1 (1 + f) (by decide) (by decide) (by omega) (by omega) W).mono ?_
          rintro e w' ⟨v, he, hv, hb⟩
          refine ⟨v, he, ?_, hb⟩
          rw [show decide ((1 : Int) < 0) = false from rfl, decide_eq_false (show ¬ 1 + f < 0 by omega)] at hv
          rw [show (1 + f).natAbs = (1 + f).toNat by omega] at hv
          exact hv
        · intro W u hu
          exact ref.QText_any u 1 (1 + f).toNat W hu (Nat.le_trans (ref.digs_small (by decide)) (by decide)) (Nat.le_trans (ref.digs_small (by omega)) (by decide)) (by omega)
      · have P8 := hd3 (1 + g) (by omega) (by omega)
        rw [← hq (1 + g)] at P8
        exact CountParts_K HBg kind a b c fr g f A B C a0 a1 hA hg hf hg0.1 hg0.2 hf0.1 hf0.2 hA0.1 hA0.2 hB hB1 hC hAB hBC hC1 _ _ _ _ _ (hin (1 + g)) (hin2 (1 + g)) (by omega) (hp (1 + g) (by omega) (by omega)) (hp2 (1 + g) (by omega) (by omega)) (hp3 (1 + g) (by omega) (by omega)) (P4 (1 + g)) (P5 (1 + g)) (hd (1 + g) (by omega) (by omega)) (hd2 (1 + g) (by omega) (by omega)) P8 w hw
    · exact CountParts_T2 HBg kind a b c fr g f A B C a0 a1 hA hg hf hg0.1 hg0.2 hf0.1 hf0.2 hA0.1 hA0.2 hB hB1 hC hAB hBC w hw
  · exact CountParts_T1 HBg kind a b c fr g f A B C a0 a1 hA hg hf hg0.1 hg0.2 hf0.1 hf0.2 hA0.1 hA0.2 hB hB1 hC hAB w hw
end Go.Proofs.YtlhmfgbaefaneaaGreatDoor.law6
namespace Go.Proofs.YtlhmfgbaefaneaaGreatDoor.law2
open Go.Proofs.YtlhmfgbaefaneaaGreatDoor.num (Lz Ln)
theorem Bn.ref {x n m : Nat} (h : Bn x n) (hm : n ≤ m) : (ref.digs x).length ≤ m :=
  Nat.le_trans (ref.digs_len_of_lt (n := n) (Nat.lt_of_lt_of_le h (Nat.pow_le_pow_left (by omega) _))) hm
theorem Bz.ref {z : Int} {n m : Nat} (h : Bz z n) (hm : n ≤ m) : (ref.digs z.natAbs).length ≤ m := Bn.ref (x := z.natAbs) h hm
end Go.Proofs.YtlhmfgbaefaneaaGreatDoor.law2
namespace Go.Proofs.YtlhmfgbaefaneaaGreatDoor.law6
open Go Go.ChangeShapes Go.WideShapes Go.RowKit Go.Lib Go.Proofs.YtlhmfgbaefaneaaGreatDoor.date
theorem own : ownKnob Tryz.prog.godebug = none := by kernel_rfl
theorem et : Tryz.prog.globalNamed "errors.errorType" = some 1 := by kernel_rfl
theorem rt : (Tryz.prog.cutTypes.find? (·.1 == "internal/reflectlite.rtype")).map (·.2) = some 258 := by kernel_rfl
theorem oneRow : ((List.range 333).filter fun t => Tryz.prog.rowNamed t [101, 114, 114, 111, 114]) = [28] := by kernel_rfl
theorem tsize : Tryz.prog.types.size = 333 := by kernel_rfl
theorem handle_of {W : World} (h : handlesMet Tryz.prog [("errors.errorType", Rows.laid_errors_errorType)] W) : flt.Handle W := by
  obtain ⟨name, u, ty, e1, e2, e3, e4, e5⟩ := h _ (List.mem_singleton.2 rfl)
  have en : name = [101, 114, 114, 111, 114] := (Option.some.inj e1).symm
  subst en
  obtain rfl := Option.some.inj (rt.symm.trans e2)
  have hm : ty ∈ (List.range 333).filter fun t => Tryz.prog.rowNamed t [101, 114, 114, 111, 114] := List.mem_filter.2 ⟨List.mem_range.2 (by rw [← tsize]; exact e3), e4⟩
  rw [oneRow] at hm
  obtain rfl := List.mem_singleton.1 hm
  have hh : typeHandle Tryz.prog 28 = .pointer (some ⟨10, 28, none⟩) := by kernel_rfl
  rw [hh] at e5
  unfold flt.Handle
  simpa using World.var?_cell et e5 0
def laidL : List (String × DataW Unit) := (Rows.dateAllRow.laid).filter fun x => x.2.handleName?.isNone
theorem in_pow : ("internal/strconv.uint64pow10", tabData .u64 pow10Tab) ∈ laidL := by
  unfold laidL
  refine List.mem_filter.2 ⟨?_, rfl⟩
  repeat (first | exact .head _ | refine .tail _ ?_)
theorem in_len : ("rentier/date.lengths", tabData .i64 [31, 28, 31, 30, 31, 30, 31, 31, 30, 31, 30, 31]) ∈ laidL := by
  unfold laidL
  refine List.mem_filter.2 ⟨?_, rfl⟩
  repeat (first | exact .head _ | refine .tail _ ?_)
theorem tab_of {W : World} {n : String} {k : IntKind} {zs : List Int} {g t e c : Nat} (h : VarReads Tryz.prog W n (tabData k zs)) (hg : Tryz.prog.globalNamed n = some g) (hty : (Tryz.prog.globals[g]?).map (·.type) = some t) (ht : Tryz.prog.underlying t = some (.array c e)) (he : Tryz.prog.underlying e = some (.int k)) (hce : Tryz.prog.cellsOf e = 1) (hct : Tryz.prog.cellsOf t = c) :
    ∃ u fr, W.heap[g]? = some (.cells (zs.map fun z => Value.int k z).toArray u fr) := by
  obtain ⟨g', t', cs, fuel, p, hg', ht', hvar, hd⟩ := h
  obtain rfl := Option.some.inj (hg.symm.trans hg')
  obtain rfl := Option.some.inj (hty.symm.trans ht')
  have hc := cells_of_tab ht he hce hct hd
  unfold World.var? at hvar
  rw [hg, Option.bind_some] at hvar
  split at hvar
  · rename_i cs' u fr hh
    cases hvar
    refine ⟨u, fr, ?_⟩
    rw [hh, ← hc]
  · cases hvar
theorem wd_of {W : World} (hL : laidMet Tryz.prog laidL W) (hH : handlesMet Tryz.prog [("errors.errorType", Rows.laid_errors_errorType)] W) : Wd W := by
  obtain ⟨u1, f1, h1⟩ := tab_of (laidMet.reads hL in_pow) (g := 2) (t := 285) (e := 104) (c := 20) (by kernel_rfl) (by kernel_rfl) (by kernel_rfl) (by kernel_rfl) (by kernel_rfl) (by kernel_rfl)
  obtain ⟨u2, f2, h2⟩ := tab_of (laidMet.reads hL in_len) (g := 0) (t := 102) (e := 3) (c := 12) (by kernel_rfl) (by kernel_rfl) (by kernel_rfl) (by kernel_rfl) (by kernel_rfl) (by kernel_rfl)
  refine ⟨handle_of hH, fun i hi => ?_, ⟨u1, f1, h1⟩⟩
  rw [cell_of_row _ _ i _ _ f2 h2]
  match i, hi with
  | 0, _ | 1, _ | 2, _ | 3, _ | 4, _ | 5, _ | 6, _ | 7, _ | 8, _ | 9, _ | 10, _ | 11, _ => rfl
noncomputable def laidBase (os : Os) : World :=
  { World.holding Tryz.prog os ⟨#[], #[], []⟩ with heap := (World.holding Tryz.prog os ⟨#[], #[], []⟩).heap.modify 1 fun
      | .cells _ t frozen => .cells #[.iface 258 (.agg #[.pointer (some ⟨10, 28, none⟩)])] t frozen
      | o => o }
noncomputable def laidWorld (os : Os) : World := (laidBase os).layVars Tryz.prog laidL
theorem laidWorld_os (os : Os) : (laidWorld os).os = os := World.layVars_os _ _ _
theorem laidWorld_met (os : Os) (args : Array Value) : laidMetH Tryz.prog Rows.dateAllRow.laid ((laidWorld os).forCall (fun _ _ => 0) ⟨#[], args, []⟩).memory := by
  refine laidMetH_of_parts ?_ (by kernel_rfl)
  have e1 : (laidL.filter fun x => (laidL.map (·.1)).contains x.1) = laidL := List.filter_eq_self.2 fun x hx => List.contains_iff_mem.2 (List.mem_map.2 ⟨x, hx, rfl⟩)
  have e2 : (laidL.filter fun x => !(laidL.map (·.1)).contains x.1) = [] := List.filter_eq_nil_iff.2 fun x hx => by rw [List.contains_iff_mem.2 (List.mem_map.2 ⟨x, hx, rfl⟩)]; simp
  have h : laidMet Tryz.prog laidL (laidWorld os) := laidMet_layVars (w0 := laidBase os) (laidL.map (·.1)) [] (by rw [e1]; rfl) (by rw [e1]; kernel_rfl) (by rw [e1]; kernel_rfl) (by rw [e2]; exact LaidIn.none)
  exact h.of_heap (by simp [World.memory, World.forCall, Input.heap])
theorem laid_vars (os : Os) (args : Array Value) : ((laidWorld os).forCall (fun _ _ => 0) ⟨#[], args, []⟩).variablesB Tryz.checked.prog = true := by kernel_rfl
theorem laid_rest (os : Os) (args : Array Value) : (((laidWorld os).forCall (fun _ _ => 0) ⟨#[], args, []⟩).heap.toList.drop Tryz.checked.prog.globals.size).take ((begin Tryz.checked.prog (fun _ _ => 0) default).world.heap.size - Tryz.checked.prog.globals.size) =
      (begin Tryz.checked.prog (fun _ _ => 0) default).world.heap.toList.drop Tryz.checked.prog.globals.size := by kernel_rfl
end Go.Proofs.YtlhmfgbaefaneaaGreatDoor.law6
namespace Go.Proofs.YtlhmfgbaefaneaaGreatDoor.law6
open Go Go.ChangeShapes Go.RowKit
theorem kids : Kids Tryz.prog (· < Tryz.prog.types.size) := kids_rows fact_c1 fact_c2
theorem full : ∀ t e, t < Tryz.prog.types.size → Tryz.prog.underlying t = some (.slice e) → 0 < Tryz.prog.cellsOf e := slices_full_of Tryz.prog (by kernel_rfl)
section
variable {H : Type} {enc : TypeId × Value → H} {P : Program} {W W' : World} {base : Nat} {sp : Nat → Bool} {held : Bool}
theorem trod_all_carry (hs : ∀ p : MemPlace, p.block < W.heap.size → W.sameAt W' p) : ∀ {ts : List TypeId} {vs : List Value} {ds : List (DataW H)} {ps : List MemPlace}, DataW.TrodAll enc P W base sp held ts vs ds ps → (∀ p ∈ ps, p.block < W.heap.size) → DataW.TrodAll enc P W' base sp held ts vs ds ps
  | [], [], [], _, h, _ => h
  | _ :: _, _ :: _, _ :: _, _, ⟨p, q, ⟨n, h1⟩, h2, e⟩, hp => ⟨p, q, ⟨n, DataW.trod_carry n _ _ _ h1 fun x hx => hs x (hp x (by rw [e]; exact List.mem_append_left _ hx))⟩, trod_all_carry hs h2 (fun x hx => hp x (by rw [e]; exact List.mem_append_right _ hx)), e⟩
theorem places_stay (hb : Below W.heap.size W W') (p : MemPlace) (hp : p.block < W.heap.size) : W.sameAt W' p := by
  cases p with
  | cell b off => exact hb.cell (p := ⟨b, off, none⟩) hp
  | map b => exact hb.block b hp
theorem args_stay {ts : List TypeId} {vs : List Value} {ds : List (DataW H)} {ps : List MemPlace} (hT : ∀ t ∈ ts, t < Tryz.prog.types.size) (h : DataW.TrodAll enc Tryz.prog W 0 (fun _ => true) true ts vs ds ps) (hp : ∀ p ∈ ps, p.block < W.heap.size) (hb : Below W.heap.size W W') :
    DataW.TrodAll enc Tryz.prog W' 0 (fun b => decide (b < W.heap.size)) true ts vs ds ps :=
  trod_all_carry (places_stay hb) (h.respare kids full hT fun p h1 => decide_eq_true (hp p h1)) hp
end
end Go.Proofs.YtlhmfgbaefaneaaGreatDoor.law6
namespace Go.Proofs.YtlhmfgbaefaneaaGreatDoor.law6
open Go Go.ChangeShapes Go.WideShapes Go.RowKit Go.Deep
open Go.Proofs.YtlhmfgbaefaneaaGreatDoor.ref6 (Rule)
instance : Inhabited Rule := ⟨⟨0, 0, 0, 0, 0, false⟩⟩
section
set_option maxRecDepth 100000
variable {H : Type} {enc : TypeId × Value → H} {W : World} {base : Nat} {sp : Nat → Bool} {held : Bool}
end
end Go.Proofs.YtlhmfgbaefaneaaGreatDoor.law6
namespace Go.Proofs.YtlhmfgbaefaneaaGreatDoor.law6
open Go.ChangeShapes Go.WideShapes Go.RowKit
open Go.ChangeMaps (open_string shut_string)
set_option maxRecDepth 100000 in
theorem countParts_lifted (os : Os) (started : os.Started) (H : Type) (enc : TypeId × Value → H) :
    ReturnsInHanded {} Tryz.checked os 16 .any (fun w args => (Rows.countPartsSpec.pre enc Tryz.prog Tryz.f16 [] false w args ∧ laidMetH Tryz.prog Rows.countPartsRow.laid w) ∧ sizedMet enc Tryz.prog Tryz.f16 (OpenSpec.ofChange Rows.countPartsSpec) false w args)
      (Rows.countPartsSpec.post enc Tryz.prog Tryz.f16 false true false false) := by
  refine returnsInHanded_of_change_and (C := Tryz.checked) (X := fun w _ => laidMetH Tryz.prog Rows.countPartsRow.laid w) (fun _ _ _ hh h => h.of_heap hh) own started (by kernel_rfl) Tryz.func16
    (ChangeSpec.witness_at (enc := enc) (C := Tryz.checked) (os := os) (X := fun w _ => laidMetH Tryz.prog Rows.countPartsRow.laid w) false (laidWorld os) #[.int .i64 0, .int .i64 0, .int .i64 0, .int .i64 0, .int .i64 0] 8 (laidWorld_os os) (laid_vars os _) (laid_rest os _) (by kernel_rfl) (by kernel_rfl) (by kernel_rfl) (laidWorld_met os _)) ?_
  intro W base args ds gs before hval0 hW _ hsz hL _
  have hval : ∀ (j : Nat) t v, Tryz.f16.params[j]? = some t → args[j]? = some v → Value.okWide Tryz.prog W .any base t v := hval0
  have hW' := hW
  obtain ⟨p, q, hA00, hV0, rfl, hfz, hnd⟩ := hW
  have hlt : ∀ x ∈ p, x.block < W.heap.size := fun x hx => hW'.lt x (List.mem_append_left _ hx)
  have hstay : ∃ ps, ∀ W', Below W.heap.size W W' → DataW.TrodAll enc Tryz.prog W' 0 (fun b => decide (b < W.heap.size)) true Tryz.f16.params.toList args.toList ds ps :=
    ⟨p, fun W' hb => args_stay (by rw [Tryz.params16]; simp) hA00 hlt hb⟩
  have hA0 : DataW.TrodAll enc Tryz.prog W 0 (fun _ => true) true Tryz.f16.params.toList args.toList ds p := hA00
  have hV : DataW.TrodVars enc Tryz.prog W (fun _ => true) [] gs q := hV0
  rw [Tryz.params16] at hA0 hval hsz
  obtain ⟨v0, w0, d0, e0, p0, q0, g0, rfl, rfl, h0, hA1⟩ := trodAll_cons hA0
  obtain ⟨v1, w1, d1, e1, p1, q1, g1, rfl, rfl, h1, hA2⟩ := trodAll_cons hA1
  obtain ⟨v2, w2, d2, e2, p2, q2, g2, rfl, rfl, h2, hA3⟩ := trodAll_cons hA2
  obtain ⟨v3, w3, d3, e3, p3, q3, g3, rfl, rfl, h3, hA4⟩ := trodAll_cons hA3
  obtain ⟨v4, w4, d4, e4, p4, q4, g4, rfl, rfl, h4, hA5⟩ := trodAll_cons hA4
  obtain ⟨g5, rfl, rfl⟩ := trodAll_nil hA5
  obtain rfl : args = #[v0, v1, v2, v3, v4] := by cases args; simp_all
  obtain ⟨a0, rfl, rfl, rfl, u0⟩ := open_int Tryz.underlying3 (hval 0 3 v0 rfl rfl) h0
  obtain ⟨a1, rfl, rfl, rfl, u1⟩ := open_int Tryz.underlying3 (hval 1 3 v1 rfl rfl) h1
  obtain ⟨a2, rfl, rfl, rfl, u2⟩ := open_int Tryz.underlying3 (hval 2 3 v2 rfl rfl) h2
  obtain ⟨a3, rfl, rfl, rfl, u3⟩ := open_int Tryz.underlying3 (hval 3 3 v3 rfl rfl) h3
  obtain ⟨a4, rfl, rfl, rfl, u4⟩ := open_int Tryz.underlying3 (hval 4 3 v4 rfl rfl) h4
  have y0 := bounds_i64 u0
  have y1 := bounds_i64 u1
  have y2 := bounds_i64 u2
  have y3 := bounds_i64 u3
  have y4 := bounds_i64 u4
  have hL' : laidMet Tryz.prog laidL W ∧ handlesMet Tryz.prog [("errors.errorType", Rows.laid_errors_errorType)] W := hL
  have hg := wd_of hL'.1 hL'.2
  obtain ⟨rfl, rfl⟩ : gs = [] ∧ q = [] := by
    cases gs with
    | nil => exact ⟨rfl, hV⟩
    | cons g r => exact absurd hV (by intro h; cases h)
  have e1 : Rows.countPartsSpec.fn H ([.lit (.int .i64 a0), .lit (.int .i64 a1), .lit (.int .i64 a2), .lit (.int .i64 a3), .lit (.int .i64 a4)] ++ []) = { results := [.lit (.bool true)], args := [.lit (.int .i64 a0), .lit (.int .i64 a1), .lit (.int .i64 a2), .lit (.int .i64 a3), .lit (.int .i64 a4)] } := by simp [Rows.countPartsSpec]
  refine (CountParts_walk begun_all cnt_all a0 a1 a2 a3 a4 y1.1 (by omega) W hg).mono fun e W' ⟨he, hb⟩ => ?_
  subst he
  obtain ⟨ps, hs⟩ := hstay
  refine ⟨_, rfl, _, _, _, [], ps, [], hW', ?_, ?_, ?_, hb.frame _, fun h => by cases h⟩
  · rw [e1]; exact trodAll_mk1 (shut_bool Tryz.underlying4 true)
  · rw [e1]; exact hs W' hb
  · rw [e1]; rfl
theorem countParts_c0 : (Rows.countPartsRow.wf (OpenSpec.ofChange Rows.countPartsSpec)) = true := by kernel_rfl
theorem countParts_c3 : (Tryz.f16.params.all (Tryz.prog.readableRec ·)) = true := by kernel_rfl
theorem countParts_c4 : (namedTie Tryz.prog Rows.countPartsRow.named Rows.countPartsSpec.vars) = true := by kernel_rfl
theorem countParts_c5 : ((Rows.countPartsRow.stops == [])) = true := by kernel_rfl
theorem countParts_c7 : ((Rows.countPartsRow.knobs == [])) = true := by kernel_rfl
theorem countParts_c9 : ((Rows.countPartsRow.inPlace == Tryz.prog.inPlace 16)) = true := by kernel_rfl
theorem countParts_c10 : ((Rows.countPartsRow.unfollowed == Tryz.prog.unfollowed 16)) = true := by kernel_rfl
theorem countParts_c11 : ((Rows.countPartsRow.recurses == Tryz.prog.recurses 16)) = true := by kernel_rfl
theorem countParts_c12 : ((Rows.countPartsRow.named == Tryz.prog.varsNamed 16)) = true := by kernel_rfl
theorem countParts_c13 : ((Rows.countPartsRow.maps == (Tryz.f16.params.toList ++ Rows.countPartsSpec.plain.varTypes Tryz.prog).any (Tryz.prog.mapsRec ·))) = true := by kernel_rfl
theorem countParts_c14 : ((Rows.countPartsRow.ifaces == (Tryz.f16.params.toList ++ Rows.countPartsSpec.plain.varTypes Tryz.prog).any (Tryz.prog.ifacesRec ·))) = true := by kernel_rfl
theorem countParts_c15 : ((Rows.countPartsRow.mapsOut == Tryz.prog.mapsAmong Tryz.f16.resultTypes.toList)) = true := by kernel_rfl
theorem countParts_c16 : ((Rows.countPartsRow.loops == (Tryz.f16.params.toList ++ Rows.countPartsSpec.plain.varTypes Tryz.prog).any (Tryz.prog.loopsFrom ·))) = true := by kernel_rfl
theorem countParts_c17 : ((Rows.countPartsRow.wideKeys == (Tryz.f16.params.toList ++ Rows.countPartsSpec.plain.varTypes Tryz.prog ++ Tryz.f16.resultTypes.toList).any (Tryz.prog.wideKeysFrom ·))) = true := by kernel_rfl
theorem countParts_c18 : (Rows.countPartsSpec.vars.all (Tryz.prog.varReadable ·)) = true := by kernel_rfl
theorem countParts_c19 : (Tryz.f16.resultTypes.all (fun t => Tryz.prog.readableRec t && decide (t < Tryz.prog.types.size))) = true := by kernel_rfl
theorem countParts_c20 : ((Rows.countPartsRow.ifacesOut == Tryz.f16.resultTypes.toList.any (Tryz.prog.ifacesRec ·))) = true := by kernel_rfl
theorem countParts_c21 : ((Rows.countPartsRow.loopsOut == Tryz.f16.resultTypes.toList.any (Tryz.prog.loopsFrom ·))) = true := by kernel_rfl
theorem countParts_c23 : (Rows.countPartsRow.shortTexts.isNone) = true := by kernel_rfl
theorem countParts_c28 : ((Rows.countPartsRow.kinds == (if Rows.countPartsRow.domain.isEmpty then [] else Tryz.f16.params.toList.map fun t => match Tryz.prog.underlying t with | some (.int k) => some k | _ => none))) = true := by kernel_rfl
theorem countParts_c29 : ((Rows.countPartsRow.pinned == Rows.countPartsRow.pinnedBy)) = true := by kernel_rfl
theorem countParts_c30 : ((Rows.countPartsRow.veiled == (Tryz.f16.params.toList ++ Rows.countPartsSpec.plain.varTypes Tryz.prog ++ Tryz.f16.resultTypes.toList).any (Tryz.prog.veiledRec ·))) = true := by kernel_rfl
theorem countParts_c31 : (Rows.countPartsRow.veiledFits Tryz.prog Tryz.f16.params.toList (Tryz.f16.params.toList ++ Rows.countPartsSpec.plain.varTypes Tryz.prog ++ Tryz.f16.resultTypes.toList)) = true := by kernel_rfl
set_option maxRecDepth 100000 in
theorem countParts_facts : joinedFacts Tryz.prog 16 Tryz.f16 Rows.countPartsSpec Rows.countPartsRow = true := by
  unfold joinedFacts
  exact band (band (band (band (band (band (band (band (band (band (band (band (band (band (band (band (band (band (band (band (band (band (band (band (band (band (band (band (band (band (band countParts_c0 fact_c1) fact_c2) countParts_c3) countParts_c4) countParts_c5) fact_c6) countParts_c7) fact_c8) countParts_c9) countParts_c10) countParts_c11) countParts_c12) countParts_c13) countParts_c14) countParts_c15) countParts_c16) countParts_c17) countParts_c18) countParts_c19) countParts_c20) countParts_c21) fact_c22) countParts_c23) fact_c24) fact_c25) fact_c26) fact_c27) countParts_c28) countParts_c29) countParts_c30) countParts_c31
theorem countParts_goes : false = Rows.countPartsRow.goesBy Tryz.prog := by kernel_rfl
theorem countParts_holds : Rows.CountPartsSaid :=
  OpenClaim.holds_of_wide 16 Tryz.f16 rfl rfl rfl rfl rfl rfl rfl ⟨rfl, rfl, rfl, rfl, rfl⟩ rfl rfl rfl rfl rfl (by kernel_rfl) Tryz.func16 countParts_facts
    (of_decide_eq_true (by kernel_rfl)) (by unfold Func.isWrapper; rw [if_neg (of_decide_eq_false (by kernel_rfl))]; exact ⟨rfl, rfl⟩)
    (fun os started H enc _ => countParts_lifted os started H enc)
theorem countParts_plain (f : FuncId) (fn : Func) (hf : Tryz.pinned.checked.prog.funcNamed "rentier/rentierlaw6.CountParts" = some f) (hfn : Tryz.pinned.checked.prog.funcs[f]? = some fn) :
    true = Tryz.pinned.checked.prog.looks [] ∧ ∀ (j : Nat) t, fn.params[j]? = some t → Tryz.pinned.checked.prog.wantsStandIn t = false := by
  obtain rfl : f = 16 := Option.some.inj ((show Tryz.prog.funcNamed "rentier/rentierlaw6.CountParts" = some 16 by kernel_rfl).symm.trans hf) |>.symm
  obtain rfl : fn = Tryz.f16 := (Option.some.inj (Tryz.func16.symm.trans hfn)).symm
  refine ⟨by kernel_rfl, fun j t ht => ?_⟩
  rw [Tryz.params16] at ht
  have hm := Array.mem_of_getElem? ht
  simp at hm
  have t_i : Tryz.pinned.checked.prog.wantsStandIn 3 = false := by kernel_rfl
  rcases hm with rfl
  exact t_i
theorem countParts_card : Rows.CountPartsCardSaid :=
  Claim7.holds_tied_plain_at .later [] _ _ _ _ (countParts_holds) (fun _ h => by cases h) (by kernel_rfl) (fun _ h => by cases h) countParts_row_tie rfl ⟨rfl, rfl⟩ (by kernel_rfl) rfl countParts_plain countParts_goes
end Go.Proofs.YtlhmfgbaefaneaaGreatDoor.law6
