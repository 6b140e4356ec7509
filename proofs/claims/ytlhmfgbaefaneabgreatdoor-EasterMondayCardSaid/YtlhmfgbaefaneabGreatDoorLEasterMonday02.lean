/-
  The steps of the walks, part 2: Lw6EasterMonday, Read, RefMul.
-/
import Derived.BigQuiet
import Derived.Deep.QuietTactic
import Derived.Test.YtlhmfgbaefaneabGreatDoorProg
import Derived.WalkKit
import Derived.WalkSpells
import Derived.Lib.Hide
import Derived.OwnWalk
import Derived.Below
import Derived.Carry
import Derived.Outline
import Derived.Laws.MakeOwn
import Derived.Test.YtlhmfgbaefaneabGreatDoorB01
import Derived.Test.YtlhmfgbaefaneabGreatDoorB02
import Derived.Test.YtlhmfgbaefaneabGreatDoorB03
import Derived.Test.YtlhmfgbaefaneabGreatDoorB04
import Derived.Test.YtlhmfgbaefaneabGreatDoorB05
import Derived.Test.YtlhmfgbaefaneabGreatDoorB06
import Derived.Test.YtlhmfgbaefaneabGreatDoorB07
import Derived.Test.YtlhmfgbaefaneabGreatDoorB08
import Derived.Test.YtlhmfgbaefaneabGreatDoorB09
import Derived.Test.YtlhmfgbaefaneabGreatDoorB10
import Derived.Test.YtlhmfgbaefaneabGreatDoorB11
import Derived.Test.YtlhmfgbaefaneabGreatDoorB12
import Derived.Test.YtlhmfgbaefaneabGreatDoorB13
import Derived.Test.YtlhmfgbaefaneabGreatDoorB14
import Derived.Test.YtlhmfgbaefaneabGreatDoorB15
import Derived.Test.YtlhmfgbaefaneabGreatDoorB16
import Derived.Test.YtlhmfgbaefaneabGreatDoorB17
import Derived.Test.YtlhmfgbaefaneabGreatDoorB18
import Derived.Test.YtlhmfgbaefaneabGreatDoorB19
import Derived.Test.YtlhmfgbaefaneabGreatDoorB20
import Derived.Test.YtlhmfgbaefaneabGreatDoorB21
import Derived.Test.YtlhmfgbaefaneabGreatDoorB22
import Derived.Test.YtlhmfgbaefaneabGreatDoorB23
import Derived.Test.YtlhmfgbaefaneabGreatDoorB24
import Derived.Test.YtlhmfgbaefaneabGreatDoorB25
import Derived.Test.YtlhmfgbaefaneabGreatDoorB26
import Derived.Test.YtlhmfgbaefaneabGreatDoorB27
import Derived.Test.YtlhmfgbaefaneabGreatDoorB28
import Derived.Test.YtlhmfgbaefaneabGreatDoorB29
import Derived.Test.YtlhmfgbaefaneabGreatDoorB30
import Derived.Test.YtlhmfgbaefaneabGreatDoorB31
import Derived.Test.YtlhmfgbaefaneabGreatDoorB32
import Derived.Test.YtlhmfgbaefaneabGreatDoorB33
import Derived.Test.YtlhmfgbaefaneabGreatDoorB34
import Derived.Test.YtlhmfgbaefaneabGreatDoorB35
import Derived.Test.YtlhmfgbaefaneabGreatDoorB36
import Derived.Test.YtlhmfgbaefaneabGreatDoorB37
import Derived.Test.YtlhmfgbaefaneabGreatDoorB38
import Derived.Test.YtlhmfgbaefaneabGreatDoorB39
import Derived.Test.YtlhmfgbaefaneabGreatDoorB40
import Derived.Test.YtlhmfgbaefaneabGreatDoorLEasterMonday01
namespace Go.Proofs.YtlhmfgbaefaneabGreatDoor.law6
open Go Go.RowKit Go.Proofs.YtlhmfgbaefaneabGreatDoor.day Go.Proofs.YtlhmfgbaefaneabGreatDoor.date
open Go.Proofs.YtlhmfgbaefaneabGreatDoor.ref (str str_size)
open Go.Proofs.YtlhmfgbaefaneabGreatDoor.ref6 (CAt dayText DayForm quiet_same drewN_below6)
set_option maxRecDepth 100000 in
set_option maxHeartbeats 4000000 in
theorem EasterMonday_0 (HBg : BegunC) (y n p q v : Int) (HY : y.tmod 300 % 300 = p) (HQ : n.tmod 201 % 201 = q) (hp : 0 ≤ p) (hp2 : p ≤ 299) (hq : 0 ≤ q) (hq2 : q ≤ 200) (E : Int) (e0 : 0 ≤ E) (e1 : E ≤ 109572) (hv : (q - 100).tmod 7 % 7 = v)
    (P1 : (∀ W, Wd W → Calls Tryz.prog 38 #[.int .i64 (1900 + p)] W fun e w' => e = .returned (.tuple #[.int .i64 E, .nilIface]) ∧ Below W.heap.size W w')) (P2 : (∀ W, Wd W → Calls Tryz.prog 39 #[.agg #[.int .i64 3, .int .i64 0, .int .i64 0, .int .i64 (q - 100), .int .i64 0, .bool false], .int .i64 (1900 + p)] W fun e w' => e = .returned (.tuple #[.int .i64 (E + (q - 100)), .bool true]) ∧ Below W.heap.size W w')) (P3 : (∀ W, Wd W → Calls Tryz.prog 40 #[.agg #[.int .i64 3, .int .i64 0, .int .i64 0, .int .i64 (q - 100), .int .i64 0, .bool false], .int .i64 (E + (q - 100))] W fun e w' => e = .returned (.bool true) ∧ Below W.heap.size W w')) (P4 : (∀ W, Wd W → Calls Tryz.prog 34 #[.int .i64 (E + (q - 100))] W fun e w' => e = .returned (.int .i64 v) ∧ Below W.heap.size W w')) (w : World) (hw : Wd w) :
    Calls Tryz.prog 9 #[.int .i64 y, .int .i64 n] w fun e w' => e = .returned (.bool true) ∧ Below w.heap.size w w' := by
  have t2 := Int.tmod_lt_of_pos y (show (0 : Int) < 300 by decide)
  have t3 : -300 < y.tmod 300 := by
    rcases Int.le_total 0 y with h | h
    · rw [Int.tmod_eq_emod_of_nonneg h]; omega
    · have e := Int.tmod_eq_emod_of_nonneg (b := 300) (show 0 ≤ -y by omega)
      rw [Int.neg_tmod] at e
      omega
  have s2 := Int.tmod_lt_of_pos n (show (0 : Int) < 201 by decide)
  have s3 : -201 < n.tmod 201 := by
    rcases Int.le_total 0 n with h | h
    · rw [Int.tmod_eq_emod_of_nonneg h]; omega
    · have e := Int.tmod_eq_emod_of_nonneg (b := 201) (show 0 ≤ -n by omega)
      rw [Int.neg_tmod] at e
      omega
  have u2 := Int.tmod_lt_of_pos (q - 100) (show (0 : Int) < 7 by decide)
  have u3 : -7 < (q - 100).tmod 7 := by
    rcases Int.le_total 0 (q - 100) with h | h
    · rw [Int.tmod_eq_emod_of_nonneg h]; omega
    · have e := Int.tmod_eq_emod_of_nonneg (b := 7) (show 0 ≤ -(q - 100) by omega)
      rw [Int.neg_tmod] at e
      omega
  have _ := HQ
  have _ := hp
  have _ := hp2
  have _ := hq
  have _ := hq2
  have _ := hv
  have HW := Lib.hid (fun W (h : Below w.heap.size w W) => hw.keep h)
  have C1 := Lib.hid (fun (W : World) (hW : Wd W) => HBg W hW)
  have C2 := Lib.hid (fun (W : World) (hW : Wd W) => P1 W hW)
  have C3 := Lib.hid (fun (W : World) (hW : Wd W) => P2 W hW)
  have C4 := Lib.hid (fun (W : World) (hW : Wd W) => P3 W hW)
  have C5 := Lib.hid (fun (W : World) (hW : Wd W) => P4 W hW)
  have HR0 := Lib.hid (Below.refl w.heap.size w)
  unfold errOf at *
  clear P1 P2 P3 P4
  clear hw
  go_enter Tryz.func9, Tryz.ntmps9
  go_wp2_with (first
    | (go_at_call 20; (with_reducible refine (C1.out _ (HW.out _ HR0.out)).mono ?_); rintro e W1 ⟨rfl, hb⟩
       have HR1 := Lib.hid (below_tr6 HR0.out hb rfl)
       clear C1 hb)
    | (go_at_call 38; (with_reducible refine (C2.out _ (HW.out _ HR1.out)).mono ?_); rintro e W2 ⟨rfl, hb⟩
       have HR2 := Lib.hid (below_tr6 HR1.out hb rfl)
       clear C2 hb)
    | (go_at_call 39; (with_reducible refine (C3.out _ (HW.out _ HR2.out)).mono ?_); rintro e W3 ⟨rfl, hb⟩
       have HR3 := Lib.hid (below_tr6 HR2.out hb rfl)
       clear C3 hb)
    | (go_at_call 40; (with_reducible refine (C4.out _ (HW.out _ HR3.out)).mono ?_); rintro e W4 ⟨rfl, hb⟩
       have HR4 := Lib.hid (below_tr6 HR3.out hb rfl)
       clear C4 hb)
    | (go_at_call 34; (with_reducible refine (C5.out _ (HW.out _ HR4.out)).mono ?_); rintro e W5 ⟨rfl, hb⟩
       have HR5 := Lib.hid (below_tr6 HR4.out hb rfl)
       clear C5 hb)
    | (fail "no arm"))
  go_ret
  exact ⟨rfl, HR5.out⟩
theorem EasterMonday_walk (HBg : BegunC) (HE : EasC) (HH : HolC) (y n : Int) (w : World) (hw : Wd w) :
    Calls Tryz.prog 9 #[.int .i64 y, .int .i64 n] w fun e w' => e = .returned (.bool true) ∧ Below w.heap.size w w' := by
  obtain ⟨p, hp⟩ : ∃ p, y.tmod 300 % 300 = p := ⟨_, rfl⟩
  obtain ⟨q, hq⟩ : ∃ q, n.tmod 201 % 201 = q := ⟨_, rfl⟩
  have hp0 : 0 ≤ p ∧ p ≤ 299 := by omega
  have hq0 : 0 ≤ q ∧ q ≤ 200 := by omega
  have P1 := HE.yes (1900 + p) (by omega) (by omega)
  obtain ⟨s1, -⟩ := easter_sunday (y := 1900 + p) (by omega) (by omega)
  obtain ⟨h1, h2⟩ := easter_holiday (y := 1900 + p) (n := q - 100) (by omega) (by omega) (by omega) (by omega)
  have P2 := HH.dayYes _ _ _ _ _ _ _ _ h1
  obtain ⟨y', m, a, hc, he⟩ := h2.civil
  have P3 := HH.is 3 0 0 (q - 100) 0 false y' m a hc
  rw [decide_eq_true (easter_rule (by omega) (by omega) (by omega) (by omega) hc he), he] at P3
  have P4 := fun W (_ : Wd W) => same_below (Weekday_day _ h2 W)
  obtain ⟨-, -, l1, l2⟩ := easter_lies (y := 1900 + p) (by omega) (by omega)
  refine EasterMonday_0 HBg y n p q _ hp hq hp0.1 hp0.2 hq0.1 hq0.2 (easterDay (1900 + p)) (by omega) (by omega) ?_ P1 P2 P3 P4 w hw
  unfold wday at s1 ⊢
  rcases Int.le_total 0 (q - 100) with h | h
  · rw [Int.tmod_eq_emod_of_nonneg h]; omega
  · have e := Int.tmod_eq_emod_of_nonneg (b := 7) (show 0 ≤ -(q - 100) by omega)
    rw [Int.neg_tmod] at e
    omega
end Go.Proofs.YtlhmfgbaefaneabGreatDoor.law6
namespace Go.Proofs.YtlhmfgbaefaneabGreatDoor.ref
open Go.RowKit
theorem Reads.of_own {w : World} {base : Nat} {sv : Value} {l : List Nat} (h : w.ownsRow base 80 1 sv l.length (l.map fun d => Value.int .u64 (d : Nat))) : Reads w sv l := by
  rcases h.2 with ⟨rfl, hl⟩ | ⟨g, cap, cur, rfl, _, _, hnc, hcm, _, _⟩
  · exact ⟨none, 0, by rw [hl], ⟨by omega, fun _ => rfl⟩, Nat.zero_le _, Or.inl (List.eq_nil_of_length_eq_zero hl)⟩
  · refine ⟨some ⟨g, 0, none⟩, cap, rfl, ⟨hnc, fun h => by cases h⟩, hcm, Or.inr ⟨g, rfl, fun k hk => ?_⟩⟩
    rw [h.cellAt k (by omega)]
    exact dg_map hk _
end Go.Proofs.YtlhmfgbaefaneabGreatDoor.ref
namespace Go.Proofs.YtlhmfgbaefaneabGreatDoor.ref
open Go.RowKit
theorem Own.reads {w : World} {base g cap : Nat} {o : List Nat} (h : Own w base g cap o) : Reads w (.slice (some ⟨g, 0, none⟩) o.length cap) o := Reads.of_own h
end Go.Proofs.YtlhmfgbaefaneabGreatDoor.ref
