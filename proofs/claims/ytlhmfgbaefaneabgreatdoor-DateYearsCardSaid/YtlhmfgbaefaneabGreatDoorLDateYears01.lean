/-
  The steps of the walks, part 1: Lw6DateYears, Read, RefMul.
-/
import Derived.Test.YtlhmfgbaefaneabGreatDoorProg
import Derived.WalkKit
import Derived.WalkSpells
import Derived.Lib.Hide
import Derived.OwnWalk
import Derived.Below
import Derived.Carry
import Derived.Outline
import Derived.Laws.MakeOwn
import Derived.Test.YtlhmfgbaefaneabGreatDoorB01
import Derived.Test.YtlhmfgbaefaneabGreatDoorB02
import Derived.Test.YtlhmfgbaefaneabGreatDoorB03
import Derived.Test.YtlhmfgbaefaneabGreatDoorB04
import Derived.Test.YtlhmfgbaefaneabGreatDoorB05
import Derived.Test.YtlhmfgbaefaneabGreatDoorB06
import Derived.Test.YtlhmfgbaefaneabGreatDoorB07
import Derived.Test.YtlhmfgbaefaneabGreatDoorB08
import Derived.Test.YtlhmfgbaefaneabGreatDoorB09
import Derived.Test.YtlhmfgbaefaneabGreatDoorB10
import Derived.Test.YtlhmfgbaefaneabGreatDoorB11
import Derived.Test.YtlhmfgbaefaneabGreatDoorB12
import Derived.Test.YtlhmfgbaefaneabGreatDoorB13
import Derived.Test.YtlhmfgbaefaneabGreatDoorB14
import Derived.Test.YtlhmfgbaefaneabGreatDoorB15
import Derived.Test.YtlhmfgbaefaneabGreatDoorB16
import Derived.Test.YtlhmfgbaefaneabGreatDoorB17
import Derived.Test.YtlhmfgbaefaneabGreatDoorB18
import Derived.Test.YtlhmfgbaefaneabGreatDoorB19
import Derived.Test.YtlhmfgbaefaneabGreatDoorB20
import Derived.Test.YtlhmfgbaefaneabGreatDoorB21
import Derived.Test.YtlhmfgbaefaneabGreatDoorB22
import Derived.Test.YtlhmfgbaefaneabGreatDoorB23
import Derived.Test.YtlhmfgbaefaneabGreatDoorB24
import Derived.Test.YtlhmfgbaefaneabGreatDoorB25
import Derived.Test.YtlhmfgbaefaneabGreatDoorB26
import Derived.Test.YtlhmfgbaefaneabGreatDoorB27
import Derived.Test.YtlhmfgbaefaneabGreatDoorB28
import Derived.Test.YtlhmfgbaefaneabGreatDoorB29
import Derived.Test.YtlhmfgbaefaneabGreatDoorB30
import Derived.Test.YtlhmfgbaefaneabGreatDoorB31
import Derived.Test.YtlhmfgbaefaneabGreatDoorB32
import Derived.Test.YtlhmfgbaefaneabGreatDoorB33
import Derived.Test.YtlhmfgbaefaneabGreatDoorB34
import Derived.Test.YtlhmfgbaefaneabGreatDoorB35
import Derived.Test.YtlhmfgbaefaneabGreatDoorB36
import Derived.Test.YtlhmfgbaefaneabGreatDoorB37
import Derived.Test.YtlhmfgbaefaneabGreatDoorB38
import Derived.Test.YtlhmfgbaefaneabGreatDoorB39
import Derived.Test.YtlhmfgbaefaneabGreatDoorB40
namespace Go.Proofs.YtlhmfgbaefaneabGreatDoor.law6
open Go Go.RowKit Go.Proofs.YtlhmfgbaefaneabGreatDoor.day Go.Proofs.YtlhmfgbaefaneabGreatDoor.date
open Go.Proofs.YtlhmfgbaefaneabGreatDoor.ref (str str_size)
open Go.Proofs.YtlhmfgbaefaneabGreatDoor.ref6 (CAt dayText DayForm quiet_same drewN_below6)
set_option maxRecDepth 100000 in
set_option maxHeartbeats 4000000 in
theorem DateYears_walk (HBg : BegunC) (y : Int) (y0 : -9223372036854775808 ≤ y) (y1 : y ≤ 9223372036854775807) (w : World) (hw : Wd w) :
    Calls Tryz.prog 5 #[.int .i64 y] w fun e w' => e = .returned (.bool true) ∧ Below w.heap.size w w' := by
  have t2 := Int.tmod_lt_of_pos y (show (0 : Int) < 299 by decide)
  have t3 : -299 < y.tmod 299 := by
    rcases Int.le_total 0 y with h | h
    · rw [Int.tmod_eq_emod_of_nonneg h]; omega
    · have e := Int.tmod_eq_emod_of_nonneg (b := 299) (show 0 ≤ -y by omega)
      rw [Int.neg_tmod] at e
      omega
  obtain ⟨K, hK⟩ : ∃ K : Nat, y.tmod 299 % 299 = K := ⟨(y.tmod 299 % 299).toNat, by omega⟩
  have hK2 : K ≤ 298 := by omega
  have i1 : IsCivil (1900 + (K : Nat)) 1 1 := ⟨by omega, by omega, by omega, by have := mlen_lo (y := 1900 + (K : Nat)) (m := 1) (by omega) (by omega); omega⟩
  have i2 : IsCivil (1900 + (K : Nat) + 1) 1 1 := ⟨by omega, by omega, by omega, by have := mlen_lo (y := 1900 + (K : Nat) + 1) (m := 1) (by omega) (by omega); omega⟩
  have e1 : dayOf (1900 + (K : Nat)) 1 1 = ydays K := by
    unfold dayOf
    rw [show ((1900 : Int) + (K : Nat) - 1900).toNat = K by omega, show ((1 : Int) - 1).toNat = 0 from rfl]
    simp only [mdays]
    omega
  have e2 : dayOf (1900 + (K : Nat) + 1) 1 1 = ydays K + ylen (1900 + (K : Nat)) := by
    unfold dayOf
    rw [show ((1900 : Int) + (K : Nat) + 1 - 1900).toNat = K + 1 by omega, show ((1 : Int) - 1).toNat = 0 from rfl, ydays_succ]
    simp only [mdays]
    omega
  have hO1 := Of_yes _ _ _ i1
  have hO2 := Of_yes _ _ _ i2
  rw [e1] at hO1
  rw [e2] at hO2
  have b0 := ref6.ydays_hi (show K ≤ 300 by omega)
  have HYM := Lib.hid (mdays_year (1900 + (K : Nat)))
  have HM := Lib.hid (fun j : Nat => mdays_succ (1900 + (K : Nat)) j)
  have m0 : mlen (1900 + (K : Nat)) 0 = 0 := rfl
  have m13 : mlen (1900 + (K : Nat)) 13 = 0 := rfl
  have HLN := Lib.hid (fun (W : World) (m : Int) (hW : Lens W) => Length_any (1900 + (K : Nat)) m W hW)
  have HW := Lib.hid (fun W (h : Below w.heap.size w W) => hw.keep h)
  have C1 := Lib.hid (fun (W : World) (hW : Wd W) => HBg W hW)
  have C2 := Lib.hid (fun (W : World) (hW : Wd W) => hO1 W hW.lens)
  have C3 := Lib.hid (fun (W : World) (hW : Wd W) => hO2 W hW.lens)
  have HR0 := Lib.hid (Below.refl w.heap.size w)
  clear i1 i2 e1 e2 hO1 hO2
  clear hw
  go_enter Tryz.func5, Tryz.ntmps5
  go_wp2_with (first
    | (go_at_call 20; (with_reducible refine (C1.out _ (HW.out _ HR0.out)).mono ?_); rintro e W1 ⟨rfl, hb⟩
       have HR1 := Lib.hid (below_tr6 HR0.out hb rfl)
       clear C1 hb)
    | (go_at_call 31; (with_reducible refine (C2.out _ (HW.out _ HR1.out)).mono ?_); rintro e W2 ⟨rfl, hb⟩
       have HR2 := Lib.hid (below_tr6 HR1.out hb rfl)
       clear C2 hb)
    | (go_at_call 31; (with_reducible refine (C3.out _ (HW.out _ HR2.out)).mono ?_); rintro e W3 ⟨rfl, hb⟩
       have HR3 := Lib.hid (below_tr6 HR2.out hb rfl)
       clear C3 hb)
    | (fail "no arm"))
  go_loopw [8, 9] (fun nv mv wr => ∃ j : Nat, j ≤ 12 ∧ nv = .int .i64 (mdays (1900 + (K : Nat)) j) ∧ mv = .int .i64 ((j : Nat) + 1) ∧ W3 = wr) (fun _ mv _ => (13 - intOf mv).toNat)
  case atStart => exact ⟨0, Nat.zero_le _, by simp [mdays], rfl, rfl⟩
  case round =>
    obtain ⟨j, hj, rfl, rfl, rfl⟩ := hrel
    obtain ⟨b5, b6⟩ := ref6.mdays_hi (y := 1900 + (K : Nat)) hj
    by_cases hlt : j < 12
    · have b3 := mlen_nn (1900 + (K : Nat)) ((j : Nat) + 1)
      have b4 := mlen_hi (1900 + (K : Nat)) ((j : Nat) + 1)
      have HS := Lib.hid (HM.out j)
      have HM1 := Lib.hid (HLN.out W3 ((j : Nat) + 1) (HW.out _ HR3.out).lens)
      generalize mlen (1900 + (K : Nat)) ((j : Nat) + 1) = ml at *
      generalize hyd : mdays (1900 + (K : Nat)) j = n at *
      clear hyd
      go_wp2_with (go_at_call 32; (with_reducible refine (HM1.out).mono ?_); rintro e w2 ⟨rfl, rfl⟩; clear HM1)
      go_roundw
      case rel => exact ⟨j + 1, by omega, by rw [HS.out], by go_num, trivial⟩
      case measure => simp [intOf] <;> omega
    · obtain rfl : j = 12 := by omega
      rw [HYM.out]
      have HL0 := Lib.hid (HLN.out W3 0 (HW.out _ HR3.out).lens)
      have HL13 := Lib.hid (HLN.out W3 13 (HW.out _ HR3.out).lens)
      rw [m0] at HL0
      rw [m13] at HL13
      have HLe := Lib.hid (Leap_any (1900 + (K : Nat)) W3)
      have hyl : ylen (1900 + (K : Nat)) = if leap (1900 + (K : Nat)) then 366 else 365 := rfl
      generalize ylen (1900 + (K : Nat)) = yl at *
      generalize ydays K = yd at *
      cases hleap : leap (1900 + (K : Nat))
      all_goals
        rw [hleap] at HLe hyl
        simp only [Bool.false_eq_true, if_true, if_false] at hyl
        subst hyl
        clear hleap
        go_wp2_with (first
          | (go_at_call 33; (with_reducible refine (HLe.out).mono ?_); rintro e w2 ⟨rfl, rfl⟩; clear HLe)
          | (go_at_call 32; (with_reducible refine (HL0.out).mono ?_); rintro e w2 ⟨rfl, rfl⟩; clear HL0)
          | (go_at_call 32; (with_reducible refine (HL13.out).mono ?_); rintro e w2 ⟨rfl, rfl⟩; clear HL13)
          | (fail "no arm"))
        go_ret
        exact ⟨rfl, HR3.out⟩
end Go.Proofs.YtlhmfgbaefaneabGreatDoor.law6
namespace Go.Proofs.YtlhmfgbaefaneabGreatDoor.ref
open Go.RowKit
theorem Reads.of_own {w : World} {base : Nat} {sv : Value} {l : List Nat} (h : w.ownsRow base 80 1 sv l.length (l.map fun d => Value.int .u64 (d : Nat))) : Reads w sv l := by
  rcases h.2 with ⟨rfl, hl⟩ | ⟨g, cap, cur, rfl, _, _, hnc, hcm, _, _⟩
  · exact ⟨none, 0, by rw [hl], ⟨by omega, fun _ => rfl⟩, Nat.zero_le _, Or.inl (List.eq_nil_of_length_eq_zero hl)⟩
  · refine ⟨some ⟨g, 0, none⟩, cap, rfl, ⟨hnc, fun h => by cases h⟩, hcm, Or.inr ⟨g, rfl, fun k hk => ?_⟩⟩
    rw [h.cellAt k (by omega)]
    exact dg_map hk _
end Go.Proofs.YtlhmfgbaefaneabGreatDoor.ref
namespace Go.Proofs.YtlhmfgbaefaneabGreatDoor.ref
open Go.RowKit
theorem Own.reads {w : World} {base g cap : Nat} {o : List Nat} (h : Own w base g cap o) : Reads w (.slice (some ⟨g, 0, none⟩) o.length cap) o := Reads.of_own h
end Go.Proofs.YtlhmfgbaefaneabGreatDoor.ref
