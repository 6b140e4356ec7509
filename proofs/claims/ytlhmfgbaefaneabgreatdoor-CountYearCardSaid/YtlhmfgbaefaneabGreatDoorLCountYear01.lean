/-
  The steps of the walks, part 1: Code, Law6Kit, Read, RefMul, Law6Cnt, Law6Mon, DayOrd.
-/
import Derived.Laws.BitsLemmas
import Derived.Test.YtlhmfgbaefaneabGreatDoorProg
import Derived.WalkKit
import Derived.WalkSpells
import Derived.Lib.Hide
import Derived.OwnWalk
import Derived.Below
import Derived.Carry
import Derived.Outline
import Derived.Laws.MakeOwn
import Derived.Laws.Cover1
import Derived.Test.YtlhmfgbaefaneabGreatDoorB01
import Derived.Test.YtlhmfgbaefaneabGreatDoorB02
import Derived.Test.YtlhmfgbaefaneabGreatDoorB03
import Derived.Test.YtlhmfgbaefaneabGreatDoorB04
import Derived.Test.YtlhmfgbaefaneabGreatDoorB05
import Derived.Test.YtlhmfgbaefaneabGreatDoorB06
import Derived.Test.YtlhmfgbaefaneabGreatDoorB07
import Derived.Test.YtlhmfgbaefaneabGreatDoorB08
import Derived.Test.YtlhmfgbaefaneabGreatDoorB09
import Derived.Test.YtlhmfgbaefaneabGreatDoorB10
import Derived.Test.YtlhmfgbaefaneabGreatDoorB11
import Derived.Test.YtlhmfgbaefaneabGreatDoorB12
import Derived.Test.YtlhmfgbaefaneabGreatDoorB13
import Derived.Test.YtlhmfgbaefaneabGreatDoorB14
import Derived.Test.YtlhmfgbaefaneabGreatDoorB15
import Derived.Test.YtlhmfgbaefaneabGreatDoorB16
import Derived.Test.YtlhmfgbaefaneabGreatDoorB17
import Derived.Test.YtlhmfgbaefaneabGreatDoorB18
import Derived.Test.YtlhmfgbaefaneabGreatDoorB19
import Derived.Test.YtlhmfgbaefaneabGreatDoorB20
import Derived.Test.YtlhmfgbaefaneabGreatDoorB21
import Derived.Test.YtlhmfgbaefaneabGreatDoorB22
import Derived.Test.YtlhmfgbaefaneabGreatDoorB23
import Derived.Test.YtlhmfgbaefaneabGreatDoorB24
import Derived.Test.YtlhmfgbaefaneabGreatDoorB25
import Derived.Test.YtlhmfgbaefaneabGreatDoorB26
import Derived.Test.YtlhmfgbaefaneabGreatDoorB27
import Derived.Test.YtlhmfgbaefaneabGreatDoorB28
import Derived.Test.YtlhmfgbaefaneabGreatDoorB29
import Derived.Test.YtlhmfgbaefaneabGreatDoorB30
import Derived.Test.YtlhmfgbaefaneabGreatDoorB31
import Derived.Test.YtlhmfgbaefaneabGreatDoorB32
import Derived.Test.YtlhmfgbaefaneabGreatDoorB33
import Derived.Test.YtlhmfgbaefaneabGreatDoorB34
import Derived.Test.YtlhmfgbaefaneabGreatDoorB35
import Derived.Test.YtlhmfgbaefaneabGreatDoorB36
import Derived.Test.YtlhmfgbaefaneabGreatDoorB37
import Derived.Test.YtlhmfgbaefaneabGreatDoorB38
import Derived.Test.YtlhmfgbaefaneabGreatDoorB39
import Derived.Test.YtlhmfgbaefaneabGreatDoorB40
namespace Go.Proofs.YtlhmfgbaefaneabGreatDoor.flt
open Go.RowKit Go.Extern.Stop Go.Stop Go.Extern
theorem Code_plain (c : Int) (w : World) (hg : Handle w) :
    Calls Tryz.prog 63 #[.iface 100 (.int .i64 c)] w fun ev w' => ev = .returned (.int .i64 c) ∧ Below w.heap.size w w' :=
  Code_hit _ _ c w ((first_plain c w hg).mono fun _ _ ⟨b, he, _, hb, hk⟩ => ⟨b, he, hb, by simp [World.cell?, hk]⟩)
end Go.Proofs.YtlhmfgbaefaneabGreatDoor.flt
namespace Go.Proofs.YtlhmfgbaefaneabGreatDoor.law6
open Go Go.RowKit Go.Proofs.YtlhmfgbaefaneabGreatDoor.day Go.Proofs.YtlhmfgbaefaneabGreatDoor.date
open Go.Proofs.YtlhmfgbaefaneabGreatDoor.ref (str str_size)
open Go.Proofs.YtlhmfgbaefaneabGreatDoor.ref6 (CAt dayText DayForm quiet_same drewN_below6)
open Go.Proofs.YtlhmfgbaefaneabGreatDoor.itoa (Tab)
theorem Day_isDay (n : Int) : IsDay (n % 109573) := ⟨by omega, by omega⟩
set_option maxRecDepth 100000 in
theorem Same_code (c : Int) (w : World) (h : Wd w) :
    Calls Tryz.prog 23 #[errOf c, .int .i64 c] w fun e w' => e = .returned (.bool true) ∧ Below w.heap.size w w' := by
  unfold errOf
  have HC := Lib.hid (flt.Code_plain c w h.hd)
  clear h
  go_enter Tryz.func23, Tryz.ntmps23
  go_wp2_with (first
    | (go_at_call 63; (with_reducible refine (HC.out).mono ?_); rintro e w1 ⟨rfl, hb⟩; have HB := Lib.hid hb; clear hb)
    | (fail "no arm"))
  go_ret
  exact ⟨rfl, HB.out⟩
end Go.Proofs.YtlhmfgbaefaneabGreatDoor.law6
namespace Go.Proofs.YtlhmfgbaefaneabGreatDoor.ref
open Go.RowKit
theorem Reads.of_own {w : World} {base : Nat} {sv : Value} {l : List Nat} (h : w.ownsRow base 80 1 sv l.length (l.map fun d => Value.int .u64 (d : Nat))) : Reads w sv l := by
  rcases h.2 with ⟨rfl, hl⟩ | ⟨g, cap, cur, rfl, _, _, hnc, hcm, _, _⟩
  · exact ⟨none, 0, by rw [hl], ⟨by omega, fun _ => rfl⟩, Nat.zero_le _, Or.inl (List.eq_nil_of_length_eq_zero hl)⟩
  · refine ⟨some ⟨g, 0, none⟩, cap, rfl, ⟨hnc, fun h => by cases h⟩, hcm, Or.inr ⟨g, rfl, fun k hk => ?_⟩⟩
    rw [h.cellAt k (by omega)]
    exact dg_map hk _
end Go.Proofs.YtlhmfgbaefaneabGreatDoor.ref
namespace Go.Proofs.YtlhmfgbaefaneabGreatDoor.ref
open Go.RowKit
theorem Own.reads {w : World} {base g cap : Nat} {o : List Nat} (h : Own w base g cap o) : Reads w (.slice (some ⟨g, 0, none⟩) o.length cap) o := Reads.of_own h
end Go.Proofs.YtlhmfgbaefaneabGreatDoor.ref
namespace Go.Proofs.YtlhmfgbaefaneabGreatDoor.law6
open Go Go.RowKit Go.Proofs.YtlhmfgbaefaneabGreatDoor.day Go.Proofs.YtlhmfgbaefaneabGreatDoor.date
open Go.Proofs.YtlhmfgbaefaneabGreatDoor.ref6 (thirty)
theorem sg_cmp (q : Rat) : num.sg q.num = rat.cmpR q 0 := by
  have h := rat.cmp3_den q 0
  rw [Rat.zero_den, Rat.zero_num, Int.zero_mul] at h
  unfold num.sg
  rw [← h]
  congr 1
  simp
theorem sg_pos {z d : Int} (hd : 0 < d) (hz : 0 < z) : num.sg ((z : Rat) / (d : Rat)).num = 1 := by
  have h : (0 : Rat) < (z : Rat) / (d : Rat) := by
    have h1 : (0 : Rat) < (z : Rat) := by exact_mod_cast hz
    have h2 : (0 : Rat) < (d : Rat) := by exact_mod_cast hd
    rw [Rat.div_def]
    exact Rat.mul_pos h1 (Rat.inv_pos.2 h2)
  rw [sg_cmp]
  unfold rat.cmpR
  rw [if_neg (by grind), if_pos h]
theorem cmp_dens {z : Int} (hz : 0 < z) : rat.cmpR ((z : Rat) / ((360 : Int) : Rat)) ((z : Rat) / ((365 : Int) : Rat)) = 1 := by
  have h1 : (0 : Rat) < (z : Rat) := by exact_mod_cast hz
  have h : (z : Rat) / ((365 : Int) : Rat) < (z : Rat) / ((360 : Int) : Rat) := by
    rw [show ((365 : Int) : Rat) = 365 by rfl, show ((360 : Int) : Rat) = 360 by rfl]
    grind
  unfold rat.cmpR
  rw [if_neg (by grind), if_pos h]
end Go.Proofs.YtlhmfgbaefaneabGreatDoor.law6
namespace Go.Proofs.YtlhmfgbaefaneabGreatDoor.day
open Go.Proofs.YtlhmfgbaefaneabGreatDoor.ref6 (clip)
theorem mY_eq {y m k Y M : Int} (h : 12 * Y + M - 1 = 12 * y + m - 1 + k) (h1 : 1 ≤ M) (h2 : M ≤ 12) : mY y m k = Y ∧ mM y m k = M := by unfold mY mM; omega
end Go.Proofs.YtlhmfgbaefaneabGreatDoor.day
namespace Go.Proofs.YtlhmfgbaefaneabGreatDoor.law6
open Go Go.RowKit Go.Proofs.YtlhmfgbaefaneabGreatDoor.day Go.Proofs.YtlhmfgbaefaneabGreatDoor.date
open Go.Proofs.YtlhmfgbaefaneabGreatDoor.ref6 (clip)
end Go.Proofs.YtlhmfgbaefaneabGreatDoor.law6
namespace Go.Proofs.YtlhmfgbaefaneabGreatDoor.day
open Go.Proofs.YtlhmfgbaefaneabGreatDoor.ref (str pad pad_cons)
open Go.Proofs.YtlhmfgbaefaneabGreatDoor.ref6 (dayText)
def Before (y m d y' m' d' : Int) : Prop := y < y' ∨ (y = y' ∧ (m < m' ∨ (m = m' ∧ d < d')))
instance (y m d y' m' d' : Int) : Decidable (Before y m d y' m' d') := by unfold Before; infer_instance
theorem Before.lt {y m d y' m' d' : Int} (h : IsCivil y m d) (h' : IsCivil y' m' d') (hb : Before y m d y' m' d') : dayOf y m d < dayOf y' m' d' := by
  rcases hb with hy | ⟨rfl, hm | ⟨rfl, hd⟩⟩
  · have a := dayOf_year h
    have b := dayOf_year h'
    have := ydays_mono (show (y - 1900).toNat + 1 ≤ (y' - 1900).toNat by have := h.1; omega)
    have e : ((y' - 1900).toNat : Int) - ((y - 1900).toNat + 1 : Nat) ≥ 0 := by have := h.1; omega
    omega
  · have a := dayOf_in h
    have b := dayOf_in h'
    have hm1 := h.month
    have := mdays_mono (y := y) (show m.toNat ≤ (m' - 1).toNat by omega)
    omega
  · unfold dayOf
    omega
end Go.Proofs.YtlhmfgbaefaneabGreatDoor.day
