/-
  The steps of the walks, part 3: Lw6DateKnown, Read, RefMul.
-/
import Derived.Test.YtlhmfgbaefaneabGreatDoorProg
import Derived.WalkKit
import Derived.WalkSpells
import Derived.Lib.Hide
import Derived.OwnWalk
import Derived.Below
import Derived.Carry
import Derived.Outline
import Derived.Laws.MakeOwn
import Derived.Test.YtlhmfgbaefaneabGreatDoorB01
import Derived.Test.YtlhmfgbaefaneabGreatDoorB02
import Derived.Test.YtlhmfgbaefaneabGreatDoorB03
import Derived.Test.YtlhmfgbaefaneabGreatDoorB04
import Derived.Test.YtlhmfgbaefaneabGreatDoorB05
import Derived.Test.YtlhmfgbaefaneabGreatDoorB06
import Derived.Test.YtlhmfgbaefaneabGreatDoorB07
import Derived.Test.YtlhmfgbaefaneabGreatDoorB08
import Derived.Test.YtlhmfgbaefaneabGreatDoorB09
import Derived.Test.YtlhmfgbaefaneabGreatDoorB10
import Derived.Test.YtlhmfgbaefaneabGreatDoorB11
import Derived.Test.YtlhmfgbaefaneabGreatDoorB12
import Derived.Test.YtlhmfgbaefaneabGreatDoorB13
import Derived.Test.YtlhmfgbaefaneabGreatDoorB14
import Derived.Test.YtlhmfgbaefaneabGreatDoorB15
import Derived.Test.YtlhmfgbaefaneabGreatDoorB16
import Derived.Test.YtlhmfgbaefaneabGreatDoorB17
import Derived.Test.YtlhmfgbaefaneabGreatDoorB18
import Derived.Test.YtlhmfgbaefaneabGreatDoorB19
import Derived.Test.YtlhmfgbaefaneabGreatDoorB20
import Derived.Test.YtlhmfgbaefaneabGreatDoorB21
import Derived.Test.YtlhmfgbaefaneabGreatDoorB22
import Derived.Test.YtlhmfgbaefaneabGreatDoorB23
import Derived.Test.YtlhmfgbaefaneabGreatDoorB24
import Derived.Test.YtlhmfgbaefaneabGreatDoorB25
import Derived.Test.YtlhmfgbaefaneabGreatDoorB26
import Derived.Test.YtlhmfgbaefaneabGreatDoorB27
import Derived.Test.YtlhmfgbaefaneabGreatDoorB28
import Derived.Test.YtlhmfgbaefaneabGreatDoorB29
import Derived.Test.YtlhmfgbaefaneabGreatDoorB30
import Derived.Test.YtlhmfgbaefaneabGreatDoorB31
import Derived.Test.YtlhmfgbaefaneabGreatDoorB32
import Derived.Test.YtlhmfgbaefaneabGreatDoorB33
import Derived.Test.YtlhmfgbaefaneabGreatDoorB34
import Derived.Test.YtlhmfgbaefaneabGreatDoorB35
import Derived.Test.YtlhmfgbaefaneabGreatDoorB36
import Derived.Test.YtlhmfgbaefaneabGreatDoorB37
import Derived.Test.YtlhmfgbaefaneabGreatDoorB38
import Derived.Test.YtlhmfgbaefaneabGreatDoorB39
import Derived.Test.YtlhmfgbaefaneabGreatDoorB40
import Derived.Test.YtlhmfgbaefaneabGreatDoorLDateKnown01
import Derived.Test.YtlhmfgbaefaneabGreatDoorLDateKnown02
namespace Go.Proofs.YtlhmfgbaefaneabGreatDoor.law6
open Go Go.RowKit Go.Proofs.YtlhmfgbaefaneabGreatDoor.day Go.Proofs.YtlhmfgbaefaneabGreatDoor.date
open Go.Proofs.YtlhmfgbaefaneabGreatDoor.ref (str str_size)
open Go.Proofs.YtlhmfgbaefaneabGreatDoor.ref6 (CAt dayText DayForm quiet_same drewN_below6)
open Go.Maps
def knownD : DataW Value := (DataW.put (DataW.put (DataW.put (DataW.put (DataW.put (DataW.put (DataW.put (DataW.map [] : DataW Value) (.string [49, 57, 48, 48, 45, 48, 49, 45, 48, 49]) (.held (.int .i64 1))) (.string [49, 57, 54, 57, 45, 48, 55, 45, 50, 48]) (.held (.int .i64 0))) (.string [50, 48, 48, 48, 45, 48, 49, 45, 48, 49]) (.held (.int .i64 6))) (.string [50, 48, 50, 52, 45, 48, 50, 45, 50, 57]) (.held (.int .i64 4))) (.string [50, 48, 50, 54, 45, 49, 49, 45, 49, 54]) (.held (.int .i64 1))) (.string [50, 49, 48, 48, 45, 48, 51, 45, 48, 49]) (.held (.int .i64 1))) (.string [50, 49, 57, 57, 45, 49, 50, 45, 51, 49]) (.held (.int .i64 2)))
def knownL : List (Lit × DataW Value) := [((.string [49, 57, 48, 48, 45, 48, 49, 45, 48, 49]), .held (.int .i64 1)), ((.string [49, 57, 54, 57, 45, 48, 55, 45, 50, 48]), .held (.int .i64 0)), ((.string [50, 48, 48, 48, 45, 48, 49, 45, 48, 49]), .held (.int .i64 6)), ((.string [50, 48, 50, 52, 45, 48, 50, 45, 50, 57]), .held (.int .i64 4)), ((.string [50, 48, 50, 54, 45, 49, 49, 45, 49, 54]), .held (.int .i64 1)), ((.string [50, 49, 48, 48, 45, 48, 51, 45, 48, 49]), .held (.int .i64 1)), ((.string [50, 49, 57, 57, 45, 49, 50, 45, 51, 49]), .held (.int .i64 2))]
theorem known_eq : knownD = .map knownL := by kernel_rfl
theorem known_all : ∀ p ∈ knownL, ∃ y m d, IsCivil y m d ∧ p = (.string (dayText y m d), .held (.int .i64 (wday (dayOf y m d)))) := by
  intro p hp
  simp only [knownL, List.mem_cons, List.not_mem_nil, or_false] at hp
  rcases hp with rfl | rfl | rfl | rfl | rfl | rfl | rfl
  · exact ⟨1900, 1, 1, by decide, by kernel_rfl⟩
  · exact ⟨1969, 7, 20, by decide, by kernel_rfl⟩
  · exact ⟨2000, 1, 1, by decide, by kernel_rfl⟩
  · exact ⟨2024, 2, 29, by decide, by kernel_rfl⟩
  · exact ⟨2026, 11, 16, by decide, by kernel_rfl⟩
  · exact ⟨2100, 3, 1, by decide, by kernel_rfl⟩
  · exact ⟨2199, 12, 31, by decide, by kernel_rfl⟩
theorem known_at (kl : Lit) (v : Value) (h : has knownD kl = true) (hv : ∀ zd, knownD.atKey kl zd = .held v) : ∃ y m d, IsCivil y m d ∧ kl = .string (dayText y m d) ∧ v = .int .i64 (wday (dayOf y m d)) := by
  rw [known_eq] at h hv
  obtain ⟨p, hp, h1, h2⟩ := entry_of _ kl h
  obtain ⟨y, m, d, hc, rfl⟩ := known_all p hp
  refine ⟨y, m, d, hc, h1.symm, ?_⟩
  have := (hv .nil).symm.trans (h2 .nil)
  exact DataW.held.inj this
theorem string_law6 : Maps.Keyed Tryz.prog 9 := Maps.string_keyed Tryz.underlying9
set_option maxRecDepth 100000 in
set_option maxHeartbeats 4000000 in
theorem DateKnown_walk (HBg : BegunC) (w : World) (hw : Wd w) :
    Calls Tryz.prog 6 #[] w fun e w' => e = .returned (.bool true) ∧ Below w.heap.size w w' := by
  have HW := Lib.hid (fun W (h : Below w.heap.size w W) => hw.keep h)
  have hmm := @run_makeMap Tryz.prog
  have hk : ∀ (s : ByteArray), s.size ≤ maxLen → keyOf Tryz.prog 9 (.string s) = some (.string s.data.toList) := fun s hs => WideMaps.keyOf_string_mk Tryz.underlying9 hs
  have HKA := Lib.hid known_at
  have e1 : (w.alloc (.map #[] 0)).heap.size = w.heap.size + 1 := by simp
  have bad1 : ¬ IsCivil 2100 2 29 := by decide
  have bad2 : ¬ IsCivil 1899 12 31 := by decide
  have HG1 := Lib.hid (fun W (hW : Wd W) => Get_text 2100 2 29 (by decide) (by decide) (by decide) (by decide) (by decide) (by decide) bad1 W hW)
  have HG2 := Lib.hid (fun W (hW : Wd W) => Get_text 1899 12 31 (by decide) (by decide) (by decide) (by decide) (by decide) (by decide) bad2 W hW)
  have s1 : str (dayText 2100 2 29) = { data := #[50, 49, 48, 48, 45, 48, 50, 45, 50, 57] } := by kernel_rfl
  have s2 : str (dayText 1899 12 31) = { data := #[49, 56, 57, 57, 45, 49, 50, 45, 51, 49] } := by kernel_rfl
  rw [s1] at HG1
  rw [s2] at HG2
  have HMD := Lib.hid (World.ownsMap_made w Tryz.prog 9 RV)
  have HB0 := Lib.hid ((Below.refl w.heap.size w).alloc (Nat.le_refl _) (.map #[] 0))
  have HSM := Lib.hid (fun W (hW : Wd W) => Same_code 4 W hW)
  unfold errOf at *
  clear hw bad1 bad2 s1 s2
  go_enter Tryz.func6, Tryz.ntmps6
  go_wp2_with (first
    | (refine wpList_insert_own _ rfl _ _ _ 49 rfl 9 3 string_law6 Tryz.underlying49 w.heap.size 0 _ rfl HMD.out (by decide) _ _ _ rfl rfl (hk { data := #[49, 57, 48, 48, 45, 48, 49, 45, 48, 49] } (by decide)) ?_; intro w0 hown0 hg0
       have HO0 := Lib.hid hown0
       have HI0 := Lib.hid (HB0.out.grown hg0 (by have := (HB0.out).size; omega) (fun j hj => by cases hj; exact Nat.le_refl _))
       clear hown0 hg0)
    | (refine wpList_insert_own _ rfl _ _ _ 49 rfl 9 3 string_law6 Tryz.underlying49 w.heap.size 1 _ rfl HO0.out (by decide) _ _ _ rfl rfl (hk { data := #[49, 57, 54, 57, 45, 48, 55, 45, 50, 48] } (by decide)) ?_; intro w1 hown1 hg1
       have HO1 := Lib.hid hown1
       have HI1 := Lib.hid (HI0.out.grown hg1 (by have := (HI0.out).size; omega) (fun j hj => by cases hj; exact Nat.le_refl _))
       clear hown1 hg1)
    | (refine wpList_insert_own _ rfl _ _ _ 49 rfl 9 3 string_law6 Tryz.underlying49 w.heap.size 2 _ rfl HO1.out (by decide) _ _ _ rfl rfl (hk { data := #[50, 48, 48, 48, 45, 48, 49, 45, 48, 49] } (by decide)) ?_; intro w2 hown2 hg2
       have HO2 := Lib.hid hown2
       have HI2 := Lib.hid (HI1.out.grown hg2 (by have := (HI1.out).size; omega) (fun j hj => by cases hj; exact Nat.le_refl _))
       clear hown2 hg2)
    | (refine wpList_insert_own _ rfl _ _ _ 49 rfl 9 3 string_law6 Tryz.underlying49 w.heap.size 3 _ rfl HO2.out (by decide) _ _ _ rfl rfl (hk { data := #[50, 48, 50, 52, 45, 48, 50, 45, 50, 57] } (by decide)) ?_; intro w3 hown3 hg3
       have HO3 := Lib.hid hown3
       have HI3 := Lib.hid (HI2.out.grown hg3 (by have := (HI2.out).size; omega) (fun j hj => by cases hj; exact Nat.le_refl _))
       clear hown3 hg3)
    | (refine wpList_insert_own _ rfl _ _ _ 49 rfl 9 3 string_law6 Tryz.underlying49 w.heap.size 4 _ rfl HO3.out (by decide) _ _ _ rfl rfl (hk { data := #[50, 48, 50, 54, 45, 49, 49, 45, 49, 54] } (by decide)) ?_; intro w4 hown4 hg4
       have HO4 := Lib.hid hown4
       have HI4 := Lib.hid (HI3.out.grown hg4 (by have := (HI3.out).size; omega) (fun j hj => by cases hj; exact Nat.le_refl _))
       clear hown4 hg4)
    | (refine wpList_insert_own _ rfl _ _ _ 49 rfl 9 3 string_law6 Tryz.underlying49 w.heap.size 5 _ rfl HO4.out (by decide) _ _ _ rfl rfl (hk { data := #[50, 49, 48, 48, 45, 48, 51, 45, 48, 49] } (by decide)) ?_; intro w5 hown5 hg5
       have HO5 := Lib.hid hown5
       have HI5 := Lib.hid (HI4.out.grown hg5 (by have := (HI4.out).size; omega) (fun j hj => by cases hj; exact Nat.le_refl _))
       clear hown5 hg5)
    | (refine wpList_insert_own _ rfl _ _ _ 49 rfl 9 3 string_law6 Tryz.underlying49 w.heap.size 6 _ rfl HO5.out (by decide) _ _ _ rfl rfl (hk { data := #[50, 49, 57, 57, 45, 49, 50, 45, 51, 49] } (by decide)) ?_; intro w6 hown6 hg6
       have HO6 := Lib.hid hown6
       have HI6 := Lib.hid (HI5.out.grown hg6 (by have := (HI5.out).size; omega) (fun j hj => by cases hj; exact Nat.le_refl _))
       clear hown6 hg6)
    | (at_range; refine wpList_range_own _ rfl _ 49 rfl 9 3 string_law6 Tryz.underlying49 _ w.heap.size 7 knownD rfl HO6.out ?_; intro w7 hrg0 hg0 hs0)
    | (fail "no arm"))
  have HB7 := Lib.hid (HI6.out.grown hg0 HI6.out.size (fun j hj => by cases hj))
  have hsz := HI6.out.size
  clear hg0 hs0 hk hmm e1
  go_loopw [1] (fun _ wr => (∃ (left : Lit → Bool) (cnt : Nat), Hid (wr.ranges Tryz.prog 9 RV w.heap.size w6.heap.size 7 knownD left cnt) ∧ Hid (∀ z, left z = true → has knownD z = true)) ∧ Hid (Below w.heap.size w wr)) (fun _ wr => wr.rangeLeft w.heap.size w6.heap.size)
  case atStart => exact ⟨⟨_, _, Lib.hid hrg0, Lib.hid fun z h => h⟩, HB7⟩
  case round =>
    obtain ⟨⟨left, cnt, HRG, HLF⟩, HB⟩ := hrel
    have hrg := HRG.out
    go_wp2_with (first
      | (at_next; refine wpList_next_ranges _ rfl _ rfl 9 string_law6 RV Value.string (fun v : Value => v) (string_inv Tryz.underlying9) (fun v _ _ => ⟨v, rfl⟩) w.heap.size w6.heap.size 7 _ _ _ rfl hrg ?_ ?_)
      | (fail "no arm"))
    · -- nothing is left
      intro hc0 hl0
      clear hc0 hl0 hrg
      have HBG := Lib.hid (fun W (hW : Wd W) => HBg W hW)
      go_wp2_with (first
        | (go_at_call 29; (with_reducible refine (HG1.out _ (HW.out _ HB.out)).mono ?_); rintro e W1 ⟨rfl, hb⟩
           have HR1 := Lib.hid (below_tr6 HB.out hb rfl); clear HG1 hb)
        | (go_at_call 29; (with_reducible refine (HG2.out _ (HW.out _ HR1.out)).mono ?_); rintro e W2 ⟨rfl, hb⟩
           have HR2 := Lib.hid (below_tr6 HR1.out hb rfl); clear HG2 hb)
        | (go_at_call 20; (with_reducible refine (HBG.out _ (HW.out _ HR2.out)).mono ?_); rintro e W3 ⟨rfl, hb⟩
           have HR3 := Lib.hid (below_tr6 HR2.out hb rfl); clear HBG hb)
        | (go_at_call 23; (with_reducible refine (HSM.out _ (HW.out _ HR3.out)).mono ?_); rintro e W4 ⟨rfl, hb⟩
           have HR4 := Lib.hid (below_tr6 HR3.out hb rfl); clear HR3 hb)
        | (go_at_call 23; (with_reducible refine (HSM.out _ (HW.out _ HR4.out)).mono ?_); rintro e W5 ⟨rfl, hb⟩
           have HR5 := Lib.hid (below_tr6 HR4.out hb rfl); clear hb)
        | (fail "no arm"))
      go_ret
      exact ⟨rfl, HR5.out⟩
    · -- an entry
      intro x c kl y ps w8 cnt1 hkx hlk hv hat hrg1 hlt hg1 hs1 hen
      have hy : y = .held c := (congrArg Prod.fst (Option.some.inj hv)).symm
      rw [hy] at hat
      obtain ⟨yy, m, d, hc, hkl, hcv⟩ := HKA.out kl c (HLF.out kl hlk) hat
      have hx := str_of ((string_key Tryz.underlying9 hkx).symm.trans hkl)
      subst hx hcv
      have HGd := Lib.hid (fun W (hW : Wd W) => Get_day yy m d hc W hW)
      have HWk := Lib.hid (fun W => Weekday_day _ (dayOf_isDay hc) W)
      have HTx := Lib.hid (fun W (hW : Wd W) => Text_at yy m d hc W hW.lens hW.tab)
      have HR8 := Lib.hid (HB.out.grown hg1 HB.out.size (fun j hj => by cases hj; exact hsz))
      have HRG1 := Lib.hid hrg1
      have HLT := Lib.hid hlt
      have HEQ := Lib.hid hrg.left_eq
      have HLF1 := Lib.hid (show ∀ z, (left z && !z.sameKey kl) = true → has knownD z = true from fun z h => HLF.out z (by simp only [Bool.and_eq_true] at h; exact h.1))
      clear hy hat hv hkx hkl hlk hrg1 hlt hg1 hs1 hrg hc
      generalize str (dayText yy m d) = tx at *
      generalize dayOf yy m d = D at *
      go_wp2_with (first
        | (go_at_call 29; (with_reducible refine (HGd.out _ (HW.out _ HR8.out)).mono ?_); rintro e W1 ⟨rfl, hb⟩
           have HS1 := Lib.hid hb
           have HR1 := Lib.hid (below_tr6 HR8.out hb rfl); clear HGd hb)
        | (go_at_call 34; (with_reducible refine (HWk.out _).mono ?_); rintro e w9 ⟨rfl, rfl⟩; clear HWk)
        | (go_at_call 27; (with_reducible refine (HTx.out _ (HW.out _ HR1.out)).mono ?_); rintro e W2 ⟨rfl, hb⟩
           have HS2 := Lib.hid (below_tr6 HS1.out hb rfl)
           have HR2 := Lib.hid (below_tr6 HR1.out hb rfl); clear HTx hb)
        | (fail "no arm"))
      have hrg2 := HRG1.out.kept (grown_of HS2.out none) (by simp) (by simp)
      go_roundw
      case rel => exact ⟨⟨_, cnt1, Lib.hid hrg2, HLF1⟩, HR2⟩
      case measure => rw [hrg2.left_eq, HEQ.out]; exact HLT.out
end Go.Proofs.YtlhmfgbaefaneabGreatDoor.law6
namespace Go.Proofs.YtlhmfgbaefaneabGreatDoor.ref
open Go.RowKit
theorem Reads.of_own {w : World} {base : Nat} {sv : Value} {l : List Nat} (h : w.ownsRow base 80 1 sv l.length (l.map fun d => Value.int .u64 (d : Nat))) : Reads w sv l := by
  rcases h.2 with ⟨rfl, hl⟩ | ⟨g, cap, cur, rfl, _, _, hnc, hcm, _, _⟩
  · exact ⟨none, 0, by rw [hl], ⟨by omega, fun _ => rfl⟩, Nat.zero_le _, Or.inl (List.eq_nil_of_length_eq_zero hl)⟩
  · refine ⟨some ⟨g, 0, none⟩, cap, rfl, ⟨hnc, fun h => by cases h⟩, hcm, Or.inr ⟨g, rfl, fun k hk => ?_⟩⟩
    rw [h.cellAt k (by omega)]
    exact dg_map hk _
end Go.Proofs.YtlhmfgbaefaneabGreatDoor.ref
namespace Go.Proofs.YtlhmfgbaefaneabGreatDoor.ref
open Go.RowKit
theorem Own.reads {w : World} {base g cap : Nat} {o : List Nat} (h : Own w base g cap o) : Reads w (.slice (some ⟨g, 0, none⟩) o.length cap) o := Reads.of_own h
end Go.Proofs.YtlhmfgbaefaneabGreatDoor.ref
