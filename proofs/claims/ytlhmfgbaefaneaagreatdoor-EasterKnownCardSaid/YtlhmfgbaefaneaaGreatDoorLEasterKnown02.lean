/-
  The steps of the walks, part 2: Lw6EasterKnown.
-/
import Derived.Test.YtlhmfgbaefaneaaGreatDoorB01
import Derived.Test.YtlhmfgbaefaneaaGreatDoorB02
import Derived.Test.YtlhmfgbaefaneaaGreatDoorB03
import Derived.Test.YtlhmfgbaefaneaaGreatDoorB04
import Derived.Test.YtlhmfgbaefaneaaGreatDoorB05
import Derived.Test.YtlhmfgbaefaneaaGreatDoorB06
import Derived.Test.YtlhmfgbaefaneaaGreatDoorB07
import Derived.Test.YtlhmfgbaefaneaaGreatDoorB08
import Derived.Test.YtlhmfgbaefaneaaGreatDoorB09
import Derived.Test.YtlhmfgbaefaneaaGreatDoorB10
import Derived.Test.YtlhmfgbaefaneaaGreatDoorB11
import Derived.Test.YtlhmfgbaefaneaaGreatDoorB12
import Derived.Test.YtlhmfgbaefaneaaGreatDoorB13
import Derived.Test.YtlhmfgbaefaneaaGreatDoorB14
import Derived.Test.YtlhmfgbaefaneaaGreatDoorB15
import Derived.Test.YtlhmfgbaefaneaaGreatDoorB16
import Derived.Test.YtlhmfgbaefaneaaGreatDoorB17
import Derived.Test.YtlhmfgbaefaneaaGreatDoorB18
import Derived.Test.YtlhmfgbaefaneaaGreatDoorB19
import Derived.Test.YtlhmfgbaefaneaaGreatDoorB20
import Derived.Test.YtlhmfgbaefaneaaGreatDoorB21
import Derived.Test.YtlhmfgbaefaneaaGreatDoorB22
import Derived.Test.YtlhmfgbaefaneaaGreatDoorLEasterKnown01
namespace Go.Proofs.YtlhmfgbaefaneaaGreatDoor.law6
open Go Go.RowKit Go.Proofs.YtlhmfgbaefaneaaGreatDoor.day Go.Proofs.YtlhmfgbaefaneaaGreatDoor.date
open Go.Proofs.YtlhmfgbaefaneaaGreatDoor.ref (str str_size)
open Go.Proofs.YtlhmfgbaefaneaaGreatDoor.ref6 (CAt dayText DayForm quiet_same drewN_below6)
open Go.Maps
def sundD : DataW Value := (DataW.put (DataW.put (DataW.put (DataW.put (DataW.put (DataW.put (DataW.put (DataW.put (DataW.put (DataW.map [] : DataW Value) (.int .i64 1900) (.held (.agg #[.int .i64 1900, .int .i64 4, .int .i64 15]))) (.int .i64 1943) (.held (.agg #[.int .i64 1943, .int .i64 4, .int .i64 25]))) (.int .i64 1961) (.held (.agg #[.int .i64 1961, .int .i64 4, .int .i64 2]))) (.int .i64 2000) (.held (.agg #[.int .i64 2000, .int .i64 4, .int .i64 23]))) (.int .i64 2008) (.held (.agg #[.int .i64 2008, .int .i64 3, .int .i64 23]))) (.int .i64 2019) (.held (.agg #[.int .i64 2019, .int .i64 4, .int .i64 21]))) (.int .i64 2024) (.held (.agg #[.int .i64 2024, .int .i64 3, .int .i64 31]))) (.int .i64 2025) (.held (.agg #[.int .i64 2025, .int .i64 4, .int .i64 20]))) (.int .i64 2038) (.held (.agg #[.int .i64 2038, .int .i64 4, .int .i64 25])))
def sundL : List (Lit × DataW Value) := [(.int .i64 1900, .held (.agg #[.int .i64 1900, .int .i64 4, .int .i64 15])), (.int .i64 1943, .held (.agg #[.int .i64 1943, .int .i64 4, .int .i64 25])), (.int .i64 1961, .held (.agg #[.int .i64 1961, .int .i64 4, .int .i64 2])), (.int .i64 2000, .held (.agg #[.int .i64 2000, .int .i64 4, .int .i64 23])), (.int .i64 2008, .held (.agg #[.int .i64 2008, .int .i64 3, .int .i64 23])), (.int .i64 2019, .held (.agg #[.int .i64 2019, .int .i64 4, .int .i64 21])), (.int .i64 2024, .held (.agg #[.int .i64 2024, .int .i64 3, .int .i64 31])), (.int .i64 2025, .held (.agg #[.int .i64 2025, .int .i64 4, .int .i64 20])), (.int .i64 2038, .held (.agg #[.int .i64 2038, .int .i64 4, .int .i64 25]))]
theorem sund_eq : sundD = .map sundL := by kernel_rfl
theorem sund_all : ∀ p ∈ sundL, ∃ y m d, (1900 ≤ y ∧ y ≤ 2199) ∧ IsCivil y m d ∧ easterDay y = dayOf y m d ∧ p = (.int .i64 y, .held (.agg #[.int .i64 y, .int .i64 m, .int .i64 d])) := by
  intro p hp
  simp only [sundL, List.mem_cons, List.not_mem_nil, or_false] at hp
  rcases hp with rfl | rfl | rfl | rfl | rfl | rfl | rfl | rfl | rfl
  · exact ⟨1900, 4, 15, by decide, by decide, by decide +kernel, rfl⟩
  · exact ⟨1943, 4, 25, by decide, by decide, by decide +kernel, rfl⟩
  · exact ⟨1961, 4, 2, by decide, by decide, by decide +kernel, rfl⟩
  · exact ⟨2000, 4, 23, by decide, by decide, by decide +kernel, rfl⟩
  · exact ⟨2008, 3, 23, by decide, by decide, by decide +kernel, rfl⟩
  · exact ⟨2019, 4, 21, by decide, by decide, by decide +kernel, rfl⟩
  · exact ⟨2024, 3, 31, by decide, by decide, by decide +kernel, rfl⟩
  · exact ⟨2025, 4, 20, by decide, by decide, by decide +kernel, rfl⟩
  · exact ⟨2038, 4, 25, by decide, by decide, by decide +kernel, rfl⟩
theorem sund_at (kl : Lit) (v : Value) (h : has sundD kl = true) (hv : ∀ zd, sundD.atKey kl zd = .held v) : ∃ y m d, (1900 ≤ y ∧ y ≤ 2199) ∧ IsCivil y m d ∧ easterDay y = dayOf y m d ∧ kl = .int .i64 y ∧ v = .agg #[.int .i64 y, .int .i64 m, .int .i64 d] := by
  rw [sund_eq] at h hv
  obtain ⟨p, hp, h1, h2⟩ := entry_of _ kl h
  obtain ⟨y, m, d, hy, hc, he, rfl⟩ := sund_all p hp
  refine ⟨y, m, d, hy, hc, he, h1.symm, ?_⟩
  have := (hv .nil).symm.trans (h2 .nil)
  exact DataW.held.inj this
theorem int_law6 : Maps.Keyed Tryz.prog 3 := Maps.int_keyed Tryz.underlying3
set_option maxRecDepth 100000 in
set_option maxHeartbeats 4000000 in
theorem EasterKnown_walk (HBg : BegunC) (HE : EasC) (w : World) (hw : Wd w) :
    Calls Tryz.prog 9 #[] w fun e w' => e = .returned (.bool true) ∧ Below w.heap.size w w' := by
  have HW := Lib.hid (fun W (h : Below w.heap.size w W) => hw.keep h)
  have hmm := @run_makeMap Tryz.prog
  have hk : ∀ (z : Int), (Lit.int .i64 z).wf = true → keyOf Tryz.prog 3 (.int .i64 z) = some (.int .i64 z) := fun z hz => Maps.keyOf_int_mk Tryz.underlying3 hz
  have HKA := Lib.hid sund_at
  have HSU := Lib.hid HE.yes
  have HMD := Lib.hid (World.ownsMap_made w Tryz.prog 3 RV)
  have HB0 := Lib.hid ((Below.refl w.heap.size w).alloc (Nat.le_refl _) (.map #[] 0))
  clear hw HE
  go_enter Tryz.func9, Tryz.ntmps9
  go_wp2_with (first
    | (refine wpList_insert_own _ rfl _ _ _ 52 rfl 3 23 int_law6 Tryz.underlying52 w.heap.size 0 _ rfl HMD.out (by decide) _ _ _ rfl rfl (hk 1900 (by decide)) ?_; intro w0 hown0 hg0
       have HO0 := Lib.hid hown0
       have HI0 := Lib.hid (HB0.out.grown hg0 (by have := (HB0.out).size; omega) (fun j hj => by cases hj; exact Nat.le_refl _))
       clear hown0 hg0)
    | (refine wpList_insert_own _ rfl _ _ _ 52 rfl 3 23 int_law6 Tryz.underlying52 w.heap.size 1 _ rfl HO0.out (by decide) _ _ _ rfl rfl (hk 1943 (by decide)) ?_; intro w1 hown1 hg1
       have HO1 := Lib.hid hown1
       have HI1 := Lib.hid (HI0.out.grown hg1 (by have := (HI0.out).size; omega) (fun j hj => by cases hj; exact Nat.le_refl _))
       clear hown1 hg1)
    | (refine wpList_insert_own _ rfl _ _ _ 52 rfl 3 23 int_law6 Tryz.underlying52 w.heap.size 2 _ rfl HO1.out (by decide) _ _ _ rfl rfl (hk 1961 (by decide)) ?_; intro w2 hown2 hg2
       have HO2 := Lib.hid hown2
       have HI2 := Lib.hid (HI1.out.grown hg2 (by have := (HI1.out).size; omega) (fun j hj => by cases hj; exact Nat.le_refl _))
       clear hown2 hg2)
    | (refine wpList_insert_own _ rfl _ _ _ 52 rfl 3 23 int_law6 Tryz.underlying52 w.heap.size 3 _ rfl HO2.out (by decide) _ _ _ rfl rfl (hk 2000 (by decide)) ?_; intro w3 hown3 hg3
       have HO3 := Lib.hid hown3
       have HI3 := Lib.hid (HI2.out.grown hg3 (by have := (HI2.out).size; omega) (fun j hj => by cases hj; exact Nat.le_refl _))
       clear hown3 hg3)
    | (refine wpList_insert_own _ rfl _ _ _ 52 rfl 3 23 int_law6 Tryz.underlying52 w.heap.size 4 _ rfl HO3.out (by decide) _ _ _ rfl rfl (hk 2008 (by decide)) ?_; intro w4 hown4 hg4
       have HO4 := Lib.hid hown4
       have HI4 := Lib.hid (HI3.out.grown hg4 (by have := (HI3.out).size; omega) (fun j hj => by cases hj; exact Nat.le_refl _))
       clear hown4 hg4)
    | (refine wpList_insert_own _ rfl _ _ _ 52 rfl 3 23 int_law6 Tryz.underlying52 w.heap.size 5 _ rfl HO4.out (by decide) _ _ _ rfl rfl (hk 2019 (by decide)) ?_; intro w5 hown5 hg5
       have HO5 := Lib.hid hown5
       have HI5 := Lib.hid (HI4.out.grown hg5 (by have := (HI4.out).size; omega) (fun j hj => by cases hj; exact Nat.le_refl _))
       clear hown5 hg5)
    | (refine wpList_insert_own _ rfl _ _ _ 52 rfl 3 23 int_law6 Tryz.underlying52 w.heap.size 6 _ rfl HO5.out (by decide) _ _ _ rfl rfl (hk 2024 (by decide)) ?_; intro w6 hown6 hg6
       have HO6 := Lib.hid hown6
       have HI6 := Lib.hid (HI5.out.grown hg6 (by have := (HI5.out).size; omega) (fun j hj => by cases hj; exact Nat.le_refl _))
       clear hown6 hg6)
    | (refine wpList_insert_own _ rfl _ _ _ 52 rfl 3 23 int_law6 Tryz.underlying52 w.heap.size 7 _ rfl HO6.out (by decide) _ _ _ rfl rfl (hk 2025 (by decide)) ?_; intro w7 hown7 hg7
       have HO7 := Lib.hid hown7
       have HI7 := Lib.hid (HI6.out.grown hg7 (by have := (HI6.out).size; omega) (fun j hj => by cases hj; exact Nat.le_refl _))
       clear hown7 hg7)
    | (refine wpList_insert_own _ rfl _ _ _ 52 rfl 3 23 int_law6 Tryz.underlying52 w.heap.size 8 _ rfl HO7.out (by decide) _ _ _ rfl rfl (hk 2038 (by decide)) ?_; intro w8 hown8 hg8
       have HO8 := Lib.hid hown8
       have HI8 := Lib.hid (HI7.out.grown hg8 (by have := (HI7.out).size; omega) (fun j hj => by cases hj; exact Nat.le_refl _))
       clear hown8 hg8)
    | (at_range; refine wpList_range_own _ rfl _ 52 rfl 3 23 int_law6 Tryz.underlying52 _ w.heap.size 9 sundD rfl HO8.out ?_; intro v7 hrg0 hg0 hs0)
    | (fail "no arm"))
  have HB7 := Lib.hid (HI8.out.grown hg0 HI8.out.size (fun j hj => by cases hj))
  have hsz := HI8.out.size
  clear hg0 hs0 hk hmm
  go_frame
  go_loopw [1] (fun _ wr => (∃ (left : Lit → Bool) (cnt : Nat), Hid (wr.ranges Tryz.prog 3 RV w.heap.size w8.heap.size 9 sundD left cnt) ∧ Hid (∀ z, left z = true → has sundD z = true)) ∧ Hid (Below w.heap.size w wr)) (fun _ wr => wr.rangeLeft w.heap.size w8.heap.size)
  case atStart => exact ⟨⟨_, _, Lib.hid hrg0, Lib.hid fun z h => h⟩, HB7⟩
  case round =>
    obtain ⟨⟨left, cnt, HRG, HLF⟩, HB⟩ := hrel
    have hrg := HRG.out
    go_wp2_with (first
      | (at_next; refine wpList_next_ranges _ rfl _ rfl 3 int_law6 RV (Value.int .i64) (fun v : Value => v) (fun key kl h => (Maps.keyOf_int_inv Tryz.underlying3 h).imp fun x hx => hx.1) (fun v _ _ => ⟨v, rfl⟩) w.heap.size w8.heap.size 9 _ _ _ rfl hrg ?_ ?_)
      | (fail "no arm"))
    · -- nothing is left
      intro hc0 hl0
      clear hc0 hl0 hrg
      have HBG := Lib.hid (fun W (hW : Wd W) => HBg W hW)
      go_wp2_with (first
        | (go_at_call 17; (with_reducible refine (HBG.out _ (HW.out _ HB.out)).mono ?_); rintro e W3 ⟨rfl, hb⟩
           have HR3 := Lib.hid (below_tr6 HB.out hb rfl); clear HBG hb)
        | (fail "no arm"))
      go_ret
      exact ⟨rfl, HR3.out⟩
    · -- an entry
      intro x c kl y ps w9 cnt1 hkx hlk hv hat hrg1 hlt hg1 hs1 hen
      have hy : y = .held c := (congrArg Prod.fst (Option.some.inj hv)).symm
      rw [hy] at hat
      obtain ⟨yy, m, d, hyy, hc, he, hkl, hcv⟩ := HKA.out kl c (HLF.out kl hlk) hat
      obtain ⟨x', hx1, hx2, -⟩ := Maps.keyOf_int_inv Tryz.underlying3 hkx
      have hx3 : x = x' := by injection hx1
      have hx : x = yy := by rw [hkl] at hx2; injection hx2 with _ h2; rw [hx3, h2]
      subst hx hcv
      have hS := HSU.out x hyy.1 hyy.2
      rw [he] at hS
      have HS := Lib.hid (fun W (hW : Wd W) => hS W hW)
      have HC := Lib.hid (fun W (hW : Wd W) => Civil_at x m d hc W hW.lens)
      have HR8 := Lib.hid (HB.out.grown hg1 HB.out.size (fun j hj => by cases hj; exact hsz))
      have HRA := Lib.hid (HR8.out.alloc HR8.out.size (.cells #[.int .i64 x, .int .i64 m, .int .i64 d] 23))
      have HM0 := Lib.hid (CAt.new w9 x m d)
      have HAL := Lib.hid ((Below.refl w9.heap.size w9).alloc (Nat.le_refl _) (.cells #[.int .i64 x, .int .i64 m, .int .i64 d] 23))
      have HRG1 := Lib.hid hrg1
      have HLT := Lib.hid hlt
      have HEQ := Lib.hid hrg.left_eq
      have HLF1 := Lib.hid (show ∀ z, (left z && !z.sameKey kl) = true → has sundD z = true from fun z h => HLF.out z (by simp only [Bool.and_eq_true] at h; exact h.1))
      clear hy hat hv hkx hkl hlk hrg1 hlt hg1 hs1 hrg hc he hS hx1 hx2 hx3 hyy
      generalize dayOf x m d = D at *
      go_wp2_with (first
        | (go_at_call 42; (with_reducible refine (HS.out _ (HW.out _ HRA.out)).mono ?_); rintro e W1 ⟨rfl, hb⟩
           have HS1 := Lib.hid (below_tr6 HAL.out hb rfl)
           have HR1 := Lib.hid (below_tr6 HRA.out hb rfl)
           have HM1 := Lib.hid (HM0.out.below hb); clear HS hb)
        | (go_at_call 20; (with_reducible refine (HC.out _ (HW.out _ HR1.out)).mono ?_); rintro e W2 ⟨rfl, hb⟩
           have HS2 := Lib.hid ((below_tr6 HS1.out hb rfl).alloc ((below_tr6 HS1.out hb rfl).size) (.cells #[.int .i64 x, .int .i64 m, .int .i64 d] 23))
           have HR2 := Lib.hid ((below_tr6 HR1.out hb rfl).alloc ((below_tr6 HR1.out hb rfl).size) (.cells #[.int .i64 x, .int .i64 m, .int .i64 d] 23))
           have HN := Lib.hid (CAt.new W2 x m d)
           obtain ⟨q0, q1, q2, -⟩ := ((HM1.out.below hb).below ((Below.refl _ _).alloc (Nat.le_refl _) (.cells #[.int .i64 x, .int .i64 m, .int .i64 d] 23))).cells
           obtain ⟨r0, r1, r2, -⟩ := HN.out.cells
           clear HC hb)
        | (fail "no arm"))
      have hrg2 := HRG1.out.kept (grown_of HS2.out none) (by simp) (by simp)
      go_roundw
      case rel => exact ⟨⟨_, cnt1, Lib.hid hrg2, HLF1⟩, HR2⟩
      case measure => rw [hrg2.left_eq, HEQ.out]; exact HLT.out
end Go.Proofs.YtlhmfgbaefaneaaGreatDoor.law6
