/-
  The steps of the walks, part 33: RefPlus.
-/
import Derived.Test.YtfpooimjjpamoaaGreatDoorM32
namespace Go.Proofs.YtfpooimjjpamoaaGreatDoor.ref
open Go.RowKit
theorem cmp_ge {x y : Nat} : 0 ≤ cmpN x y ↔ y ≤ x := by
  unfold cmpN
  split
  · constructor <;> intro <;> omega
  · split <;> constructor <;> intro <;> omega
set_option maxRecDepth 100000 in
set_option maxHeartbeats 4000000 in
theorem Plus_tt (s t : Value) (x y : Nat) (w : World) (hs : IsN w s x) (ht : IsN w t y) (ha : (digs x).length ≤ 100000) (hb : (digs y).length ≤ 100000) :
    Calls Tryz.prog 60 #[.agg #[.bool true, s], .agg #[.bool true, t]] w fun e w' => ∃ v', e = .returned v' ∧ IsI w' v' (signed true (x + y)) ∧ Below w.heap.size w w' := by
  have HS := Lib.hid hs
  have HT := Lib.hid ht
  obtain ⟨z, hz⟩ : ∃ z, signed true (x + y) = z := ⟨_, rfl⟩
  rw [hz]
  have HZ := Lib.hid hz
  clear hz
  have HMu := Lib.hid (fun w hs ht => Add_any s t x y w hs ht ha hb)
  have HCm := Lib.hid (fun w hs ht => Cmp_any s t x y w hs ht)
  have HI := Lib.hid (fun w b x a hs => Int_any b a x w hs)
  obtain ⟨ao, acap, rfl, -⟩ := hs
  obtain ⟨bo, bcap, rfl, -⟩ := ht
  have HAb := Lib.hid (And.intro ha hb)
  clear ha hb HAb
  generalize (digs x).length = n at *
  generalize (digs y).length = m at *
  obtain ⟨w1, hw1⟩ : ∃ w1 : World, w1 = (((w.alloc (.cells #[.bool true, .slice ao n acap] 57)).alloc (.cells #[.bool true, .slice bo m bcap] 57)).alloc (.cells #[.bool false, .slice none 0 0] 57)) := ⟨_, rfl⟩
  have HB := Lib.hid (show Below w.heap.size w w1 from by rw [hw1]; exact (((Below.refl w.heap.size w).alloc (Nat.le_refl _) _).alloc (by simp) _).alloc (by simp; omega) _)
  have hk0 : w1.cell? ⟨w.heap.size, 0, none⟩ = some (.bool true) := by rw [hw1]; go_simp
  have hk1 : w1.cell? ⟨w.heap.size, 1, none⟩ = some (.slice ao n acap) := by rw [hw1]; go_simp
  have hk2 : w1.cell? ⟨w.heap.size + 1, 0, none⟩ = some (.bool true) := by rw [hw1]; go_simp
  have hk3 : w1.cell? ⟨w.heap.size + 1, 1, none⟩ = some (.slice bo m bcap) := by rw [hw1]; go_simp
  have hsz : w1.heap.size = w.heap.size + 3 := by rw [hw1]; simp
  have HW1 := Lib.hid hw1
  have HK0 := Lib.hid hk0
  have HK1 := Lib.hid hk1
  have HK2 := Lib.hid hk2
  have HK3 := Lib.hid hk3
  have HNe := Lib.hid (show ¬ w.heap.size + 1 + 1 = w.heap.size by omega)
  clear hw1 hk0 hk1 hk2 hk3
  go_enter Tryz.func60, Tryz.ntmps60
  go_wp2
  rw [← HW1.out]
  obtain ⟨w2, hw2⟩ : ∃ w2 : World, w2 = w1 := ⟨_, rfl⟩
  have HB2 := Lib.hid (show Below w1.heap.size w1 w2 from by rw [hw2]; exact Below.refl _ _)
  rw [← hw2]
  clear hw2
  have k0 := (HB2.out.cell (p := ⟨w.heap.size, 0, none⟩) (show w.heap.size < w1.heap.size by omega)).trans HK0.out
  have k1 := (HB2.out.cell (p := ⟨w.heap.size, 1, none⟩) (show w.heap.size < w1.heap.size by omega)).trans HK1.out
  have k2 := (HB2.out.cell (p := ⟨w.heap.size + 1, 0, none⟩) (show w.heap.size + 1 < w1.heap.size by omega)).trans HK2.out
  have k3 := (HB2.out.cell (p := ⟨w.heap.size + 1, 1, none⟩) (show w.heap.size + 1 < w1.heap.size by omega)).trans HK3.out
  have hne2 := HNe.out
  have HBd := Lib.hid (HB.out.trans (HB2.out.mono HB.out.size)).drew
  go_region_held3 (fun w' => w'.cell? ⟨w.heap.size, 0, none⟩ = some (.bool true) ∧ w'.cell? ⟨w.heap.size, 1, none⟩ = some (.slice ao n acap) ∧ w'.cell? ⟨w.heap.size + 1, 0, none⟩ = some (.bool true) ∧ w'.cell? ⟨w.heap.size + 1, 1, none⟩ = some (.slice bo m bcap))
    (first | exact ⟨‹_›, ‹_›, ‹_›, ‹_›⟩ | exact ⟨k0, k1, k2, k3⟩ | go_keep)
    (first
      | (go_at_call 36; refine (HMu.out _ (HS.out.below HBd.out) (HT.out.below HBd.out)).mono ?_; rintro e' w3 ⟨sv, rfl, hs3, hb3⟩
         have HS3 := Lib.hid hs3
         have HB3 := Lib.hid (HB2.out.drew.trans (hb3.mono HB2.out.size))
         have d0 := (HB3.out.cell (p := ⟨w.heap.size, 0, none⟩) (show w.heap.size < w1.heap.size by omega)).trans HK0.out
         have d1 := (HB3.out.cell (p := ⟨w.heap.size, 1, none⟩) (show w.heap.size < w1.heap.size by omega)).trans HK1.out
         have d2 := (HB3.out.cell (p := ⟨w.heap.size + 1, 0, none⟩) (show w.heap.size + 1 < w1.heap.size by omega)).trans HK2.out
         have d3 := (HB3.out.cell (p := ⟨w.heap.size + 1, 1, none⟩) (show w.heap.size + 1 < w1.heap.size by omega)).trans HK3.out
         clear hs3 hb3)
      | (go_at_call 121; refine (HI.out _ _ _ _ HS3.out).mono ?_; rintro e' w4 ⟨v', rfl, hi, hb4⟩
         obtain ⟨sv', rfl, hs4⟩ := hi
         have HS4 := Lib.hid hs4
         have HB4 := Lib.hid (HB3.out.trans (hb4.mono HB3.out.size))
         obtain ⟨c0, c1, f0, f1⟩ := result_cells (n := w.heap.size + 1 + 1) (by simp) HW1.out HB4.out
         have e0 := (HB4.out.cell (p := ⟨w.heap.size, 0, none⟩) (show w.heap.size < w1.heap.size by omega)).trans HK0.out
         have e1 := (HB4.out.cell (p := ⟨w.heap.size, 1, none⟩) (show w.heap.size < w1.heap.size by omega)).trans HK1.out
         have e2 := (HB4.out.cell (p := ⟨w.heap.size + 1, 0, none⟩) (show w.heap.size + 1 < w1.heap.size by omega)).trans HK2.out
         have e3 := (HB4.out.cell (p := ⟨w.heap.size + 1, 1, none⟩) (show w.heap.size + 1 < w1.heap.size by omega)).trans HK3.out
         obtain ⟨ao', cap', rfl, -⟩ := hs4
         clear hb4))
  rw [HZ.out] at HS4 ⊢
  obtain ⟨q0, q1⟩ := two_cells (.bool (decide (z < 0))) (.slice ao' (digs z.natAbs).length cap') c0 c1
  generalize hnn : (digs z.natAbs).length = n' at *
  have HNn := Lib.hid hnn
  have HFin := Lib.hid (Reads.result (Reads.result HS4.out c0 0 (.bool (decide (z < 0)))) q0 1 (.slice ao' n' cap'))
  have HBf := Lib.hid (((HB.out.trans (HB4.out.mono HB.out.size)).setCell (p := ⟨w.heap.size + 1 + 1, 0, none⟩) (by simp; omega) (.bool (decide (z < 0)))).setCell (p := ⟨w.heap.size + 1 + 1, 1, none⟩) (by simp; omega) (.slice ao' n' cap'))
  generalize hdd : decide (z < 0) = dd at *
  have HDd := Lib.hid hdd
  clear hdd hnn k0 k1 k2 k3
  go_wp2
  refine bodyPost_ret (v := .agg #[.bool dd, .slice ao' n' cap']) ?_ rfl ?_
  · simp [results, Tryz.results60, go_sem, q0, q1]
  · exact ⟨_, rfl, ⟨_, by rw [HDd.out], HFin.out⟩, HBf.out⟩
set_option maxRecDepth 100000 in
set_option maxHeartbeats 4000000 in
theorem Plus_ff (s t : Value) (x y : Nat) (w : World) (hs : IsN w s x) (ht : IsN w t y) (ha : (digs x).length ≤ 100000) (hb : (digs y).length ≤ 100000) :
    Calls Tryz.prog 60 #[.agg #[.bool false, s], .agg #[.bool false, t]] w fun e w' => ∃ v', e = .returned v' ∧ IsI w' v' (signed false (x + y)) ∧ Below w.heap.size w w' := by
  have HS := Lib.hid hs
  have HT := Lib.hid ht
  obtain ⟨z, hz⟩ : ∃ z, signed false (x + y) = z := ⟨_, rfl⟩
  rw [hz]
  have HZ := Lib.hid hz
  clear hz
  have HMu := Lib.hid (fun w hs ht => Add_any s t x y w hs ht ha hb)
  have HCm := Lib.hid (fun w hs ht => Cmp_any s t x y w hs ht)
  have HI := Lib.hid (fun w b x a hs => Int_any b a x w hs)
  obtain ⟨ao, acap, rfl, -⟩ := hs
  obtain ⟨bo, bcap, rfl, -⟩ := ht
  have HAb := Lib.hid (And.intro ha hb)
  clear ha hb HAb
  generalize (digs x).length = n at *
  generalize (digs y).length = m at *
  obtain ⟨w1, hw1⟩ : ∃ w1 : World, w1 = (((w.alloc (.cells #[.bool false, .slice ao n acap] 57)).alloc (.cells #[.bool false, .slice bo m bcap] 57)).alloc (.cells #[.bool false, .slice none 0 0] 57)) := ⟨_, rfl⟩
  have HB := Lib.hid (show Below w.heap.size w w1 from by rw [hw1]; exact (((Below.refl w.heap.size w).alloc (Nat.le_refl _) _).alloc (by simp) _).alloc (by simp; omega) _)
  have hk0 : w1.cell? ⟨w.heap.size, 0, none⟩ = some (.bool false) := by rw [hw1]; go_simp
  have hk1 : w1.cell? ⟨w.heap.size, 1, none⟩ = some (.slice ao n acap) := by rw [hw1]; go_simp
  have hk2 : w1.cell? ⟨w.heap.size + 1, 0, none⟩ = some (.bool false) := by rw [hw1]; go_simp
  have hk3 : w1.cell? ⟨w.heap.size + 1, 1, none⟩ = some (.slice bo m bcap) := by rw [hw1]; go_simp
  have hsz : w1.heap.size = w.heap.size + 3 := by rw [hw1]; simp
  have HW1 := Lib.hid hw1
  have HK0 := Lib.hid hk0
  have HK1 := Lib.hid hk1
  have HK2 := Lib.hid hk2
  have HK3 := Lib.hid hk3
  have HNe := Lib.hid (show ¬ w.heap.size + 1 + 1 = w.heap.size by omega)
  clear hw1 hk0 hk1 hk2 hk3
  go_enter Tryz.func60, Tryz.ntmps60
  go_wp2
  rw [← HW1.out]
  obtain ⟨w2, hw2⟩ : ∃ w2 : World, w2 = w1 := ⟨_, rfl⟩
  have HB2 := Lib.hid (show Below w1.heap.size w1 w2 from by rw [hw2]; exact Below.refl _ _)
  rw [← hw2]
  clear hw2
  have k0 := (HB2.out.cell (p := ⟨w.heap.size, 0, none⟩) (show w.heap.size < w1.heap.size by omega)).trans HK0.out
  have k1 := (HB2.out.cell (p := ⟨w.heap.size, 1, none⟩) (show w.heap.size < w1.heap.size by omega)).trans HK1.out
  have k2 := (HB2.out.cell (p := ⟨w.heap.size + 1, 0, none⟩) (show w.heap.size + 1 < w1.heap.size by omega)).trans HK2.out
  have k3 := (HB2.out.cell (p := ⟨w.heap.size + 1, 1, none⟩) (show w.heap.size + 1 < w1.heap.size by omega)).trans HK3.out
  have hne2 := HNe.out
  have HBd := Lib.hid (HB.out.trans (HB2.out.mono HB.out.size)).drew
  go_region_held3 (fun w' => w'.cell? ⟨w.heap.size, 0, none⟩ = some (.bool false) ∧ w'.cell? ⟨w.heap.size, 1, none⟩ = some (.slice ao n acap) ∧ w'.cell? ⟨w.heap.size + 1, 0, none⟩ = some (.bool false) ∧ w'.cell? ⟨w.heap.size + 1, 1, none⟩ = some (.slice bo m bcap))
    (first | exact ⟨‹_›, ‹_›, ‹_›, ‹_›⟩ | exact ⟨k0, k1, k2, k3⟩ | go_keep)
    (first
      | (go_at_call 36; refine (HMu.out _ (HS.out.below HBd.out) (HT.out.below HBd.out)).mono ?_; rintro e' w3 ⟨sv, rfl, hs3, hb3⟩
         have HS3 := Lib.hid hs3
         have HB3 := Lib.hid (HB2.out.drew.trans (hb3.mono HB2.out.size))
         have d0 := (HB3.out.cell (p := ⟨w.heap.size, 0, none⟩) (show w.heap.size < w1.heap.size by omega)).trans HK0.out
         have d1 := (HB3.out.cell (p := ⟨w.heap.size, 1, none⟩) (show w.heap.size < w1.heap.size by omega)).trans HK1.out
         have d2 := (HB3.out.cell (p := ⟨w.heap.size + 1, 0, none⟩) (show w.heap.size + 1 < w1.heap.size by omega)).trans HK2.out
         have d3 := (HB3.out.cell (p := ⟨w.heap.size + 1, 1, none⟩) (show w.heap.size + 1 < w1.heap.size by omega)).trans HK3.out
         clear hs3 hb3)
      | (go_at_call 121; refine (HI.out _ _ _ _ HS3.out).mono ?_; rintro e' w4 ⟨v', rfl, hi, hb4⟩
         obtain ⟨sv', rfl, hs4⟩ := hi
         have HS4 := Lib.hid hs4
         have HB4 := Lib.hid (HB3.out.trans (hb4.mono HB3.out.size))
         obtain ⟨c0, c1, f0, f1⟩ := result_cells (n := w.heap.size + 1 + 1) (by simp) HW1.out HB4.out
         have e0 := (HB4.out.cell (p := ⟨w.heap.size, 0, none⟩) (show w.heap.size < w1.heap.size by omega)).trans HK0.out
         have e1 := (HB4.out.cell (p := ⟨w.heap.size, 1, none⟩) (show w.heap.size < w1.heap.size by omega)).trans HK1.out
         have e2 := (HB4.out.cell (p := ⟨w.heap.size + 1, 0, none⟩) (show w.heap.size + 1 < w1.heap.size by omega)).trans HK2.out
         have e3 := (HB4.out.cell (p := ⟨w.heap.size + 1, 1, none⟩) (show w.heap.size + 1 < w1.heap.size by omega)).trans HK3.out
         obtain ⟨ao', cap', rfl, -⟩ := hs4
         clear hb4))
  rw [HZ.out] at HS4 ⊢
  obtain ⟨q0, q1⟩ := two_cells (.bool (decide (z < 0))) (.slice ao' (digs z.natAbs).length cap') c0 c1
  generalize hnn : (digs z.natAbs).length = n' at *
  have HNn := Lib.hid hnn
  have HFin := Lib.hid (Reads.result (Reads.result HS4.out c0 0 (.bool (decide (z < 0)))) q0 1 (.slice ao' n' cap'))
  have HBf := Lib.hid (((HB.out.trans (HB4.out.mono HB.out.size)).setCell (p := ⟨w.heap.size + 1 + 1, 0, none⟩) (by simp; omega) (.bool (decide (z < 0)))).setCell (p := ⟨w.heap.size + 1 + 1, 1, none⟩) (by simp; omega) (.slice ao' n' cap'))
  generalize hdd : decide (z < 0) = dd at *
  have HDd := Lib.hid hdd
  clear hdd hnn k0 k1 k2 k3
  go_wp2
  refine bodyPost_ret (v := .agg #[.bool dd, .slice ao' n' cap']) ?_ rfl ?_
  · simp [results, Tryz.results60, go_sem, q0, q1]
  · exact ⟨_, rfl, ⟨_, by rw [HDd.out], HFin.out⟩, HBf.out⟩
set_option maxRecDepth 100000 in
set_option maxHeartbeats 4000000 in
theorem Plus_tf_ge (s t : Value) (x y : Nat) (w : World) (hs : IsN w s x) (ht : IsN w t y) (ha : (digs x).length ≤ 100000) (hb : (digs y).length ≤ 100000) (hle : y ≤ x) :
    Calls Tryz.prog 60 #[.agg #[.bool true, s], .agg #[.bool false, t]] w fun e w' => ∃ v', e = .returned v' ∧ IsI w' v' (signed true (x - y)) ∧ Below w.heap.size w w' := by
  have HS := Lib.hid hs
  have HT := Lib.hid ht
  obtain ⟨z, hz⟩ : ∃ z, signed true (x - y) = z := ⟨_, rfl⟩
  rw [hz]
  have HZ := Lib.hid hz
  clear hz
  have HMu := Lib.hid (fun w hs ht => Sub_any s t x y w hs ht hle ha)
  have HCm := Lib.hid (fun w hs ht => Cmp_any s t x y w hs ht)
  have HI := Lib.hid (fun w b x a hs => Int_any b a x w hs)
  obtain ⟨ao, acap, rfl, -⟩ := hs
  obtain ⟨bo, bcap, rfl, -⟩ := ht
  have HAb := Lib.hid (And.intro ha hb)
  clear ha hb HAb
  generalize (digs x).length = n at *
  generalize (digs y).length = m at *
  obtain ⟨w1, hw1⟩ : ∃ w1 : World, w1 = (((w.alloc (.cells #[.bool true, .slice ao n acap] 57)).alloc (.cells #[.bool false, .slice bo m bcap] 57)).alloc (.cells #[.bool false, .slice none 0 0] 57)) := ⟨_, rfl⟩
  have HB := Lib.hid (show Below w.heap.size w w1 from by rw [hw1]; exact (((Below.refl w.heap.size w).alloc (Nat.le_refl _) _).alloc (by simp) _).alloc (by simp; omega) _)
  have hk0 : w1.cell? ⟨w.heap.size, 0, none⟩ = some (.bool true) := by rw [hw1]; go_simp
  have hk1 : w1.cell? ⟨w.heap.size, 1, none⟩ = some (.slice ao n acap) := by rw [hw1]; go_simp
  have hk2 : w1.cell? ⟨w.heap.size + 1, 0, none⟩ = some (.bool false) := by rw [hw1]; go_simp
  have hk3 : w1.cell? ⟨w.heap.size + 1, 1, none⟩ = some (.slice bo m bcap) := by rw [hw1]; go_simp
  have hsz : w1.heap.size = w.heap.size + 3 := by rw [hw1]; simp
  have HW1 := Lib.hid hw1
  have HK0 := Lib.hid hk0
  have HK1 := Lib.hid hk1
  have HK2 := Lib.hid hk2
  have HK3 := Lib.hid hk3
  have HNe := Lib.hid (show ¬ w.heap.size + 1 + 1 = w.heap.size by omega)
  clear hw1 hk0 hk1 hk2 hk3
  have hc : 0 ≤ cmpN x y := cmp_ge.2 hle
  clear hle
  generalize cmpN x y = cc at *
  go_enter Tryz.func60, Tryz.ntmps60
  go_wp2_with (go_at_call 28; rw [← HW1.out]; refine (HCm.out _ (HS.out.below HB.out) (HT.out.below HB.out)).mono ?_; rintro e' w2 ⟨rfl, hb2⟩; have HB2 := Lib.hid hb2; clear hb2)
  have k0 := (HB2.out.cell (p := ⟨w.heap.size, 0, none⟩) (show w.heap.size < w1.heap.size by omega)).trans HK0.out
  have k1 := (HB2.out.cell (p := ⟨w.heap.size, 1, none⟩) (show w.heap.size < w1.heap.size by omega)).trans HK1.out
  have k2 := (HB2.out.cell (p := ⟨w.heap.size + 1, 0, none⟩) (show w.heap.size + 1 < w1.heap.size by omega)).trans HK2.out
  have k3 := (HB2.out.cell (p := ⟨w.heap.size + 1, 1, none⟩) (show w.heap.size + 1 < w1.heap.size by omega)).trans HK3.out
  have hne2 := HNe.out
  have HBd := Lib.hid (HB.out.trans (HB2.out.mono HB.out.size)).drew
  go_region_held3 (fun w' => w'.cell? ⟨w.heap.size, 0, none⟩ = some (.bool true) ∧ w'.cell? ⟨w.heap.size, 1, none⟩ = some (.slice ao n acap) ∧ w'.cell? ⟨w.heap.size + 1, 0, none⟩ = some (.bool false) ∧ w'.cell? ⟨w.heap.size + 1, 1, none⟩ = some (.slice bo m bcap))
    (first | exact ⟨‹_›, ‹_›, ‹_›, ‹_›⟩ | exact ⟨k0, k1, k2, k3⟩ | go_keep)
    (first
      | (go_at_call 31; refine (HMu.out _ (HS.out.below HBd.out) (HT.out.below HBd.out)).mono ?_; rintro e' w3 ⟨sv, rfl, hs3, hb3⟩
         have HS3 := Lib.hid hs3
         have HB3 := Lib.hid (HB2.out.drew.trans (hb3.mono HB2.out.size))
         have d0 := (HB3.out.cell (p := ⟨w.heap.size, 0, none⟩) (show w.heap.size < w1.heap.size by omega)).trans HK0.out
         have d1 := (HB3.out.cell (p := ⟨w.heap.size, 1, none⟩) (show w.heap.size < w1.heap.size by omega)).trans HK1.out
         have d2 := (HB3.out.cell (p := ⟨w.heap.size + 1, 0, none⟩) (show w.heap.size + 1 < w1.heap.size by omega)).trans HK2.out
         have d3 := (HB3.out.cell (p := ⟨w.heap.size + 1, 1, none⟩) (show w.heap.size + 1 < w1.heap.size by omega)).trans HK3.out
         clear hs3 hb3)
      | (go_at_call 121; refine (HI.out _ _ _ _ HS3.out).mono ?_; rintro e' w4 ⟨v', rfl, hi, hb4⟩
         obtain ⟨sv', rfl, hs4⟩ := hi
         have HS4 := Lib.hid hs4
         have HB4 := Lib.hid (HB3.out.trans (hb4.mono HB3.out.size))
         obtain ⟨c0, c1, f0, f1⟩ := result_cells (n := w.heap.size + 1 + 1) (by simp) HW1.out HB4.out
         have e0 := (HB4.out.cell (p := ⟨w.heap.size, 0, none⟩) (show w.heap.size < w1.heap.size by omega)).trans HK0.out
         have e1 := (HB4.out.cell (p := ⟨w.heap.size, 1, none⟩) (show w.heap.size < w1.heap.size by omega)).trans HK1.out
         have e2 := (HB4.out.cell (p := ⟨w.heap.size + 1, 0, none⟩) (show w.heap.size + 1 < w1.heap.size by omega)).trans HK2.out
         have e3 := (HB4.out.cell (p := ⟨w.heap.size + 1, 1, none⟩) (show w.heap.size + 1 < w1.heap.size by omega)).trans HK3.out
         obtain ⟨ao', cap', rfl, -⟩ := hs4
         clear hb4))
  rw [HZ.out] at HS4 ⊢
  obtain ⟨q0, q1⟩ := two_cells (.bool (decide (z < 0))) (.slice ao' (digs z.natAbs).length cap') c0 c1
  generalize hnn : (digs z.natAbs).length = n' at *
  have HNn := Lib.hid hnn
  have HFin := Lib.hid (Reads.result (Reads.result HS4.out c0 0 (.bool (decide (z < 0)))) q0 1 (.slice ao' n' cap'))
  have HBf := Lib.hid (((HB.out.trans (HB4.out.mono HB.out.size)).setCell (p := ⟨w.heap.size + 1 + 1, 0, none⟩) (by simp; omega) (.bool (decide (z < 0)))).setCell (p := ⟨w.heap.size + 1 + 1, 1, none⟩) (by simp; omega) (.slice ao' n' cap'))
  generalize hdd : decide (z < 0) = dd at *
  have HDd := Lib.hid hdd
  clear hdd hnn k0 k1 k2 k3
  go_wp2
  refine bodyPost_ret (v := .agg #[.bool dd, .slice ao' n' cap']) ?_ rfl ?_
  · simp [results, Tryz.results60, go_sem, q0, q1]
  · exact ⟨_, rfl, ⟨_, by rw [HDd.out], HFin.out⟩, HBf.out⟩
set_option maxRecDepth 100000 in
set_option maxHeartbeats 4000000 in
theorem Plus_tf_lt (s t : Value) (x y : Nat) (w : World) (hs : IsN w s x) (ht : IsN w t y) (ha : (digs x).length ≤ 100000) (hb : (digs y).length ≤ 100000) (hle : ¬ y ≤ x) :
    Calls Tryz.prog 60 #[.agg #[.bool true, s], .agg #[.bool false, t]] w fun e w' => ∃ v', e = .returned v' ∧ IsI w' v' (signed false (y - x)) ∧ Below w.heap.size w w' := by
  have HS := Lib.hid hs
  have HT := Lib.hid ht
  obtain ⟨z, hz⟩ : ∃ z, signed false (y - x) = z := ⟨_, rfl⟩
  rw [hz]
  have HZ := Lib.hid hz
  clear hz
  have HMu := Lib.hid (fun w (hs : IsN w s x) (ht : IsN w t y) => Sub_any t s y x w ht hs (by omega) hb)
  have HCm := Lib.hid (fun w hs ht => Cmp_any s t x y w hs ht)
  have HI := Lib.hid (fun w b x a hs => Int_any b a x w hs)
  obtain ⟨ao, acap, rfl, -⟩ := hs
  obtain ⟨bo, bcap, rfl, -⟩ := ht
  have HAb := Lib.hid (And.intro ha hb)
  clear ha hb HAb
  generalize (digs x).length = n at *
  generalize (digs y).length = m at *
  obtain ⟨w1, hw1⟩ : ∃ w1 : World, w1 = (((w.alloc (.cells #[.bool true, .slice ao n acap] 57)).alloc (.cells #[.bool false, .slice bo m bcap] 57)).alloc (.cells #[.bool false, .slice none 0 0] 57)) := ⟨_, rfl⟩
  have HB := Lib.hid (show Below w.heap.size w w1 from by rw [hw1]; exact (((Below.refl w.heap.size w).alloc (Nat.le_refl _) _).alloc (by simp) _).alloc (by simp; omega) _)
  have hk0 : w1.cell? ⟨w.heap.size, 0, none⟩ = some (.bool true) := by rw [hw1]; go_simp
  have hk1 : w1.cell? ⟨w.heap.size, 1, none⟩ = some (.slice ao n acap) := by rw [hw1]; go_simp
  have hk2 : w1.cell? ⟨w.heap.size + 1, 0, none⟩ = some (.bool false) := by rw [hw1]; go_simp
  have hk3 : w1.cell? ⟨w.heap.size + 1, 1, none⟩ = some (.slice bo m bcap) := by rw [hw1]; go_simp
  have hsz : w1.heap.size = w.heap.size + 3 := by rw [hw1]; simp
  have HW1 := Lib.hid hw1
  have HK0 := Lib.hid hk0
  have HK1 := Lib.hid hk1
  have HK2 := Lib.hid hk2
  have HK3 := Lib.hid hk3
  have HNe := Lib.hid (show ¬ w.heap.size + 1 + 1 = w.heap.size by omega)
  clear hw1 hk0 hk1 hk2 hk3
  have hc : ¬ 0 ≤ cmpN x y := fun h => hle (cmp_ge.1 h)
  clear hle
  generalize cmpN x y = cc at *
  go_enter Tryz.func60, Tryz.ntmps60
  go_wp2_with (go_at_call 28; rw [← HW1.out]; refine (HCm.out _ (HS.out.below HB.out) (HT.out.below HB.out)).mono ?_; rintro e' w2 ⟨rfl, hb2⟩; have HB2 := Lib.hid hb2; clear hb2)
  have k0 := (HB2.out.cell (p := ⟨w.heap.size, 0, none⟩) (show w.heap.size < w1.heap.size by omega)).trans HK0.out
  have k1 := (HB2.out.cell (p := ⟨w.heap.size, 1, none⟩) (show w.heap.size < w1.heap.size by omega)).trans HK1.out
  have k2 := (HB2.out.cell (p := ⟨w.heap.size + 1, 0, none⟩) (show w.heap.size + 1 < w1.heap.size by omega)).trans HK2.out
  have k3 := (HB2.out.cell (p := ⟨w.heap.size + 1, 1, none⟩) (show w.heap.size + 1 < w1.heap.size by omega)).trans HK3.out
  have hne2 := HNe.out
  have HBd := Lib.hid (HB.out.trans (HB2.out.mono HB.out.size)).drew
  go_region_held3 (fun w' => w'.cell? ⟨w.heap.size, 0, none⟩ = some (.bool true) ∧ w'.cell? ⟨w.heap.size, 1, none⟩ = some (.slice ao n acap) ∧ w'.cell? ⟨w.heap.size + 1, 0, none⟩ = some (.bool false) ∧ w'.cell? ⟨w.heap.size + 1, 1, none⟩ = some (.slice bo m bcap))
    (first | exact ⟨‹_›, ‹_›, ‹_›, ‹_›⟩ | exact ⟨k0, k1, k2, k3⟩ | go_keep)
    (first
      | (go_at_call 31; refine (HMu.out _ (HS.out.below HBd.out) (HT.out.below HBd.out)).mono ?_; rintro e' w3 ⟨sv, rfl, hs3, hb3⟩
         have HS3 := Lib.hid hs3
         have HB3 := Lib.hid (HB2.out.drew.trans (hb3.mono HB2.out.size))
         have d0 := (HB3.out.cell (p := ⟨w.heap.size, 0, none⟩) (show w.heap.size < w1.heap.size by omega)).trans HK0.out
         have d1 := (HB3.out.cell (p := ⟨w.heap.size, 1, none⟩) (show w.heap.size < w1.heap.size by omega)).trans HK1.out
         have d2 := (HB3.out.cell (p := ⟨w.heap.size + 1, 0, none⟩) (show w.heap.size + 1 < w1.heap.size by omega)).trans HK2.out
         have d3 := (HB3.out.cell (p := ⟨w.heap.size + 1, 1, none⟩) (show w.heap.size + 1 < w1.heap.size by omega)).trans HK3.out
         clear hs3 hb3)
      | (go_at_call 121; refine (HI.out _ _ _ _ HS3.out).mono ?_; rintro e' w4 ⟨v', rfl, hi, hb4⟩
         obtain ⟨sv', rfl, hs4⟩ := hi
         have HS4 := Lib.hid hs4
         have HB4 := Lib.hid (HB3.out.trans (hb4.mono HB3.out.size))
         obtain ⟨c0, c1, f0, f1⟩ := result_cells (n := w.heap.size + 1 + 1) (by simp) HW1.out HB4.out
         have e0 := (HB4.out.cell (p := ⟨w.heap.size, 0, none⟩) (show w.heap.size < w1.heap.size by omega)).trans HK0.out
         have e1 := (HB4.out.cell (p := ⟨w.heap.size, 1, none⟩) (show w.heap.size < w1.heap.size by omega)).trans HK1.out
         have e2 := (HB4.out.cell (p := ⟨w.heap.size + 1, 0, none⟩) (show w.heap.size + 1 < w1.heap.size by omega)).trans HK2.out
         have e3 := (HB4.out.cell (p := ⟨w.heap.size + 1, 1, none⟩) (show w.heap.size + 1 < w1.heap.size by omega)).trans HK3.out
         obtain ⟨ao', cap', rfl, -⟩ := hs4
         clear hb4))
  rw [HZ.out] at HS4 ⊢
  obtain ⟨q0, q1⟩ := two_cells (.bool (decide (z < 0))) (.slice ao' (digs z.natAbs).length cap') c0 c1
  generalize hnn : (digs z.natAbs).length = n' at *
  have HNn := Lib.hid hnn
  have HFin := Lib.hid (Reads.result (Reads.result HS4.out c0 0 (.bool (decide (z < 0)))) q0 1 (.slice ao' n' cap'))
  have HBf := Lib.hid (((HB.out.trans (HB4.out.mono HB.out.size)).setCell (p := ⟨w.heap.size + 1 + 1, 0, none⟩) (by simp; omega) (.bool (decide (z < 0)))).setCell (p := ⟨w.heap.size + 1 + 1, 1, none⟩) (by simp; omega) (.slice ao' n' cap'))
  generalize hdd : decide (z < 0) = dd at *
  have HDd := Lib.hid hdd
  clear hdd hnn k0 k1 k2 k3
  go_wp2
  refine bodyPost_ret (v := .agg #[.bool dd, .slice ao' n' cap']) ?_ rfl ?_
  · simp [results, Tryz.results60, go_sem, q0, q1]
  · exact ⟨_, rfl, ⟨_, by rw [HDd.out], HFin.out⟩, HBf.out⟩
set_option maxRecDepth 100000 in
set_option maxHeartbeats 4000000 in
theorem Plus_ft_ge (s t : Value) (x y : Nat) (w : World) (hs : IsN w s x) (ht : IsN w t y) (ha : (digs x).length ≤ 100000) (hb : (digs y).length ≤ 100000) (hle : y ≤ x) :
    Calls Tryz.prog 60 #[.agg #[.bool false, s], .agg #[.bool true, t]] w fun e w' => ∃ v', e = .returned v' ∧ IsI w' v' (signed false (x - y)) ∧ Below w.heap.size w w' := by
  have HS := Lib.hid hs
  have HT := Lib.hid ht
  obtain ⟨z, hz⟩ : ∃ z, signed false (x - y) = z := ⟨_, rfl⟩
  rw [hz]
  have HZ := Lib.hid hz
  clear hz
  have HMu := Lib.hid (fun w hs ht => Sub_any s t x y w hs ht hle ha)
  have HCm := Lib.hid (fun w hs ht => Cmp_any s t x y w hs ht)
  have HI := Lib.hid (fun w b x a hs => Int_any b a x w hs)
  obtain ⟨ao, acap, rfl, -⟩ := hs
  obtain ⟨bo, bcap, rfl, -⟩ := ht
  have HAb := Lib.hid (And.intro ha hb)
  clear ha hb HAb
  generalize (digs x).length = n at *
  generalize (digs y).length = m at *
  obtain ⟨w1, hw1⟩ : ∃ w1 : World, w1 = (((w.alloc (.cells #[.bool false, .slice ao n acap] 57)).alloc (.cells #[.bool true, .slice bo m bcap] 57)).alloc (.cells #[.bool false, .slice none 0 0] 57)) := ⟨_, rfl⟩
  have HB := Lib.hid (show Below w.heap.size w w1 from by rw [hw1]; exact (((Below.refl w.heap.size w).alloc (Nat.le_refl _) _).alloc (by simp) _).alloc (by simp; omega) _)
  have hk0 : w1.cell? ⟨w.heap.size, 0, none⟩ = some (.bool false) := by rw [hw1]; go_simp
  have hk1 : w1.cell? ⟨w.heap.size, 1, none⟩ = some (.slice ao n acap) := by rw [hw1]; go_simp
  have hk2 : w1.cell? ⟨w.heap.size + 1, 0, none⟩ = some (.bool true) := by rw [hw1]; go_simp
  have hk3 : w1.cell? ⟨w.heap.size + 1, 1, none⟩ = some (.slice bo m bcap) := by rw [hw1]; go_simp
  have hsz : w1.heap.size = w.heap.size + 3 := by rw [hw1]; simp
  have HW1 := Lib.hid hw1
  have HK0 := Lib.hid hk0
  have HK1 := Lib.hid hk1
  have HK2 := Lib.hid hk2
  have HK3 := Lib.hid hk3
  have HNe := Lib.hid (show ¬ w.heap.size + 1 + 1 = w.heap.size by omega)
  clear hw1 hk0 hk1 hk2 hk3
  have hc : 0 ≤ cmpN x y := cmp_ge.2 hle
  clear hle
  generalize cmpN x y = cc at *
  go_enter Tryz.func60, Tryz.ntmps60
  go_wp2_with (go_at_call 28; rw [← HW1.out]; refine (HCm.out _ (HS.out.below HB.out) (HT.out.below HB.out)).mono ?_; rintro e' w2 ⟨rfl, hb2⟩; have HB2 := Lib.hid hb2; clear hb2)
  have k0 := (HB2.out.cell (p := ⟨w.heap.size, 0, none⟩) (show w.heap.size < w1.heap.size by omega)).trans HK0.out
  have k1 := (HB2.out.cell (p := ⟨w.heap.size, 1, none⟩) (show w.heap.size < w1.heap.size by omega)).trans HK1.out
  have k2 := (HB2.out.cell (p := ⟨w.heap.size + 1, 0, none⟩) (show w.heap.size + 1 < w1.heap.size by omega)).trans HK2.out
  have k3 := (HB2.out.cell (p := ⟨w.heap.size + 1, 1, none⟩) (show w.heap.size + 1 < w1.heap.size by omega)).trans HK3.out
  have hne2 := HNe.out
  have HBd := Lib.hid (HB.out.trans (HB2.out.mono HB.out.size)).drew
  go_region_held3 (fun w' => w'.cell? ⟨w.heap.size, 0, none⟩ = some (.bool false) ∧ w'.cell? ⟨w.heap.size, 1, none⟩ = some (.slice ao n acap) ∧ w'.cell? ⟨w.heap.size + 1, 0, none⟩ = some (.bool true) ∧ w'.cell? ⟨w.heap.size + 1, 1, none⟩ = some (.slice bo m bcap))
    (first | exact ⟨‹_›, ‹_›, ‹_›, ‹_›⟩ | exact ⟨k0, k1, k2, k3⟩ | go_keep)
    (first
      | (go_at_call 31; refine (HMu.out _ (HS.out.below HBd.out) (HT.out.below HBd.out)).mono ?_; rintro e' w3 ⟨sv, rfl, hs3, hb3⟩
         have HS3 := Lib.hid hs3
         have HB3 := Lib.hid (HB2.out.drew.trans (hb3.mono HB2.out.size))
         have d0 := (HB3.out.cell (p := ⟨w.heap.size, 0, none⟩) (show w.heap.size < w1.heap.size by omega)).trans HK0.out
         have d1 := (HB3.out.cell (p := ⟨w.heap.size, 1, none⟩) (show w.heap.size < w1.heap.size by omega)).trans HK1.out
         have d2 := (HB3.out.cell (p := ⟨w.heap.size + 1, 0, none⟩) (show w.heap.size + 1 < w1.heap.size by omega)).trans HK2.out
         have d3 := (HB3.out.cell (p := ⟨w.heap.size + 1, 1, none⟩) (show w.heap.size + 1 < w1.heap.size by omega)).trans HK3.out
         clear hs3 hb3)
      | (go_at_call 121; refine (HI.out _ _ _ _ HS3.out).mono ?_; rintro e' w4 ⟨v', rfl, hi, hb4⟩
         obtain ⟨sv', rfl, hs4⟩ := hi
         have HS4 := Lib.hid hs4
         have HB4 := Lib.hid (HB3.out.trans (hb4.mono HB3.out.size))
         obtain ⟨c0, c1, f0, f1⟩ := result_cells (n := w.heap.size + 1 + 1) (by simp) HW1.out HB4.out
         have e0 := (HB4.out.cell (p := ⟨w.heap.size, 0, none⟩) (show w.heap.size < w1.heap.size by omega)).trans HK0.out
         have e1 := (HB4.out.cell (p := ⟨w.heap.size, 1, none⟩) (show w.heap.size < w1.heap.size by omega)).trans HK1.out
         have e2 := (HB4.out.cell (p := ⟨w.heap.size + 1, 0, none⟩) (show w.heap.size + 1 < w1.heap.size by omega)).trans HK2.out
         have e3 := (HB4.out.cell (p := ⟨w.heap.size + 1, 1, none⟩) (show w.heap.size + 1 < w1.heap.size by omega)).trans HK3.out
         obtain ⟨ao', cap', rfl, -⟩ := hs4
         clear hb4))
  rw [HZ.out] at HS4 ⊢
  obtain ⟨q0, q1⟩ := two_cells (.bool (decide (z < 0))) (.slice ao' (digs z.natAbs).length cap') c0 c1
  generalize hnn : (digs z.natAbs).length = n' at *
  have HNn := Lib.hid hnn
  have HFin := Lib.hid (Reads.result (Reads.result HS4.out c0 0 (.bool (decide (z < 0)))) q0 1 (.slice ao' n' cap'))
  have HBf := Lib.hid (((HB.out.trans (HB4.out.mono HB.out.size)).setCell (p := ⟨w.heap.size + 1 + 1, 0, none⟩) (by simp; omega) (.bool (decide (z < 0)))).setCell (p := ⟨w.heap.size + 1 + 1, 1, none⟩) (by simp; omega) (.slice ao' n' cap'))
  generalize hdd : decide (z < 0) = dd at *
  have HDd := Lib.hid hdd
  clear hdd hnn k0 k1 k2 k3
  go_wp2
  refine bodyPost_ret (v := .agg #[.bool dd, .slice ao' n' cap']) ?_ rfl ?_
  · simp [results, Tryz.results60, go_sem, q0, q1]
  · exact ⟨_, rfl, ⟨_, by rw [HDd.out], HFin.out⟩, HBf.out⟩
set_option maxRecDepth 100000 in
set_option maxHeartbeats 4000000 in
theorem Plus_ft_lt (s t : Value) (x y : Nat) (w : World) (hs : IsN w s x) (ht : IsN w t y) (ha : (digs x).length ≤ 100000) (hb : (digs y).length ≤ 100000) (hle : ¬ y ≤ x) :
    Calls Tryz.prog 60 #[.agg #[.bool false, s], .agg #[.bool true, t]] w fun e w' => ∃ v', e = .returned v' ∧ IsI w' v' (signed true (y - x)) ∧ Below w.heap.size w w' := by
  have HS := Lib.hid hs
  have HT := Lib.hid ht
  obtain ⟨z, hz⟩ : ∃ z, signed true (y - x) = z := ⟨_, rfl⟩
  rw [hz]
  have HZ := Lib.hid hz
  clear hz
  have HMu := Lib.hid (fun w (hs : IsN w s x) (ht : IsN w t y) => Sub_any t s y x w ht hs (by omega) hb)
  have HCm := Lib.hid (fun w hs ht => Cmp_any s t x y w hs ht)
  have HI := Lib.hid (fun w b x a hs => Int_any b a x w hs)
  obtain ⟨ao, acap, rfl, -⟩ := hs
  obtain ⟨bo, bcap, rfl, -⟩ := ht
  have HAb := Lib.hid (And.intro ha hb)
  clear ha hb HAb
  generalize (digs x).length = n at *
  generalize (digs y).length = m at *
  obtain ⟨w1, hw1⟩ : ∃ w1 : World, w1 = (((w.alloc (.cells #[.bool false, .slice ao n acap] 57)).alloc (.cells #[.bool true, .slice bo m bcap] 57)).alloc (.cells #[.bool false, .slice none 0 0] 57)) := ⟨_, rfl⟩
  have HB := Lib.hid (show Below w.heap.size w w1 from by rw [hw1]; exact (((Below.refl w.heap.size w).alloc (Nat.le_refl _) _).alloc (by simp) _).alloc (by simp; omega) _)
  have hk0 : w1.cell? ⟨w.heap.size, 0, none⟩ = some (.bool false) := by rw [hw1]; go_simp
  have hk1 : w1.cell? ⟨w.heap.size, 1, none⟩ = some (.slice ao n acap) := by rw [hw1]; go_simp
  have hk2 : w1.cell? ⟨w.heap.size + 1, 0, none⟩ = some (.bool true) := by rw [hw1]; go_simp
  have hk3 : w1.cell? ⟨w.heap.size + 1, 1, none⟩ = some (.slice bo m bcap) := by rw [hw1]; go_simp
  have hsz : w1.heap.size = w.heap.size + 3 := by rw [hw1]; simp
  have HW1 := Lib.hid hw1
  have HK0 := Lib.hid hk0
  have HK1 := Lib.hid hk1
  have HK2 := Lib.hid hk2
  have HK3 := Lib.hid hk3
  have HNe := Lib.hid (show ¬ w.heap.size + 1 + 1 = w.heap.size by omega)
  clear hw1 hk0 hk1 hk2 hk3
  have hc : ¬ 0 ≤ cmpN x y := fun h => hle (cmp_ge.1 h)
  clear hle
  generalize cmpN x y = cc at *
  go_enter Tryz.func60, Tryz.ntmps60
  go_wp2_with (go_at_call 28; rw [← HW1.out]; refine (HCm.out _ (HS.out.below HB.out) (HT.out.below HB.out)).mono ?_; rintro e' w2 ⟨rfl, hb2⟩; have HB2 := Lib.hid hb2; clear hb2)
  have k0 := (HB2.out.cell (p := ⟨w.heap.size, 0, none⟩) (show w.heap.size < w1.heap.size by omega)).trans HK0.out
  have k1 := (HB2.out.cell (p := ⟨w.heap.size, 1, none⟩) (show w.heap.size < w1.heap.size by omega)).trans HK1.out
  have k2 := (HB2.out.cell (p := ⟨w.heap.size + 1, 0, none⟩) (show w.heap.size + 1 < w1.heap.size by omega)).trans HK2.out
  have k3 := (HB2.out.cell (p := ⟨w.heap.size + 1, 1, none⟩) (show w.heap.size + 1 < w1.heap.size by omega)).trans HK3.out
  have hne2 := HNe.out
  have HBd := Lib.hid (HB.out.trans (HB2.out.mono HB.out.size)).drew
  go_region_held3 (fun w' => w'.cell? ⟨w.heap.size, 0, none⟩ = some (.bool false) ∧ w'.cell? ⟨w.heap.size, 1, none⟩ = some (.slice ao n acap) ∧ w'.cell? ⟨w.heap.size + 1, 0, none⟩ = some (.bool true) ∧ w'.cell? ⟨w.heap.size + 1, 1, none⟩ = some (.slice bo m bcap))
    (first | exact ⟨‹_›, ‹_›, ‹_›, ‹_›⟩ | exact ⟨k0, k1, k2, k3⟩ | go_keep)
    (first
      | (go_at_call 31; refine (HMu.out _ (HS.out.below HBd.out) (HT.out.below HBd.out)).mono ?_; rintro e' w3 ⟨sv, rfl, hs3, hb3⟩
         have HS3 := Lib.hid hs3
         have HB3 := Lib.hid (HB2.out.drew.trans (hb3.mono HB2.out.size))
         have d0 := (HB3.out.cell (p := ⟨w.heap.size, 0, none⟩) (show w.heap.size < w1.heap.size by omega)).trans HK0.out
         have d1 := (HB3.out.cell (p := ⟨w.heap.size, 1, none⟩) (show w.heap.size < w1.heap.size by omega)).trans HK1.out
         have d2 := (HB3.out.cell (p := ⟨w.heap.size + 1, 0, none⟩) (show w.heap.size + 1 < w1.heap.size by omega)).trans HK2.out
         have d3 := (HB3.out.cell (p := ⟨w.heap.size + 1, 1, none⟩) (show w.heap.size + 1 < w1.heap.size by omega)).trans HK3.out
         clear hs3 hb3)
      | (go_at_call 121; refine (HI.out _ _ _ _ HS3.out).mono ?_; rintro e' w4 ⟨v', rfl, hi, hb4⟩
         obtain ⟨sv', rfl, hs4⟩ := hi
         have HS4 := Lib.hid hs4
         have HB4 := Lib.hid (HB3.out.trans (hb4.mono HB3.out.size))
         obtain ⟨c0, c1, f0, f1⟩ := result_cells (n := w.heap.size + 1 + 1) (by simp) HW1.out HB4.out
         have e0 := (HB4.out.cell (p := ⟨w.heap.size, 0, none⟩) (show w.heap.size < w1.heap.size by omega)).trans HK0.out
         have e1 := (HB4.out.cell (p := ⟨w.heap.size, 1, none⟩) (show w.heap.size < w1.heap.size by omega)).trans HK1.out
         have e2 := (HB4.out.cell (p := ⟨w.heap.size + 1, 0, none⟩) (show w.heap.size + 1 < w1.heap.size by omega)).trans HK2.out
         have e3 := (HB4.out.cell (p := ⟨w.heap.size + 1, 1, none⟩) (show w.heap.size + 1 < w1.heap.size by omega)).trans HK3.out
         obtain ⟨ao', cap', rfl, -⟩ := hs4
         clear hb4))
  rw [HZ.out] at HS4 ⊢
  obtain ⟨q0, q1⟩ := two_cells (.bool (decide (z < 0))) (.slice ao' (digs z.natAbs).length cap') c0 c1
  generalize hnn : (digs z.natAbs).length = n' at *
  have HNn := Lib.hid hnn
  have HFin := Lib.hid (Reads.result (Reads.result HS4.out c0 0 (.bool (decide (z < 0)))) q0 1 (.slice ao' n' cap'))
  have HBf := Lib.hid (((HB.out.trans (HB4.out.mono HB.out.size)).setCell (p := ⟨w.heap.size + 1 + 1, 0, none⟩) (by simp; omega) (.bool (decide (z < 0)))).setCell (p := ⟨w.heap.size + 1 + 1, 1, none⟩) (by simp; omega) (.slice ao' n' cap'))
  generalize hdd : decide (z < 0) = dd at *
  have HDd := Lib.hid hdd
  clear hdd hnn k0 k1 k2 k3
  go_wp2
  refine bodyPost_ret (v := .agg #[.bool dd, .slice ao' n' cap']) ?_ rfl ?_
  · simp [results, Tryz.results60, go_sem, q0, q1]
  · exact ⟨_, rfl, ⟨_, by rw [HDd.out], HFin.out⟩, HBf.out⟩
set_option maxHeartbeats 1000000 in
theorem Plus_any (u v : Value) (a b : Int) (w : World) (hu : IsI w u a) (hv : IsI w v b) (ha : (digs a.natAbs).length ≤ 100000) (hb : (digs b.natAbs).length ≤ 100000) :
    Calls Tryz.prog 60 #[u, v] w fun e w' => ∃ v', e = .returned v' ∧ IsI w' v' (a + b) ∧ Below w.heap.size w w' := by
  obtain ⟨s, rfl, hs⟩ := hu
  obtain ⟨t, rfl, ht⟩ := hv
  have key : ∀ (d : Bool) (m : Nat), signed d m = a + b → (Calls Tryz.prog 60 #[.agg #[.bool (decide (a < 0)), s], .agg #[.bool (decide (b < 0)), t]] w fun e w' => ∃ v', e = .returned v' ∧ IsI w' v' (signed d m) ∧ Below w.heap.size w w') →
      (Calls Tryz.prog 60 #[.agg #[.bool (decide (a < 0)), s], .agg #[.bool (decide (b < 0)), t]] w fun e w' => ∃ v', e = .returned v' ∧ IsI w' v' (a + b) ∧ Below w.heap.size w w') := fun d m h hc => by rw [h] at hc; exact hc
  by_cases h1 : a < 0
  · by_cases h2 : b < 0
    · refine key true (a.natAbs + b.natAbs) (by show -((a.natAbs + b.natAbs : Nat) : Int) = a + b; omega) ?_
      rw [decide_eq_true h1, decide_eq_true h2]
      exact Plus_tt s t _ _ w hs ht ha hb
    · by_cases h3 : b.natAbs ≤ a.natAbs
      · refine key true (a.natAbs - b.natAbs) (by show -((a.natAbs - b.natAbs : Nat) : Int) = a + b; omega) ?_
        rw [decide_eq_true h1, decide_eq_false h2]
        exact Plus_tf_ge s t _ _ w hs ht ha hb h3
      · refine key false (b.natAbs - a.natAbs) (by show ((b.natAbs - a.natAbs : Nat) : Int) = a + b; omega) ?_
        rw [decide_eq_true h1, decide_eq_false h2]
        exact Plus_tf_lt s t _ _ w hs ht ha hb h3
  · by_cases h2 : b < 0
    · by_cases h3 : b.natAbs ≤ a.natAbs
      · refine key false (a.natAbs - b.natAbs) (by show ((a.natAbs - b.natAbs : Nat) : Int) = a + b; omega) ?_
        rw [decide_eq_false h1, decide_eq_true h2]
        exact Plus_ft_ge s t _ _ w hs ht ha hb h3
      · refine key true (b.natAbs - a.natAbs) (by show -((b.natAbs - a.natAbs : Nat) : Int) = a + b; omega) ?_
        rw [decide_eq_false h1, decide_eq_true h2]
        exact Plus_ft_lt s t _ _ w hs ht ha hb h3
    · refine key false (a.natAbs + b.natAbs) (by show ((a.natAbs + b.natAbs : Nat) : Int) = a + b; omega) ?_
      rw [decide_eq_false h1, decide_eq_false h2]
      exact Plus_ff s t _ _ w hs ht ha hb
end Go.Proofs.YtfpooimjjpamoaaGreatDoor.ref
