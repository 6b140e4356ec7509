/-
  The steps of the walks, part 32: RefI, RefOf, RefTimes.
-/
import Derived.StillTailTactics
import Derived.Deep.RegionHeld3
import Derived.Test.YtfpooimjjpamoaaGreatDoorM31
namespace Go.Proofs.YtfpooimjjpamoaaGreatDoor.ref
open Go.RowKit
theorem signed_minus (z : Int) : signed (!decide (z < 0)) z.natAbs = -z := by
  unfold signed
  by_cases h : z < 0
  · simp [h]; omega
  · simp [h]; omega
theorem result_cells {w w2 w3 : World} {n : Nat} (hn : w.heap.size = n) (h2 : w2 = w.alloc (.cells #[Value.bool false, .slice none 0 0] 57)) (h : Below w2.heap.size w2 w3) :
    w3.cell? ⟨n, 0, none⟩ = some (.bool false) ∧ w3.cell? ⟨n, 1, none⟩ = some (.slice none 0 0) ∧ w3.frozen? ⟨n, 0, none⟩ = false ∧ w3.frozen? ⟨n, 1, none⟩ = false := by
  subst h2 hn
  have hs : w.heap.size < (w.alloc (.cells #[Value.bool false, .slice none 0 0] 57)).heap.size := by simp
  refine ⟨(h.cell (p := ⟨w.heap.size, 0, none⟩) hs).trans ?_, (h.cell (p := ⟨w.heap.size, 1, none⟩) hs).trans ?_, (h.frozen (p := ⟨w.heap.size, 0, none⟩) hs).trans ?_, (h.frozen (p := ⟨w.heap.size, 1, none⟩) hs).trans ?_⟩
  · rw [cell_of_row _ w.heap.size 0 _ 57 (0, 0) (heap_alloc_new w _)]; rfl
  · rw [cell_of_row _ w.heap.size 1 _ 57 (0, 0) (heap_alloc_new w _)]; rfl
  · unfold World.frozen?
    rw [heap_alloc_new]
    rfl
  · unfold World.frozen?
    rw [heap_alloc_new]
    rfl
theorem Reads.result {w : World} {sv : Value} {l : List Nat} {g : Nat} {b : Bool} (h : Reads w sv l) (c0 : w.cell? ⟨g, 0, none⟩ = some (.bool b)) (j : Nat) (u : Value) : Reads (w.setCell ⟨g, j, none⟩ u) sv l := by
  obtain ⟨ao, cap, rfl, h1, h2, h3⟩ := h
  by_cases hl : l = []
  · exact ⟨ao, cap, rfl, h1, h2, Or.inl hl⟩
  · obtain ⟨g', hg, hc⟩ := h3.resolve_left hl
    have hne : g' ≠ g := by
      rintro rfl
      have := (hc 0 (List.length_pos_iff.2 hl)).symm.trans c0
      simp at this
    refine ⟨ao, cap, rfl, h1, h2, Or.inr ⟨g', hg, fun k hk => ?_⟩⟩
    rw [World.cell?_of_block (w := w) (a := ⟨g', k, none⟩) (Below.heap_setCell _ _ _ _ hne)]
    exact hc k hk
theorem two_cells {w : World} {g : Nat} {u0 u1 : Value} (v0 v1 : Value) (c0 : w.cell? ⟨g, 0, none⟩ = some u0) (c1 : w.cell? ⟨g, 1, none⟩ = some u1) :
    (w.setCell ⟨g, 0, none⟩ v0).cell? ⟨g, 0, none⟩ = some v0 ∧ ((w.setCell ⟨g, 0, none⟩ v0).setCell ⟨g, 1, none⟩ v1).cell? ⟨g, 1, none⟩ = some v1 := by
  constructor
  · exact World.cell?_setCell_same' _ _ _ (by rw [c0]; rfl)
  · exact World.cell?_setCell_same' _ _ _ (by rw [World.cell?_setCell_other _ _ _ _ (by simp), c1]; rfl)
set_option maxRecDepth 100000 in
set_option maxHeartbeats 4000000 in
theorem Minus_any (v : Value) (z : Int) (w : World) (hv : IsI w v z) :
    Calls Tryz.prog 62 #[v] w fun e w' => ∃ v', e = .returned v' ∧ IsI w' v' (-z) ∧ Below w.heap.size w w' := by
  obtain ⟨sv, rfl, hs⟩ := hv
  have HS := Lib.hid hs
  have HM := Lib.hid (signed_minus z)
  obtain ⟨ao, acap, rfl, -⟩ := hs
  generalize z.natAbs = x at *
  generalize decide (z < 0) = b at *
  generalize (digs x).length = n at *
  have HB := Lib.hid (((Below.refl w.heap.size w).alloc (Nat.le_refl _) (.cells #[.bool b, .slice ao n acap] 57)).alloc (by simp) (.cells #[.bool false, .slice none 0 0] 57))
  have HC := Lib.hid (fun w hs => Int_any (!b) (.slice ao n acap) x w hs)
  go_enter Tryz.func62, Tryz.ntmps62
  go_wp2_with (go_at_call 121; refine (HC.out _ (HS.out.below HB.out)).mono ?_; rintro e' w3 ⟨v', rfl, hi, hb3⟩; obtain ⟨sv', rfl, hs'⟩ := hi; obtain ⟨c0, c1, f0, f1⟩ := result_cells (n := w.heap.size + 1) (by simp) rfl hb3; have HB3 := Lib.hid (HB.out.trans (hb3.mono HB.out.size)); have HS3 := Lib.hid hs'; obtain ⟨ao', cap', rfl, -⟩ := hs'; clear hb3 HC)
  rw [HM.out] at *
  generalize hnn : (digs (-z).natAbs).length = n' at *
  have HNn := Lib.hid hnn
  clear hnn
  refine bodyPost_ret (v := .agg #[.bool (decide (-z < 0)), .slice ao' n' cap']) ?_ rfl ?_
  · obtain ⟨q0, q1⟩ := two_cells (.bool (decide (0 < z))) (.slice ao' n' cap') c0 c1
    simp [results, Tryz.results62, go_sem, q0, q1]
  · refine ⟨_, rfl, ⟨_, rfl, ?_⟩, ?_⟩
    · have q0 := (two_cells (.bool (decide (-z < 0))) (.slice ao' n' cap') c0 c1).1
      exact Reads.result (Reads.result HS3.out c0 0 _) q0 1 _
    · exact (HB3.out.setCell (by simp) _).setCell (by simp) _
theorem nDigits_le : ∀ (n x : Nat), x < 10 ^ (n + 1) → Lib.nDigits x ≤ n + 1
  | 0, x, h => by rw [Lib.nDigits_small (by simpa using h)]; exact Nat.le_refl _
  | n + 1, x, h => by
    by_cases h1 : x < 10
    · rw [Lib.nDigits_small h1]; omega
    · rw [Lib.nDigits_big h1]
      have := nDigits_le n (x / 10) (by rw [Nat.pow_succ] at h; omega)
      omega
theorem dec_size {x m : Nat} (h : (digs x).length ≤ m) : (str (Lib.decDigits x)).size ≤ 9 * m + 1 := by
  rw [str_size, Lib.decDigits_length]
  apply nDigits_le
  have h1 := val_lt (norm_digs x).1
  rw [val_digs, pow_nine] at h1
  have h2 : 10 ^ (9 * (digs x).length) ≤ 10 ^ (9 * m + 1) := Nat.pow_le_pow_right (by omega) (by omega)
  exact Nat.lt_of_lt_of_le h1 h2
set_option maxRecDepth 100000 in
set_option maxHeartbeats 4000000 in
theorem IText_any (v : Value) (z : Int) (w : World) (hv : IsI w v z) (hz : (digs z.natAbs).length ≤ 100000) :
    Calls Tryz.prog 53 #[v] w fun e w' => e = .returned (.string (str (Lib.itoa z))) ∧ Below w.heap.size w w' := by
  obtain ⟨sv, rfl, hs⟩ := hv
  have HS := Lib.hid hs
  have HB := Lib.hid ((Below.refl w.heap.size w).alloc (Nat.le_refl _) (.cells #[.bool (decide (z < 0)), sv] 57))
  have HT := Lib.hid (Text_any sv z.natAbs (w.alloc (.cells #[.bool (decide (z < 0)), sv] 57)) (HS.out.below HB.out) hz)
  obtain ⟨ao, acap, rfl, -⟩ := hs
  have hlen := dec_size hz
  generalize (digs z.natAbs).length = n at *
  by_cases h : z < 0
  · have hz2 : str (Lib.itoa z) = str [45] ++ str (Lib.decDigits z.natAbs) := by
      unfold Lib.itoa
      rw [if_pos h, str_append]
      rfl
    rw [decide_eq_true h] at HB HT ⊢
    rw [hz2]
    generalize str (Lib.decDigits z.natAbs) = s at *
    have h45 : ({ data := #[45] } : ByteArray) = str [45] := rfl
    have hsz : ¬ 9223372036854775807 < ({ data := #[45] } : ByteArray).size + s.size := by
      have : ({ data := #[45] } : ByteArray).size = 1 := rfl
      omega
    go_enter Tryz.func53, Tryz.ntmps53
    go_wp2_with (go_at_call 32; refine (HT.out).mono ?_; rintro e' w3 ⟨rfl, hb3⟩; have HB3 := Lib.hid (HB.out.trans (hb3.mono HB.out.size)); clear hb3 HT)
    go_ret
    exact ⟨rfl, HB3.out⟩
  · have hz2 : str (Lib.itoa z) = str (Lib.decDigits z.natAbs) := by
      unfold Lib.itoa
      rw [if_neg h]
      congr 2
      omega
    rw [decide_eq_false h] at HB HT ⊢
    rw [hz2]
    generalize str (Lib.decDigits z.natAbs) = s at *
    go_enter Tryz.func53, Tryz.ntmps53
    go_wp2_with (go_at_call 32; refine (HT.out).mono ?_; rintro e' w3 ⟨rfl, hb3⟩; have HB3 := Lib.hid (HB.out.trans (hb3.mono HB.out.size)); clear hb3 HT)
    go_ret
    exact ⟨rfl, HB3.out⟩
end Go.Proofs.YtfpooimjjpamoaaGreatDoor.ref
namespace Go.Proofs.YtfpooimjjpamoaaGreatDoor.ref
open Go.RowKit
set_option maxRecDepth 100000 in
set_option maxHeartbeats 4000000 in
theorem Of_any (z : Int) (h1 : -9223372036854775808 ≤ z) (h2 : z ≤ 9223372036854775807) (w : World) :
    Calls Tryz.prog 68 #[.int .i64 z] w fun e w' => ∃ v, e = .returned v ∧ IsI w' v z ∧ Below w.heap.size w w' := by
  have HB := Lib.hid ((Below.refl w.heap.size w).alloc (Nat.le_refl _) (.cells #[.bool false, .slice none 0 0] 57))
  by_cases h : z < 0
  · have HO := Lib.hid (fun w => OfU_int (-(z + 1) + 1) z.natAbs (by omega) (by omega) w)
    have hd : decide (z < 0) = true := by simp; omega
    go_enter Tryz.func68, Tryz.ntmps68
    go_wp2_with (go_at_call 48; refine (HO.out _).mono ?_; rintro e' w3 ⟨sv', rfl, hs', hb3⟩; obtain ⟨c0, c1, f0, f1⟩ := result_cells (n := w.heap.size) rfl rfl hb3; have HB3 := Lib.hid (HB.out.trans (hb3.mono HB.out.size)); have HS3 := Lib.hid hs'; obtain ⟨ao', cap', rfl, -⟩ := hs'; clear hb3 HO)
    obtain ⟨q0, q1⟩ := two_cells (.bool true) (.slice ao' (digs z.natAbs).length cap') c0 c1
    generalize hnn : (digs z.natAbs).length = n' at *
    have HNn := Lib.hid hnn
    clear hnn
    refine bodyPost_ret (v := .agg #[.bool true, .slice ao' n' cap']) ?_ rfl ?_
    · simp [results, Tryz.results68, go_sem, q0, q1]
    · refine ⟨_, rfl, ⟨_, by rw [hd], Reads.result (Reads.result HS3.out c0 0 _) q0 1 _⟩, ?_⟩
      exact (HB3.out.setCell (Nat.le_refl _) _).setCell (Nat.le_refl _) _
  · have HO := Lib.hid (fun w => OfU_int (z) z.natAbs (by omega) (by omega) w)
    have hd : decide (z < 0) = false := by simp; omega
    go_enter Tryz.func68, Tryz.ntmps68
    go_wp2_with (go_at_call 48; refine (HO.out _).mono ?_; rintro e' w3 ⟨sv', rfl, hs', hb3⟩; obtain ⟨c0, c1, f0, f1⟩ := result_cells (n := w.heap.size) rfl rfl hb3; have HB3 := Lib.hid (HB.out.trans (hb3.mono HB.out.size)); have HS3 := Lib.hid hs'; obtain ⟨ao', cap', rfl, -⟩ := hs'; clear hb3 HO)
    obtain ⟨q0, q1⟩ := two_cells (.bool false) (.slice ao' (digs z.natAbs).length cap') c0 c1
    generalize hnn : (digs z.natAbs).length = n' at *
    have HNn := Lib.hid hnn
    clear hnn
    refine bodyPost_ret (v := .agg #[.bool false, .slice ao' n' cap']) ?_ rfl ?_
    · simp [results, Tryz.results68, go_sem, q0, q1]
    · refine ⟨_, rfl, ⟨_, by rw [hd], Reads.result (Reads.result HS3.out c0 0 _) q0 1 _⟩, ?_⟩
      exact (HB3.out.setCell (Nat.le_refl _) _).setCell (Nat.le_refl _) _
end Go.Proofs.YtfpooimjjpamoaaGreatDoor.ref
namespace Go.Proofs.YtfpooimjjpamoaaGreatDoor.ref
open Go.RowKit
theorem signed_times (a b : Int) : signed (decide (a < 0) != decide (b < 0)) (a.natAbs * b.natAbs) = a * b := by
  unfold signed
  by_cases ha : a < 0
  · obtain ⟨x, rfl⟩ : ∃ x : Nat, a = -(x : Int) := ⟨a.natAbs, by omega⟩
    by_cases hb : b < 0
    · obtain ⟨y, rfl⟩ : ∃ y : Nat, b = -(y : Int) := ⟨b.natAbs, by omega⟩
      rw [decide_eq_true ha, decide_eq_true hb, Int.natAbs_neg, Int.natAbs_neg, Int.neg_mul_neg]
      rfl
    · obtain ⟨y, rfl⟩ : ∃ y : Nat, b = (y : Int) := ⟨b.natAbs, by omega⟩
      rw [decide_eq_true ha, decide_eq_false hb, Int.natAbs_neg, Int.neg_mul]
      rfl
  · obtain ⟨x, rfl⟩ : ∃ x : Nat, a = (x : Int) := ⟨a.natAbs, by omega⟩
    by_cases hb : b < 0
    · obtain ⟨y, rfl⟩ : ∃ y : Nat, b = -(y : Int) := ⟨b.natAbs, by omega⟩
      rw [decide_eq_false ha, decide_eq_true hb, Int.natAbs_neg, Int.mul_neg]
      rfl
    · obtain ⟨y, rfl⟩ : ∃ y : Nat, b = (y : Int) := ⟨b.natAbs, by omega⟩
      simp [ha, hb]
set_option maxRecDepth 100000 in
set_option maxHeartbeats 4000000 in
theorem Times_any (u v : Value) (a b : Int) (w : World) (hu : IsI w u a) (hv : IsI w v b) (ha : (digs a.natAbs).length ≤ 100000) (hb : (digs b.natAbs).length ≤ 100000) :
    Calls Tryz.prog 63 #[u, v] w fun e w' => ∃ v', e = .returned v' ∧ IsI w' v' (a * b) ∧ Below w.heap.size w w' := by
  obtain ⟨s, rfl, hs⟩ := hu
  obtain ⟨t, rfl, ht⟩ := hv
  have HS := Lib.hid hs
  have HT := Lib.hid ht
  have HM := Lib.hid (signed_times a b)
  have HMu := Lib.hid (fun w hs ht => Mul_any s t a.natAbs b.natAbs w hs ht ha hb)
  obtain ⟨ao, acap, rfl, -⟩ := hs
  obtain ⟨bo, bcap, rfl, -⟩ := ht
  clear ha hb
  generalize a.natAbs = x at *
  generalize b.natAbs = y at *
  generalize decide (a < 0) = p at *
  generalize decide (b < 0) = q at *
  generalize (digs x).length = n at *
  generalize (digs y).length = m at *
  have HB := Lib.hid ((((Below.refl w.heap.size w).alloc (Nat.le_refl _) (.cells #[.bool p, .slice ao n acap] 57)).alloc (by simp) (.cells #[.bool q, .slice bo m bcap] 57)).alloc (by simp; omega) (.cells #[.bool false, .slice none 0 0] 57))
  go_enter Tryz.func63, Tryz.ntmps63
  go_wp2
  have HI := Lib.hid (fun w b x a hs => Int_any b a x w hs)
  obtain ⟨w1, hw1⟩ : ∃ w1 : World, w1 = (((w.alloc (.cells #[.bool p, .slice ao n acap] 57)).alloc (.cells #[.bool q, .slice bo m bcap] 57)).alloc (.cells #[.bool false, .slice none 0 0] 57)) := ⟨_, rfl⟩
  have k0 : w1.cell? ⟨w.heap.size, 0, none⟩ = some (.bool p) := by rw [hw1]; go_simp
  have k1 : w1.cell? ⟨w.heap.size, 1, none⟩ = some (.slice ao n acap) := by rw [hw1]; go_simp
  have k2 : w1.cell? ⟨w.heap.size + 1, 0, none⟩ = some (.bool q) := by rw [hw1]; go_simp
  have k3 : w1.cell? ⟨w.heap.size + 1, 1, none⟩ = some (.slice bo m bcap) := by rw [hw1]; go_simp
  have hsz : w1.heap.size = w.heap.size + 3 := by rw [hw1]; simp
  rw [← hw1] at HB ⊢
  have HW1 := Lib.hid hw1
  have hne2 : ¬ w.heap.size + 1 + 1 = w.heap.size := by omega
  clear hw1
  go_region_held3 (fun w' => w'.cell? ⟨w.heap.size, 0, none⟩ = some (.bool p) ∧ w'.cell? ⟨w.heap.size, 1, none⟩ = some (.slice ao n acap) ∧ w'.cell? ⟨w.heap.size + 1, 0, none⟩ = some (.bool q) ∧ w'.cell? ⟨w.heap.size + 1, 1, none⟩ = some (.slice bo m bcap))
    (first | exact ⟨‹_›, ‹_›, ‹_›, ‹_›⟩ | exact ⟨k0, k1, k2, k3⟩ | go_keep)
    (first
      | (go_at_call 38; refine (HMu.out _ (HS.out.below HB.out.drew) (HT.out.below HB.out.drew)).mono ?_; rintro e' w3 ⟨sv, rfl, hs3, hb3⟩
         have HS3 := Lib.hid hs3
         have HB3 := Lib.hid ((Below.refl w1.heap.size w1).drew.trans hb3)
         have d0 := (HB3.out.cell (p := ⟨w.heap.size, 0, none⟩) (show w.heap.size < w1.heap.size by omega)).trans k0
         have d1 := (HB3.out.cell (p := ⟨w.heap.size, 1, none⟩) (show w.heap.size < w1.heap.size by omega)).trans k1
         have d2 := (HB3.out.cell (p := ⟨w.heap.size + 1, 0, none⟩) (show w.heap.size + 1 < w1.heap.size by omega)).trans k2
         have d3 := (HB3.out.cell (p := ⟨w.heap.size + 1, 1, none⟩) (show w.heap.size + 1 < w1.heap.size by omega)).trans k3
         clear hs3 hb3)
      | (go_at_call 121; refine (HI.out _ _ _ _ HS3.out).mono ?_; rintro e' w4 ⟨v', rfl, hi, hb4⟩
         obtain ⟨sv', rfl, hs4⟩ := hi
         have HS4 := Lib.hid hs4
         have HB4 := Lib.hid (HB3.out.trans (hb4.mono HB3.out.size))
         obtain ⟨c0, c1, f0, f1⟩ := result_cells (n := w.heap.size + 1 + 1) (by simp) HW1.out HB4.out
         have e0 := (HB4.out.cell (p := ⟨w.heap.size, 0, none⟩) (show w.heap.size < w1.heap.size by omega)).trans k0
         have e1 := (HB4.out.cell (p := ⟨w.heap.size, 1, none⟩) (show w.heap.size < w1.heap.size by omega)).trans k1
         have e2 := (HB4.out.cell (p := ⟨w.heap.size + 1, 0, none⟩) (show w.heap.size + 1 < w1.heap.size by omega)).trans k2
         have e3 := (HB4.out.cell (p := ⟨w.heap.size + 1, 1, none⟩) (show w.heap.size + 1 < w1.heap.size by omega)).trans k3
         obtain ⟨ao', cap', rfl, -⟩ := hs4
         clear hb4))
  have hz : signed (!p == q) (x * y) = a * b := HM.out
  rw [hz] at HS4 ⊢
  obtain ⟨q0, q1⟩ := two_cells (.bool (decide (a * b < 0))) (.slice ao' (digs (a * b).natAbs).length cap') c0 c1
  generalize hnn : (digs (a * b).natAbs).length = n' at *
  have HNn := Lib.hid hnn
  have HFin := Lib.hid (Reads.result (Reads.result HS4.out c0 0 (.bool (decide (a * b < 0)))) q0 1 (.slice ao' n' cap'))
  have HBf := Lib.hid (((HB.out.trans (HB4.out.mono HB.out.size)).setCell (p := ⟨w.heap.size + 1 + 1, 0, none⟩) (by simp; omega) (.bool (decide (a * b < 0)))).setCell (p := ⟨w.heap.size + 1 + 1, 1, none⟩) (by simp; omega) (.slice ao' n' cap'))
  generalize hdd : decide (a * b < 0) = dd at *
  have HDd := Lib.hid hdd
  clear hdd hnn hz k0 k1 k2 k3
  go_wp2
  refine bodyPost_ret (v := .agg #[.bool dd, .slice ao' n' cap']) ?_ rfl ?_
  · simp [results, Tryz.results63, go_sem, q0, q1]
  · exact ⟨_, rfl, ⟨_, by rw [HDd.out], HFin.out⟩, HBf.out⟩
end Go.Proofs.YtfpooimjjpamoaaGreatDoor.ref
