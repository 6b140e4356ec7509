/-
  The steps of the walks, part 7: RefInt, RefI, RefOf, RefPlus, RefCmpI, RefQ.
-/
import Derived.StillTailTactics
import Derived.Deep.RegionHeld3
import Derived.Test.YtfpooimjjpamoaaGreatDoorB06
namespace Go.Proofs.YtfpooimjjpamoaaGreatDoor.ref
open Go.RowKit
def IsI (w : World) (v : Value) (z : Int) : Prop := ∃ sv, v = .agg #[.bool (decide (z < 0)), sv] ∧ IsN w sv z.natAbs
theorem IsI.below {w w' : World} {v : Value} {z : Int} (h : IsI w v z) (hb : Below w.heap.size w w') : IsI w' v z := by
  obtain ⟨sv, rfl, hs⟩ := h
  exact ⟨sv, rfl, hs.below hb⟩
theorem IsI.inj {w : World} {v : Value} {z z' : Int} (h : IsI w v z) (h' : IsI w v z') : z = z' := by
  obtain ⟨sv, rfl, hs⟩ := h
  obtain ⟨sv', he, hs'⟩ := h'
  have e := Value.agg.inj he
  simp only [Array.mk.injEq, List.cons.injEq, Value.bool.injEq, and_true] at e
  obtain ⟨e1, rfl⟩ := e
  have := IsN.inj hs hs'
  simp only [decide_eq_decide] at e1
  omega
def signed (b : Bool) (x : Nat) : Int := if b then -(x : Int) else x
theorem IsI.signed {w : World} {sv : Value} {x : Nat} (b : Bool) (h : IsN w sv x) : IsI w (.agg #[.bool (b && decide (x ≠ 0)), sv]) (signed b x) := by
  unfold Go.Proofs.YtfpooimjjpamoaaGreatDoor.ref.signed
  cases b
  · exact ⟨sv, by simp, by simpa using h⟩
  · have e : decide (-(x : Int) < 0) = decide (x ≠ 0) := by
      rw [decide_eq_decide]
      omega
    refine ⟨sv, ?_, by simpa using h⟩
    simp only [if_true, e, Bool.true_and]
set_option maxRecDepth 100000 in
set_option maxHeartbeats 4000000 in
theorem Int_any (b : Bool) (a : Value) (x : Nat) (w : World) (ha : IsN w a x) :
    Calls Tryz.prog 121 #[.bool b, a] w fun e w' => ∃ v, e = .returned v ∧ IsI w' v (signed b x) ∧ Below w.heap.size w w' := by
  have HA := Lib.hid ha
  obtain ⟨ao, acap, rfl, ⟨a1, -⟩, a2, -⟩ := ha
  unfold maxLen at a2
  have HX1 := Lib.hid (show 0 < (digs x).length ↔ x ≠ 0 from by
    have : (digs x).length = 0 ↔ x = 0 := by rw [List.length_eq_zero_iff]; exact digs_nil
    omega)
  generalize hna : (digs x).length = na at *
  clear hna
  have HS := Lib.hid (fun (w' : World) (hb : Below w.heap.size w w') => IsI.signed b (HA.out.below hb))
  have hw : Below w.heap.size w (w.alloc (.cells #[Value.bool (b && decide (0 < na)), Value.slice ao na acap] 57)) := (Below.refl _ _).alloc (Nat.le_refl _) _
  have HW := Lib.hid hw
  have hd : decide (x ≠ 0) = decide (0 < na) := by rw [decide_eq_decide]; exact HX1.out.symm
  rw [hd] at HS
  clear hd hw
  by_cases h0 : 0 < na
  all_goals
    cases b
    all_goals
      go_enter Tryz.func121, Tryz.ntmps121
      go_wp2
      first
        | (refine bodyPost_ret (v := .agg #[.bool false, .slice ao na acap]) ?_ rfl ?_
           focus (simp [results, Tryz.results121, go_sem]; done))
        | (refine bodyPost_ret (v := .agg #[.bool true, .slice ao na acap]) ?_ rfl ?_
           focus (simp [results, Tryz.results121, go_sem]; done))
      refine ⟨_, rfl, ?_, ?_⟩
      · first
          | (have h1 := HS.out _ HW.out
             simpa [h0] using h1)
          | skip
      · first
          | (have h1 := HW.out
             simpa [h0] using h1)
          | skip
end Go.Proofs.YtfpooimjjpamoaaGreatDoor.ref
namespace Go.Proofs.YtfpooimjjpamoaaGreatDoor.ref
open Go.RowKit
theorem result_cells {w w2 w3 : World} {n : Nat} (hn : w.heap.size = n) (h2 : w2 = w.alloc (.cells #[Value.bool false, .slice none 0 0] 57)) (h : Below w2.heap.size w2 w3) :
    w3.cell? ⟨n, 0, none⟩ = some (.bool false) ∧ w3.cell? ⟨n, 1, none⟩ = some (.slice none 0 0) ∧ w3.frozen? ⟨n, 0, none⟩ = false ∧ w3.frozen? ⟨n, 1, none⟩ = false := by
  subst h2 hn
  have hs : w.heap.size < (w.alloc (.cells #[Value.bool false, .slice none 0 0] 57)).heap.size := by simp
  refine ⟨(h.cell (p := ⟨w.heap.size, 0, none⟩) hs).trans ?_, (h.cell (p := ⟨w.heap.size, 1, none⟩) hs).trans ?_, (h.frozen (p := ⟨w.heap.size, 0, none⟩) hs).trans ?_, (h.frozen (p := ⟨w.heap.size, 1, none⟩) hs).trans ?_⟩
  · rw [cell_of_row _ w.heap.size 0 _ 57 (0, 0) (heap_alloc_new w _)]; rfl
  · rw [cell_of_row _ w.heap.size 1 _ 57 (0, 0) (heap_alloc_new w _)]; rfl
  · unfold World.frozen?
    rw [heap_alloc_new]
    rfl
  · unfold World.frozen?
    rw [heap_alloc_new]
    rfl
theorem Reads.result {w : World} {sv : Value} {l : List Nat} {g : Nat} {b : Bool} (h : Reads w sv l) (c0 : w.cell? ⟨g, 0, none⟩ = some (.bool b)) (j : Nat) (u : Value) : Reads (w.setCell ⟨g, j, none⟩ u) sv l := by
  obtain ⟨ao, cap, rfl, h1, h2, h3⟩ := h
  by_cases hl : l = []
  · exact ⟨ao, cap, rfl, h1, h2, Or.inl hl⟩
  · obtain ⟨g', hg, hc⟩ := h3.resolve_left hl
    have hne : g' ≠ g := by
      rintro rfl
      have := (hc 0 (List.length_pos_iff.2 hl)).symm.trans c0
      simp at this
    refine ⟨ao, cap, rfl, h1, h2, Or.inr ⟨g', hg, fun k hk => ?_⟩⟩
    rw [World.cell?_of_block (w := w) (a := ⟨g', k, none⟩) (Below.heap_setCell _ _ _ _ hne)]
    exact hc k hk
theorem two_cells {w : World} {g : Nat} {u0 u1 : Value} (v0 v1 : Value) (c0 : w.cell? ⟨g, 0, none⟩ = some u0) (c1 : w.cell? ⟨g, 1, none⟩ = some u1) :
    (w.setCell ⟨g, 0, none⟩ v0).cell? ⟨g, 0, none⟩ = some v0 ∧ ((w.setCell ⟨g, 0, none⟩ v0).setCell ⟨g, 1, none⟩ v1).cell? ⟨g, 1, none⟩ = some v1 := by
  constructor
  · exact World.cell?_setCell_same' _ _ _ (by rw [c0]; rfl)
  · exact World.cell?_setCell_same' _ _ _ (by rw [World.cell?_setCell_other _ _ _ _ (by simp), c1]; rfl)
theorem nDigits_le : ∀ (n x : Nat), x < 10 ^ (n + 1) → Lib.nDigits x ≤ n + 1
  | 0, x, h => by rw [Lib.nDigits_small (by simpa using h)]; exact Nat.le_refl _
  | n + 1, x, h => by
    by_cases h1 : x < 10
    · rw [Lib.nDigits_small h1]; omega
    · rw [Lib.nDigits_big h1]
      have := nDigits_le n (x / 10) (by rw [Nat.pow_succ] at h; omega)
      omega
theorem dec_size {x m : Nat} (h : (digs x).length ≤ m) : (str (Lib.decDigits x)).size ≤ 9 * m + 1 := by
  rw [str_size, Lib.decDigits_length]
  apply nDigits_le
  have h1 := val_lt (norm_digs x).1
  rw [val_digs, pow_nine] at h1
  have h2 : 10 ^ (9 * (digs x).length) ≤ 10 ^ (9 * m + 1) := Nat.pow_le_pow_right (by omega) (by omega)
  exact Nat.lt_of_lt_of_le h1 h2
set_option maxRecDepth 100000 in
set_option maxHeartbeats 4000000 in
theorem IText_any (v : Value) (z : Int) (w : World) (hv : IsI w v z) (hz : (digs z.natAbs).length ≤ 100000) :
    Calls Tryz.prog 53 #[v] w fun e w' => e = .returned (.string (str (Lib.itoa z))) ∧ Below w.heap.size w w' := by
  obtain ⟨sv, rfl, hs⟩ := hv
  have HS := Lib.hid hs
  have HB := Lib.hid ((Below.refl w.heap.size w).alloc (Nat.le_refl _) (.cells #[.bool (decide (z < 0)), sv] 57))
  have HT := Lib.hid (Text_any sv z.natAbs (w.alloc (.cells #[.bool (decide (z < 0)), sv] 57)) (HS.out.below HB.out) hz)
  obtain ⟨ao, acap, rfl, -⟩ := hs
  have hlen := dec_size hz
  generalize (digs z.natAbs).length = n at *
  by_cases h : z < 0
  · have hz2 : str (Lib.itoa z) = str [45] ++ str (Lib.decDigits z.natAbs) := by
      unfold Lib.itoa
      rw [if_pos h, str_append]
      rfl
    rw [decide_eq_true h] at HB HT ⊢
    rw [hz2]
    generalize str (Lib.decDigits z.natAbs) = s at *
    have h45 : ({ data := #[45] } : ByteArray) = str [45] := rfl
    have hsz : ¬ 9223372036854775807 < ({ data := #[45] } : ByteArray).size + s.size := by
      have : ({ data := #[45] } : ByteArray).size = 1 := rfl
      omega
    go_enter Tryz.func53, Tryz.ntmps53
    go_wp2_with (go_at_call 32; refine (HT.out).mono ?_; rintro e' w3 ⟨rfl, hb3⟩; have HB3 := Lib.hid (HB.out.trans (hb3.mono HB.out.size)); clear hb3 HT)
    go_ret
    exact ⟨rfl, HB3.out⟩
  · have hz2 : str (Lib.itoa z) = str (Lib.decDigits z.natAbs) := by
      unfold Lib.itoa
      rw [if_neg h]
      congr 2
      omega
    rw [decide_eq_false h] at HB HT ⊢
    rw [hz2]
    generalize str (Lib.decDigits z.natAbs) = s at *
    go_enter Tryz.func53, Tryz.ntmps53
    go_wp2_with (go_at_call 32; refine (HT.out).mono ?_; rintro e' w3 ⟨rfl, hb3⟩; have HB3 := Lib.hid (HB.out.trans (hb3.mono HB.out.size)); clear hb3 HT)
    go_ret
    exact ⟨rfl, HB3.out⟩
end Go.Proofs.YtfpooimjjpamoaaGreatDoor.ref
namespace Go.Proofs.YtfpooimjjpamoaaGreatDoor.ref
open Go.RowKit
set_option maxRecDepth 100000 in
set_option maxHeartbeats 4000000 in
theorem Of_any (z : Int) (h1 : -9223372036854775808 ≤ z) (h2 : z ≤ 9223372036854775807) (w : World) :
    Calls Tryz.prog 68 #[.int .i64 z] w fun e w' => ∃ v, e = .returned v ∧ IsI w' v z ∧ Below w.heap.size w w' := by
  have HB := Lib.hid ((Below.refl w.heap.size w).alloc (Nat.le_refl _) (.cells #[.bool false, .slice none 0 0] 57))
  by_cases h : z < 0
  · have HO := Lib.hid (fun w => OfU_int (-(z + 1) + 1) z.natAbs (by omega) (by omega) w)
    have hd : decide (z < 0) = true := by simp; omega
    go_enter Tryz.func68, Tryz.ntmps68
    go_wp2_with (go_at_call 48; refine (HO.out _).mono ?_; rintro e' w3 ⟨sv', rfl, hs', hb3⟩; obtain ⟨c0, c1, f0, f1⟩ := result_cells (n := w.heap.size) rfl rfl hb3; have HB3 := Lib.hid (HB.out.trans (hb3.mono HB.out.size)); have HS3 := Lib.hid hs'; obtain ⟨ao', cap', rfl, -⟩ := hs'; clear hb3 HO)
    obtain ⟨q0, q1⟩ := two_cells (.bool true) (.slice ao' (digs z.natAbs).length cap') c0 c1
    generalize hnn : (digs z.natAbs).length = n' at *
    have HNn := Lib.hid hnn
    clear hnn
    refine bodyPost_ret (v := .agg #[.bool true, .slice ao' n' cap']) ?_ rfl ?_
    · simp [results, Tryz.results68, go_sem, q0, q1]
    · refine ⟨_, rfl, ⟨_, by rw [hd], Reads.result (Reads.result HS3.out c0 0 _) q0 1 _⟩, ?_⟩
      exact (HB3.out.setCell (Nat.le_refl _) _).setCell (Nat.le_refl _) _
  · have HO := Lib.hid (fun w => OfU_int (z) z.natAbs (by omega) (by omega) w)
    have hd : decide (z < 0) = false := by simp; omega
    go_enter Tryz.func68, Tryz.ntmps68
    go_wp2_with (go_at_call 48; refine (HO.out _).mono ?_; rintro e' w3 ⟨sv', rfl, hs', hb3⟩; obtain ⟨c0, c1, f0, f1⟩ := result_cells (n := w.heap.size) rfl rfl hb3; have HB3 := Lib.hid (HB.out.trans (hb3.mono HB.out.size)); have HS3 := Lib.hid hs'; obtain ⟨ao', cap', rfl, -⟩ := hs'; clear hb3 HO)
    obtain ⟨q0, q1⟩ := two_cells (.bool false) (.slice ao' (digs z.natAbs).length cap') c0 c1
    generalize hnn : (digs z.natAbs).length = n' at *
    have HNn := Lib.hid hnn
    clear hnn
    refine bodyPost_ret (v := .agg #[.bool false, .slice ao' n' cap']) ?_ rfl ?_
    · simp [results, Tryz.results68, go_sem, q0, q1]
    · refine ⟨_, rfl, ⟨_, by rw [hd], Reads.result (Reads.result HS3.out c0 0 _) q0 1 _⟩, ?_⟩
      exact (HB3.out.setCell (Nat.le_refl _) _).setCell (Nat.le_refl _) _
end Go.Proofs.YtfpooimjjpamoaaGreatDoor.ref
namespace Go.Proofs.YtfpooimjjpamoaaGreatDoor.ref
open Go.RowKit
theorem signed_back (a : Int) : signed (decide (a < 0)) a.natAbs = a := by
  unfold signed
  by_cases ha : a < 0
  · rw [decide_eq_true ha, if_pos rfl]
    omega
  · rw [decide_eq_false ha]
    show ((a.natAbs : Nat) : Int) = a
    omega
end Go.Proofs.YtfpooimjjpamoaaGreatDoor.ref
namespace Go.Proofs.YtfpooimjjpamoaaGreatDoor.ref
open Go.RowKit
theorem digs_len_zero (x : Nat) : (digs x).length = 0 ↔ x = 0 := by
  rw [← digs_nil (x := x)]
  exact List.length_eq_zero_iff
def MadeAt (V w3 : World) : Prop := Below (V.alloc (.cells #[Value.bool false, .slice none 0 0] 57)).heap.size (V.alloc (.cells #[Value.bool false, .slice none 0 0] 57)) w3
theorem MadeAt.cells {V w3 : World} (h : MadeAt V w3) :
    w3.cell? ⟨V.heap.size, 0, none⟩ = some (.bool false) ∧ w3.cell? ⟨V.heap.size, 1, none⟩ = some (.slice none 0 0) ∧ w3.frozen? ⟨V.heap.size, 0, none⟩ = false ∧ w3.frozen? ⟨V.heap.size, 1, none⟩ = false := result_cells rfl rfl h
theorem MadeAt.on {V w2 w3 : World} (h : MadeAt V w2) (hb : Below w2.drew.heap.size w2.drew w3) : MadeAt V w3 := by
  have h2 := Below.drew h
  exact h2.trans (hb.mono h2.size)
theorem MadeAt.at {V w2 w3 : World} (h : MadeAt V w2) (hb : Below w2.heap.size w2 w3) : MadeAt V w3 := by
  have h2 : Below (V.alloc (.cells #[Value.bool false, .slice none 0 0] 57)).heap.size (V.alloc (.cells #[Value.bool false, .slice none 0 0] 57)) w2 := h
  exact h2.trans (hb.mono h2.size)
end Go.Proofs.YtfpooimjjpamoaaGreatDoor.ref
namespace Go.Proofs.YtfpooimjjpamoaaGreatDoor.ref
open Go.RowKit
def IsQ (w : World) (v : Value) (z : Int) (d : Nat) : Prop := ∃ s t, v = .agg #[.bool (decide (z < 0)), s, t] ∧ IsN w s z.natAbs ∧ IsN w t d
theorem IsQ.below {w w' : World} {v : Value} {z : Int} {d : Nat} (h : IsQ w v z d) (hb : Below w.heap.size w w') : IsQ w' v z d := by
  obtain ⟨s, t, rfl, hs, ht⟩ := h
  exact ⟨s, t, rfl, hs.below hb, ht.below hb⟩
theorem IsQ.inj {w : World} {v : Value} {z z' : Int} {d d' : Nat} (h : IsQ w v z d) (h' : IsQ w v z' d') : z = z' ∧ d = d' := by
  obtain ⟨s, t, rfl, hs, ht⟩ := h
  obtain ⟨s', t', he, hs', ht'⟩ := h'
  have e := Value.agg.inj he
  simp only [Array.mk.injEq, List.cons.injEq, Value.bool.injEq, and_true] at e
  obtain ⟨e1, rfl, rfl⟩ := e
  have := IsN.inj hs hs'
  have := IsN.inj ht ht'
  simp only [decide_eq_decide] at e1
  omega
def blankQ : Obj := .cells #[Value.bool false, .slice none 0 0, .slice none 0 0] 86
theorem result_cells3 {w1 w3 : World} {n : Nat} (h1 : w1.heap[n]? = some blankQ) (h : Below w1.heap.size w1 w3) :
    w3.cell? ⟨n, 0, none⟩ = some (.bool false) ∧ w3.cell? ⟨n, 1, none⟩ = some (.slice none 0 0) ∧ w3.cell? ⟨n, 2, none⟩ = some (.slice none 0 0) ∧ w3.frozen? ⟨n, 0, none⟩ = false ∧ w3.frozen? ⟨n, 1, none⟩ = false ∧ w3.frozen? ⟨n, 2, none⟩ = false := by
  have hs := (Array.getElem?_eq_some_iff.1 h1).1
  have h3 : w3.heap[n]? = some (.cells #[Value.bool false, .slice none 0 0, .slice none 0 0] 86) := (h.block n hs).trans h1
  refine ⟨?_, ?_, ?_, ?_, ?_, ?_⟩
  · rw [cell_of_row _ n 0 _ 86 (0, 0) h3]; rfl
  · rw [cell_of_row _ n 1 _ 86 (0, 0) h3]; rfl
  · rw [cell_of_row _ n 2 _ 86 (0, 0) h3]; rfl
  all_goals
    unfold World.frozen?
    rw [h3]
    rfl
theorem three_cells {w : World} {g : Nat} (v0 v1 v2 : Value) {u1 u2 : Value} {b : Bool} (c0 : w.cell? ⟨g, 0, none⟩ = some (.bool b)) (c1 : w.cell? ⟨g, 1, none⟩ = some u1) (c2 : w.cell? ⟨g, 2, none⟩ = some u2) :
    (w.setCell ⟨g, 0, none⟩ v0).cell? ⟨g, 0, none⟩ = some v0 ∧ ((w.setCell ⟨g, 0, none⟩ v0).setCell ⟨g, 1, none⟩ v1).cell? ⟨g, 0, none⟩ = some v0 ∧ ((w.setCell ⟨g, 0, none⟩ v0).setCell ⟨g, 1, none⟩ v1).cell? ⟨g, 1, none⟩ = some v1 ∧
    (((w.setCell ⟨g, 0, none⟩ v0).setCell ⟨g, 1, none⟩ v1).setCell ⟨g, 2, none⟩ v2).cell? ⟨g, 0, none⟩ = some v0 ∧ (((w.setCell ⟨g, 0, none⟩ v0).setCell ⟨g, 1, none⟩ v1).setCell ⟨g, 2, none⟩ v2).cell? ⟨g, 1, none⟩ = some v1 ∧ (((w.setCell ⟨g, 0, none⟩ v0).setCell ⟨g, 1, none⟩ v1).setCell ⟨g, 2, none⟩ v2).cell? ⟨g, 2, none⟩ = some v2 := by
  have a0 : (w.setCell ⟨g, 0, none⟩ v0).cell? ⟨g, 0, none⟩ = some v0 := World.cell?_setCell_same' _ _ _ (by rw [c0]; rfl)
  have a1 : (w.setCell ⟨g, 0, none⟩ v0).cell? ⟨g, 1, none⟩ = some u1 := by rw [World.cell?_setCell_other _ _ _ _ (by simp), c1]
  have a2 : (w.setCell ⟨g, 0, none⟩ v0).cell? ⟨g, 2, none⟩ = some u2 := by rw [World.cell?_setCell_other _ _ _ _ (by simp), c2]
  have b0 : ((w.setCell ⟨g, 0, none⟩ v0).setCell ⟨g, 1, none⟩ v1).cell? ⟨g, 0, none⟩ = some v0 := by rw [World.cell?_setCell_other _ _ _ _ (by simp), a0]
  have b1 : ((w.setCell ⟨g, 0, none⟩ v0).setCell ⟨g, 1, none⟩ v1).cell? ⟨g, 1, none⟩ = some v1 := World.cell?_setCell_same' _ _ _ (by rw [a1]; rfl)
  have b2 : ((w.setCell ⟨g, 0, none⟩ v0).setCell ⟨g, 1, none⟩ v1).cell? ⟨g, 2, none⟩ = some u2 := by rw [World.cell?_setCell_other _ _ _ _ (by simp), a2]
  refine ⟨a0, b0, b1, ?_, ?_, ?_⟩
  · rw [World.cell?_setCell_other _ _ _ _ (by simp), b0]
  · rw [World.cell?_setCell_other _ _ _ _ (by simp), b1]
  · exact World.cell?_setCell_same' _ _ _ (by rw [b2]; rfl)
theorem result_num {w : World} {g x : Nat} {v1 v2 sv : Value} {u1 u2 : Value} {b b' : Bool} (hs : IsN w sv x) (c0 : w.cell? ⟨g, 0, none⟩ = some (.bool b)) (c1 : w.cell? ⟨g, 1, none⟩ = some u1) (c2 : w.cell? ⟨g, 2, none⟩ = some u2) :
    IsN (((w.setCell ⟨g, 0, none⟩ (.bool b')).setCell ⟨g, 1, none⟩ v1).setCell ⟨g, 2, none⟩ v2) sv x := by
  obtain ⟨q0, q1, -⟩ := three_cells (.bool b') v1 v2 c0 c1 c2
  exact Reads.result (Reads.result (Reads.result hs c0 0 _) q0 1 _) q1 2 _
theorem result_below {w1 w : World} {B g : Nat} (h : Below B w1 w) (hg : B ≤ g) (v0 v1 v2 : Value) : Below B w1 (((w.setCell ⟨g, 0, none⟩ v0).setCell ⟨g, 1, none⟩ v1).setCell ⟨g, 2, none⟩ v2) :=
  ((h.setCell hg _).setCell hg _).setCell hg _
theorem IsI.nat {w : World} {s : Value} {d : Nat} (h : IsN w s d) : IsI w (.agg #[.bool false, s]) (d : Int) := ⟨s, by simp, by simpa using h⟩
end Go.Proofs.YtfpooimjjpamoaaGreatDoor.ref
