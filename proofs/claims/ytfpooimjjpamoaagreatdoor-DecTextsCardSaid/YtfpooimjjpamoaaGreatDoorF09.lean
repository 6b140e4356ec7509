/-
  The steps of the walks, part 9: RefI, RefCmpI, RefQ, RefLow.
-/
import Derived.StillTailTactics
import Derived.Deep.RegionHeld3
import Derived.Test.YtfpooimjjpamoaaGreatDoorF08
namespace Go.Proofs.YtfpooimjjpamoaaGreatDoor.ref
open Go.RowKit
theorem result_cells {w w2 w3 : World} {n : Nat} (hn : w.heap.size = n) (h2 : w2 = w.alloc (.cells #[Value.bool false, .slice none 0 0] 57)) (h : Below w2.heap.size w2 w3) :
    w3.cell? ⟨n, 0, none⟩ = some (.bool false) ∧ w3.cell? ⟨n, 1, none⟩ = some (.slice none 0 0) ∧ w3.frozen? ⟨n, 0, none⟩ = false ∧ w3.frozen? ⟨n, 1, none⟩ = false := by
  subst h2 hn
  have hs : w.heap.size < (w.alloc (.cells #[Value.bool false, .slice none 0 0] 57)).heap.size := by simp
  refine ⟨(h.cell (p := ⟨w.heap.size, 0, none⟩) hs).trans ?_, (h.cell (p := ⟨w.heap.size, 1, none⟩) hs).trans ?_, (h.frozen (p := ⟨w.heap.size, 0, none⟩) hs).trans ?_, (h.frozen (p := ⟨w.heap.size, 1, none⟩) hs).trans ?_⟩
  · rw [cell_of_row _ w.heap.size 0 _ 57 (0, 0) (heap_alloc_new w _)]; rfl
  · rw [cell_of_row _ w.heap.size 1 _ 57 (0, 0) (heap_alloc_new w _)]; rfl
  · unfold World.frozen?
    rw [heap_alloc_new]
    rfl
  · unfold World.frozen?
    rw [heap_alloc_new]
    rfl
theorem Reads.result {w : World} {sv : Value} {l : List Nat} {g : Nat} {b : Bool} (h : Reads w sv l) (c0 : w.cell? ⟨g, 0, none⟩ = some (.bool b)) (j : Nat) (u : Value) : Reads (w.setCell ⟨g, j, none⟩ u) sv l := by
  obtain ⟨ao, cap, rfl, h1, h2, h3⟩ := h
  by_cases hl : l = []
  · exact ⟨ao, cap, rfl, h1, h2, Or.inl hl⟩
  · obtain ⟨g', hg, hc⟩ := h3.resolve_left hl
    have hne : g' ≠ g := by
      rintro rfl
      have := (hc 0 (List.length_pos_iff.2 hl)).symm.trans c0
      simp at this
    refine ⟨ao, cap, rfl, h1, h2, Or.inr ⟨g', hg, fun k hk => ?_⟩⟩
    rw [World.cell?_of_block (w := w) (a := ⟨g', k, none⟩) (Below.heap_setCell _ _ _ _ hne)]
    exact hc k hk
theorem nDigits_le : ∀ (n x : Nat), x < 10 ^ (n + 1) → Lib.nDigits x ≤ n + 1
  | 0, x, h => by rw [Lib.nDigits_small (by simpa using h)]; exact Nat.le_refl _
  | n + 1, x, h => by
    by_cases h1 : x < 10
    · rw [Lib.nDigits_small h1]; omega
    · rw [Lib.nDigits_big h1]
      have := nDigits_le n (x / 10) (by rw [Nat.pow_succ] at h; omega)
      omega
theorem dec_size {x m : Nat} (h : (digs x).length ≤ m) : (str (Lib.decDigits x)).size ≤ 9 * m + 1 := by
  rw [str_size, Lib.decDigits_length]
  apply nDigits_le
  have h1 := val_lt (norm_digs x).1
  rw [val_digs, pow_nine] at h1
  have h2 : 10 ^ (9 * (digs x).length) ≤ 10 ^ (9 * m + 1) := Nat.pow_le_pow_right (by omega) (by omega)
  exact Nat.lt_of_lt_of_le h1 h2
set_option maxRecDepth 100000 in
set_option maxHeartbeats 4000000 in
theorem IText_any (v : Value) (z : Int) (w : World) (hv : IsI w v z) (hz : (digs z.natAbs).length ≤ 100000) :
    Calls Tryz.prog 53 #[v] w fun e w' => e = .returned (.string (str (Lib.itoa z))) ∧ Below w.heap.size w w' := by
  obtain ⟨sv, rfl, hs⟩ := hv
  have HS := Lib.hid hs
  have HB := Lib.hid ((Below.refl w.heap.size w).alloc (Nat.le_refl _) (.cells #[.bool (decide (z < 0)), sv] 57))
  have HT := Lib.hid (Text_any sv z.natAbs (w.alloc (.cells #[.bool (decide (z < 0)), sv] 57)) (HS.out.below HB.out) hz)
  obtain ⟨ao, acap, rfl, -⟩ := hs
  have hlen := dec_size hz
  generalize (digs z.natAbs).length = n at *
  by_cases h : z < 0
  · have hz2 : str (Lib.itoa z) = str [45] ++ str (Lib.decDigits z.natAbs) := by
      unfold Lib.itoa
      rw [if_pos h, str_append]
      rfl
    rw [decide_eq_true h] at HB HT ⊢
    rw [hz2]
    generalize str (Lib.decDigits z.natAbs) = s at *
    have h45 : ({ data := #[45] } : ByteArray) = str [45] := rfl
    have hsz : ¬ 9223372036854775807 < ({ data := #[45] } : ByteArray).size + s.size := by
      have : ({ data := #[45] } : ByteArray).size = 1 := rfl
      omega
    go_enter Tryz.func53, Tryz.ntmps53
    go_wp2_with (go_at_call 32; refine (HT.out).mono ?_; rintro e' w3 ⟨rfl, hb3⟩; have HB3 := Lib.hid (HB.out.trans (hb3.mono HB.out.size)); clear hb3 HT)
    go_ret
    exact ⟨rfl, HB3.out⟩
  · have hz2 : str (Lib.itoa z) = str (Lib.decDigits z.natAbs) := by
      unfold Lib.itoa
      rw [if_neg h]
      congr 2
      omega
    rw [decide_eq_false h] at HB HT ⊢
    rw [hz2]
    generalize str (Lib.decDigits z.natAbs) = s at *
    go_enter Tryz.func53, Tryz.ntmps53
    go_wp2_with (go_at_call 32; refine (HT.out).mono ?_; rintro e' w3 ⟨rfl, hb3⟩; have HB3 := Lib.hid (HB.out.trans (hb3.mono HB.out.size)); clear hb3 HT)
    go_ret
    exact ⟨rfl, HB3.out⟩
end Go.Proofs.YtfpooimjjpamoaaGreatDoor.ref
namespace Go.Proofs.YtfpooimjjpamoaaGreatDoor.ref
open Go.RowKit
theorem digs_len_zero (x : Nat) : (digs x).length = 0 ↔ x = 0 := by
  rw [← digs_nil (x := x)]
  exact List.length_eq_zero_iff
def MadeAt (V w3 : World) : Prop := Below (V.alloc (.cells #[Value.bool false, .slice none 0 0] 57)).heap.size (V.alloc (.cells #[Value.bool false, .slice none 0 0] 57)) w3
theorem MadeAt.cells {V w3 : World} (h : MadeAt V w3) :
    w3.cell? ⟨V.heap.size, 0, none⟩ = some (.bool false) ∧ w3.cell? ⟨V.heap.size, 1, none⟩ = some (.slice none 0 0) ∧ w3.frozen? ⟨V.heap.size, 0, none⟩ = false ∧ w3.frozen? ⟨V.heap.size, 1, none⟩ = false := result_cells rfl rfl h
theorem MadeAt.on {V w2 w3 : World} (h : MadeAt V w2) (hb : Below w2.drew.heap.size w2.drew w3) : MadeAt V w3 := by
  have h2 := Below.drew h
  exact h2.trans (hb.mono h2.size)
end Go.Proofs.YtfpooimjjpamoaaGreatDoor.ref
namespace Go.Proofs.YtfpooimjjpamoaaGreatDoor.ref
open Go.RowKit
def IsQ (w : World) (v : Value) (z : Int) (d : Nat) : Prop := ∃ s t, v = .agg #[.bool (decide (z < 0)), s, t] ∧ IsN w s z.natAbs ∧ IsN w t d
theorem IsQ.below {w w' : World} {v : Value} {z : Int} {d : Nat} (h : IsQ w v z d) (hb : Below w.heap.size w w') : IsQ w' v z d := by
  obtain ⟨s, t, rfl, hs, ht⟩ := h
  exact ⟨s, t, rfl, hs.below hb, ht.below hb⟩
theorem IsQ.inj {w : World} {v : Value} {z z' : Int} {d d' : Nat} (h : IsQ w v z d) (h' : IsQ w v z' d') : z = z' ∧ d = d' := by
  obtain ⟨s, t, rfl, hs, ht⟩ := h
  obtain ⟨s', t', he, hs', ht'⟩ := h'
  have e := Value.agg.inj he
  simp only [Array.mk.injEq, List.cons.injEq, Value.bool.injEq, and_true] at e
  obtain ⟨e1, rfl, rfl⟩ := e
  have := IsN.inj hs hs'
  have := IsN.inj ht ht'
  simp only [decide_eq_decide] at e1
  omega
def blankQ : Obj := .cells #[Value.bool false, .slice none 0 0, .slice none 0 0] 86
theorem result_cells3 {w1 w3 : World} {n : Nat} (h1 : w1.heap[n]? = some blankQ) (h : Below w1.heap.size w1 w3) :
    w3.cell? ⟨n, 0, none⟩ = some (.bool false) ∧ w3.cell? ⟨n, 1, none⟩ = some (.slice none 0 0) ∧ w3.cell? ⟨n, 2, none⟩ = some (.slice none 0 0) ∧ w3.frozen? ⟨n, 0, none⟩ = false ∧ w3.frozen? ⟨n, 1, none⟩ = false ∧ w3.frozen? ⟨n, 2, none⟩ = false := by
  have hs := (Array.getElem?_eq_some_iff.1 h1).1
  have h3 : w3.heap[n]? = some (.cells #[Value.bool false, .slice none 0 0, .slice none 0 0] 86) := (h.block n hs).trans h1
  refine ⟨?_, ?_, ?_, ?_, ?_, ?_⟩
  · rw [cell_of_row _ n 0 _ 86 (0, 0) h3]; rfl
  · rw [cell_of_row _ n 1 _ 86 (0, 0) h3]; rfl
  · rw [cell_of_row _ n 2 _ 86 (0, 0) h3]; rfl
  all_goals
    unfold World.frozen?
    rw [h3]
    rfl
theorem three_cells {w : World} {g : Nat} (v0 v1 v2 : Value) {u1 u2 : Value} {b : Bool} (c0 : w.cell? ⟨g, 0, none⟩ = some (.bool b)) (c1 : w.cell? ⟨g, 1, none⟩ = some u1) (c2 : w.cell? ⟨g, 2, none⟩ = some u2) :
    (w.setCell ⟨g, 0, none⟩ v0).cell? ⟨g, 0, none⟩ = some v0 ∧ ((w.setCell ⟨g, 0, none⟩ v0).setCell ⟨g, 1, none⟩ v1).cell? ⟨g, 0, none⟩ = some v0 ∧ ((w.setCell ⟨g, 0, none⟩ v0).setCell ⟨g, 1, none⟩ v1).cell? ⟨g, 1, none⟩ = some v1 ∧
    (((w.setCell ⟨g, 0, none⟩ v0).setCell ⟨g, 1, none⟩ v1).setCell ⟨g, 2, none⟩ v2).cell? ⟨g, 0, none⟩ = some v0 ∧ (((w.setCell ⟨g, 0, none⟩ v0).setCell ⟨g, 1, none⟩ v1).setCell ⟨g, 2, none⟩ v2).cell? ⟨g, 1, none⟩ = some v1 ∧ (((w.setCell ⟨g, 0, none⟩ v0).setCell ⟨g, 1, none⟩ v1).setCell ⟨g, 2, none⟩ v2).cell? ⟨g, 2, none⟩ = some v2 := by
  have a0 : (w.setCell ⟨g, 0, none⟩ v0).cell? ⟨g, 0, none⟩ = some v0 := World.cell?_setCell_same' _ _ _ (by rw [c0]; rfl)
  have a1 : (w.setCell ⟨g, 0, none⟩ v0).cell? ⟨g, 1, none⟩ = some u1 := by rw [World.cell?_setCell_other _ _ _ _ (by simp), c1]
  have a2 : (w.setCell ⟨g, 0, none⟩ v0).cell? ⟨g, 2, none⟩ = some u2 := by rw [World.cell?_setCell_other _ _ _ _ (by simp), c2]
  have b0 : ((w.setCell ⟨g, 0, none⟩ v0).setCell ⟨g, 1, none⟩ v1).cell? ⟨g, 0, none⟩ = some v0 := by rw [World.cell?_setCell_other _ _ _ _ (by simp), a0]
  have b1 : ((w.setCell ⟨g, 0, none⟩ v0).setCell ⟨g, 1, none⟩ v1).cell? ⟨g, 1, none⟩ = some v1 := World.cell?_setCell_same' _ _ _ (by rw [a1]; rfl)
  have b2 : ((w.setCell ⟨g, 0, none⟩ v0).setCell ⟨g, 1, none⟩ v1).cell? ⟨g, 2, none⟩ = some u2 := by rw [World.cell?_setCell_other _ _ _ _ (by simp), a2]
  refine ⟨a0, b0, b1, ?_, ?_, ?_⟩
  · rw [World.cell?_setCell_other _ _ _ _ (by simp), b0]
  · rw [World.cell?_setCell_other _ _ _ _ (by simp), b1]
  · exact World.cell?_setCell_same' _ _ _ (by rw [b2]; rfl)
theorem result_num {w : World} {g x : Nat} {v1 v2 sv : Value} {u1 u2 : Value} {b b' : Bool} (hs : IsN w sv x) (c0 : w.cell? ⟨g, 0, none⟩ = some (.bool b)) (c1 : w.cell? ⟨g, 1, none⟩ = some u1) (c2 : w.cell? ⟨g, 2, none⟩ = some u2) :
    IsN (((w.setCell ⟨g, 0, none⟩ (.bool b')).setCell ⟨g, 1, none⟩ v1).setCell ⟨g, 2, none⟩ v2) sv x := by
  obtain ⟨q0, q1, -⟩ := three_cells (.bool b') v1 v2 c0 c1 c2
  exact Reads.result (Reads.result (Reads.result hs c0 0 _) q0 1 _) q1 2 _
theorem result_below {w1 w : World} {B g : Nat} (h : Below B w1 w) (hg : B ≤ g) (v0 v1 v2 : Value) : Below B w1 (((w.setCell ⟨g, 0, none⟩ v0).setCell ⟨g, 1, none⟩ v1).setCell ⟨g, 2, none⟩ v2) :=
  ((h.setCell hg _).setCell hg _).setCell hg _
theorem IsI.nat {w : World} {s : Value} {d : Nat} (h : IsN w s d) : IsI w (.agg #[.bool false, s]) (d : Int) := ⟨s, by simp, by simpa using h⟩
end Go.Proofs.YtfpooimjjpamoaaGreatDoor.ref
namespace Go.Proofs.YtfpooimjjpamoaaGreatDoor.ref
open Go.RowKit
theorem Q_end {w w1 w4 : World} {z : Int} {d n3 n4 r : Nat} {zo yo : Option Addr} {zc yc : Nat} (hz : IsN w4 (.slice zo n3 zc) z.natAbs) (hy : IsN w4 (.slice yo n4 yc) d) (h1 : w1.heap[r]? = some blankQ) (h : Below w1.heap.size w1 w4) (hw : Below w.heap.size w w1) (hr : w.heap.size ≤ r) :
    IsQ (((w4.setCell ⟨r, 0, none⟩ (.bool (decide (z < 0)))).setCell ⟨r, 1, none⟩ (.slice zo n3 zc)).setCell ⟨r, 2, none⟩ (.slice yo n4 yc)) (.agg #[.bool (decide (z < 0)), .slice zo n3 zc, .slice yo n4 yc]) z d ∧
    Below w.heap.size w (((w4.setCell ⟨r, 0, none⟩ (.bool (decide (z < 0)))).setCell ⟨r, 1, none⟩ (.slice zo n3 zc)).setCell ⟨r, 2, none⟩ (.slice yo n4 yc)) := by
  obtain ⟨c0, c1, c2, -, -, -⟩ := result_cells3 h1 h
  exact ⟨⟨_, _, rfl, result_num hz c0 c1 c2, result_num hy c0 c1 c2⟩, result_below (hw.trans (h.mono hw.size)) hr _ _ _⟩
set_option maxRecDepth 100000 in
set_option maxHeartbeats 4000000 in
theorem Low_any (v : Value) (z : Int) (d : Nat) (w : World) (hv : IsQ w v z d) (hz : (digs z.natAbs).length ≤ 80000) (hd : (digs d).length ≤ 80000) (h0 : 0 < d) :
    Calls Tryz.prog 92 #[v] w fun e w' => ∃ v', e = .returned v' ∧ IsQ w' v' (signed (decide (z < 0)) (z.natAbs / Nat.gcd z.natAbs d)) (d / Nat.gcd z.natAbs d) ∧ Below w.heap.size w w' := by
  obtain ⟨s, t, rfl, hs, ht⟩ := hv
  have hg0 : 0 < Nat.gcd z.natAbs d := Nat.gcd_pos_of_pos_right _ h0
  have hgl : (digs (Nat.gcd z.natAbs d)).length ≤ 80000 := by
    have h1 := Nat.gcd_le_right z.natAbs h0
    refine Nat.le_trans (digs_len_of_lt (n := (digs d).length) ?_) hd
    have h2 := val_lt (norm_digs d).1
    rw [val_digs] at h2
    omega
  have HS := Lib.hid hs
  have HT := Lib.hid ht
  generalize z.natAbs = x at *
  have HG := Lib.hid (fun w' (hb : Below w.heap.size w w') => Gcd_any s t x d w' (hs.below hb) (ht.below hb) (by omega) (by omega))
  generalize Nat.gcd x d = g at *
  have HD1 := Lib.hid (fun w' gv (hb : Below w.heap.size w w') (hg : IsN w' gv g) => Div_any s gv x g w' (hs.below hb) hg (by omega) (by omega) hg0)
  have HD2 := Lib.hid (fun w' gv (hb : Below w.heap.size w w') (hg : IsN w' gv g) => Div_any t gv d g w' (ht.below hb) hg (by omega) (by omega) hg0)
  generalize decide (z < 0) = p at *
  have HI := Lib.hid (fun w' a h => Int_any p a (x / g) w' h)
  obtain ⟨ao, ac, rfl, -⟩ := hs
  obtain ⟨co, cc, rfl, -⟩ := ht
  generalize (digs x).length = n at *
  generalize (digs d).length = m at *
  clear hz hd h0 hg0 hgl
  have HB := Lib.hid (((Below.refl w.heap.size w).alloc (Nat.le_refl _) (.cells #[.bool p, .slice ao n ac, .slice co m cc] 86)).alloc (by simp) blankQ)
  have HBL := Lib.hid (show ((w.alloc (.cells #[.bool p, .slice ao n ac, .slice co m cc] 86)).alloc blankQ).heap[w.heap.size + 1]? = some blankQ from by
    have := heap_alloc_new (w.alloc (.cells #[.bool p, .slice ao n ac, .slice co m cc] 86)) blankQ
    simpa [blankQ] using this)
  have HOLDS := Lib.hid (fun W (hW : Below ((w.alloc (.cells #[.bool p, .slice ao n ac, .slice co m cc] 86)).alloc blankQ).heap.size ((w.alloc (.cells #[.bool p, .slice ao n ac, .slice co m cc] 86)).alloc blankQ) W) =>
    (show W.cell? ⟨w.heap.size, 0, none⟩ = some (.bool p) ∧ W.cell? ⟨w.heap.size, 1, none⟩ = some (.slice ao n ac) ∧ W.cell? ⟨w.heap.size, 2, none⟩ = some (.slice co m cc) from by
      have h1 : ((w.alloc (.cells #[.bool p, .slice ao n ac, .slice co m cc] 86)).alloc blankQ).heap[w.heap.size]? = some (.cells #[.bool p, .slice ao n ac, .slice co m cc] 86 (0, 0)) :=
        (((Below.refl (w.alloc (.cells #[.bool p, .slice ao n ac, .slice co m cc] 86)).heap.size (w.alloc (.cells #[.bool p, .slice ao n ac, .slice co m cc] 86))).alloc (Nat.le_refl _) blankQ).block w.heap.size (by simp)).trans (heap_alloc_new w _)
      have h2 : W.heap[w.heap.size]? = some (.cells #[.bool p, .slice ao n ac, .slice co m cc] 86 (0, 0)) := (hW.block _ (by simp; omega)).trans h1
      exact ⟨by rw [cell_of_row _ w.heap.size 0 _ 86 (0, 0) h2]; rfl, by rw [cell_of_row _ w.heap.size 1 _ 86 (0, 0) h2]; rfl, by rw [cell_of_row _ w.heap.size 2 _ 86 (0, 0) h2]; rfl⟩))
  unfold blankQ at HB HBL HOLDS
  go_enter Tryz.func92, Tryz.ntmps92
  go_wp2_with (first
    | (go_at_call 41; (with_reducible refine (HG.out _ HB.out).mono ?_); rintro e' w2 ⟨gv, rfl, hi, hb⟩
       have HGv := Lib.hid hi
       have HB2 := Lib.hid hb
       have HW2 := Lib.hid (HB.out.trans (hb.mono HB.out.size))
       obtain ⟨go', gc, rfl, -⟩ := id HGv.out
       obtain ⟨k0, k1, k2⟩ := HOLDS.out _ HB2.out
       clear hi hb)
    | (go_at_call 34; (with_reducible refine (HD1.out _ _ HW2.out HGv.out).mono ?_); rintro e' w3 ⟨nv, rv, rfl, hi, hrv, hb⟩
       have HN := Lib.hid hi
       obtain ⟨no', nc, rfl, -⟩ := id hi
       obtain ⟨ro', rc, rfl, -⟩ := hrv
       have HG3 := Lib.hid (HGv.out.below hb)
       have HB3 := Lib.hid (HB2.out.trans (hb.mono HB2.out.size))
       have HW3 := Lib.hid (HW2.out.trans (hb.mono HW2.out.size))
       obtain ⟨k0, k1, k2⟩ := HOLDS.out _ HB3.out
       clear hi hb HGv)
    | (go_at_call 34; (with_reducible refine (HD2.out _ _ HW3.out HG3.out).mono ?_); rintro e' w4 ⟨dv, rv2, rfl, hi, hrv, hb⟩
       have HD4 := Lib.hid hi
       obtain ⟨yo, yc, rfl, -⟩ := id hi
       obtain ⟨ro2, rc2, rfl, -⟩ := hrv
       have HN4 := Lib.hid (HN.out.below hb)
       have HB4 := Lib.hid (HB3.out.trans (hb.mono HB3.out.size))
       obtain ⟨k0, k1, k2⟩ := HOLDS.out _ HB4.out
       clear hi hb HG3 HN)
    | (go_at_call 121; (with_reducible refine (HI.out _ _ HN4.out).mono ?_); rintro e' w5 ⟨x5, rfl, hi, hb⟩
       obtain ⟨s5, rfl, hs5⟩ := hi
       obtain ⟨zo, zc, rfl, -⟩ := id hs5
       have HS5 := Lib.hid hs5
       have HD5 := Lib.hid (HD4.out.below hb)
       have HB5 := Lib.hid (HB4.out.trans (hb.mono HB4.out.size))
       obtain ⟨c0, c1, c2, f0, f1, f2⟩ := result_cells3 HBL.out HB5.out
       clear hs5 hb)
    | (fail "no arm"))
  obtain ⟨hq, hbf⟩ := Q_end HS5.out HD5.out HBL.out HB5.out HB.out (by simp)
  obtain ⟨-, -, -, q3, q4, q5⟩ := three_cells (.bool (decide (signed p (x / g) < 0))) (.slice zo (digs (signed p (x / g)).natAbs).length zc) (.slice yo (digs (d / g)).length yc) c0 c1 c2
  refine bodyPost_ret (v := .agg #[.bool (decide (signed p (x / g) < 0)), .slice zo (digs (signed p (x / g)).natAbs).length zc, .slice yo (digs (d / g)).length yc]) ?_ rfl ?_
  · simp [results, Tryz.results92, go_sem, q3, q4, q5]
  · exact ⟨_, rfl, hq, hbf⟩
end Go.Proofs.YtfpooimjjpamoaaGreatDoor.ref
