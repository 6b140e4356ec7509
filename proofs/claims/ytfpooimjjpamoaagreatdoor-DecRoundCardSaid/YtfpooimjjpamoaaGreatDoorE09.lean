/-
  The steps of the walks, part 9: RefQ, RefLow, RefQText, RefFrac.
-/
import Derived.Test.YtfpooimjjpamoaaGreatDoorE08
namespace Go.Proofs.YtfpooimjjpamoaaGreatDoor.ref
open Go.RowKit
def IsQ (w : World) (v : Value) (z : Int) (d : Nat) : Prop := ∃ s t, v = .agg #[.bool (decide (z < 0)), s, t] ∧ IsN w s z.natAbs ∧ IsN w t d
theorem IsQ.below {w w' : World} {v : Value} {z : Int} {d : Nat} (h : IsQ w v z d) (hb : Below w.heap.size w w') : IsQ w' v z d := by
  obtain ⟨s, t, rfl, hs, ht⟩ := h
  exact ⟨s, t, rfl, hs.below hb, ht.below hb⟩
theorem IsQ.inj {w : World} {v : Value} {z z' : Int} {d d' : Nat} (h : IsQ w v z d) (h' : IsQ w v z' d') : z = z' ∧ d = d' := by
  obtain ⟨s, t, rfl, hs, ht⟩ := h
  obtain ⟨s', t', he, hs', ht'⟩ := h'
  have e := Value.agg.inj he
  simp only [Array.mk.injEq, List.cons.injEq, Value.bool.injEq, and_true] at e
  obtain ⟨e1, rfl, rfl⟩ := e
  have := IsN.inj hs hs'
  have := IsN.inj ht ht'
  simp only [decide_eq_decide] at e1
  omega
def blankQ : Obj := .cells #[Value.bool false, .slice none 0 0, .slice none 0 0] 86
theorem result_cells3 {w1 w3 : World} {n : Nat} (h1 : w1.heap[n]? = some blankQ) (h : Below w1.heap.size w1 w3) :
    w3.cell? ⟨n, 0, none⟩ = some (.bool false) ∧ w3.cell? ⟨n, 1, none⟩ = some (.slice none 0 0) ∧ w3.cell? ⟨n, 2, none⟩ = some (.slice none 0 0) ∧ w3.frozen? ⟨n, 0, none⟩ = false ∧ w3.frozen? ⟨n, 1, none⟩ = false ∧ w3.frozen? ⟨n, 2, none⟩ = false := by
  have hs := (Array.getElem?_eq_some_iff.1 h1).1
  have h3 : w3.heap[n]? = some (.cells #[Value.bool false, .slice none 0 0, .slice none 0 0] 86) := (h.block n hs).trans h1
  refine ⟨?_, ?_, ?_, ?_, ?_, ?_⟩
  · rw [cell_of_row _ n 0 _ 86 (0, 0) h3]; rfl
  · rw [cell_of_row _ n 1 _ 86 (0, 0) h3]; rfl
  · rw [cell_of_row _ n 2 _ 86 (0, 0) h3]; rfl
  all_goals
    unfold World.frozen?
    rw [h3]
    rfl
theorem three_cells {w : World} {g : Nat} (v0 v1 v2 : Value) {u1 u2 : Value} {b : Bool} (c0 : w.cell? ⟨g, 0, none⟩ = some (.bool b)) (c1 : w.cell? ⟨g, 1, none⟩ = some u1) (c2 : w.cell? ⟨g, 2, none⟩ = some u2) :
    (w.setCell ⟨g, 0, none⟩ v0).cell? ⟨g, 0, none⟩ = some v0 ∧ ((w.setCell ⟨g, 0, none⟩ v0).setCell ⟨g, 1, none⟩ v1).cell? ⟨g, 0, none⟩ = some v0 ∧ ((w.setCell ⟨g, 0, none⟩ v0).setCell ⟨g, 1, none⟩ v1).cell? ⟨g, 1, none⟩ = some v1 ∧
    (((w.setCell ⟨g, 0, none⟩ v0).setCell ⟨g, 1, none⟩ v1).setCell ⟨g, 2, none⟩ v2).cell? ⟨g, 0, none⟩ = some v0 ∧ (((w.setCell ⟨g, 0, none⟩ v0).setCell ⟨g, 1, none⟩ v1).setCell ⟨g, 2, none⟩ v2).cell? ⟨g, 1, none⟩ = some v1 ∧ (((w.setCell ⟨g, 0, none⟩ v0).setCell ⟨g, 1, none⟩ v1).setCell ⟨g, 2, none⟩ v2).cell? ⟨g, 2, none⟩ = some v2 := by
  have a0 : (w.setCell ⟨g, 0, none⟩ v0).cell? ⟨g, 0, none⟩ = some v0 := World.cell?_setCell_same' _ _ _ (by rw [c0]; rfl)
  have a1 : (w.setCell ⟨g, 0, none⟩ v0).cell? ⟨g, 1, none⟩ = some u1 := by rw [World.cell?_setCell_other _ _ _ _ (by simp), c1]
  have a2 : (w.setCell ⟨g, 0, none⟩ v0).cell? ⟨g, 2, none⟩ = some u2 := by rw [World.cell?_setCell_other _ _ _ _ (by simp), c2]
  have b0 : ((w.setCell ⟨g, 0, none⟩ v0).setCell ⟨g, 1, none⟩ v1).cell? ⟨g, 0, none⟩ = some v0 := by rw [World.cell?_setCell_other _ _ _ _ (by simp), a0]
  have b1 : ((w.setCell ⟨g, 0, none⟩ v0).setCell ⟨g, 1, none⟩ v1).cell? ⟨g, 1, none⟩ = some v1 := World.cell?_setCell_same' _ _ _ (by rw [a1]; rfl)
  have b2 : ((w.setCell ⟨g, 0, none⟩ v0).setCell ⟨g, 1, none⟩ v1).cell? ⟨g, 2, none⟩ = some u2 := by rw [World.cell?_setCell_other _ _ _ _ (by simp), a2]
  refine ⟨a0, b0, b1, ?_, ?_, ?_⟩
  · rw [World.cell?_setCell_other _ _ _ _ (by simp), b0]
  · rw [World.cell?_setCell_other _ _ _ _ (by simp), b1]
  · exact World.cell?_setCell_same' _ _ _ (by rw [b2]; rfl)
theorem result_num {w : World} {g x : Nat} {v1 v2 sv : Value} {u1 u2 : Value} {b b' : Bool} (hs : IsN w sv x) (c0 : w.cell? ⟨g, 0, none⟩ = some (.bool b)) (c1 : w.cell? ⟨g, 1, none⟩ = some u1) (c2 : w.cell? ⟨g, 2, none⟩ = some u2) :
    IsN (((w.setCell ⟨g, 0, none⟩ (.bool b')).setCell ⟨g, 1, none⟩ v1).setCell ⟨g, 2, none⟩ v2) sv x := by
  obtain ⟨q0, q1, -⟩ := three_cells (.bool b') v1 v2 c0 c1 c2
  exact Reads.result (Reads.result (Reads.result hs c0 0 _) q0 1 _) q1 2 _
theorem result_below {w1 w : World} {B g : Nat} (h : Below B w1 w) (hg : B ≤ g) (v0 v1 v2 : Value) : Below B w1 (((w.setCell ⟨g, 0, none⟩ v0).setCell ⟨g, 1, none⟩ v1).setCell ⟨g, 2, none⟩ v2) :=
  ((h.setCell hg _).setCell hg _).setCell hg _
theorem len_mul {x y n m : Nat} (hx : (digs x).length ≤ n) (hy : (digs y).length ≤ m) : (digs (x * y)).length ≤ n + m := by
  apply digs_len_of_lt
  have h1 := val_lt (norm_digs x).1
  have h2 := val_lt (norm_digs y).1
  rw [val_digs] at h1 h2
  have h3 : 1000000000 ^ (digs x).length ≤ 1000000000 ^ n := Nat.pow_le_pow_right (by omega) hx
  have h4 : 1000000000 ^ (digs y).length ≤ 1000000000 ^ m := Nat.pow_le_pow_right (by omega) hy
  rw [Nat.pow_add]
  exact Nat.mul_lt_mul'' (by omega) (by omega)
theorem IsI.nat {w : World} {s : Value} {d : Nat} (h : IsN w s d) : IsI w (.agg #[.bool false, s]) (d : Int) := ⟨s, by simp, by simpa using h⟩
end Go.Proofs.YtfpooimjjpamoaaGreatDoor.ref
namespace Go.Proofs.YtfpooimjjpamoaaGreatDoor.ref
open Go.RowKit
theorem Q_end {w w1 w4 : World} {z : Int} {d n3 n4 r : Nat} {zo yo : Option Addr} {zc yc : Nat} (hz : IsN w4 (.slice zo n3 zc) z.natAbs) (hy : IsN w4 (.slice yo n4 yc) d) (h1 : w1.heap[r]? = some blankQ) (h : Below w1.heap.size w1 w4) (hw : Below w.heap.size w w1) (hr : w.heap.size ≤ r) :
    IsQ (((w4.setCell ⟨r, 0, none⟩ (.bool (decide (z < 0)))).setCell ⟨r, 1, none⟩ (.slice zo n3 zc)).setCell ⟨r, 2, none⟩ (.slice yo n4 yc)) (.agg #[.bool (decide (z < 0)), .slice zo n3 zc, .slice yo n4 yc]) z d ∧
    Below w.heap.size w (((w4.setCell ⟨r, 0, none⟩ (.bool (decide (z < 0)))).setCell ⟨r, 1, none⟩ (.slice zo n3 zc)).setCell ⟨r, 2, none⟩ (.slice yo n4 yc)) := by
  obtain ⟨c0, c1, c2, -, -, -⟩ := result_cells3 h1 h
  exact ⟨⟨_, _, rfl, result_num hz c0 c1 c2, result_num hy c0 c1 c2⟩, result_below (hw.trans (h.mono hw.size)) hr _ _ _⟩
set_option maxRecDepth 100000 in
set_option maxHeartbeats 4000000 in
theorem Low_any (v : Value) (z : Int) (d : Nat) (w : World) (hv : IsQ w v z d) (hz : (digs z.natAbs).length ≤ 80000) (hd : (digs d).length ≤ 80000) (h0 : 0 < d) :
    Calls Tryz.prog 92 #[v] w fun e w' => ∃ v', e = .returned v' ∧ IsQ w' v' (signed (decide (z < 0)) (z.natAbs / Nat.gcd z.natAbs d)) (d / Nat.gcd z.natAbs d) ∧ Below w.heap.size w w' := by
  obtain ⟨s, t, rfl, hs, ht⟩ := hv
  have hg0 : 0 < Nat.gcd z.natAbs d := Nat.gcd_pos_of_pos_right _ h0
  have hgl : (digs (Nat.gcd z.natAbs d)).length ≤ 80000 := by
    have h1 := Nat.gcd_le_right z.natAbs h0
    refine Nat.le_trans (digs_len_of_lt (n := (digs d).length) ?_) hd
    have h2 := val_lt (norm_digs d).1
    rw [val_digs] at h2
    omega
  have HS := Lib.hid hs
  have HT := Lib.hid ht
  generalize z.natAbs = x at *
  have HG := Lib.hid (fun w' (hb : Below w.heap.size w w') => Gcd_any s t x d w' (hs.below hb) (ht.below hb) (by omega) (by omega))
  generalize Nat.gcd x d = g at *
  have HD1 := Lib.hid (fun w' gv (hb : Below w.heap.size w w') (hg : IsN w' gv g) => Div_any s gv x g w' (hs.below hb) hg (by omega) (by omega) hg0)
  have HD2 := Lib.hid (fun w' gv (hb : Below w.heap.size w w') (hg : IsN w' gv g) => Div_any t gv d g w' (ht.below hb) hg (by omega) (by omega) hg0)
  generalize decide (z < 0) = p at *
  have HI := Lib.hid (fun w' a h => Int_any p a (x / g) w' h)
  obtain ⟨ao, ac, rfl, -⟩ := hs
  obtain ⟨co, cc, rfl, -⟩ := ht
  generalize (digs x).length = n at *
  generalize (digs d).length = m at *
  clear hz hd h0 hg0 hgl
  have HB := Lib.hid (((Below.refl w.heap.size w).alloc (Nat.le_refl _) (.cells #[.bool p, .slice ao n ac, .slice co m cc] 86)).alloc (by simp) blankQ)
  have HBL := Lib.hid (show ((w.alloc (.cells #[.bool p, .slice ao n ac, .slice co m cc] 86)).alloc blankQ).heap[w.heap.size + 1]? = some blankQ from by
    have := heap_alloc_new (w.alloc (.cells #[.bool p, .slice ao n ac, .slice co m cc] 86)) blankQ
    simpa [blankQ] using this)
  have HOLDS := Lib.hid (fun W (hW : Below ((w.alloc (.cells #[.bool p, .slice ao n ac, .slice co m cc] 86)).alloc blankQ).heap.size ((w.alloc (.cells #[.bool p, .slice ao n ac, .slice co m cc] 86)).alloc blankQ) W) =>
    (show W.cell? ⟨w.heap.size, 0, none⟩ = some (.bool p) ∧ W.cell? ⟨w.heap.size, 1, none⟩ = some (.slice ao n ac) ∧ W.cell? ⟨w.heap.size, 2, none⟩ = some (.slice co m cc) from by
      have h1 : ((w.alloc (.cells #[.bool p, .slice ao n ac, .slice co m cc] 86)).alloc blankQ).heap[w.heap.size]? = some (.cells #[.bool p, .slice ao n ac, .slice co m cc] 86 (0, 0)) :=
        (((Below.refl (w.alloc (.cells #[.bool p, .slice ao n ac, .slice co m cc] 86)).heap.size (w.alloc (.cells #[.bool p, .slice ao n ac, .slice co m cc] 86))).alloc (Nat.le_refl _) blankQ).block w.heap.size (by simp)).trans (heap_alloc_new w _)
      have h2 : W.heap[w.heap.size]? = some (.cells #[.bool p, .slice ao n ac, .slice co m cc] 86 (0, 0)) := (hW.block _ (by simp; omega)).trans h1
      exact ⟨by rw [cell_of_row _ w.heap.size 0 _ 86 (0, 0) h2]; rfl, by rw [cell_of_row _ w.heap.size 1 _ 86 (0, 0) h2]; rfl, by rw [cell_of_row _ w.heap.size 2 _ 86 (0, 0) h2]; rfl⟩))
  unfold blankQ at HB HBL HOLDS
  go_enter Tryz.func92, Tryz.ntmps92
  go_wp2_with (first
    | (go_at_call 41; (with_reducible refine (HG.out _ HB.out).mono ?_); rintro e' w2 ⟨gv, rfl, hi, hb⟩
       have HGv := Lib.hid hi
       have HB2 := Lib.hid hb
       have HW2 := Lib.hid (HB.out.trans (hb.mono HB.out.size))
       obtain ⟨go', gc, rfl, -⟩ := id HGv.out
       obtain ⟨k0, k1, k2⟩ := HOLDS.out _ HB2.out
       clear hi hb)
    | (go_at_call 34; (with_reducible refine (HD1.out _ _ HW2.out HGv.out).mono ?_); rintro e' w3 ⟨nv, rv, rfl, hi, hrv, hb⟩
       have HN := Lib.hid hi
       obtain ⟨no', nc, rfl, -⟩ := id hi
       obtain ⟨ro', rc, rfl, -⟩ := hrv
       have HG3 := Lib.hid (HGv.out.below hb)
       have HB3 := Lib.hid (HB2.out.trans (hb.mono HB2.out.size))
       have HW3 := Lib.hid (HW2.out.trans (hb.mono HW2.out.size))
       obtain ⟨k0, k1, k2⟩ := HOLDS.out _ HB3.out
       clear hi hb HGv)
    | (go_at_call 34; (with_reducible refine (HD2.out _ _ HW3.out HG3.out).mono ?_); rintro e' w4 ⟨dv, rv2, rfl, hi, hrv, hb⟩
       have HD4 := Lib.hid hi
       obtain ⟨yo, yc, rfl, -⟩ := id hi
       obtain ⟨ro2, rc2, rfl, -⟩ := hrv
       have HN4 := Lib.hid (HN.out.below hb)
       have HB4 := Lib.hid (HB3.out.trans (hb.mono HB3.out.size))
       obtain ⟨k0, k1, k2⟩ := HOLDS.out _ HB4.out
       clear hi hb HG3 HN)
    | (go_at_call 121; (with_reducible refine (HI.out _ _ HN4.out).mono ?_); rintro e' w5 ⟨x5, rfl, hi, hb⟩
       obtain ⟨s5, rfl, hs5⟩ := hi
       obtain ⟨zo, zc, rfl, -⟩ := id hs5
       have HS5 := Lib.hid hs5
       have HD5 := Lib.hid (HD4.out.below hb)
       have HB5 := Lib.hid (HB4.out.trans (hb.mono HB4.out.size))
       obtain ⟨c0, c1, c2, f0, f1, f2⟩ := result_cells3 HBL.out HB5.out
       clear hs5 hb)
    | (fail "no arm"))
  obtain ⟨hq, hbf⟩ := Q_end HS5.out HD5.out HBL.out HB5.out HB.out (by simp)
  obtain ⟨-, -, -, q3, q4, q5⟩ := three_cells (.bool (decide (signed p (x / g) < 0))) (.slice zo (digs (signed p (x / g)).natAbs).length zc) (.slice yo (digs (d / g)).length yc) c0 c1 c2
  refine bodyPost_ret (v := .agg #[.bool (decide (signed p (x / g) < 0)), .slice zo (digs (signed p (x / g)).natAbs).length zc, .slice yo (digs (d / g)).length yc]) ?_ rfl ?_
  · simp [results, Tryz.results92, go_sem, q3, q4, q5]
  · exact ⟨_, rfl, hq, hbf⟩
end Go.Proofs.YtfpooimjjpamoaaGreatDoor.ref
namespace Go.Proofs.YtfpooimjjpamoaaGreatDoor.ref
open Go.RowKit
def lowN (z : Int) (d : Nat) : Int := signed (decide (z < 0)) (z.natAbs / Nat.gcd z.natAbs d)
def lowD (z : Int) (d : Nat) : Nat := d / Nat.gcd z.natAbs d
def ratText (z : Int) (d : Nat) : List UInt8 := Lib.itoa (lowN z d) ++ (if lowD z d = 1 then [] else 47 :: Lib.decDigits (lowD z d))
theorem digs_le {x y n : Nat} (h : x ≤ y) (hy : (digs y).length ≤ n) : (digs x).length ≤ n := by
  refine Nat.le_trans (digs_len_of_lt (n := (digs y).length) ?_) hy
  have h2 := val_lt (norm_digs y).1
  rw [val_digs] at h2
  omega
theorem lowN_abs (z : Int) (d : Nat) : (lowN z d).natAbs = z.natAbs / Nat.gcd z.natAbs d := by
  unfold lowN signed
  generalize z.natAbs / Nat.gcd z.natAbs d = q
  split <;> omega
theorem row3 {w : World} {g : Nat} {v0 v1 v2 : Value} {t : TypeId} (h3 : w.heap[g]? = some (.cells #[v0, v1, v2] t (0, 0))) :
    w.cell? ⟨g, 0, none⟩ = some v0 ∧ w.cell? ⟨g, 1, none⟩ = some v1 ∧ w.cell? ⟨g, 2, none⟩ = some v2 ∧ w.frozen? ⟨g, 0, none⟩ = false ∧ w.frozen? ⟨g, 1, none⟩ = false ∧ w.frozen? ⟨g, 2, none⟩ = false := by
  refine ⟨?_, ?_, ?_, ?_, ?_, ?_⟩
  · rw [cell_of_row _ g 0 _ t (0, 0) h3]; rfl
  · rw [cell_of_row _ g 1 _ t (0, 0) h3]; rfl
  · rw [cell_of_row _ g 2 _ t (0, 0) h3]; rfl
  all_goals
    unfold World.frozen?
    rw [h3]
    rfl
theorem Low_ex (v : Value) (z : Int) (d : Nat) (w : World) (hv : IsQ w v z d) (hz : (digs z.natAbs).length ≤ 80000) (hd : (digs d).length ≤ 80000) (h0 : 0 < d) :
    Calls Tryz.prog 92 #[v] w fun e w' => ∃ s t, e = .returned (.agg #[.bool (decide (lowN z d < 0)), s, t]) ∧ (IsN w' s (lowN z d).natAbs ∧ IsN w' t (lowD z d)) ∧ Below w.heap.size w w' := by
  refine (Low_any v z d w hv hz hd h0).mono ?_
  rintro e w' ⟨v', rfl, ⟨s, t, rfl, hs, ht⟩, hb⟩
  exact ⟨s, t, rfl, ⟨hs, ht⟩, hb⟩
end Go.Proofs.YtfpooimjjpamoaaGreatDoor.ref
namespace Go.Proofs.YtfpooimjjpamoaaGreatDoor.ref
open Go.RowKit
theorem Int_ex (b : Bool) (a : Value) (x : Nat) (w : World) (ha : IsN w a x) :
    Calls Tryz.prog 121 #[.bool b, a] w fun e w' => ∃ s, e = .returned (.agg #[.bool (decide (signed b x < 0)), s]) ∧ IsN w' s (signed b x).natAbs ∧ Below w.heap.size w w' := by
  refine (Int_any b a x w ha).mono ?_
  rintro e w' ⟨v, rfl, ⟨s, rfl, hs⟩, hb⟩
  exact ⟨s, rfl, hs, hb⟩
end Go.Proofs.YtfpooimjjpamoaaGreatDoor.ref
