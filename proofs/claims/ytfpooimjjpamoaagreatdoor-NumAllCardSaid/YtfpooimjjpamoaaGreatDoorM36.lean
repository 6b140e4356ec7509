/-
  The steps of the walks, part 36: RefGetQ, RefFloor, Law2R, RatG, RefGetQ2.
-/
import Derived.Lib.Bytealg
import Derived.Laws.Externs
import Derived.Test.YtfpooimjjpamoaaGreatDoorM35
import Derived.Test.YtfpooimjjpamoaaGreatDoorM34
import Derived.Test.YtfpooimjjpamoaaGreatDoorM23
import Derived.Test.YtfpooimjjpamoaaGreatDoorM27
namespace Go.Proofs.YtfpooimjjpamoaaGreatDoor.ref
open Go.RowKit
def MadeQ (V w3 : World) : Prop := Below (V.alloc (.cells #[Value.bool false, .slice none 0 0, .slice none 0 0] 86)).heap.size (V.alloc (.cells #[Value.bool false, .slice none 0 0, .slice none 0 0] 86)) w3
theorem MadeQ.cells {V w3 : World} (h : MadeQ V w3) : w3.cell? ⟨V.heap.size, 0, none⟩ = some (.bool false) ∧ w3.cell? ⟨V.heap.size, 1, none⟩ = some (.slice none 0 0) ∧ w3.cell? ⟨V.heap.size, 2, none⟩ = some (.slice none 0 0) ∧ w3.frozen? ⟨V.heap.size, 0, none⟩ = false ∧ w3.frozen? ⟨V.heap.size, 1, none⟩ = false ∧ w3.frozen? ⟨V.heap.size, 2, none⟩ = false :=
  row3 ((Below.block h V.heap.size (by simp)).trans (heap_alloc_new V _))
theorem IsQ.of {w : World} {s t : Value} {z : Int} {d : Nat} {p : Bool} (hp : decide (z < 0) = p) (hs : IsN w s z.natAbs) (ht : IsN w t d) : IsQ w (.agg #[.bool p, s, t]) z d := ⟨s, t, by rw [hp], hs, ht⟩
end Go.Proofs.YtfpooimjjpamoaaGreatDoor.ref
namespace Go.Proofs.YtfpooimjjpamoaaGreatDoor.ref
open Go.RowKit
def blankI : Obj := .cells #[Value.bool false, .slice none 0 0] 57
theorem row2 {w : World} {g : Nat} {v0 v1 : Value} {t : TypeId} (h3 : w.heap[g]? = some (.cells #[v0, v1] t (0, 0))) :
    w.cell? ⟨g, 0, none⟩ = some v0 ∧ w.cell? ⟨g, 1, none⟩ = some v1 ∧ w.frozen? ⟨g, 0, none⟩ = false ∧ w.frozen? ⟨g, 1, none⟩ = false := by
  refine ⟨?_, ?_, ?_, ?_⟩
  · rw [cell_of_row _ g 0 _ t (0, 0) h3]; rfl
  · rw [cell_of_row _ g 1 _ t (0, 0) h3]; rfl
  all_goals
    unfold World.frozen?
    rw [h3]
    rfl
theorem alloc_old {w : World} {g : Nat} {o o' : Obj} (h : w.heap[g]? = some o) : (w.alloc o').heap[g]? = some o :=
  (((Below.refl w.heap.size w).alloc (Nat.le_refl _) o').block g (Array.getElem?_eq_some_iff.1 h).1).trans h
theorem alloc_at (w : World) (o : Obj) {n : Nat} (hn : w.heap.size = n) : (w.alloc o).heap[n]? = some o := hn ▸ heap_alloc_new w o
theorem four_rows (w : World) (o1 o2 o3 o4 : Obj) :
    ((((w.alloc o1).alloc o2).alloc o3).alloc o4).heap[w.heap.size]? = some o1 ∧ ((((w.alloc o1).alloc o2).alloc o3).alloc o4).heap[w.heap.size + 1]? = some o2 ∧ ((((w.alloc o1).alloc o2).alloc o3).alloc o4).heap[w.heap.size + 2]? = some o3 ∧ ((((w.alloc o1).alloc o2).alloc o3).alloc o4).heap[w.heap.size + 3]? = some o4 :=
  ⟨alloc_old (alloc_old (alloc_old (heap_alloc_new w o1))), alloc_old (alloc_old (alloc_at _ o2 (by simp))), alloc_old (alloc_at _ o3 (by simp)), alloc_at _ o4 (by simp)⟩
theorem both_laid {w : World} {g : Nat} {b1 b2 : Bool} {u1 u2 : Value} (p q : Bool) (s t : Value) (c0 : w.cell? ⟨g, 0, none⟩ = some (.bool b1)) (c1 : w.cell? ⟨g, 1, none⟩ = some u1) (e0 : w.cell? ⟨g + 1, 0, none⟩ = some (.bool b2)) (e1 : w.cell? ⟨g + 1, 1, none⟩ = some u2) :
    ((((w.setCell ⟨g, 0, none⟩ (.bool p)).setCell ⟨g, 1, none⟩ s).setCell ⟨g + 1, 0, none⟩ (.bool q)).setCell ⟨g + 1, 1, none⟩ t).cell? ⟨g, 0, none⟩ = some (.bool p) ∧
    ((((w.setCell ⟨g, 0, none⟩ (.bool p)).setCell ⟨g, 1, none⟩ s).setCell ⟨g + 1, 0, none⟩ (.bool q)).setCell ⟨g + 1, 1, none⟩ t).cell? ⟨g, 1, none⟩ = some s ∧
    ((((w.setCell ⟨g, 0, none⟩ (.bool p)).setCell ⟨g, 1, none⟩ s).setCell ⟨g + 1, 0, none⟩ (.bool q)).setCell ⟨g + 1, 1, none⟩ t).cell? ⟨g + 1, 0, none⟩ = some (.bool q) ∧
    ((((w.setCell ⟨g, 0, none⟩ (.bool p)).setCell ⟨g, 1, none⟩ s).setCell ⟨g + 1, 0, none⟩ (.bool q)).setCell ⟨g + 1, 1, none⟩ t).cell? ⟨g + 1, 1, none⟩ = some t ∧
    ∀ sv x, IsN w sv x → IsN ((((w.setCell ⟨g, 0, none⟩ (.bool p)).setCell ⟨g, 1, none⟩ s).setCell ⟨g + 1, 0, none⟩ (.bool q)).setCell ⟨g + 1, 1, none⟩ t) sv x := by
  obtain ⟨q0, q1⟩ := two_cells (.bool p) s c0 c1
  have q00 : ((w.setCell ⟨g, 0, none⟩ (.bool p)).setCell ⟨g, 1, none⟩ s).cell? ⟨g, 0, none⟩ = some (.bool p) := by rw [World.cell?_setCell_other _ _ _ _ (by simp), q0]
  have d0 : ((w.setCell ⟨g, 0, none⟩ (.bool p)).setCell ⟨g, 1, none⟩ s).cell? ⟨g + 1, 0, none⟩ = some (.bool b2) := by rw [World.cell?_setCell_other _ _ _ _ (by simp), World.cell?_setCell_other _ _ _ _ (by simp), e0]
  have d1 : ((w.setCell ⟨g, 0, none⟩ (.bool p)).setCell ⟨g, 1, none⟩ s).cell? ⟨g + 1, 1, none⟩ = some u2 := by rw [World.cell?_setCell_other _ _ _ _ (by simp), World.cell?_setCell_other _ _ _ _ (by simp), e1]
  obtain ⟨r0, r1⟩ := two_cells (.bool q) t d0 d1
  refine ⟨?_, ?_, ?_, r1, fun sv x h => ?_⟩
  · rw [World.cell?_setCell_other _ _ _ _ (by simp), World.cell?_setCell_other _ _ _ _ (by simp), q00]
  · rw [World.cell?_setCell_other _ _ _ _ (by simp), World.cell?_setCell_other _ _ _ _ (by simp), q1]
  · rw [World.cell?_setCell_other _ _ _ _ (by simp), r0]
  · exact Reads.result (Reads.result (Reads.result (Reads.result h c0 0 _) q0 1 _) d0 0 _) r0 1 _
theorem floor_near {z y : Int} (hy : y ≠ 0) (h : decide (z < 0) = decide (y < 0) ∨ z.natAbs % y.natAbs = 0) :
    z.fdiv y = signed (decide (z < 0) != decide (y < 0)) (z.natAbs / y.natAbs) ∧ z.fmod y = signed (decide (y < 0)) (z.natAbs % y.natAbs) := num.floor_near hy h
theorem floor_past {z y : Int} (hy : y ≠ 0) (h : decide (z < 0) ≠ decide (y < 0)) (h0 : z.natAbs % y.natAbs ≠ 0) :
    z.fdiv y = signed true (z.natAbs / y.natAbs + 1) ∧ z.fmod y = signed (decide (y < 0)) (y.natAbs - z.natAbs % y.natAbs) := num.floor_past hy h h0
set_option maxRecDepth 100000 in
set_option maxHeartbeats 4000000 in
theorem Floor_same (u v : Value) (a b : Int) (w : World) (hu : IsI w u a) (hv : IsI w v b) (ha : (digs a.natAbs).length ≤ 80000) (hb : (digs b.natAbs).length ≤ 80000) (h0 : b ≠ 0) (h : decide (a < 0) = decide (b < 0)) :
    Calls Tryz.prog 51 #[u, v] w fun e w' => ∃ q r, e = .returned (.tuple #[q, r]) ∧ IsI w' q (a.fdiv b) ∧ IsI w' r (a.fmod b) ∧ Below w.heap.size w w' := by
  obtain ⟨s, rfl, hs⟩ := hu
  obtain ⟨t, rfl, ht⟩ := hv
  obtain ⟨f1, f2⟩ := floor_near h0 (Or.inl h)
  have HD0 := fun W (hW : Below w.heap.size w W) => Div_any s t a.natAbs b.natAbs W (hs.below hW) (ht.below hW) (by omega) (by omega) (by omega)
  have HI1 := fun W c (hc : IsN W c (a.natAbs / b.natAbs)) => Int_ex false c (a.natAbs / b.natAbs) W hc
  have HI2 := fun W c (hc : IsN W c (a.natAbs % b.natAbs)) => Int_ex (decide (b < 0)) c (a.natAbs % b.natAbs) W hc
  rw [h, show (decide (b < 0) != decide (b < 0)) = false by cases decide (b < 0) <;> rfl] at f1
  rw [← f1] at HI1
  rw [← f2] at HI2
  rw [h]
  clear f1 f2 h
  obtain ⟨ao, ac, rfl, -⟩ := id hs
  obtain ⟨bo, bc, rfl, -⟩ := id ht
  generalize a.fdiv b = Q at *
  generalize a.fmod b = R at *
  generalize a.natAbs / b.natAbs = qn at *
  generalize a.natAbs % b.natAbs = rn at *
  generalize decide (b < 0) = p at *
  generalize (digs a.natAbs).length = an at *
  generalize (digs b.natAbs).length = bn at *
  have HD := Lib.hid HD0
  have HJ1 := Lib.hid HI1
  have HJ2 := Lib.hid HI2
  have HB := Lib.hid ((((((Below.refl w.heap.size w).alloc (Nat.le_refl _) (.cells #[.bool p, .slice ao an ac] 57)).alloc (by simp) (.cells #[.bool p, .slice bo bn bc] 57)).alloc (by simp; omega) blankI).alloc (by simp; omega) blankI))
  have HRows := Lib.hid (four_rows w (.cells #[.bool p, .slice ao an ac] 57) (.cells #[.bool p, .slice bo bn bc] 57) blankI blankI)
  clear HD0 HI1 HI2 hs ht ha hb h0
  unfold blankI at HB HRows
  go_enter Tryz.func51, Tryz.ntmps51
  go_wp2_with (first
    | (go_at_call 34; (with_reducible refine (HD.out _ HB.out).mono ?_); rintro e' w2 ⟨nv, rv, rfl, hn, hr, hb⟩
       obtain ⟨no', nc, rfl, -⟩ := id hn
       obtain ⟨ro', rc, rfl, -⟩ := id hr
       have HN := Lib.hid hn
       have HR := Lib.hid hr
       have HX := Lib.hid ((hb.block w.heap.size (Array.getElem?_eq_some_iff.1 HRows.out.1).1).trans HRows.out.1)
       have HY := Lib.hid ((hb.block (w.heap.size + 1) (Array.getElem?_eq_some_iff.1 HRows.out.2.1).1).trans HRows.out.2.1)
       have HR1 := Lib.hid ((hb.block (w.heap.size + 2) (Array.getElem?_eq_some_iff.1 HRows.out.2.2.1).1).trans HRows.out.2.2.1)
       have HR2 := Lib.hid ((hb.block (w.heap.size + 3) (Array.getElem?_eq_some_iff.1 HRows.out.2.2.2).1).trans HRows.out.2.2.2)
       obtain ⟨x0, -, -, -⟩ := row2 HX.out
       obtain ⟨y0, y1, -, -⟩ := row2 HY.out
       have HB2 := Lib.hid (HB.out.trans (hb.mono HB.out.size))
       clear hn hr hb HD)
    | (fail "no arm"))
  have HLT := Lib.hid (Array.getElem?_eq_some_iff.1 HR2.out).1
  have HOLDS := Lib.hid (fun W (hW : Below (w.heap.size + 2) w2 W) => (show W.cell? ⟨w.heap.size + 1, 0, none⟩ = some (.bool p) from by
    obtain ⟨k0, -⟩ := row2 ((hW.block (w.heap.size + 1) (by omega)).trans HY.out)
    exact k0))
  clear x0 y0 y1
  have hle : w.heap.size + 2 ≤ w2.heap.size := by have := HLT.out; omega
  go_region_held3 (fun w' => Below (w.heap.size + 2) w2 w' ∧ w'.cell? ⟨w.heap.size + 1, 0, none⟩ = some (.bool p))
    (first
      | exact ⟨(Below.refl _ _).drew, HOLDS.out _ (Below.refl _ _).drew⟩
      | exact ⟨HB4.out.mono hle, HOLDS.out _ (HB4.out.mono hle)⟩
      | exact ⟨HB3.out.mono hle, HOLDS.out _ (HB3.out.mono hle)⟩
      | exact ⟨((HB4.out.mono hle).setCell (Nat.le_refl _) _).setCell (Nat.le_refl _) _, HOLDS.out _ (((HB4.out.mono hle).setCell (Nat.le_refl _) _).setCell (Nat.le_refl _) _)⟩
      | exact ⟨((((HB4.out.mono hle).setCell (Nat.le_refl _) _).setCell (Nat.le_refl _) _).setCell (by simp) _).setCell (by simp) _, HOLDS.out _ (((((HB4.out.mono hle).setCell (Nat.le_refl _) _).setCell (Nat.le_refl _) _).setCell (by simp) _).setCell (by simp) _)⟩)
    (first
      | (go_at_call 121; (with_reducible refine (HJ1.out _ _ (HN.out.below (Below.refl _ _).drew)).mono ?_); rintro e' w3 ⟨qs, rfl, ho, hb⟩
         obtain ⟨qo, qc, rfl, -⟩ := id ho
         have HQs := Lib.hid ho
         have HB3 := Lib.hid ((Below.refl w2.heap.size w2).drew.trans hb)
         clear ho hb)
      | (go_at_call 121; (with_reducible refine (HJ2.out _ _ (HR.out.below HB3.out)).mono ?_); rintro e' w4 ⟨rs, rfl, ho, hb⟩
         obtain ⟨so, sc, rfl, -⟩ := id ho
         have HRs := Lib.hid ho
         have HQ4 := Lib.hid (HQs.out.below hb)
         have HB4 := Lib.hid (HB3.out.trans (hb.mono HB3.out.size))
         obtain ⟨c0, c1, g0, g1⟩ := row2 ((HB4.out.block (w.heap.size + 2) (by have := HLT.out; omega)).trans HR1.out)
         obtain ⟨e0, e1, h0, h1⟩ := row2 ((HB4.out.block (w.heap.size + 3) HLT.out).trans HR2.out)
         clear ho hb)
      | (fail "no arm"))
  have HL := Lib.hid (both_laid (g := w.heap.size + 2) (decide (Q < 0)) (decide (R < 0)) (.slice qo (digs Q.natAbs).length qc) (.slice so (digs R.natAbs).length sc) c0 c1 e0 e1)
  obtain ⟨q0, q1, q2, q3, -⟩ := HL.out
  have HBf := Lib.hid (((((HB2.out.trans (HB4.out.mono HB2.out.size)).setCell (p := ⟨w.heap.size + 2, 0, none⟩) (by simp) (.bool (decide (Q < 0)))).setCell (p := ⟨w.heap.size + 2, 1, none⟩) (by simp) (.slice qo (digs Q.natAbs).length qc)).setCell (p := ⟨w.heap.size + 2 + 1, 0, none⟩) (by simp; omega) (.bool (decide (R < 0)))).setCell (p := ⟨w.heap.size + 2 + 1, 1, none⟩) (by simp; omega) (.slice so (digs R.natAbs).length sc))
  go_wp2
  refine bodyPost_ret (v := .tuple #[.agg #[.bool (decide (Q < 0)), .slice qo (digs Q.natAbs).length qc], .agg #[.bool (decide (R < 0)), .slice so (digs R.natAbs).length sc]]) ?_ rfl ?_
  · simp [results, Tryz.results51, go_sem, q0, q1, q2, q3]
  · exact ⟨_, _, rfl, ⟨_, rfl, HL.out.2.2.2.2 _ _ HQ4.out⟩, ⟨_, rfl, HL.out.2.2.2.2 _ _ HRs.out⟩, HBf.out⟩
set_option maxRecDepth 100000 in
set_option maxHeartbeats 4000000 in
theorem Floor_even (u v : Value) (a b : Int) (w : World) (hu : IsI w u a) (hv : IsI w v b) (ha : (digs a.natAbs).length ≤ 80000) (hb : (digs b.natAbs).length ≤ 80000) (h0 : b ≠ 0) (h : decide (a < 0) ≠ decide (b < 0)) (hr0 : a.natAbs % b.natAbs = 0) :
    Calls Tryz.prog 51 #[u, v] w fun e w' => ∃ q r, e = .returned (.tuple #[q, r]) ∧ IsI w' q (a.fdiv b) ∧ IsI w' r (a.fmod b) ∧ Below w.heap.size w w' := by
  obtain ⟨s, rfl, hs⟩ := hu
  obtain ⟨t, rfl, ht⟩ := hv
  obtain ⟨f1, f2⟩ := floor_near h0 (Or.inr hr0)
  have HD0 := fun W (hW : Below w.heap.size w W) => Div_any s t a.natAbs b.natAbs W (hs.below hW) (ht.below hW) (by omega) (by omega) (by omega)
  have HI1 := fun W c (hc : IsN W c (a.natAbs / b.natAbs)) => Int_ex true c (a.natAbs / b.natAbs) W hc
  rw [show (decide (a < 0) != decide (b < 0)) = true by simp [h]] at f1
  rw [hr0, show signed (decide (b < 0)) 0 = 0 by unfold signed; split <;> rfl] at f2
  rw [hr0] at HD0
  rw [← f1] at HI1
  rw [f2]
  have hpp : (decide (a < 0) == decide (b < 0)) = false := by simp [h]
  clear f1 f2 hr0 h
  obtain ⟨ao, ac, rfl, -⟩ := id hs
  obtain ⟨bo, bc, rfl, -⟩ := id ht
  generalize a.fdiv b = Q at *
  generalize a.natAbs / b.natAbs = qn at *
  generalize decide (a < 0) = p' at *
  generalize decide (b < 0) = p at *
  generalize (digs a.natAbs).length = an at *
  generalize (digs b.natAbs).length = bn at *
  have HD := Lib.hid HD0
  have HJ1 := Lib.hid HI1
  have HB := Lib.hid ((((((Below.refl w.heap.size w).alloc (Nat.le_refl _) (.cells #[.bool p', .slice ao an ac] 57)).alloc (by simp) (.cells #[.bool p, .slice bo bn bc] 57)).alloc (by simp; omega) blankI).alloc (by simp; omega) blankI))
  have HRows := Lib.hid (four_rows w (.cells #[.bool p', .slice ao an ac] 57) (.cells #[.bool p, .slice bo bn bc] 57) blankI blankI)
  clear HD0 HI1 hs ht ha hb h0
  unfold blankI at HB HRows
  have hz0 : (digs 0).length = 0 := by rw [digs_zero]; rfl
  have HZ0 := Lib.hid hz0
  clear hz0
  go_enter Tryz.func51, Tryz.ntmps51
  go_wp2_with (first
    | (go_at_call 34; (with_reducible refine (HD.out _ HB.out).mono ?_); rintro e' w2 ⟨nv, rv, rfl, hn, hr, hb⟩
       obtain ⟨no', nc, rfl, -⟩ := id hn
       obtain ⟨ro', rc, rfl, -⟩ := id hr
       rw [HZ0.out]
       have HN := Lib.hid hn
       have HR := Lib.hid hr
       have HX := Lib.hid ((hb.block w.heap.size (Array.getElem?_eq_some_iff.1 HRows.out.1).1).trans HRows.out.1)
       have HY := Lib.hid ((hb.block (w.heap.size + 1) (Array.getElem?_eq_some_iff.1 HRows.out.2.1).1).trans HRows.out.2.1)
       have HR1 := Lib.hid ((hb.block (w.heap.size + 2) (Array.getElem?_eq_some_iff.1 HRows.out.2.2.1).1).trans HRows.out.2.2.1)
       have HR2 := Lib.hid ((hb.block (w.heap.size + 3) (Array.getElem?_eq_some_iff.1 HRows.out.2.2.2).1).trans HRows.out.2.2.2)
       obtain ⟨x0, -, -, -⟩ := row2 HX.out
       obtain ⟨y0, y1, -, -⟩ := row2 HY.out
       have HB2 := Lib.hid (HB.out.trans (hb.mono HB.out.size))
       clear hn hr hb HD)
    | (go_at_call 121; (with_reducible refine (HJ1.out _ _ HN.out).mono ?_); rintro e' w4 ⟨qs, rfl, ho, hb⟩
       obtain ⟨qo, qc, rfl, -⟩ := id ho
       have HQ4 := Lib.hid ho
       have HB4 := Lib.hid hb
       obtain ⟨c0, c1, g0, g1⟩ := row2 ((hb.block (w.heap.size + 2) (Array.getElem?_eq_some_iff.1 HR1.out).1).trans HR1.out)
       obtain ⟨e0, e1, h0, h1⟩ := row2 ((hb.block (w.heap.size + 3) (Array.getElem?_eq_some_iff.1 HR2.out).1).trans HR2.out)
       clear ho hb)
    | (fail "no arm"))
  have HL := Lib.hid (both_laid (g := w.heap.size + 2) (decide (Q < 0)) false (.slice qo (digs Q.natAbs).length qc) (.slice none 0 0) c0 c1 e0 e1)
  obtain ⟨q0, q1, q2, q3, -⟩ := HL.out
  have HBf := Lib.hid (((((HB2.out.trans (HB4.out.mono HB2.out.size)).setCell (p := ⟨w.heap.size + 2, 0, none⟩) (by simp) (.bool (decide (Q < 0)))).setCell (p := ⟨w.heap.size + 2, 1, none⟩) (by simp) (.slice qo (digs Q.natAbs).length qc)).setCell (p := ⟨w.heap.size + 2 + 1, 0, none⟩) (by simp; omega) (.bool false)).setCell (p := ⟨w.heap.size + 2 + 1, 1, none⟩) (by simp; omega) (.slice none 0 0))
  refine bodyPost_ret (v := .tuple #[.agg #[.bool (decide (Q < 0)), .slice qo (digs Q.natAbs).length qc], .agg #[.bool false, .slice none 0 0]]) ?_ rfl ?_
  · simp [results, Tryz.results51, go_sem, q0, q1, q2, q3]
  · refine ⟨_, _, rfl, ⟨_, rfl, HL.out.2.2.2.2 _ _ HQ4.out⟩, ⟨_, rfl, ?_⟩, HBf.out⟩
    exact ⟨none, 0, by rw [show Int.natAbs 0 = 0 from rfl, digs_zero]; rfl, by rw [show Int.natAbs 0 = 0 from rfl, digs_zero]; exact ⟨Nat.le_refl _, fun _ => rfl⟩, Nat.zero_le _, Or.inl (by rw [show Int.natAbs 0 = 0 from rfl, digs_zero])⟩
set_option maxRecDepth 100000 in
set_option maxHeartbeats 4000000 in
theorem Floor_past (u v : Value) (a b : Int) (w : World) (hu : IsI w u a) (hv : IsI w v b) (ha : (digs a.natAbs).length ≤ 80000) (hb : (digs b.natAbs).length ≤ 80000) (h0 : b ≠ 0) (h : decide (a < 0) ≠ decide (b < 0)) (hr0 : a.natAbs % b.natAbs ≠ 0) :
    Calls Tryz.prog 51 #[u, v] w fun e w' => ∃ q r, e = .returned (.tuple #[q, r]) ∧ IsI w' q (a.fdiv b) ∧ IsI w' r (a.fmod b) ∧ Below w.heap.size w w' := by
  obtain ⟨s, rfl, hs⟩ := hu
  obtain ⟨t, rfl, ht⟩ := hv
  obtain ⟨f1, f2⟩ := floor_past h0 h hr0
  have hql : (digs (a.natAbs / b.natAbs)).length ≤ 80000 := digs_le (Nat.div_le_self _ _) ha
  have hrl := Nat.mod_lt a.natAbs (show b.natAbs > 0 by omega)
  have HD0 := fun W (hW : Below w.heap.size w W) => Div_any s t a.natAbs b.natAbs W (hs.below hW) (ht.below hW) (by omega) (by omega) (by omega)
  have HA0 := fun W c d (hc : IsN W c (a.natAbs / b.natAbs)) (hd : IsN W d 1) => Add_any c d (a.natAbs / b.natAbs) 1 W hc hd (by omega) (by rw [show digs 1 = [1] by decide +kernel]; simp)
  have HS0 := fun W c (hW : Below w.heap.size w W) (hc : IsN W c (a.natAbs % b.natAbs)) => Sub_any t c b.natAbs (a.natAbs % b.natAbs) W (ht.below hW) hc (by omega) (by omega)
  have HU := Lib.hid (fun W => OfU_int 1 1 rfl (by decide) W)
  have HI1 := fun W c (hc : IsN W c (a.natAbs / b.natAbs + 1)) => Int_ex true c (a.natAbs / b.natAbs + 1) W hc
  have HI2 := fun W c (hc : IsN W c (b.natAbs - a.natAbs % b.natAbs)) => Int_ex (decide (b < 0)) c (b.natAbs - a.natAbs % b.natAbs) W hc
  rw [← f1] at HI1
  rw [← f2] at HI2
  have hpp : (decide (a < 0) == decide (b < 0)) = false := by simp [h]
  have hrn : (((digs (a.natAbs % b.natAbs)).length : Int) == 0) = false := by
    have := digs_len_zero (a.natAbs % b.natAbs)
    simp only [beq_eq_false_iff_ne, ne_eq]
    omega
  clear f1 f2 h hql hrl hr0
  obtain ⟨ao, ac, rfl, -⟩ := id hs
  obtain ⟨bo, bc, rfl, -⟩ := id ht
  generalize a.fdiv b = Q at *
  generalize a.fmod b = R at *
  generalize a.natAbs / b.natAbs + 1 = qn1 at *
  generalize b.natAbs - a.natAbs % b.natAbs = rn1 at *
  generalize a.natAbs / b.natAbs = qn at *
  generalize a.natAbs % b.natAbs = rn at *
  generalize decide (a < 0) = p' at *
  generalize decide (b < 0) = p at *
  generalize hrnl : (digs rn).length = rnl at *
  have HRNL := Lib.hid hrnl
  clear hrnl
  generalize (digs a.natAbs).length = an at *
  generalize (digs b.natAbs).length = bn at *
  have HD := Lib.hid HD0
  have HJ1 := Lib.hid HI1
  have HJ2 := Lib.hid HI2
  have HA := Lib.hid HA0
  have HS := Lib.hid HS0
  have HB := Lib.hid ((((((Below.refl w.heap.size w).alloc (Nat.le_refl _) (.cells #[.bool p', .slice ao an ac] 57)).alloc (by simp) (.cells #[.bool p, .slice bo bn bc] 57)).alloc (by simp; omega) blankI).alloc (by simp; omega) blankI))
  have HRows := Lib.hid (four_rows w (.cells #[.bool p', .slice ao an ac] 57) (.cells #[.bool p, .slice bo bn bc] 57) blankI blankI)
  clear HD0 HI1 HI2 HA0 HS0 hs ht ha hb h0
  unfold blankI at HB HRows
  go_enter Tryz.func51, Tryz.ntmps51
  go_wp2_with (first
    | (go_at_call 34; (with_reducible refine (HD.out _ HB.out).mono ?_); rintro e' w2 ⟨nv, rv, rfl, hn, hr, hb⟩
       obtain ⟨no', nc, rfl, -⟩ := id hn
       obtain ⟨ro', rc, rfl, -⟩ := id hr
       rw [HRNL.out]
       rw [HRNL.out] at hr
       have HN := Lib.hid hn
       have HR := Lib.hid hr
       have HX := Lib.hid ((hb.block w.heap.size (Array.getElem?_eq_some_iff.1 HRows.out.1).1).trans HRows.out.1)
       have HY := Lib.hid ((hb.block (w.heap.size + 1) (Array.getElem?_eq_some_iff.1 HRows.out.2.1).1).trans HRows.out.2.1)
       have HR1 := Lib.hid ((hb.block (w.heap.size + 2) (Array.getElem?_eq_some_iff.1 HRows.out.2.2.1).1).trans HRows.out.2.2.1)
       have HR2 := Lib.hid ((hb.block (w.heap.size + 3) (Array.getElem?_eq_some_iff.1 HRows.out.2.2.2).1).trans HRows.out.2.2.2)
       obtain ⟨x0, -, -, -⟩ := row2 HX.out
       obtain ⟨y0, y1, -, -⟩ := row2 HY.out
       have HB2 := Lib.hid (HB.out.trans (hb.mono HB.out.size))
       clear hn hr hb HD)
    | (fail "no arm"))
  have HLT := Lib.hid (Array.getElem?_eq_some_iff.1 HR2.out).1
  have HOLDS := Lib.hid (fun W (hW : Below (w.heap.size + 2) w2 W) => (show W.cell? ⟨w.heap.size + 1, 0, none⟩ = some (.bool p) ∧ W.cell? ⟨w.heap.size + 1, 1, none⟩ = some (.slice bo bn bc) from by
    obtain ⟨k0, k1, -⟩ := row2 ((hW.block (w.heap.size + 1) (by omega)).trans HY.out)
    exact ⟨k0, k1⟩))
  clear x0 y0 y1
  have hle : w.heap.size + 2 ≤ w2.heap.size := by have := HLT.out; omega
  go_region_held3 (fun w' => Below (w.heap.size + 2) w2 w' ∧ w'.cell? ⟨w.heap.size + 1, 0, none⟩ = some (.bool p) ∧ w'.cell? ⟨w.heap.size + 1, 1, none⟩ = some (.slice bo bn bc))
    (first
      | exact ⟨(Below.refl _ _).drew, HOLDS.out _ (Below.refl _ _).drew⟩
      | exact ⟨HB7.out.mono hle, HOLDS.out _ (HB7.out.mono hle)⟩
      | exact ⟨HB6.out.mono hle, HOLDS.out _ (HB6.out.mono hle)⟩
      | exact ⟨HB5.out.mono hle, HOLDS.out _ (HB5.out.mono hle)⟩
      | exact ⟨HB4.out.mono hle, HOLDS.out _ (HB4.out.mono hle)⟩
      | exact ⟨HB3.out.mono hle, HOLDS.out _ (HB3.out.mono hle)⟩
      | exact ⟨((HB7.out.mono hle).setCell (Nat.le_refl _) _).setCell (Nat.le_refl _) _, HOLDS.out _ (((HB7.out.mono hle).setCell (Nat.le_refl _) _).setCell (Nat.le_refl _) _)⟩
      | exact ⟨((((HB7.out.mono hle).setCell (Nat.le_refl _) _).setCell (Nat.le_refl _) _).setCell (by simp) _).setCell (by simp) _, HOLDS.out _ (((((HB7.out.mono hle).setCell (Nat.le_refl _) _).setCell (Nat.le_refl _) _).setCell (by simp) _).setCell (by simp) _)⟩)
    (first
      | (go_at_call 48; (with_reducible refine (HU.out _).mono ?_); rintro e' w3 ⟨one, rfl, ho, hb⟩
         have HO := Lib.hid ho
         have HB3 := Lib.hid ((Below.refl w2.heap.size w2).drew.trans hb)
         clear ho hb)
      | (go_at_call 36; (with_reducible refine (HA.out _ _ _ (HN.out.below HB3.out) HO.out).mono ?_); rintro e' w4 ⟨qq, rfl, ho, hb⟩
         have HQ1 := Lib.hid ho
         have HB4 := Lib.hid (HB3.out.trans (hb.mono HB3.out.size))
         clear ho hb)
      | (go_at_call 121; (with_reducible refine (HJ1.out _ _ HQ1.out).mono ?_); rintro e' w5 ⟨qs, rfl, ho, hb⟩
         obtain ⟨qo, qc, rfl, -⟩ := id ho
         have HQs := Lib.hid ho
         have HB5 := Lib.hid (HB4.out.trans (hb.mono HB4.out.size))
         clear ho hb)
      | (go_at_call 31; (with_reducible refine (HS.out _ _ (HB2.out.trans (HB5.out.mono HB2.out.size)) (HR.out.below HB5.out)).mono ?_); rintro e' w6 ⟨rr, rfl, ho, hb⟩
         have HRr := Lib.hid ho
         have HQs6 := Lib.hid (HQs.out.below hb)
         have HB6 := Lib.hid (HB5.out.trans (hb.mono HB5.out.size))
         clear ho hb)
      | (go_at_call 121; (with_reducible refine (HJ2.out _ _ HRr.out).mono ?_); rintro e' w7 ⟨rs, rfl, ho, hb⟩
         obtain ⟨so, sc, rfl, -⟩ := id ho
         have HRs := Lib.hid ho
         have HQ4 := Lib.hid (HQs6.out.below hb)
         have HB7 := Lib.hid (HB6.out.trans (hb.mono HB6.out.size))
         obtain ⟨c0, c1, g0, g1⟩ := row2 ((HB7.out.block (w.heap.size + 2) (by have := HLT.out; omega)).trans HR1.out)
         obtain ⟨e0, e1, h0, h1⟩ := row2 ((HB7.out.block (w.heap.size + 3) HLT.out).trans HR2.out)
         clear ho hb)
      | (fail "no arm"))
  have HL := Lib.hid (both_laid (g := w.heap.size + 2) (decide (Q < 0)) (decide (R < 0)) (.slice qo (digs Q.natAbs).length qc) (.slice so (digs R.natAbs).length sc) c0 c1 e0 e1)
  obtain ⟨q0, q1, q2, q3, -⟩ := HL.out
  have HBf := Lib.hid (((((HB2.out.trans (HB7.out.mono HB2.out.size)).setCell (p := ⟨w.heap.size + 2, 0, none⟩) (by simp) (.bool (decide (Q < 0)))).setCell (p := ⟨w.heap.size + 2, 1, none⟩) (by simp) (.slice qo (digs Q.natAbs).length qc)).setCell (p := ⟨w.heap.size + 2 + 1, 0, none⟩) (by simp; omega) (.bool (decide (R < 0)))).setCell (p := ⟨w.heap.size + 2 + 1, 1, none⟩) (by simp; omega) (.slice so (digs R.natAbs).length sc))
  go_wp2
  refine bodyPost_ret (v := .tuple #[.agg #[.bool (decide (Q < 0)), .slice qo (digs Q.natAbs).length qc], .agg #[.bool (decide (R < 0)), .slice so (digs R.natAbs).length sc]]) ?_ rfl ?_
  · simp [results, Tryz.results51, go_sem, q0, q1, q2, q3]
  · exact ⟨_, _, rfl, ⟨_, rfl, HL.out.2.2.2.2 _ _ HQ4.out⟩, ⟨_, rfl, HL.out.2.2.2.2 _ _ HRs.out⟩, HBf.out⟩
theorem Floor_any (u v : Value) (a b : Int) (w : World) (hu : IsI w u a) (hv : IsI w v b) (ha : (digs a.natAbs).length ≤ 80000) (hb : (digs b.natAbs).length ≤ 80000) (h0 : b ≠ 0) :
    Calls Tryz.prog 51 #[u, v] w fun e w' => ∃ q r, e = .returned (.tuple #[q, r]) ∧ IsI w' q (a.fdiv b) ∧ IsI w' r (a.fmod b) ∧ Below w.heap.size w w' := by
  by_cases h : decide (a < 0) = decide (b < 0)
  · exact Floor_same u v a b w hu hv ha hb h0 h
  · by_cases h1 : a.natAbs % b.natAbs = 0
    · exact Floor_even u v a b w hu hv ha hb h0 h h1
    · exact Floor_past u v a b w hu hv ha hb h0 h h1
end Go.Proofs.YtfpooimjjpamoaaGreatDoor.ref
namespace Go.Proofs.YtfpooimjjpamoaaGreatDoor.law2
open Go.RowKit Go.Proofs.YtfpooimjjpamoaaGreatDoor.nat
open Go.Proofs.YtfpooimjjpamoaaGreatDoor.ref (str str_size Numeral seg seg_lt)
theorem Rd_set3 {w : World} {sv u : Value} {l : List Nat} {g k : Nat} {p : Bool} {a a' : Option Addr} {n c n' c' : Nat} {t : TypeId} (h : Rd w sv l) (hg : w.heap[g]? = some (.cells #[.bool p, .slice a n c, .slice a' n' c'] t (0, 0))) : Rd (w.setCell ⟨g, k, none⟩ u) sv l := by
  refine h.kept (grown_set w g k u) ?_
  obtain ⟨ao, cap, rfl, h1, h2, h3⟩ := h
  rintro ad m c' he hm
  simp only [Value.slice.injEq] at he
  obtain ⟨rfl, rfl, rfl⟩ := he
  rcases h3 with rfl | ⟨b, off, hb, hc⟩
  · simp at hm
  · simp only [Option.some.injEq] at hb
    subst hb
    rintro rfl
    have h4 := hc 0 hm
    rw [cell_of_row _ _ _ _ t (0, 0) hg] at h4
    rcases hoff : off + 0 with _ | _ | _ | _
    all_goals
      rw [hoff] at h4
      simp at h4
def QRow (w : World) (g : Nat) : Prop := ∃ p a n c a' n' c', w.heap[g]? = some (.cells #[.bool p, .slice a n c, .slice a' n' c'] 86 (0, 0))
theorem QRow.rd {w : World} {sv u : Value} {l : List Nat} {g k : Nat} (h : Rd w sv l) (hg : QRow w g) : Rd (w.setCell ⟨g, k, none⟩ u) sv l := by
  obtain ⟨p, a, n, c, a', n', c', hg⟩ := hg
  exact Rd_set3 h hg
theorem QRow.at {w : World} {g o : Nat} {p : Bool} (hg : QRow w g) (h : w.cell? ⟨g, o, none⟩ = some (.bool p)) : o = 0 := by
  obtain ⟨p, a, n, c, a', n', c', hg⟩ := hg
  rw [cell_of_row _ _ _ _ _ (0, 0) hg] at h
  rcases o with _ | _ | _ | _
  · rfl
  all_goals simp at h
end Go.Proofs.YtfpooimjjpamoaaGreatDoor.law2
namespace Go.Proofs.YtfpooimjjpamoaaGreatDoor.rat
open Go.RowKit Go.Proofs.YtfpooimjjpamoaaGreatDoor.nat Go.Proofs.YtfpooimjjpamoaaGreatDoor.num
open Go.Proofs.YtfpooimjjpamoaaGreatDoor.ref (str str_size IntText Numeral seg seg_lt)
theorem Ln_tens {x n m : Nat} (h : x < 10 ^ n) (hn : n ≤ m) : Ln x m :=
  Ln_pow (Nat.lt_of_lt_of_le h (Nat.le_trans (Nat.pow_le_pow_right (by omega) hn) (Nat.pow_le_pow_left (by omega) _)))
def FracText (l : List UInt8) (q : Rat) : Prop := (IntText l q.num ∧ q.den = 1) ∨ ∃ a b, l = a ++ 47 :: b ∧ IntText a q.num ∧ IntText b (q.den : Int) ∧ 1 < q.den
end Go.Proofs.YtfpooimjjpamoaaGreatDoor.rat
namespace Go.Proofs.YtfpooimjjpamoaaGreatDoor.ref
open Go.RowKit
theorem MadeQ.row {V w3 : World} (h : MadeQ V w3) : w3.heap[V.heap.size]? = some (.cells #[.bool false, .slice none 0 0, .slice none 0 0] 86 (0, 0)) :=
  (Below.block h V.heap.size (by simp)).trans (heap_alloc_new V _)
end Go.Proofs.YtfpooimjjpamoaaGreatDoor.ref
