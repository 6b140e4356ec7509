/-
  The steps of the walks, part 14: Apply.
-/
import Derived.Test.YtfpooimjjpamoaaGreatDoorM13
namespace Go.Proofs.YtfpooimjjpamoaaGreatDoor.nat
open Go.RowKit
set_option maxRecDepth 100000 in
set_option maxHeartbeats 4000000 in
theorem apply_even (sx sy : Value) (x y : List Nat) (oX oY nX nY P Q : Nat) (w : World) (hx : Rd w sx x) (hy : Rd w sy y) (hdx : Dig x) (hdy : Dig y) (hs : x.length ≤ 900000) (ht : y.length ≤ 900000) (hb : oX < 18446744073709551616 ∧ oY < 18446744073709551616 ∧ nX < 18446744073709551616 ∧ nY < 18446744073709551616)
    (hP : P + val y * oY = val x * oX) (hQ : Q + val x * nX = val y * nY) :
    Calls Tryz.prog 161 #[.agg #[.int .u64 (oX : Nat), .int .u64 (oY : Nat), .int .u64 (nX : Nat), .int .u64 (nY : Nat), .bool true], sx, sy] w fun e' w' => ∃ sa sb, e' = .returned (.tuple #[sa, sb]) ∧ (Own w' w.heap.size sa (digs P) ∧ Own w' w.heap.size sb (digs Q)) ∧ Below w.heap.size w w' := by
  obtain ⟨b1, b2, b3, b4⟩ := hb
  have HBa := Lib.hid ((Below.refl w.heap.size w).alloc (Nat.le_refl _) (five oX oY nX nY true))
  have HX := Lib.hid hx
  have HY := Lib.hid hy
  have M1 := Lib.hid (fun (w' : World) (hb : Below w.heap.size w w') => mix_any sx sy x y oX oY w' (hx.below hb) (hy.below hb) hdx hdy (by omega) (by omega) (by omega) (by omega) (by omega))
  have M2 := Lib.hid (fun (w' : World) (hb : Below w.heap.size w w') => mix_any sy sx y x nY nX w' (hy.below hb) (hx.below hb) hdy hdx (by omega) (by omega) (by omega) (by omega) (by omega))
  rw [show val x * oX - val y * oY = P by omega] at M1
  rw [show val y * nY - val x * nX = Q by omega] at M2
  obtain ⟨ao, xcap, rfl, -⟩ := id hx
  obtain ⟨bo, ycap, rfl, -⟩ := id hy
  obtain ⟨N, hN⟩ : ∃ N, x.length = N := ⟨_, rfl⟩
  obtain ⟨M, hM⟩ : ∃ M, y.length = M := ⟨_, rfl⟩
  rw [hN, hM] at M1 M2 ⊢
  obtain ⟨c0, c1, c2, c3, c4, -⟩ := five_cells (heap_alloc_new w (five oX oY nX nY true))
  have HSZ := Lib.hid (show (w.alloc (five oX oY nX nY true)).heap.size = w.heap.size + 1 by simp)
  clear hx hy hP hQ hs ht hN hM
  unfold five at HBa c0 c1 c2 c3 c4 HSZ
  go_enter Tryz.func161, Tryz.ntmps161
  go_wp2
  revert HBa c0 c1 c2 c3 c4 HSZ
  generalize w.alloc (Obj.cells #[Value.int .u64 (oX : Nat), .int .u64 (oY : Nat), .int .u64 (nX : Nat), .int .u64 (nY : Nat), .bool true] 189 (0, 0)) = w1
  intro HBa c0 c1 c2 c3 c4 HSZ
  go_region_held3 (fun w' => w'.cell? ⟨w.heap.size, 0, none⟩ = some (.int .u64 (oX : Nat)) ∧ w'.cell? ⟨w.heap.size, 1, none⟩ = some (.int .u64 (oY : Nat)) ∧ w'.cell? ⟨w.heap.size, 2, none⟩ = some (.int .u64 (nX : Nat)) ∧ w'.cell? ⟨w.heap.size, 3, none⟩ = some (.int .u64 (nY : Nat)))
    (first | exact ⟨‹_›, ‹_›, ‹_›, ‹_›⟩ | exact ⟨c0, c1, c2, c3⟩ | go_keep)
    (first
      | (go_at_call 193; with_reducible refine (M1.out _ HBa.out.drew).mono ?_; rintro e' w2 ⟨sa, rfl, ho, hb2⟩
         have HOA := Lib.hid ho
         have HB2 := Lib.hid (HBa.out.drew.trans (hb2.mono HBa.out.size))
         have d0 := (hb2.cell (p := ⟨w.heap.size, 0, none⟩) (show w.heap.size < w1.heap.size by rw [HSZ.out]; omega)).trans c0
         have d1 := (hb2.cell (p := ⟨w.heap.size, 1, none⟩) (show w.heap.size < w1.heap.size by rw [HSZ.out]; omega)).trans c1
         have d2 := (hb2.cell (p := ⟨w.heap.size, 2, none⟩) (show w.heap.size < w1.heap.size by rw [HSZ.out]; omega)).trans c2
         have d3 := (hb2.cell (p := ⟨w.heap.size, 3, none⟩) (show w.heap.size < w1.heap.size by rw [HSZ.out]; omega)).trans c3
         clear M1 ho hb2)
      | (go_at_call 193; with_reducible refine (M2.out _ HB2.out).mono ?_; rintro e' w3 ⟨sb, rfl, ho, hb3⟩
         have HOB := Lib.hid (ho.mono (B' := w.heap.size) HB2.out.size)
         have HOA3 := Lib.hid ((HOA.out.below hb3).mono (B' := w.heap.size) HBa.out.size)
         have HB3 := Lib.hid (HB2.out.trans (hb3.mono HB2.out.size))
         have f0 := (hb3.cell (cell_lt d0)).trans d0
         have f1 := (hb3.cell (cell_lt d1)).trans d1
         have f2 := (hb3.cell (cell_lt d2)).trans d2
         have f3 := (hb3.cell (cell_lt d3)).trans d3
         clear M2 ho hb3))
  go_wp2
  go_ret2
  exact ⟨_, _, rfl, ⟨HOA3.out, HOB.out⟩, HB3.out⟩
set_option maxRecDepth 100000 in
set_option maxHeartbeats 4000000 in
theorem apply_odd (sx sy : Value) (x y : List Nat) (oX oY nX nY P Q : Nat) (w : World) (hx : Rd w sx x) (hy : Rd w sy y) (hdx : Dig x) (hdy : Dig y) (hs : x.length ≤ 900000) (ht : y.length ≤ 900000) (hb : oX < 18446744073709551616 ∧ oY < 18446744073709551616 ∧ nX < 18446744073709551616 ∧ nY < 18446744073709551616)
    (hP : P + val x * oX = val y * oY) (hQ : Q + val y * nY = val x * nX) :
    Calls Tryz.prog 161 #[.agg #[.int .u64 (oX : Nat), .int .u64 (oY : Nat), .int .u64 (nX : Nat), .int .u64 (nY : Nat), .bool false], sx, sy] w fun e' w' => ∃ sa sb, e' = .returned (.tuple #[sa, sb]) ∧ (Own w' w.heap.size sa (digs P) ∧ Own w' w.heap.size sb (digs Q)) ∧ Below w.heap.size w w' := by
  obtain ⟨b1, b2, b3, b4⟩ := hb
  have HBa := Lib.hid ((Below.refl w.heap.size w).alloc (Nat.le_refl _) (five oX oY nX nY false))
  have HX := Lib.hid hx
  have HY := Lib.hid hy
  have M1 := Lib.hid (fun (w' : World) (hb : Below w.heap.size w w') => mix_any sy sx y x oY oX w' (hy.below hb) (hx.below hb) hdy hdx (by omega) (by omega) (by omega) (by omega) (by omega))
  have M2 := Lib.hid (fun (w' : World) (hb : Below w.heap.size w w') => mix_any sx sy x y nX nY w' (hx.below hb) (hy.below hb) hdx hdy (by omega) (by omega) (by omega) (by omega) (by omega))
  rw [show val y * oY - val x * oX = P by omega] at M1
  rw [show val x * nX - val y * nY = Q by omega] at M2
  obtain ⟨ao, xcap, rfl, -⟩ := id hx
  obtain ⟨bo, ycap, rfl, -⟩ := id hy
  obtain ⟨N, hN⟩ : ∃ N, x.length = N := ⟨_, rfl⟩
  obtain ⟨M, hM⟩ : ∃ M, y.length = M := ⟨_, rfl⟩
  rw [hN, hM] at M1 M2 ⊢
  obtain ⟨c0, c1, c2, c3, c4, -⟩ := five_cells (heap_alloc_new w (five oX oY nX nY false))
  have HSZ := Lib.hid (show (w.alloc (five oX oY nX nY false)).heap.size = w.heap.size + 1 by simp)
  clear hx hy hP hQ hs ht hN hM
  unfold five at HBa c0 c1 c2 c3 c4 HSZ
  go_enter Tryz.func161, Tryz.ntmps161
  go_wp2
  revert HBa c0 c1 c2 c3 c4 HSZ
  generalize w.alloc (Obj.cells #[Value.int .u64 (oX : Nat), .int .u64 (oY : Nat), .int .u64 (nX : Nat), .int .u64 (nY : Nat), .bool false] 189 (0, 0)) = w1
  intro HBa c0 c1 c2 c3 c4 HSZ
  go_region_held3 (fun w' => w'.cell? ⟨w.heap.size, 0, none⟩ = some (.int .u64 (oX : Nat)) ∧ w'.cell? ⟨w.heap.size, 1, none⟩ = some (.int .u64 (oY : Nat)) ∧ w'.cell? ⟨w.heap.size, 2, none⟩ = some (.int .u64 (nX : Nat)) ∧ w'.cell? ⟨w.heap.size, 3, none⟩ = some (.int .u64 (nY : Nat)))
    (first | exact ⟨‹_›, ‹_›, ‹_›, ‹_›⟩ | exact ⟨c0, c1, c2, c3⟩ | go_keep)
    (first
      | (go_at_call 193; with_reducible refine (M1.out _ HBa.out.drew).mono ?_; rintro e' w2 ⟨sa, rfl, ho, hb2⟩
         have HOA := Lib.hid ho
         have HB2 := Lib.hid (HBa.out.drew.trans (hb2.mono HBa.out.size))
         have d0 := (hb2.cell (p := ⟨w.heap.size, 0, none⟩) (show w.heap.size < w1.heap.size by rw [HSZ.out]; omega)).trans c0
         have d1 := (hb2.cell (p := ⟨w.heap.size, 1, none⟩) (show w.heap.size < w1.heap.size by rw [HSZ.out]; omega)).trans c1
         have d2 := (hb2.cell (p := ⟨w.heap.size, 2, none⟩) (show w.heap.size < w1.heap.size by rw [HSZ.out]; omega)).trans c2
         have d3 := (hb2.cell (p := ⟨w.heap.size, 3, none⟩) (show w.heap.size < w1.heap.size by rw [HSZ.out]; omega)).trans c3
         clear M1 ho hb2)
      | (go_at_call 193; with_reducible refine (M2.out _ HB2.out).mono ?_; rintro e' w3 ⟨sb, rfl, ho, hb3⟩
         have HOB := Lib.hid (ho.mono (B' := w.heap.size) HB2.out.size)
         have HOA3 := Lib.hid ((HOA.out.below hb3).mono (B' := w.heap.size) HBa.out.size)
         have HB3 := Lib.hid (HB2.out.trans (hb3.mono HB2.out.size))
         have f0 := (hb3.cell (cell_lt d0)).trans d0
         have f1 := (hb3.cell (cell_lt d1)).trans d1
         have f2 := (hb3.cell (cell_lt d2)).trans d2
         have f3 := (hb3.cell (cell_lt d3)).trans d3
         clear M2 ho hb3))
  go_wp2
  go_ret2
  exact ⟨_, _, rfl, ⟨HOA3.out, HOB.out⟩, HB3.out⟩
theorem apply_any (sx sy : Value) (x y : List Nat) (e : Bool) (oX oY nX nY : Nat) (w : World) (hx : Rd w sx x) (hy : Rd w sy y) (hdx : Dig x) (hdy : Dig y) (hs : x.length ≤ 900000) (ht : y.length ≤ 900000) (hb : oX < 18446744073709551616 ∧ oY < 18446744073709551616 ∧ nX < 18446744073709551616 ∧ nY < 18446744073709551616)
    (hO : OldOK (val x) (val y) e oX oY nX nY) :
    Calls Tryz.prog 161 #[.agg #[.int .u64 (oX : Nat), .int .u64 (oY : Nat), .int .u64 (nX : Nat), .int .u64 (nY : Nat), .bool e], sx, sy] w fun e' w' => ∃ P Q sa sb, e' = .returned (.tuple #[sa, sb]) ∧ (Q < P ∧ P ≤ val y ∧ Nat.gcd P Q = Nat.gcd (val x) (val y) ∧ Own w' w.heap.size sa (digs P) ∧ Own w' w.heap.size sb (digs Q)) ∧ Below w.heap.size w w' := by
  obtain ⟨P, Q, hP, hQ, h1, h2, h3, h4⟩ := hO
  have hg := OldOK.gcd hP hQ h3 h4
  cases e
  · have p := hP.2 rfl
    have q := hQ.1 rfl
    refine (apply_odd sx sy x y oX oY nX nY P Q w hx hy hdx hdy hs ht hb (by rw [Nat.mul_comm (val x), Nat.mul_comm (val y)]; exact p) (by rw [Nat.mul_comm (val x), Nat.mul_comm (val y)]; exact q)).mono ?_
    rintro e' w' ⟨sa, sb, rfl, ⟨ha, hb⟩, hbl⟩
    exact ⟨P, Q, sa, sb, rfl, ⟨h1, h2, hg, ha, hb⟩, hbl⟩
  · have p := hP.1 rfl
    have q := hQ.2 rfl
    refine (apply_even sx sy x y oX oY nX nY P Q w hx hy hdx hdy hs ht hb (by rw [Nat.mul_comm (val x), Nat.mul_comm (val y)]; exact p) (by rw [Nat.mul_comm (val x), Nat.mul_comm (val y)]; exact q)).mono ?_
    rintro e' w' ⟨sa, sb, rfl, ⟨ha, hb⟩, hbl⟩
    exact ⟨P, Q, sa, sb, rfl, ⟨h1, h2, hg, ha, hb⟩, hbl⟩
end Go.Proofs.YtfpooimjjpamoaaGreatDoor.nat
