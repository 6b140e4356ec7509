/-
  The steps of the walks, part 24: Apply, Divisor.
-/
import Derived.Test.YtlhmfgbaefaneabGreatDoorB23
namespace Go.Proofs.YtlhmfgbaefaneabGreatDoor.nat
open Go.RowKit
set_option maxRecDepth 100000 in
set_option maxHeartbeats 4000000 in
theorem apply_even (sx sy : Value) (x y : List Nat) (oX oY nX nY P Q : Nat) (w : World) (hx : Rd w sx x) (hy : Rd w sy y) (hdx : Dig x) (hdy : Dig y) (hs : x.length ≤ 900000) (ht : y.length ≤ 900000) (hb : oX < 18446744073709551616 ∧ oY < 18446744073709551616 ∧ nX < 18446744073709551616 ∧ nY < 18446744073709551616)
    (hP : P + val y * oY = val x * oX) (hQ : Q + val x * nX = val y * nY) :
    Calls Tryz.prog 180 #[.agg #[.int .u64 (oX : Nat), .int .u64 (oY : Nat), .int .u64 (nX : Nat), .int .u64 (nY : Nat), .bool true], sx, sy] w fun e' w' => ∃ sa sb, e' = .returned (.tuple #[sa, sb]) ∧ (Own w' w.heap.size sa (digs P) ∧ Own w' w.heap.size sb (digs Q)) ∧ Below w.heap.size w w' := by
  obtain ⟨b1, b2, b3, b4⟩ := hb
  have HBa := Lib.hid ((Below.refl w.heap.size w).alloc (Nat.le_refl _) (five oX oY nX nY true))
  have HX := Lib.hid hx
  have HY := Lib.hid hy
  have M1 := Lib.hid (fun (w' : World) (hb : Below w.heap.size w w') => mix_any sx sy x y oX oY w' (hx.below hb) (hy.below hb) hdx hdy (by omega) (by omega) (by omega) (by omega) (by omega))
  have M2 := Lib.hid (fun (w' : World) (hb : Below w.heap.size w w') => mix_any sy sx y x nY nX w' (hy.below hb) (hx.below hb) hdy hdx (by omega) (by omega) (by omega) (by omega) (by omega))
  rw [show val x * oX - val y * oY = P by omega] at M1
  rw [show val y * nY - val x * nX = Q by omega] at M2
  obtain ⟨ao, xcap, rfl, -⟩ := id hx
  obtain ⟨bo, ycap, rfl, -⟩ := id hy
  obtain ⟨N, hN⟩ : ∃ N, x.length = N := ⟨_, rfl⟩
  obtain ⟨M, hM⟩ : ∃ M, y.length = M := ⟨_, rfl⟩
  rw [hN, hM] at M1 M2 ⊢
  obtain ⟨c0, c1, c2, c3, c4, -⟩ := five_cells (heap_alloc_new w (five oX oY nX nY true))
  have HSZ := Lib.hid (show (w.alloc (five oX oY nX nY true)).heap.size = w.heap.size + 1 by simp)
  clear hx hy hP hQ hs ht hN hM
  unfold five at HBa c0 c1 c2 c3 c4 HSZ
  go_enter Tryz.func180, Tryz.ntmps180
  go_wp2
  revert HBa c0 c1 c2 c3 c4 HSZ
  generalize w.alloc (Obj.cells #[Value.int .u64 (oX : Nat), .int .u64 (oY : Nat), .int .u64 (nX : Nat), .int .u64 (nY : Nat), .bool true] 191 (0, 0)) = w1
  intro HBa c0 c1 c2 c3 c4 HSZ
  go_region_held3 (fun w' => w'.cell? ⟨w.heap.size, 0, none⟩ = some (.int .u64 (oX : Nat)) ∧ w'.cell? ⟨w.heap.size, 1, none⟩ = some (.int .u64 (oY : Nat)) ∧ w'.cell? ⟨w.heap.size, 2, none⟩ = some (.int .u64 (nX : Nat)) ∧ w'.cell? ⟨w.heap.size, 3, none⟩ = some (.int .u64 (nY : Nat)))
    (first | exact ⟨‹_›, ‹_›, ‹_›, ‹_›⟩ | exact ⟨c0, c1, c2, c3⟩ | go_keep)
    (first
      | (go_at_call 221; with_reducible refine (M1.out _ HBa.out.drew).mono ?_; rintro e' w2 ⟨sa, rfl, ho, hb2⟩
         have HOA := Lib.hid ho
         have HB2 := Lib.hid (HBa.out.drew.trans (hb2.mono HBa.out.size))
         have d0 := (hb2.cell (p := ⟨w.heap.size, 0, none⟩) (show w.heap.size < w1.heap.size by rw [HSZ.out]; omega)).trans c0
         have d1 := (hb2.cell (p := ⟨w.heap.size, 1, none⟩) (show w.heap.size < w1.heap.size by rw [HSZ.out]; omega)).trans c1
         have d2 := (hb2.cell (p := ⟨w.heap.size, 2, none⟩) (show w.heap.size < w1.heap.size by rw [HSZ.out]; omega)).trans c2
         have d3 := (hb2.cell (p := ⟨w.heap.size, 3, none⟩) (show w.heap.size < w1.heap.size by rw [HSZ.out]; omega)).trans c3
         clear M1 ho hb2)
      | (go_at_call 221; with_reducible refine (M2.out _ HB2.out).mono ?_; rintro e' w3 ⟨sb, rfl, ho, hb3⟩
         have HOB := Lib.hid (ho.mono (B' := w.heap.size) HB2.out.size)
         have HOA3 := Lib.hid ((HOA.out.below hb3).mono (B' := w.heap.size) HBa.out.size)
         have HB3 := Lib.hid (HB2.out.trans (hb3.mono HB2.out.size))
         have f0 := (hb3.cell (cell_lt d0)).trans d0
         have f1 := (hb3.cell (cell_lt d1)).trans d1
         have f2 := (hb3.cell (cell_lt d2)).trans d2
         have f3 := (hb3.cell (cell_lt d3)).trans d3
         clear M2 ho hb3))
  go_wp2
  go_ret2
  exact ⟨_, _, rfl, ⟨HOA3.out, HOB.out⟩, HB3.out⟩
set_option maxRecDepth 100000 in
set_option maxHeartbeats 4000000 in
theorem apply_odd (sx sy : Value) (x y : List Nat) (oX oY nX nY P Q : Nat) (w : World) (hx : Rd w sx x) (hy : Rd w sy y) (hdx : Dig x) (hdy : Dig y) (hs : x.length ≤ 900000) (ht : y.length ≤ 900000) (hb : oX < 18446744073709551616 ∧ oY < 18446744073709551616 ∧ nX < 18446744073709551616 ∧ nY < 18446744073709551616)
    (hP : P + val x * oX = val y * oY) (hQ : Q + val y * nY = val x * nX) :
    Calls Tryz.prog 180 #[.agg #[.int .u64 (oX : Nat), .int .u64 (oY : Nat), .int .u64 (nX : Nat), .int .u64 (nY : Nat), .bool false], sx, sy] w fun e' w' => ∃ sa sb, e' = .returned (.tuple #[sa, sb]) ∧ (Own w' w.heap.size sa (digs P) ∧ Own w' w.heap.size sb (digs Q)) ∧ Below w.heap.size w w' := by
  obtain ⟨b1, b2, b3, b4⟩ := hb
  have HBa := Lib.hid ((Below.refl w.heap.size w).alloc (Nat.le_refl _) (five oX oY nX nY false))
  have HX := Lib.hid hx
  have HY := Lib.hid hy
  have M1 := Lib.hid (fun (w' : World) (hb : Below w.heap.size w w') => mix_any sy sx y x oY oX w' (hy.below hb) (hx.below hb) hdy hdx (by omega) (by omega) (by omega) (by omega) (by omega))
  have M2 := Lib.hid (fun (w' : World) (hb : Below w.heap.size w w') => mix_any sx sy x y nX nY w' (hx.below hb) (hy.below hb) hdx hdy (by omega) (by omega) (by omega) (by omega) (by omega))
  rw [show val y * oY - val x * oX = P by omega] at M1
  rw [show val x * nX - val y * nY = Q by omega] at M2
  obtain ⟨ao, xcap, rfl, -⟩ := id hx
  obtain ⟨bo, ycap, rfl, -⟩ := id hy
  obtain ⟨N, hN⟩ : ∃ N, x.length = N := ⟨_, rfl⟩
  obtain ⟨M, hM⟩ : ∃ M, y.length = M := ⟨_, rfl⟩
  rw [hN, hM] at M1 M2 ⊢
  obtain ⟨c0, c1, c2, c3, c4, -⟩ := five_cells (heap_alloc_new w (five oX oY nX nY false))
  have HSZ := Lib.hid (show (w.alloc (five oX oY nX nY false)).heap.size = w.heap.size + 1 by simp)
  clear hx hy hP hQ hs ht hN hM
  unfold five at HBa c0 c1 c2 c3 c4 HSZ
  go_enter Tryz.func180, Tryz.ntmps180
  go_wp2
  revert HBa c0 c1 c2 c3 c4 HSZ
  generalize w.alloc (Obj.cells #[Value.int .u64 (oX : Nat), .int .u64 (oY : Nat), .int .u64 (nX : Nat), .int .u64 (nY : Nat), .bool false] 191 (0, 0)) = w1
  intro HBa c0 c1 c2 c3 c4 HSZ
  go_region_held3 (fun w' => w'.cell? ⟨w.heap.size, 0, none⟩ = some (.int .u64 (oX : Nat)) ∧ w'.cell? ⟨w.heap.size, 1, none⟩ = some (.int .u64 (oY : Nat)) ∧ w'.cell? ⟨w.heap.size, 2, none⟩ = some (.int .u64 (nX : Nat)) ∧ w'.cell? ⟨w.heap.size, 3, none⟩ = some (.int .u64 (nY : Nat)))
    (first | exact ⟨‹_›, ‹_›, ‹_›, ‹_›⟩ | exact ⟨c0, c1, c2, c3⟩ | go_keep)
    (first
      | (go_at_call 221; with_reducible refine (M1.out _ HBa.out.drew).mono ?_; rintro e' w2 ⟨sa, rfl, ho, hb2⟩
         have HOA := Lib.hid ho
         have HB2 := Lib.hid (HBa.out.drew.trans (hb2.mono HBa.out.size))
         have d0 := (hb2.cell (p := ⟨w.heap.size, 0, none⟩) (show w.heap.size < w1.heap.size by rw [HSZ.out]; omega)).trans c0
         have d1 := (hb2.cell (p := ⟨w.heap.size, 1, none⟩) (show w.heap.size < w1.heap.size by rw [HSZ.out]; omega)).trans c1
         have d2 := (hb2.cell (p := ⟨w.heap.size, 2, none⟩) (show w.heap.size < w1.heap.size by rw [HSZ.out]; omega)).trans c2
         have d3 := (hb2.cell (p := ⟨w.heap.size, 3, none⟩) (show w.heap.size < w1.heap.size by rw [HSZ.out]; omega)).trans c3
         clear M1 ho hb2)
      | (go_at_call 221; with_reducible refine (M2.out _ HB2.out).mono ?_; rintro e' w3 ⟨sb, rfl, ho, hb3⟩
         have HOB := Lib.hid (ho.mono (B' := w.heap.size) HB2.out.size)
         have HOA3 := Lib.hid ((HOA.out.below hb3).mono (B' := w.heap.size) HBa.out.size)
         have HB3 := Lib.hid (HB2.out.trans (hb3.mono HB2.out.size))
         have f0 := (hb3.cell (cell_lt d0)).trans d0
         have f1 := (hb3.cell (cell_lt d1)).trans d1
         have f2 := (hb3.cell (cell_lt d2)).trans d2
         have f3 := (hb3.cell (cell_lt d3)).trans d3
         clear M2 ho hb3))
  go_wp2
  go_ret2
  exact ⟨_, _, rfl, ⟨HOA3.out, HOB.out⟩, HB3.out⟩
theorem apply_any (sx sy : Value) (x y : List Nat) (e : Bool) (oX oY nX nY : Nat) (w : World) (hx : Rd w sx x) (hy : Rd w sy y) (hdx : Dig x) (hdy : Dig y) (hs : x.length ≤ 900000) (ht : y.length ≤ 900000) (hb : oX < 18446744073709551616 ∧ oY < 18446744073709551616 ∧ nX < 18446744073709551616 ∧ nY < 18446744073709551616)
    (hO : OldOK (val x) (val y) e oX oY nX nY) :
    Calls Tryz.prog 180 #[.agg #[.int .u64 (oX : Nat), .int .u64 (oY : Nat), .int .u64 (nX : Nat), .int .u64 (nY : Nat), .bool e], sx, sy] w fun e' w' => ∃ P Q sa sb, e' = .returned (.tuple #[sa, sb]) ∧ (Q < P ∧ P ≤ val y ∧ Nat.gcd P Q = Nat.gcd (val x) (val y) ∧ Own w' w.heap.size sa (digs P) ∧ Own w' w.heap.size sb (digs Q)) ∧ Below w.heap.size w w' := by
  obtain ⟨P, Q, hP, hQ, h1, h2, h3, h4⟩ := hO
  have hg := OldOK.gcd hP hQ h3 h4
  cases e
  · have p := hP.2 rfl
    have q := hQ.1 rfl
    refine (apply_odd sx sy x y oX oY nX nY P Q w hx hy hdx hdy hs ht hb (by rw [Nat.mul_comm (val x), Nat.mul_comm (val y)]; exact p) (by rw [Nat.mul_comm (val x), Nat.mul_comm (val y)]; exact q)).mono ?_
    rintro e' w' ⟨sa, sb, rfl, ⟨ha, hb⟩, hbl⟩
    exact ⟨P, Q, sa, sb, rfl, ⟨h1, h2, hg, ha, hb⟩, hbl⟩
  · have p := hP.1 rfl
    have q := hQ.2 rfl
    refine (apply_even sx sy x y oX oY nX nY P Q w hx hy hdx hdy hs ht hb (by rw [Nat.mul_comm (val x), Nat.mul_comm (val y)]; exact p) (by rw [Nat.mul_comm (val x), Nat.mul_comm (val y)]; exact q)).mono ?_
    rintro e' w' ⟨sa, sb, rfl, ⟨ha, hb⟩, hbl⟩
    exact ⟨P, Q, sa, sb, rfl, ⟨h1, h2, hg, ha, hb⟩, hbl⟩
end Go.Proofs.YtlhmfgbaefaneabGreatDoor.nat
namespace Go.Proofs.YtlhmfgbaefaneabGreatDoor.nat
open Go.RowKit
set_option maxRecDepth 100000 in
set_option maxHeartbeats 1000000 in
theorem smallDivisor_any (a b : Nat) (w : World) (ha : a < 18446744073709551616) (hb : b < 18446744073709551616) :
    Calls Tryz.prog 182 #[.int .u64 (a : Nat), .int .u64 (b : Nat)] w fun e w' => e = .returned (.int .u64 ((Nat.gcd a b : Nat) : Int)) ∧ ∃ m, w' = w.drewN m := by
  obtain ⟨G, hG⟩ : ∃ G, G = Nat.gcd a b := ⟨_, rfl⟩
  rw [← hG]
  have HG := Lib.hid hG
  clear hG
  go_enter Tryz.func182, Tryz.ntmps182
  go_wp2
  go_loopw [0, 1] (fun av bv wr => ∃ m c d : Nat, wr = w.drewN m ∧ av = .int .u64 (c : Nat) ∧ bv = .int .u64 (d : Nat) ∧ c < 18446744073709551616 ∧ d < 18446744073709551616 ∧ G = Nat.gcd c d) (fun _ bv _ => (intOf bv).toNat)
  case atStart => exact ⟨0, a, b, rfl, rfl, rfl, ha, hb, HG.out⟩
  case round =>
    obtain ⟨m, c, d, rfl, rfl, rfl, hc, hd, hg⟩ := hrel
    have HGG := Lib.hid hg
    clear hg
    by_cases h0 : d = 0
    · subst h0
      go_wp2
      go_ret
      refine ⟨?_, m, rfl⟩
      have := HGG.out
      rw [Nat.gcd_zero_right] at this
      rw [this]
      rfl
    · have hb0 : ((d : Int) == 0) = false := by simp; omega
      have hd0 : ¬ (d : Int) = 0 := by omega
      obtain ⟨r, hr⟩ : ∃ r, r = c % d := ⟨_, rfl⟩
      have F1 : (c : Int) % (d : Int) = (r : Int) := by rw [hr, Int.natCast_emod]
      have hrd : r < d := by rw [hr]; exact Nat.mod_lt _ (by omega)
      have HN := Lib.hid (show G = Nat.gcd d r by rw [HGG.out, hr, Nat.gcd_comm d, ← Nat.gcd_rec, Nat.gcd_comm])
      have HR := Lib.hid hr
      clear hr
      go_wp2
      go_quiet (fail)
      go_wp2
      go_roundw
      case rel => exact ⟨m + nq, d, r, by simp, rfl, by rw [← F1], hd, by omega, HN.out⟩
      case measure => simp [intOf]; omega
open Classical in
noncomputable def numOf (w : World) (sv : Value) : Nat := if h : ∃ l, Rd w sv l then val h.choose else 0
theorem numOf_eq {w : World} {sv : Value} {l : List Nat} (h : Rd w sv l) : numOf w sv = val l := by
  have he : ∃ l, Rd w sv l := ⟨l, h⟩
  unfold numOf
  rw [dif_pos he, he.choose_spec.inj h]
def ERel2 (w : World) (G : Nat) (a b : Value) (wr : World) : Prop :=
  ∃ U V : Nat, Rd wr a (digs U) ∧ Rd wr b (digs V) ∧ V ≤ U ∧ Nat.gcd U V = G ∧ (digs U).length ≤ 900000 ∧ Below w.heap.size w wr
theorem digs_one {V : Nat} (h : (digs V).length = 1) : digs V = [V] ∧ V < 18446744073709551616 ∧ V ≠ 0 := by
  have h0 : V ≠ 0 := by rintro rfl; rw [digs_zero] at h; simp at h
  have h1 := val_lt (norm_digs V).1
  rw [val_digs, h, Nat.pow_one] at h1
  refine ⟨?_, h1, h0⟩
  rw [digs_pos h0, show V % 18446744073709551616 = V from Nat.mod_eq_of_lt h1, show V / 18446744073709551616 = 0 from Nat.div_eq_of_lt h1, digs_zero]
set_option maxRecDepth 100000 in
set_option maxHeartbeats 8000000 in
theorem divisor_ge (sx sy : Value) (x y : List Nat) (w : World) (hx : Rd w sx x) (hy : Rd w sy y) (hnx : Norm x) (hny : Norm y) (hs : x.length ≤ 900000) (ht : y.length ≤ 900000) (hle : val y ≤ val x) :
    Calls Tryz.prog 142 #[sx, sy] w fun e w' => ∃ sv, e = .returned sv ∧ Own w' w.heap.size sv (digs (Nat.gcd (val x) (val y))) ∧ Below w.heap.size w w' := by
  obtain ⟨G, hG⟩ : ∃ G, G = Nat.gcd (val x) (val y) := ⟨_, rfl⟩
  rw [← hG]
  have CM := Lib.hid (compare_any sx sy x y w hx hy hnx hny (by omega) (by omega))
  obtain ⟨c, hc⟩ : ∃ c, c = cmp3 (val x : Nat) (val y : Nat) := ⟨_, rfl⟩
  rw [← hc] at CM
  have hc0 : ¬ c < 0 := by
    rw [hc]
    unfold cmp3
    rw [if_neg (by omega)]
    split <;> omega
  have hle' : val y ≤ val x := by omega
  have HS := Lib.hid (fun m : Nat => show ERel2 w G sx sy (w.drewN m) from ⟨val x, val y, by rw [← hnx.eq_digs]; exact hx.below (drew_below w m), by rw [← hny.eq_digs]; exact hy.below (drew_below w m), hle', by rw [hG], by rw [← hnx.eq_digs]; exact hs, drew_below w m⟩)
  clear hx hy hnx hny hs ht hle hle' hG hc
  go_enter Tryz.func142, Tryz.ntmps142
  go_wp2_with (go_at_call 141; refine (CM.out).mono ?_; rintro e w1 ⟨rfl, m, rfl⟩)
  go_loopw [0, 1] (fun av bv wr => ERel2 w G av bv wr) (fun _ bv wr => numOf wr bv)
  case atStart => exact HS.out _
  case round =>
    obtain ⟨U, V, hU, hV, hVU, hg, hlU, hb⟩ := hrel
    clear HS
    have hlV : (digs V).length ≤ 900000 := digs_le_len hVU hlU
    have HU := Lib.hid hU
    have HV := Lib.hid hV
    have HG := Lib.hid hg
    have HB := Lib.hid hb
    have HNV := Lib.hid (numOf_eq hV)
    obtain ⟨au, ucap, rfl, -⟩ := id hU
    obtain ⟨av, vcap, rfl, -⟩ := id hV
    have HLU := Lib.hid hlU
    have HLV := Lib.hid hlV
    by_cases h2 : 2 ≤ (digs V).length
    · have hl2 : (digs V).length ≤ (digs U).length := digs_le_len hVU (Nat.le_refl _)
      have LD := Lib.hid (leadingSteps_any _ _ _ _ wr hU hV (norm_digs U) (norm_digs V).1 (by omega) h2 hlU (by rw [val_digs, val_digs]; exact hVU) hl2)
      rw [val_digs, val_digs] at LD
      have hV0 : 0 < V := by
        rcases Nat.eq_zero_or_pos V with rfl | h
        · rw [digs_zero] at h2; simp at h2
        · exact h
      have HVU := Lib.hid hVU
      have h2' : (1 : Int) < ((digs V).length : Nat) := by omega
      clear hU hV hg hb hlU hlV hVU hl2 h2
      go_wp2_with (go_at_call 179; refine (LD.out).mono ?_; rintro e' w2 ⟨e, oX, oY, nX, nY, rfl, ⟨hbd, hk⟩, hb2⟩
                   have HBD := Lib.hid hbd
                   have HK := Lib.hid hk
                   have HB2 := Lib.hid hb2
                   have HA := Lib.hid (fun o => (Below.refl w2.heap.size w2).alloc (Nat.le_refl _) o)
                   have RU := Lib.hid (fun o => (HU.out.below hb2).below (HA.out o))
                   have RV := Lib.hid (fun o => (HV.out.below hb2).below (HA.out o))
                   have BA := Lib.hid (fun o => HB.out.trans ((hb2.trans ((HA.out o).mono hb2.size)).mono HB.out.size))
                   have DV := Lib.hid (fun o => divide_any _ _ _ _ (w2.alloc o) (RU.out o) (RV.out o) (norm_digs U) (norm_digs V) (by intro h; rw [← val_digs V, h] at hV0; simp [val] at hV0) HLU.out HLV.out)
                   have AP := Lib.hid (fun (h : ¬ oY = 0) o => apply_any _ _ _ _ e oX oY nX nY (w2.alloc o) (RU.out o) (RV.out o) (norm_digs U).1 (norm_digs V).1 HLU.out HLV.out hbd (by rw [val_digs, val_digs]; exact hk.resolve_left h))
                   rw [val_digs, val_digs] at DV
                   rw [val_digs, val_digs] at AP
                   clear LD hbd hk hb2
                   by_cases ho : oY = 0)
      · go_wp2_with (go_at_call 151; refine (DV.out _).mono ?_; rintro e' w3 ⟨sq, sr, rfl, ⟨hq, hr⟩, hb3⟩; have HR3 := Lib.hid hr.rd; have HV3 := Lib.hid ((RV.out _).below hb3); have HB3 := Lib.hid ((BA.out _).trans (hb3.mono (BA.out _).size)); clear DV hq hr hb3)
        go_roundw
        case rel =>
          have hlt := Nat.mod_lt U hV0
          refine ⟨V, U % V, HV3.out, HR3.out, Nat.le_of_lt hlt, ?_, HLV.out, HB3.out⟩
          rw [Nat.gcd_comm, ← Nat.gcd_rec, Nat.gcd_comm]
          exact HG.out
        case measure =>
          rw [HNV.out, val_digs]
          show numOf w3 sr < V
          rw [numOf_eq HR3.out, val_digs]
          exact Nat.mod_lt U hV0
      · have hob : ((oY : Int) == 0) = false := by simp; omega
        go_wp2_with (go_at_call 180; refine (AP.out ho _).mono ?_; rintro e' w3 ⟨P, Q, sa, sb, rfl, ⟨hQP, hPV, hg2, ha, hb'⟩, hb3⟩; have HRA := Lib.hid ha.rd; have HRB := Lib.hid hb'.rd; have HB3 := Lib.hid ((BA.out _).trans (hb3.mono (BA.out _).size)); have HG2 := Lib.hid hg2; have HQP := Lib.hid hQP; have HPV := Lib.hid hPV; clear AP hQP hPV hg2 ha hb' hb3)
        go_roundw
        case rel => exact ⟨P, Q, HRA.out, HRB.out, Nat.le_of_lt HQP.out, by rw [HG2.out]; exact HG.out, digs_le_len HPV.out HLV.out, HB3.out⟩
        case measure =>
          rw [HNV.out, val_digs]
          show numOf w3 sb < V
          rw [numOf_eq HRB.out, val_digs]
          exact Nat.lt_of_lt_of_le HQP.out HPV.out
    · have h2' : ¬ ((1 : Int) < ((digs V).length : Nat)) := by omega
      by_cases h0 : (digs V).length = 0
      · have hV0 : V = 0 := by
          rw [← val_digs V, List.eq_nil_of_length_eq_zero h0]; rfl
        have hUG : U = G := by rw [← hg, hV0, Nat.gcd_zero_right]
        have CL := Lib.hid (Clone_any _ _ wr hU (by omega))
        rw [hUG] at CL
        have H0 := Lib.hid h0
        have HUG := Lib.hid hUG
        clear hU hV hg hb hlU hlV hVU h2 hV0 hUG
        rw [HUG.out]
        rw [h0]
        clear h0
        go_wp2_with (go_at_call 166; refine (CL.out).mono ?_; rintro e' w2 ⟨sv, rfl, ho, hb2⟩; have HO := Lib.hid ho; have HB2 := Lib.hid (HB.out.trans (hb2.mono HB.out.size)); clear CL ho hb2)
        go_ret
        exact ⟨_, rfl, HO.out.mono HB.out.size, HB2.out⟩
      · have h1 : (digs V).length = 1 := by omega
        obtain ⟨d1, d2, d3⟩ := digs_one h1
        obtain ⟨gv, ov, rfl, -⟩ := lenpos hV (by omega)
        have c1 := hV.cellAt 0 (by omega)
        rw [d1, Nat.add_zero] at c1
        have c1' : wr.cell? ⟨gv, ov, none⟩ = some (.int .u64 (V : Nat)) := c1
        have hgv : gv < wr.heap.size := cell_lt c1'
        have CL := Lib.hid (fun (w' : World) (hb' : Below wr.heap.size wr w') => Clone_any _ (digs U) w' (hU.below hb') (by omega))
        have HD2 := Lib.hid d2
        have HD3 := Lib.hid d3
        clear hU hV hg hb hlU hlV hVU h2 h0 d1 d2 d3 c1
        rw [h1]
        clear h1
        have h2' : ¬ ((1 : Int) < ((1 : Nat) : Int)) := by omega
        go_wp2
        go_region_held3 (fun w' => w'.cell? ⟨gv, ov, none⟩ = some (.int .u64 (V : Nat)))
          (first | exact ‹_› | exact c1' | go_keep)
          (first
            | (go_at_call 166; refine (CL.out _ (Below.refl _ _).drew).mono ?_; rintro e' w2 ⟨sv, rfl, ho, hb2⟩
               have HB2 := Lib.hid ((Below.refl wr.heap.size wr).drew.trans hb2)
               have c2 := (HB2.out.cell (p := ⟨gv, ov, none⟩) hgv).trans c1'
               have DW := Lib.hid (divideByWord_own (B := wr.heap.size) sv (digs U) V w2 ho (norm_digs _).1 HD2.out (Nat.pos_of_ne_zero HD3.out) (by have := HLU.out; omega))
               clear CL ho hb2)
            | (go_at_call 181; refine (DW.out).mono ?_; rintro e' w3 ⟨z', r, rfl, ⟨q1, q2, q3, q4, q5⟩, hb3⟩
               have HB3 := Lib.hid (HB2.out.trans hb3)
               have c3 := (HB3.out.cell (p := ⟨gv, ov, none⟩) hgv).trans c1'
               rw [val_digs] at q3
               have hgr : Nat.gcd V r = G := by
                 have e1 : U % V = r := by rw [← q3, Nat.mul_comm, Nat.mul_add_mod, Nat.mod_eq_of_lt q4]
                 rw [← e1, Nat.gcd_comm, ← Nat.gcd_rec, Nat.gcd_comm]
                 exact HG.out
               have hrb : r < 18446744073709551616 := Nat.lt_trans q4 HD2.out
               have SD := Lib.hid (fun w' => smallDivisor_any V r w' HD2.out hrb)
               rw [hgr] at SD
               have hGb : G < 18446744073709551616 := by
                 have := Nat.le_of_dvd (Nat.pos_of_ne_zero HD3.out) (Nat.gcd_dvd_left V r)
                 rw [hgr] at this
                 exact Nat.lt_of_le_of_lt this HD2.out
               have HGb := Lib.hid hGb
               clear DW q1 q2 q3 q4 q5 hb3 hgr hGb))
        have TT := Lib.hid (fun (m : Nat) => trim_own (B := w.heap.size) _ [G] _ (word_own (w := w3.drewN m) (d := G) (B := w.heap.size) (Nat.le_trans HB.out.size HB3.out.size)) (by simp) (Dig.cons HGb.out Dig.nil))
        have hv1 : val [G] = G := by simp [val]
        rw [hv1] at TT
        have HBF := Lib.hid (fun (m : Nat) => ((drewN_below (HB.out.trans (HB3.out.mono HB.out.size)) m).alloc (Nat.le_trans HB.out.size HB3.out.size) (.cells #[Value.int .u64 (G : Int)] 80)))
        clear hv1
        go_wp2_with (first
          | (go_at_call 182; refine (SD.out _).mono ?_; rintro e' w4 ⟨rfl, m', rfl⟩; clear SD)
          | (go_at_call 144; refine (TT.out _).mono ?_; rintro e' w5 ⟨sv', rfl, ho, hw5⟩; have HO := Lib.hid ho; clear TT ho))
        go_ret
        subst hw5
        exact ⟨_, rfl, HO.out, HBF.out _⟩
set_option maxRecDepth 100000 in
set_option maxHeartbeats 8000000 in
theorem divisor_lt (sx sy : Value) (x y : List Nat) (w : World) (hx : Rd w sx x) (hy : Rd w sy y) (hnx : Norm x) (hny : Norm y) (hs : x.length ≤ 900000) (ht : y.length ≤ 900000) (hle : val x < val y) :
    Calls Tryz.prog 142 #[sx, sy] w fun e w' => ∃ sv, e = .returned sv ∧ Own w' w.heap.size sv (digs (Nat.gcd (val x) (val y))) ∧ Below w.heap.size w w' := by
  obtain ⟨G, hG⟩ : ∃ G, G = Nat.gcd (val x) (val y) := ⟨_, rfl⟩
  rw [← hG]
  have CM := Lib.hid (compare_any sx sy x y w hx hy hnx hny (by omega) (by omega))
  obtain ⟨c, hc⟩ : ∃ c, c = cmp3 (val x : Nat) (val y : Nat) := ⟨_, rfl⟩
  rw [← hc] at CM
  have hc0 : c < 0 := by
    rw [hc]
    unfold cmp3
    rw [if_pos (by omega)]
    omega
  have hle' : val x ≤ val y := by omega
  have HS := Lib.hid (fun m : Nat => show ERel2 w G sy sx (w.drewN m) from ⟨val y, val x, by rw [← hny.eq_digs]; exact hy.below (drew_below w m), by rw [← hnx.eq_digs]; exact hx.below (drew_below w m), hle', by rw [hG]; exact Nat.gcd_comm _ _, by rw [← hny.eq_digs]; exact ht, drew_below w m⟩)
  clear hx hy hnx hny hs ht hle hle' hG hc
  go_enter Tryz.func142, Tryz.ntmps142
  go_wp2_with (go_at_call 141; refine (CM.out).mono ?_; rintro e w1 ⟨rfl, m, rfl⟩)
  go_loopw [0, 1] (fun av bv wr => ERel2 w G av bv wr) (fun _ bv wr => numOf wr bv)
  case atStart => exact HS.out _
  case round =>
    obtain ⟨U, V, hU, hV, hVU, hg, hlU, hb⟩ := hrel
    clear HS
    have hlV : (digs V).length ≤ 900000 := digs_le_len hVU hlU
    have HU := Lib.hid hU
    have HV := Lib.hid hV
    have HG := Lib.hid hg
    have HB := Lib.hid hb
    have HNV := Lib.hid (numOf_eq hV)
    obtain ⟨au, ucap, rfl, -⟩ := id hU
    obtain ⟨av, vcap, rfl, -⟩ := id hV
    have HLU := Lib.hid hlU
    have HLV := Lib.hid hlV
    by_cases h2 : 2 ≤ (digs V).length
    · have hl2 : (digs V).length ≤ (digs U).length := digs_le_len hVU (Nat.le_refl _)
      have LD := Lib.hid (leadingSteps_any _ _ _ _ wr hU hV (norm_digs U) (norm_digs V).1 (by omega) h2 hlU (by rw [val_digs, val_digs]; exact hVU) hl2)
      rw [val_digs, val_digs] at LD
      have hV0 : 0 < V := by
        rcases Nat.eq_zero_or_pos V with rfl | h
        · rw [digs_zero] at h2; simp at h2
        · exact h
      have HVU := Lib.hid hVU
      have h2' : (1 : Int) < ((digs V).length : Nat) := by omega
      clear hU hV hg hb hlU hlV hVU hl2 h2
      go_wp2_with (go_at_call 179; refine (LD.out).mono ?_; rintro e' w2 ⟨e, oX, oY, nX, nY, rfl, ⟨hbd, hk⟩, hb2⟩
                   have HBD := Lib.hid hbd
                   have HK := Lib.hid hk
                   have HB2 := Lib.hid hb2
                   have HA := Lib.hid (fun o => (Below.refl w2.heap.size w2).alloc (Nat.le_refl _) o)
                   have RU := Lib.hid (fun o => (HU.out.below hb2).below (HA.out o))
                   have RV := Lib.hid (fun o => (HV.out.below hb2).below (HA.out o))
                   have BA := Lib.hid (fun o => HB.out.trans ((hb2.trans ((HA.out o).mono hb2.size)).mono HB.out.size))
                   have DV := Lib.hid (fun o => divide_any _ _ _ _ (w2.alloc o) (RU.out o) (RV.out o) (norm_digs U) (norm_digs V) (by intro h; rw [← val_digs V, h] at hV0; simp [val] at hV0) HLU.out HLV.out)
                   have AP := Lib.hid (fun (h : ¬ oY = 0) o => apply_any _ _ _ _ e oX oY nX nY (w2.alloc o) (RU.out o) (RV.out o) (norm_digs U).1 (norm_digs V).1 HLU.out HLV.out hbd (by rw [val_digs, val_digs]; exact hk.resolve_left h))
                   rw [val_digs, val_digs] at DV
                   rw [val_digs, val_digs] at AP
                   clear LD hbd hk hb2
                   by_cases ho : oY = 0)
      · go_wp2_with (go_at_call 151; refine (DV.out _).mono ?_; rintro e' w3 ⟨sq, sr, rfl, ⟨hq, hr⟩, hb3⟩; have HR3 := Lib.hid hr.rd; have HV3 := Lib.hid ((RV.out _).below hb3); have HB3 := Lib.hid ((BA.out _).trans (hb3.mono (BA.out _).size)); clear DV hq hr hb3)
        go_roundw
        case rel =>
          have hlt := Nat.mod_lt U hV0
          refine ⟨V, U % V, HV3.out, HR3.out, Nat.le_of_lt hlt, ?_, HLV.out, HB3.out⟩
          rw [Nat.gcd_comm, ← Nat.gcd_rec, Nat.gcd_comm]
          exact HG.out
        case measure =>
          rw [HNV.out, val_digs]
          show numOf w3 sr < V
          rw [numOf_eq HR3.out, val_digs]
          exact Nat.mod_lt U hV0
      · have hob : ((oY : Int) == 0) = false := by simp; omega
        go_wp2_with (go_at_call 180; refine (AP.out ho _).mono ?_; rintro e' w3 ⟨P, Q, sa, sb, rfl, ⟨hQP, hPV, hg2, ha, hb'⟩, hb3⟩; have HRA := Lib.hid ha.rd; have HRB := Lib.hid hb'.rd; have HB3 := Lib.hid ((BA.out _).trans (hb3.mono (BA.out _).size)); have HG2 := Lib.hid hg2; have HQP := Lib.hid hQP; have HPV := Lib.hid hPV; clear AP hQP hPV hg2 ha hb' hb3)
        go_roundw
        case rel => exact ⟨P, Q, HRA.out, HRB.out, Nat.le_of_lt HQP.out, by rw [HG2.out]; exact HG.out, digs_le_len HPV.out HLV.out, HB3.out⟩
        case measure =>
          rw [HNV.out, val_digs]
          show numOf w3 sb < V
          rw [numOf_eq HRB.out, val_digs]
          exact Nat.lt_of_lt_of_le HQP.out HPV.out
    · have h2' : ¬ ((1 : Int) < ((digs V).length : Nat)) := by omega
      by_cases h0 : (digs V).length = 0
      · have hV0 : V = 0 := by
          rw [← val_digs V, List.eq_nil_of_length_eq_zero h0]; rfl
        have hUG : U = G := by rw [← hg, hV0, Nat.gcd_zero_right]
        have CL := Lib.hid (Clone_any _ _ wr hU (by omega))
        rw [hUG] at CL
        have H0 := Lib.hid h0
        have HUG := Lib.hid hUG
        clear hU hV hg hb hlU hlV hVU h2 hV0 hUG
        rw [HUG.out]
        rw [h0]
        clear h0
        go_wp2_with (go_at_call 166; refine (CL.out).mono ?_; rintro e' w2 ⟨sv, rfl, ho, hb2⟩; have HO := Lib.hid ho; have HB2 := Lib.hid (HB.out.trans (hb2.mono HB.out.size)); clear CL ho hb2)
        go_ret
        exact ⟨_, rfl, HO.out.mono HB.out.size, HB2.out⟩
      · have h1 : (digs V).length = 1 := by omega
        obtain ⟨d1, d2, d3⟩ := digs_one h1
        obtain ⟨gv, ov, rfl, -⟩ := lenpos hV (by omega)
        have c1 := hV.cellAt 0 (by omega)
        rw [d1, Nat.add_zero] at c1
        have c1' : wr.cell? ⟨gv, ov, none⟩ = some (.int .u64 (V : Nat)) := c1
        have hgv : gv < wr.heap.size := cell_lt c1'
        have CL := Lib.hid (fun (w' : World) (hb' : Below wr.heap.size wr w') => Clone_any _ (digs U) w' (hU.below hb') (by omega))
        have HD2 := Lib.hid d2
        have HD3 := Lib.hid d3
        clear hU hV hg hb hlU hlV hVU h2 h0 d1 d2 d3 c1
        rw [h1]
        clear h1
        have h2' : ¬ ((1 : Int) < ((1 : Nat) : Int)) := by omega
        go_wp2
        go_region_held3 (fun w' => w'.cell? ⟨gv, ov, none⟩ = some (.int .u64 (V : Nat)))
          (first | exact ‹_› | exact c1' | go_keep)
          (first
            | (go_at_call 166; refine (CL.out _ (Below.refl _ _).drew).mono ?_; rintro e' w2 ⟨sv, rfl, ho, hb2⟩
               have HB2 := Lib.hid ((Below.refl wr.heap.size wr).drew.trans hb2)
               have c2 := (HB2.out.cell (p := ⟨gv, ov, none⟩) hgv).trans c1'
               have DW := Lib.hid (divideByWord_own (B := wr.heap.size) sv (digs U) V w2 ho (norm_digs _).1 HD2.out (Nat.pos_of_ne_zero HD3.out) (by have := HLU.out; omega))
               clear CL ho hb2)
            | (go_at_call 181; refine (DW.out).mono ?_; rintro e' w3 ⟨z', r, rfl, ⟨q1, q2, q3, q4, q5⟩, hb3⟩
               have HB3 := Lib.hid (HB2.out.trans hb3)
               have c3 := (HB3.out.cell (p := ⟨gv, ov, none⟩) hgv).trans c1'
               rw [val_digs] at q3
               have hgr : Nat.gcd V r = G := by
                 have e1 : U % V = r := by rw [← q3, Nat.mul_comm, Nat.mul_add_mod, Nat.mod_eq_of_lt q4]
                 rw [← e1, Nat.gcd_comm, ← Nat.gcd_rec, Nat.gcd_comm]
                 exact HG.out
               have hrb : r < 18446744073709551616 := Nat.lt_trans q4 HD2.out
               have SD := Lib.hid (fun w' => smallDivisor_any V r w' HD2.out hrb)
               rw [hgr] at SD
               have hGb : G < 18446744073709551616 := by
                 have := Nat.le_of_dvd (Nat.pos_of_ne_zero HD3.out) (Nat.gcd_dvd_left V r)
                 rw [hgr] at this
                 exact Nat.lt_of_le_of_lt this HD2.out
               have HGb := Lib.hid hGb
               clear DW q1 q2 q3 q4 q5 hb3 hgr hGb))
        have TT := Lib.hid (fun (m : Nat) => trim_own (B := w.heap.size) _ [G] _ (word_own (w := w3.drewN m) (d := G) (B := w.heap.size) (Nat.le_trans HB.out.size HB3.out.size)) (by simp) (Dig.cons HGb.out Dig.nil))
        have hv1 : val [G] = G := by simp [val]
        rw [hv1] at TT
        have HBF := Lib.hid (fun (m : Nat) => ((drewN_below (HB.out.trans (HB3.out.mono HB.out.size)) m).alloc (Nat.le_trans HB.out.size HB3.out.size) (.cells #[Value.int .u64 (G : Int)] 80)))
        clear hv1
        go_wp2_with (first
          | (go_at_call 182; refine (SD.out _).mono ?_; rintro e' w4 ⟨rfl, m', rfl⟩; clear SD)
          | (go_at_call 144; refine (TT.out _).mono ?_; rintro e' w5 ⟨sv', rfl, ho, hw5⟩; have HO := Lib.hid ho; clear TT ho))
        go_ret
        subst hw5
        exact ⟨_, rfl, HO.out, HBF.out _⟩
theorem divisor_any (sx sy : Value) (x y : List Nat) (w : World) (hx : Rd w sx x) (hy : Rd w sy y) (hnx : Norm x) (hny : Norm y) (hs : x.length ≤ 900000) (ht : y.length ≤ 900000) :
    Calls Tryz.prog 142 #[sx, sy] w fun e w' => ∃ sv, e = .returned sv ∧ Own w' w.heap.size sv (digs (Nat.gcd (val x) (val y))) ∧ Below w.heap.size w w' := by
  rcases Nat.lt_or_ge (val x) (val y) with h | h
  · exact divisor_lt sx sy x y w hx hy hnx hny hs ht h
  · exact divisor_ge sx sy x y w hx hy hnx hny hs ht h
end Go.Proofs.YtlhmfgbaefaneabGreatDoor.nat
