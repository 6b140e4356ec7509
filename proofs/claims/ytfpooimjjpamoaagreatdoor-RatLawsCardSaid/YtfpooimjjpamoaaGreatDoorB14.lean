/-
  The steps of the walks, part 14: RefGetQ2.
-/
import Derived.Test.YtfpooimjjpamoaaGreatDoorB11
namespace Go.Proofs.YtfpooimjjpamoaaGreatDoor.ref
open Go.RowKit
theorem MadeQ.row {V w3 : World} (h : MadeQ V w3) : w3.heap[V.heap.size]? = some (.cells #[.bool false, .slice none 0 0, .slice none 0 0] 86 (0, 0)) :=
  (Below.block h V.heap.size (by simp)).trans (heap_alloc_new V _)
theorem far_cell {w : World} {r g k : Nat} {u : Value} (h : r ≠ g) (i : Nat) : (w.setCell ⟨g, k, none⟩ u).cell? ⟨r, i, none⟩ = w.cell? ⟨r, i, none⟩ :=
  World.cell?_setCell_other _ _ _ _ (fun e => h (by cases e <;> rfl))
theorem far_row {w : World} {r g k : Nat} {u : Value} {o : Obj} (h : r ≠ g) (hr : w.heap[r]? = some o) : (w.setCell ⟨g, k, none⟩ u).heap[r]? = some o :=
  (Below.heap_setCell w ⟨g, k, none⟩ u r h).trans hr
theorem set_row2 {w : World} {g : Nat} {u0 u1 u2 v2 : Value} {t : TypeId} (h : w.heap[g]? = some (.cells #[u0, u1, u2] t (0, 0))) : (w.setCell ⟨g, 2, none⟩ v2).heap[g]? = some (.cells #[u0, u1, v2] t (0, 0)) := by
  rw [heap_setCell_same w g 2 _ _ _ h]
  rfl
theorem set3_row {w : World} {g : Nat} {u0 u1 u2 v0 v1 v2 : Value} {t : TypeId} (h : w.heap[g]? = some (.cells #[u0, u1, u2] t (0, 0))) :
    (((w.setCell ⟨g, 0, none⟩ v0).setCell ⟨g, 1, none⟩ v1).setCell ⟨g, 2, none⟩ v2).heap[g]? = some (.cells #[v0, v1, v2] t (0, 0)) := by
  have h1 : (w.setCell ⟨g, 0, none⟩ v0).heap[g]? = some (.cells #[v0, u1, u2] t (0, 0)) := by rw [heap_setCell_same w g 0 _ _ _ h]; rfl
  have h2 : ((w.setCell ⟨g, 0, none⟩ v0).setCell ⟨g, 1, none⟩ v1).heap[g]? = some (.cells #[v0, v1, u2] t (0, 0)) := by rw [heap_setCell_same _ g 1 _ _ _ h1]; rfl
  rw [heap_setCell_same _ g 2 _ _ _ h2]
  rfl
set_option maxRecDepth 100000 in
set_option maxHeartbeats 4000000 in
theorem GetQ_bad (a b : List UInt8) (z : Int) (w : World) (hl : (a ++ 47 :: b).length ≤ 9000) (hI : IntText a z) (hb : ¬ Numeral b) :
    Calls Tryz.prog 72 #[.string (str (a ++ 47 :: b))] w fun e w' => GetQEnd (a ++ 47 :: b) w e w' := by
  have hn : ∀ c ∈ a, c ≠ 47 := fun c hc => hI.mem hc
  have hz : (str (a ++ 47 :: b)).size = (a ++ 47 :: b).length := str_size _
  have HG := Lib.hid (fun i (h : i < (str (a ++ 47 :: b)).size) => ch_get (l := a ++ 47 :: b) h)
  have HNo := Lib.hid (fun i (h : i < a.length) => no_slash (b := b) hn h)
  have HSt := Lib.hid (ch_slash a b)
  have hal : a.length ≤ 9000 := by simp at hl; omega
  have hbl : b.length ≤ 9000 := by simp at hl; omega
  have HGI0 := fun W => GetI_yes a z W (by omega) hI
  have HGN0 := fun W => GetN_no b W (by omega) hb
  have HEnd := Lib.hid (fun z d (h : RatForm (a ++ 47 :: b) z d) => (show False from hb (h.parts hn).2.1))
  have hx := ext_ahead a b
  have hx2 := ext_behind a b
  have hAN : a.length < (a ++ 47 :: b).length := by simp
  generalize a ++ 47 :: b = l at *
  obtain ⟨N, hN⟩ : ∃ N, l.length = N := ⟨_, rfl⟩
  obtain ⟨A, hA⟩ : ∃ A, a.length = A := ⟨_, rfl⟩
  rw [hN] at hz hl hAN hx2
  rw [hA] at hx hx2 hAN HNo HSt
  have HN := Lib.hid hN
  have HGI := Lib.hid HGI0
  have HGN := Lib.hid HGN0
  have HB0 := Lib.hid ((Below.refl w.heap.size w).alloc (Nat.le_refl _) blankQ)
  have HBL := Lib.hid (heap_alloc_new w blankQ)
  unfold blankQ at HB0 HBL
  generalize str l = s at *
  generalize str a = sa at *
  generalize str b = sb at *
  generalize hdp : decide (z < 0) = p at *
  have HDp := Lib.hid hdp
  generalize hnl : (digs z.natAbs).length = zn at *
  have HNl := Lib.hid hnl
  clear hdp hnl hN hn hI hA hb HGI0 HGN0 hal hbl
  go_enter Tryz.func72, Tryz.ntmps72
  go_wp2
  go_loopw [4] (fun kv wr => (∃ k : Nat, k ≤ A ∧ kv = .int .i64 k) ∧ w.alloc (.cells #[.bool false, .slice none 0 0, .slice none 0 0] 86) = wr) (fun kv _ => A - (intOf kv).toNat)
  case atStart => exact ⟨⟨0, Nat.zero_le _, rfl⟩, rfl⟩
  case round =>
    obtain ⟨⟨k, hk, rfl⟩, rfl⟩ := hrel
    have hkN : (k : Int) < (N : Int) := by omega
    by_cases hlt : k < A
    · have hgk : ∀ h : k < s.size, (s[k]'h).toNat = ch l k := fun h => HG.out _ h
      have hc := HNo.out k hlt
      generalize ch l k = c at *
      have hcb : ((c : Int) == 47) = false := by simp only [beq_eq_false_iff_ne, ne_eq]; omega
      go_wp2
      refine ⟨?_, ?_⟩
      · exact ⟨⟨k + 1, by omega, by go_num⟩, trivial⟩
      · simp [intOf]; omega
    · obtain rfl : k = A := by omega
      have hgk : ∀ h : k < s.size, (s[k]'h).toNat = 47 := fun h => (HG.out _ h).trans HSt.out
      go_wp2_with (first
        | (go_at_call 70; (with_reducible refine (HGI.out _).mono ?_); rintro e w2 ⟨sv, rfl, hs, hb⟩
           obtain ⟨so, sc, rfl, -⟩ := id hs
           rw [HNl.out] at hs ⊢
           have HSn := Lib.hid hs
           have HB2 := Lib.hid hb
           clear hs hb)
        | (fail "no arm"))
      obtain ⟨V, hV⟩ : ∃ V, V = w2.alloc (.cells #[.bool p, .slice so zn sc] 57) := ⟨_, rfl⟩
      have hVn : V.heap[w2.heap.size]? = some (.cells #[.bool p, .slice so zn sc] 57 (0, 0)) := by rw [hV]; exact heap_alloc_new _ _
      have hb2 : Below w2.heap.size w2 V := by rw [hV]; exact (Below.refl _ _).alloc (Nat.le_refl _) _
      have HVr := Lib.hid (show V.heap[w.heap.size]? = some (.cells #[.bool false, .slice none 0 0, .slice none 0 0] 86 (0, 0)) from
        (hb2.block w.heap.size (Nat.lt_of_lt_of_le (by simp) HB2.out.size)).trans ((HB2.out.block w.heap.size (by simp)).trans HBL.out))
      have HVw := Lib.hid (HB0.out.trans ((HB2.out.trans (hb2.mono HB2.out.size)).mono HB0.out.size))
      have HVn := Lib.hid hVn
      have HSV := Lib.hid (HSn.out.below hb2)
      have HU1 := Lib.hid (fun W => OfU_int 1 1 rfl (by decide) W)
      rw [← hV]
      clear hV hVn hb2 HB2
      have HOLD := Lib.hid (fun W (hW : Below V.heap.size V W) => (show Below V.heap.size V W ∧ W.cell? ⟨w2.heap.size, 0, none⟩ = some (.bool p) ∧ W.cell? ⟨w2.heap.size, 1, none⟩ = some (.slice so zn sc) from by
        have h := (hW.block w2.heap.size (Array.getElem?_eq_some_iff.1 HVn.out).1).trans HVn.out
        exact ⟨hW, by rw [cell_of_row _ _ 0 _ 57 (0, 0) h]; rfl, by rw [cell_of_row _ _ 1 _ 57 (0, 0) h]; rfl⟩))
      go_region_held3 (fun w' => Below V.heap.size V w' ∧ w'.cell? ⟨w2.heap.size, 0, none⟩ = some (.bool p) ∧ w'.cell? ⟨w2.heap.size, 1, none⟩ = some (.slice so zn sc))
        (first
          | exact HOLD.out _ (Below.refl _ _).drew
          | exact HOLD.out _ (HB3.out.alloc HB3.out.size _)
          | exact HOLD.out _ (((HB3.out.setCell (Nat.le_refl _) _).setCell (Nat.le_refl _) _).setCell (Nat.le_refl _) _)
          | exact HOLD.out _ HB3.out
          | exact HOLD.out _ ((Below.refl _ _).alloc (Nat.le_refl _) _).drew
          | exact HOLD.out _ ((Below.refl _ _).drew.alloc (Nat.le_refl _) _))
        (first
          | (go_at_call 48; (with_reducible refine (HU1.out _).mono ?_); rintro e' w3 ⟨one, rfl, ho, hb⟩
             obtain ⟨oo, oc, rfl, -⟩ := id ho
             have HO := Lib.hid ho
             have HB3 := Lib.hid ((And.left ‹_ ∧ _› : Below V.heap.size V _).trans (hb.mono (And.left ‹_ ∧ _› : Below V.heap.size V _).size))
             clear ho
             first | (rw [madeQ_eq] at hb; obtain ⟨d0, d1, d2, g0, g1, g2⟩ := hb.cells; have HRow := Lib.hid hb.row) | (have hv := madeQ_drew hb; obtain ⟨d0, d1, d2, g0, g1, g2⟩ := hv.cells; have HRow := Lib.hid hv.row) | skip
             clear hb)
          | (fail "no arm"))
      all_goals
        have HBW := Lib.hid (And.left ‹_ ∧ _› : Below V.heap.size V _)
        obtain ⟨c0, c1, c2, f0, f1, f2⟩ := row3 ((HBW.out.block w.heap.size (Array.getElem?_eq_some_iff.1 HVr.out).1).trans HVr.out)
        have HSW := Lib.hid (HSV.out.below HBW.out)
      all_goals first
        | (have hrow := set3_row (v0 := .bool p) (v1 := .slice so zn sc) (v2 := .slice oo (digs 1).length oc) HRow.out
           have HQA := Lib.hid hrow
           have hlt : w.heap.size < V.heap.size := (Array.getElem?_eq_some_iff.1 HVr.out).1
           have HLt := Lib.hid hlt
           clear hrow hlt)
        | (have hrow := heap_alloc_new w3 (.cells #[.bool p, .slice so zn sc, .slice oo (digs 1).length oc] 86)
           have HQA := Lib.hid hrow
           have hlt : w.heap.size < w3.heap.size := Nat.lt_of_lt_of_le (Array.getElem?_eq_some_iff.1 HVr.out).1 HB3.out.size
           have HLt := Lib.hid hlt
           clear hrow hlt)
      all_goals
        go_wp2_with (first
          | (go_at_call 45; (with_reducible refine (HGN.out _).mono ?_); rintro e w5 ⟨rfl, hb⟩
             have HB5 := Lib.hid (HBW.out.trans (hb.mono HBW.out.size))
             have hq5 := (hb.block _ (Array.getElem?_eq_some_iff.1 HQA.out).1).trans HQA.out
             obtain ⟨m0, m1, m2, n0, n1, n2⟩ := row3 hq5
             obtain ⟨c0, c1, c2, f0, f1, f2⟩ := row3 ((HB5.out.block w.heap.size (Array.getElem?_eq_some_iff.1 HVr.out).1).trans HVr.out)
             have hne := Nat.ne_of_lt HLt.out
             have hne2 := hne.symm
             clear hb hq5)
          | (fail "no arm"))
      all_goals
        have k0 := (far_cell (w := w5) (k := 2) (u := .slice none 0 0) (Nat.ne_of_lt HLt.out) 0).trans c0
        have k1 := (far_cell (w := w5) (k := 2) (u := .slice none 0 0) (Nat.ne_of_lt HLt.out) 1).trans c1
        have k2 := (far_cell (w := w5) (k := 2) (u := .slice none 0 0) (Nat.ne_of_lt HLt.out) 2).trans c2
        obtain ⟨-, -, -, q3, q4, q5⟩ := three_cells (.bool false) (.slice none 0 0) (.slice none 0 0) k0 k1 k2
        refine bodyPost_ret (v := .tuple #[.agg #[.bool false, .slice none 0 0, .slice none 0 0], .bool false]) ?_ rfl ?_
        · simp [results, Tryz.results72, go_sem, q3, q4, q5]
        · exact ⟨_, _, rfl, (fun h => by cases h), fun _ => ⟨rfl, fun z d h => absurd h (fun h => HEnd.out z d h)⟩, result_below ((HVw.out.trans (HB5.out.mono HVw.out.size)).setCell (Nat.le_of_lt HLt.out) _) (Nat.le_refl _) _ _ _⟩
set_option maxRecDepth 100000 in
set_option maxHeartbeats 4000000 in
theorem GetQ_nought (a b : List UInt8) (z : Int) (w : World) (hl : (a ++ 47 :: b).length ≤ 9000) (hI : IntText a z) (hb : Numeral b) (h0 : seg b 0 b.length = 0) :
    Calls Tryz.prog 72 #[.string (str (a ++ 47 :: b))] w fun e w' => GetQEnd (a ++ 47 :: b) w e w' := by
  have hn : ∀ c ∈ a, c ≠ 47 := fun c hc => hI.mem hc
  have hz : (str (a ++ 47 :: b)).size = (a ++ 47 :: b).length := str_size _
  have HG := Lib.hid (fun i (h : i < (str (a ++ 47 :: b)).size) => ch_get (l := a ++ 47 :: b) h)
  have HNo := Lib.hid (fun i (h : i < a.length) => no_slash (b := b) hn h)
  have HSt := Lib.hid (ch_slash a b)
  have hal : a.length ≤ 9000 := by simp at hl; omega
  have hbl : b.length ≤ 9000 := by simp at hl; omega
  have HGI0 := fun W => GetI_yes a z W (by omega) hI
  have HGN0 := fun W => GetN_yes b W hb
  rw [h0] at HGN0
  have HEnd := Lib.hid (fun z d (h : RatForm (a ++ 47 :: b) z d) => (show False from by have := h.parts hn; omega))
  have hdl : (((digs 0).length : Nat) : Int) = 0 := by rw [digs_zero]; rfl
  have hx := ext_ahead a b
  have hx2 := ext_behind a b
  have hAN : a.length < (a ++ 47 :: b).length := by simp
  generalize a ++ 47 :: b = l at *
  obtain ⟨N, hN⟩ : ∃ N, l.length = N := ⟨_, rfl⟩
  obtain ⟨A, hA⟩ : ∃ A, a.length = A := ⟨_, rfl⟩
  rw [hN] at hz hl hAN hx2
  rw [hA] at hx hx2 hAN HNo HSt
  have HN := Lib.hid hN
  have HGI := Lib.hid HGI0
  have HGN := Lib.hid HGN0
  have HB0 := Lib.hid ((Below.refl w.heap.size w).alloc (Nat.le_refl _) blankQ)
  have HBL := Lib.hid (heap_alloc_new w blankQ)
  unfold blankQ at HB0 HBL
  generalize str l = s at *
  generalize str a = sa at *
  generalize str b = sb at *
  generalize hdp : decide (z < 0) = p at *
  have HDp := Lib.hid hdp
  generalize hnl : (digs z.natAbs).length = zn at *
  have HNl := Lib.hid hnl
  clear hdp hnl hN hn hI hA hb HGI0 HGN0 hal hbl h0
  go_enter Tryz.func72, Tryz.ntmps72
  go_wp2
  go_loopw [4] (fun kv wr => (∃ k : Nat, k ≤ A ∧ kv = .int .i64 k) ∧ w.alloc (.cells #[.bool false, .slice none 0 0, .slice none 0 0] 86) = wr) (fun kv _ => A - (intOf kv).toNat)
  case atStart => exact ⟨⟨0, Nat.zero_le _, rfl⟩, rfl⟩
  case round =>
    obtain ⟨⟨k, hk, rfl⟩, rfl⟩ := hrel
    have hkN : (k : Int) < (N : Int) := by omega
    by_cases hlt : k < A
    · have hgk : ∀ h : k < s.size, (s[k]'h).toNat = ch l k := fun h => HG.out _ h
      have hc := HNo.out k hlt
      generalize ch l k = c at *
      have hcb : ((c : Int) == 47) = false := by simp only [beq_eq_false_iff_ne, ne_eq]; omega
      go_wp2
      refine ⟨?_, ?_⟩
      · exact ⟨⟨k + 1, by omega, by go_num⟩, trivial⟩
      · simp [intOf]; omega
    · obtain rfl : k = A := by omega
      have hgk : ∀ h : k < s.size, (s[k]'h).toNat = 47 := fun h => (HG.out _ h).trans HSt.out
      go_wp2_with (first
        | (go_at_call 70; (with_reducible refine (HGI.out _).mono ?_); rintro e w2 ⟨sv, rfl, hs, hb⟩
           obtain ⟨so, sc, rfl, -⟩ := id hs
           rw [HNl.out] at hs ⊢
           have HSn := Lib.hid hs
           have HB2 := Lib.hid hb
           clear hs hb)
        | (fail "no arm"))
      obtain ⟨V, hV⟩ : ∃ V, V = w2.alloc (.cells #[.bool p, .slice so zn sc] 57) := ⟨_, rfl⟩
      have hVn : V.heap[w2.heap.size]? = some (.cells #[.bool p, .slice so zn sc] 57 (0, 0)) := by rw [hV]; exact heap_alloc_new _ _
      have hb2 : Below w2.heap.size w2 V := by rw [hV]; exact (Below.refl _ _).alloc (Nat.le_refl _) _
      have HVr := Lib.hid (show V.heap[w.heap.size]? = some (.cells #[.bool false, .slice none 0 0, .slice none 0 0] 86 (0, 0)) from
        (hb2.block w.heap.size (Nat.lt_of_lt_of_le (by simp) HB2.out.size)).trans ((HB2.out.block w.heap.size (by simp)).trans HBL.out))
      have HVw := Lib.hid (HB0.out.trans ((HB2.out.trans (hb2.mono HB2.out.size)).mono HB0.out.size))
      have HVn := Lib.hid hVn
      have HSV := Lib.hid (HSn.out.below hb2)
      have HU1 := Lib.hid (fun W => OfU_int 1 1 rfl (by decide) W)
      rw [← hV]
      clear hV hVn hb2 HB2
      have HOLD := Lib.hid (fun W (hW : Below V.heap.size V W) => (show Below V.heap.size V W ∧ W.cell? ⟨w2.heap.size, 0, none⟩ = some (.bool p) ∧ W.cell? ⟨w2.heap.size, 1, none⟩ = some (.slice so zn sc) from by
        have h := (hW.block w2.heap.size (Array.getElem?_eq_some_iff.1 HVn.out).1).trans HVn.out
        exact ⟨hW, by rw [cell_of_row _ _ 0 _ 57 (0, 0) h]; rfl, by rw [cell_of_row _ _ 1 _ 57 (0, 0) h]; rfl⟩))
      go_region_held3 (fun w' => Below V.heap.size V w' ∧ w'.cell? ⟨w2.heap.size, 0, none⟩ = some (.bool p) ∧ w'.cell? ⟨w2.heap.size, 1, none⟩ = some (.slice so zn sc))
        (first
          | exact HOLD.out _ (Below.refl _ _).drew
          | exact HOLD.out _ (HB3.out.alloc HB3.out.size _)
          | exact HOLD.out _ (((HB3.out.setCell (Nat.le_refl _) _).setCell (Nat.le_refl _) _).setCell (Nat.le_refl _) _)
          | exact HOLD.out _ HB3.out
          | exact HOLD.out _ ((Below.refl _ _).alloc (Nat.le_refl _) _).drew
          | exact HOLD.out _ ((Below.refl _ _).drew.alloc (Nat.le_refl _) _))
        (first
          | (go_at_call 48; (with_reducible refine (HU1.out _).mono ?_); rintro e' w3 ⟨one, rfl, ho, hb⟩
             obtain ⟨oo, oc, rfl, -⟩ := id ho
             have HO := Lib.hid ho
             have HB3 := Lib.hid ((And.left ‹_ ∧ _› : Below V.heap.size V _).trans (hb.mono (And.left ‹_ ∧ _› : Below V.heap.size V _).size))
             clear ho
             first | (rw [madeQ_eq] at hb; obtain ⟨d0, d1, d2, g0, g1, g2⟩ := hb.cells; have HRow := Lib.hid hb.row) | (have hv := madeQ_drew hb; obtain ⟨d0, d1, d2, g0, g1, g2⟩ := hv.cells; have HRow := Lib.hid hv.row) | skip
             clear hb)
          | (fail "no arm"))
      all_goals
        have HBW := Lib.hid (And.left ‹_ ∧ _› : Below V.heap.size V _)
        obtain ⟨c0, c1, c2, f0, f1, f2⟩ := row3 ((HBW.out.block w.heap.size (Array.getElem?_eq_some_iff.1 HVr.out).1).trans HVr.out)
        have HSW := Lib.hid (HSV.out.below HBW.out)
      all_goals first
        | (have hrow := set3_row (v0 := .bool p) (v1 := .slice so zn sc) (v2 := .slice oo (digs 1).length oc) HRow.out
           have HQA := Lib.hid hrow
           have hlt : w.heap.size < V.heap.size := (Array.getElem?_eq_some_iff.1 HVr.out).1
           have HLt := Lib.hid hlt
           clear hrow hlt)
        | (have hrow := heap_alloc_new w3 (.cells #[.bool p, .slice so zn sc, .slice oo (digs 1).length oc] 86)
           have HQA := Lib.hid hrow
           have hlt : w.heap.size < w3.heap.size := Nat.lt_of_lt_of_le (Array.getElem?_eq_some_iff.1 HVr.out).1 HB3.out.size
           have HLt := Lib.hid hlt
           clear hrow hlt)
      all_goals
        go_wp2_with (first
          | (go_at_call 45; (with_reducible refine (HGN.out _).mono ?_); rintro e w5 ⟨dv, rfl, hdv, hb⟩; obtain ⟨do_, dc, rfl, -⟩ := id hdv
             have HB5 := Lib.hid (HBW.out.trans (hb.mono HBW.out.size))
             have hq5 := (hb.block _ (Array.getElem?_eq_some_iff.1 HQA.out).1).trans HQA.out
             obtain ⟨m0, m1, m2, n0, n1, n2⟩ := row3 hq5
             obtain ⟨c0, c1, c2, f0, f1, f2⟩ := row3 ((HB5.out.block w.heap.size (Array.getElem?_eq_some_iff.1 HVr.out).1).trans HVr.out)
             have hne := Nat.ne_of_lt HLt.out
             have hne2 := hne.symm
             clear hb hq5)
          | (fail "no arm"))
      all_goals
        have k0 := (far_cell (w := w5) (k := 2) (u := .slice do_ (digs 0).length dc) (Nat.ne_of_lt HLt.out) 0).trans c0
        have k1 := (far_cell (w := w5) (k := 2) (u := .slice do_ (digs 0).length dc) (Nat.ne_of_lt HLt.out) 1).trans c1
        have k2 := (far_cell (w := w5) (k := 2) (u := .slice do_ (digs 0).length dc) (Nat.ne_of_lt HLt.out) 2).trans c2
        obtain ⟨-, -, -, q3, q4, q5⟩ := three_cells (.bool false) (.slice none 0 0) (.slice none 0 0) k0 k1 k2
        refine bodyPost_ret (v := .tuple #[.agg #[.bool false, .slice none 0 0, .slice none 0 0], .bool false]) ?_ rfl ?_
        · simp [results, Tryz.results72, go_sem, q3, q4, q5]
        · exact ⟨_, _, rfl, (fun h => by cases h), fun _ => ⟨rfl, fun z d h => absurd h (fun h => HEnd.out z d h)⟩, result_below ((HVw.out.trans (HB5.out.mono HVw.out.size)).setCell (Nat.le_of_lt HLt.out) _) (Nat.le_refl _) _ _ _⟩
set_option maxRecDepth 100000 in
set_option maxHeartbeats 4000000 in
theorem GetQ_same (a b : List UInt8) (z : Int) (w : World) (hl : (a ++ 47 :: b).length ≤ 9000) (hI : IntText a z) (hb : Numeral b) (h0 : 0 < seg b 0 b.length) (hr : ratText z (seg b 0 b.length) = a ++ 47 :: b) :
    Calls Tryz.prog 72 #[.string (str (a ++ 47 :: b))] w fun e w' => GetQEnd (a ++ 47 :: b) w e w' := by
  have hn : ∀ c ∈ a, c ≠ 47 := fun c hc => hI.mem hc
  have hz : (str (a ++ 47 :: b)).size = (a ++ 47 :: b).length := str_size _
  have HG := Lib.hid (fun i (h : i < (str (a ++ 47 :: b)).size) => ch_get (l := a ++ 47 :: b) h)
  have HNo := Lib.hid (fun i (h : i < a.length) => no_slash (b := b) hn h)
  have HSt := Lib.hid (ch_slash a b)
  have hal : a.length ≤ 9000 := by simp at hl; omega
  have hbl : b.length ≤ 9000 := by simp at hl; omega
  have HGI0 := fun W => GetI_yes a z W (by omega) hI
  have HGN0 := fun W => GetN_yes b W hb
  have hzl : (digs z.natAbs).length ≤ 80000 := by
    rcases hI with ⟨h, rfl⟩ | ⟨t, -, h, -, rfl⟩
    · rw [Int.natAbs_natCast]
      refine Nat.le_trans (digs_len_of_lt (n := a.length) (Nat.lt_of_lt_of_le (seg_lt (l := a) (st := 0) (m := a.length) fun i _ hi => h.2.2.2 i (by omega)) (Nat.pow_le_pow_left (by omega) _))) (by have := h.2.1; omega)
    · rw [Int.natAbs_neg, Int.natAbs_natCast]
      refine Nat.le_trans (digs_len_of_lt (n := t.length) (Nat.lt_of_lt_of_le (seg_lt (l := t) (st := 0) (m := t.length) fun i _ hi => h.2.2.2 i (by omega)) (Nat.pow_le_pow_left (by omega) _))) (by have := h.2.1; omega)
  have hdl : (digs (seg b 0 b.length)).length ≤ 80000 := Nat.le_trans (digs_len_of_lt (n := b.length) (Nat.lt_of_lt_of_le (seg_lt (l := b) (st := 0) (m := b.length) fun i _ hi => hb.2.2.2 i (by omega)) (Nat.pow_le_pow_left (by omega) _))) (by omega)
  have hlp : (0 : Int) < (((digs (seg b 0 b.length)).length : Nat) : Int) := by rw [digs_pos (by omega)]; simp only [List.length_cons]; omega
  have HQT0 := fun W v (hv : IsQ W v z (seg b 0 b.length)) => QText_any v z (seg b 0 b.length) W hv hzl hdl h0
  have HForm := Lib.hid (show RatForm (a ++ 47 :: b) z (seg b 0 b.length) from Or.inr ⟨a, b, rfl, hI, hb, rfl, h0⟩)
  have HPos := Lib.hid h0
  have hx := ext_ahead a b
  have hx2 := ext_behind a b
  have hAN : a.length < (a ++ 47 :: b).length := by simp
  rw [hr] at HQT0
  have HRt := Lib.hid hr.symm
  generalize seg b 0 b.length = d at *
  generalize a ++ 47 :: b = l at *
  obtain ⟨N, hN⟩ : ∃ N, l.length = N := ⟨_, rfl⟩
  obtain ⟨A, hA⟩ : ∃ A, a.length = A := ⟨_, rfl⟩
  rw [hN] at hz hl hAN hx2
  rw [hA] at hx hx2 hAN HNo HSt
  have HN := Lib.hid hN
  have HGI := Lib.hid HGI0
  have HGN := Lib.hid HGN0
  have HQT := Lib.hid HQT0
  have HB0 := Lib.hid ((Below.refl w.heap.size w).alloc (Nat.le_refl _) blankQ)
  have HBL := Lib.hid (heap_alloc_new w blankQ)
  unfold blankQ at HB0 HBL
  generalize str l = s at *
  generalize str a = sa at *
  generalize str b = sb at *
  generalize hdp : decide (z < 0) = p at *
  have HDp := Lib.hid hdp
  generalize hnl : (digs z.natAbs).length = zn at *
  have HNl := Lib.hid hnl
  clear hdp hnl hN hn hI hA hb HGI0 HGN0 hal hbl h0 hzl hdl HQT0 hr
  go_enter Tryz.func72, Tryz.ntmps72
  go_wp2
  go_loopw [4] (fun kv wr => (∃ k : Nat, k ≤ A ∧ kv = .int .i64 k) ∧ w.alloc (.cells #[.bool false, .slice none 0 0, .slice none 0 0] 86) = wr) (fun kv _ => A - (intOf kv).toNat)
  case atStart => exact ⟨⟨0, Nat.zero_le _, rfl⟩, rfl⟩
  case round =>
    obtain ⟨⟨k, hk, rfl⟩, rfl⟩ := hrel
    have hkN : (k : Int) < (N : Int) := by omega
    by_cases hlt : k < A
    · have hgk : ∀ h : k < s.size, (s[k]'h).toNat = ch l k := fun h => HG.out _ h
      have hc := HNo.out k hlt
      generalize ch l k = c at *
      have hcb : ((c : Int) == 47) = false := by simp only [beq_eq_false_iff_ne, ne_eq]; omega
      go_wp2
      refine ⟨?_, ?_⟩
      · exact ⟨⟨k + 1, by omega, by go_num⟩, trivial⟩
      · simp [intOf]; omega
    · obtain rfl : k = A := by omega
      have hgk : ∀ h : k < s.size, (s[k]'h).toNat = 47 := fun h => (HG.out _ h).trans HSt.out
      go_wp2_with (first
        | (go_at_call 70; (with_reducible refine (HGI.out _).mono ?_); rintro e w2 ⟨sv, rfl, hs, hb⟩
           obtain ⟨so, sc, rfl, -⟩ := id hs
           rw [HNl.out] at hs ⊢
           have HSn := Lib.hid hs
           have HB2 := Lib.hid hb
           clear hs hb)
        | (fail "no arm"))
      obtain ⟨V, hV⟩ : ∃ V, V = w2.alloc (.cells #[.bool p, .slice so zn sc] 57) := ⟨_, rfl⟩
      have hVn : V.heap[w2.heap.size]? = some (.cells #[.bool p, .slice so zn sc] 57 (0, 0)) := by rw [hV]; exact heap_alloc_new _ _
      have hb2 : Below w2.heap.size w2 V := by rw [hV]; exact (Below.refl _ _).alloc (Nat.le_refl _) _
      have HVr := Lib.hid (show V.heap[w.heap.size]? = some (.cells #[.bool false, .slice none 0 0, .slice none 0 0] 86 (0, 0)) from
        (hb2.block w.heap.size (Nat.lt_of_lt_of_le (by simp) HB2.out.size)).trans ((HB2.out.block w.heap.size (by simp)).trans HBL.out))
      have HVw := Lib.hid (HB0.out.trans ((HB2.out.trans (hb2.mono HB2.out.size)).mono HB0.out.size))
      have HVn := Lib.hid hVn
      have HSV := Lib.hid (HSn.out.below hb2)
      have HU1 := Lib.hid (fun W => OfU_int 1 1 rfl (by decide) W)
      rw [← hV]
      clear hV hVn hb2 HB2
      have HOLD := Lib.hid (fun W (hW : Below V.heap.size V W) => (show Below V.heap.size V W ∧ W.cell? ⟨w2.heap.size, 0, none⟩ = some (.bool p) ∧ W.cell? ⟨w2.heap.size, 1, none⟩ = some (.slice so zn sc) from by
        have h := (hW.block w2.heap.size (Array.getElem?_eq_some_iff.1 HVn.out).1).trans HVn.out
        exact ⟨hW, by rw [cell_of_row _ _ 0 _ 57 (0, 0) h]; rfl, by rw [cell_of_row _ _ 1 _ 57 (0, 0) h]; rfl⟩))
      go_region_held3 (fun w' => Below V.heap.size V w' ∧ w'.cell? ⟨w2.heap.size, 0, none⟩ = some (.bool p) ∧ w'.cell? ⟨w2.heap.size, 1, none⟩ = some (.slice so zn sc))
        (first
          | exact HOLD.out _ (Below.refl _ _).drew
          | exact HOLD.out _ (HB3.out.alloc HB3.out.size _)
          | exact HOLD.out _ (((HB3.out.setCell (Nat.le_refl _) _).setCell (Nat.le_refl _) _).setCell (Nat.le_refl _) _)
          | exact HOLD.out _ HB3.out
          | exact HOLD.out _ ((Below.refl _ _).alloc (Nat.le_refl _) _).drew
          | exact HOLD.out _ ((Below.refl _ _).drew.alloc (Nat.le_refl _) _))
        (first
          | (go_at_call 48; (with_reducible refine (HU1.out _).mono ?_); rintro e' w3 ⟨one, rfl, ho, hb⟩
             obtain ⟨oo, oc, rfl, -⟩ := id ho
             have HO := Lib.hid ho
             have HB3 := Lib.hid ((And.left ‹_ ∧ _› : Below V.heap.size V _).trans (hb.mono (And.left ‹_ ∧ _› : Below V.heap.size V _).size))
             clear ho
             first | (rw [madeQ_eq] at hb; obtain ⟨d0, d1, d2, g0, g1, g2⟩ := hb.cells; have HRow := Lib.hid hb.row) | (have hv := madeQ_drew hb; obtain ⟨d0, d1, d2, g0, g1, g2⟩ := hv.cells; have HRow := Lib.hid hv.row) | skip
             clear hb)
          | (fail "no arm"))
      all_goals
        have HBW := Lib.hid (And.left ‹_ ∧ _› : Below V.heap.size V _)
        obtain ⟨c0, c1, c2, f0, f1, f2⟩ := row3 ((HBW.out.block w.heap.size (Array.getElem?_eq_some_iff.1 HVr.out).1).trans HVr.out)
        have HSW := Lib.hid (HSV.out.below HBW.out)
      all_goals first
        | (have hrow := set3_row (v0 := .bool p) (v1 := .slice so zn sc) (v2 := .slice oo (digs 1).length oc) HRow.out
           have HQA := Lib.hid hrow
           have hlt : w.heap.size < V.heap.size := (Array.getElem?_eq_some_iff.1 HVr.out).1
           have HLt := Lib.hid hlt
           clear hrow hlt)
        | (have hrow := heap_alloc_new w3 (.cells #[.bool p, .slice so zn sc, .slice oo (digs 1).length oc] 86)
           have HQA := Lib.hid hrow
           have hlt : w.heap.size < w3.heap.size := Nat.lt_of_lt_of_le (Array.getElem?_eq_some_iff.1 HVr.out).1 HB3.out.size
           have HLt := Lib.hid hlt
           clear hrow hlt)
      all_goals
        go_wp2_with (first
          | (go_at_call 45; (with_reducible refine (HGN.out _).mono ?_); rintro e w5 ⟨dv, rfl, hdv, hb⟩; obtain ⟨do_, dc, rfl, -⟩ := id hdv
             have HB5 := Lib.hid (HBW.out.trans (hb.mono HBW.out.size))
             have hq5 := (hb.block _ (Array.getElem?_eq_some_iff.1 HQA.out).1).trans HQA.out
             have HQ5 := Lib.hid hq5
             obtain ⟨m0, m1, m2, n0, n1, n2⟩ := row3 hq5
             have HS5 := Lib.hid (show IsN _ (.slice so zn sc) z.natAbs from Reads.result (HSW.out.below hb) m0 2 (.slice do_ (digs d).length dc))
             have HD5 := Lib.hid (show IsN _ (.slice do_ (digs d).length dc) d from Reads.result hdv m0 2 (.slice do_ (digs d).length dc))
             have hne := Nat.ne_of_lt HLt.out
             have hne2 := hne.symm
             clear hb hq5 hdv)
          | (go_at_call 76; (with_reducible refine (HQT.out _ (.agg #[.bool p, .slice so zn sc, .slice do_ (digs d).length dc]) (IsQ.of HDp.out HS5.out HD5.out)).mono ?_); rintro e w6 ⟨rfl, hb⟩
             have HS6 := Lib.hid ((show IsN _ (.slice so zn sc) z.natAbs from HS5.out).below hb)
             have HD6 := Lib.hid ((show IsN _ (.slice do_ (digs d).length dc) d from HD5.out).below hb)
             have HB6 := Lib.hid (((HVw.out.trans (HB5.out.mono HVw.out.size)).setCell (Nat.le_of_lt HLt.out) (.slice do_ (digs d).length dc)).trans (hb.mono ((HVw.out.trans (HB5.out.mono HVw.out.size)).setCell (Nat.le_of_lt HLt.out) (.slice do_ (digs d).length dc)).size))
             have hq6 := (hb.block _ (Array.getElem?_eq_some_iff.1 (set_row2 (v2 := .slice do_ (digs d).length dc) HQ5.out)).1).trans (set_row2 (v2 := .slice do_ (digs d).length dc) HQ5.out)
             obtain ⟨m0, m1, m2, -⟩ := row3 hq6
             have hr6 := (hb.block w.heap.size (Array.getElem?_eq_some_iff.1 (far_row (k := 2) (u := .slice do_ (digs d).length dc) (Nat.ne_of_lt HLt.out) ((HB5.out.block w.heap.size (Array.getElem?_eq_some_iff.1 HVr.out).1).trans HVr.out))).1).trans (far_row (k := 2) (u := .slice do_ (digs d).length dc) (Nat.ne_of_lt HLt.out) ((HB5.out.block w.heap.size (Array.getElem?_eq_some_iff.1 HVr.out).1).trans HVr.out))
             obtain ⟨c0, c1, c2, f0, f1, f2⟩ := row3 hr6
             clear hb hq6 hr6)
          | (fail "no arm"))
      all_goals
        obtain ⟨-, -, -, q3, q4, q5⟩ := three_cells (.bool p) (.slice so zn sc) (.slice do_ (digs d).length dc) c0 c1 c2
        have HF1 := Lib.hid (result_num (v1 := .slice so zn sc) (v2 := .slice do_ (digs d).length dc) (b' := p) HS6.out c0 c1 c2)
        have HF2 := Lib.hid (result_num (v1 := .slice so zn sc) (v2 := .slice do_ (digs d).length dc) (b' := p) HD6.out c0 c1 c2)
        refine bodyPost_ret (v := .tuple #[.agg #[.bool p, .slice so zn sc, .slice do_ (digs d).length dc], .bool true]) ?_ rfl ?_
        · simp [results, Tryz.results72, go_sem, q3, q4, q5]
        · exact ⟨_, _, rfl, fun _ => ⟨z, d, HPos.out, HForm.out, HRt.out, IsQ.of HDp.out HF1.out HF2.out⟩, (fun h => by cases h), result_below HB6.out (Nat.le_refl _) _ _ _⟩
set_option maxRecDepth 100000 in
set_option maxHeartbeats 4000000 in
theorem GetQ_differ (a b : List UInt8) (z : Int) (w : World) (hl : (a ++ 47 :: b).length ≤ 9000) (hI : IntText a z) (hb : Numeral b) (h0 : 0 < seg b 0 b.length) (hr : ratText z (seg b 0 b.length) ≠ a ++ 47 :: b) :
    Calls Tryz.prog 72 #[.string (str (a ++ 47 :: b))] w fun e w' => GetQEnd (a ++ 47 :: b) w e w' := by
  have hn : ∀ c ∈ a, c ≠ 47 := fun c hc => hI.mem hc
  have hz : (str (a ++ 47 :: b)).size = (a ++ 47 :: b).length := str_size _
  have HG := Lib.hid (fun i (h : i < (str (a ++ 47 :: b)).size) => ch_get (l := a ++ 47 :: b) h)
  have HNo := Lib.hid (fun i (h : i < a.length) => no_slash (b := b) hn h)
  have HSt := Lib.hid (ch_slash a b)
  have hal : a.length ≤ 9000 := by simp at hl; omega
  have hbl : b.length ≤ 9000 := by simp at hl; omega
  have HGI0 := fun W => GetI_yes a z W (by omega) hI
  have HGN0 := fun W => GetN_yes b W hb
  have hzl : (digs z.natAbs).length ≤ 80000 := by
    rcases hI with ⟨h, rfl⟩ | ⟨t, -, h, -, rfl⟩
    · rw [Int.natAbs_natCast]
      refine Nat.le_trans (digs_len_of_lt (n := a.length) (Nat.lt_of_lt_of_le (seg_lt (l := a) (st := 0) (m := a.length) fun i _ hi => h.2.2.2 i (by omega)) (Nat.pow_le_pow_left (by omega) _))) (by have := h.2.1; omega)
    · rw [Int.natAbs_neg, Int.natAbs_natCast]
      refine Nat.le_trans (digs_len_of_lt (n := t.length) (Nat.lt_of_lt_of_le (seg_lt (l := t) (st := 0) (m := t.length) fun i _ hi => h.2.2.2 i (by omega)) (Nat.pow_le_pow_left (by omega) _))) (by have := h.2.1; omega)
  have hdl : (digs (seg b 0 b.length)).length ≤ 80000 := Nat.le_trans (digs_len_of_lt (n := b.length) (Nat.lt_of_lt_of_le (seg_lt (l := b) (st := 0) (m := b.length) fun i _ hi => hb.2.2.2 i (by omega)) (Nat.pow_le_pow_left (by omega) _))) (by omega)
  have hlp : (0 : Int) < (((digs (seg b 0 b.length)).length : Nat) : Int) := by rw [digs_pos (by omega)]; simp only [List.length_cons]; omega
  have HQT0 := fun W v (hv : IsQ W v z (seg b 0 b.length)) => QText_any v z (seg b 0 b.length) W hv hzl hdl h0
  have HForm := Lib.hid (show RatForm (a ++ 47 :: b) z (seg b 0 b.length) from Or.inr ⟨a, b, rfl, hI, hb, rfl, h0⟩)
  have HPos := Lib.hid h0
  have hx := ext_ahead a b
  have hx2 := ext_behind a b
  have hAN : a.length < (a ++ 47 :: b).length := by simp
  have hsm : ∀ t u : List UInt8, ((str t).toList == (str u).toList) = decide (t = u) := fun t u => by
    rw [ByteArray.toList_eq, ByteArray.toList_eq]
    show (t == u) = _
    by_cases h : t = u
    · rw [decide_eq_true h, h]; exact beq_self_eq_true _
    · rw [decide_eq_false h]; exact beq_eq_false_iff_ne.2 h
  have hsame := hsm (ratText z (seg b 0 b.length)) (a ++ 47 :: b)
  rw [decide_eq_false hr] at hsame
  have HEnd := Lib.hid (fun z' d' (h : RatForm (a ++ 47 :: b) z' d') => (show z' = z ∧ d' = seg b 0 b.length from by
    have := h.parts hn
    exact ⟨this.1.inj hI, this.2.2.1⟩))
  have HRt := Lib.hid hr
  generalize str (ratText z (seg b 0 b.length)) = srt at *
  generalize seg b 0 b.length = d at *
  generalize a ++ 47 :: b = l at *
  obtain ⟨N, hN⟩ : ∃ N, l.length = N := ⟨_, rfl⟩
  obtain ⟨A, hA⟩ : ∃ A, a.length = A := ⟨_, rfl⟩
  rw [hN] at hz hl hAN hx2
  rw [hA] at hx hx2 hAN HNo HSt
  have HN := Lib.hid hN
  have HGI := Lib.hid HGI0
  have HGN := Lib.hid HGN0
  have HQT := Lib.hid HQT0
  have HB0 := Lib.hid ((Below.refl w.heap.size w).alloc (Nat.le_refl _) blankQ)
  have HBL := Lib.hid (heap_alloc_new w blankQ)
  unfold blankQ at HB0 HBL
  generalize str l = s at *
  generalize str a = sa at *
  generalize str b = sb at *
  generalize hdp : decide (z < 0) = p at *
  have HDp := Lib.hid hdp
  generalize hnl : (digs z.natAbs).length = zn at *
  have HNl := Lib.hid hnl
  clear hdp hnl hN hn hI hA hb HGI0 HGN0 hal hbl h0 hzl hdl HQT0 hsm hr
  go_enter Tryz.func72, Tryz.ntmps72
  go_wp2
  go_loopw [4] (fun kv wr => (∃ k : Nat, k ≤ A ∧ kv = .int .i64 k) ∧ w.alloc (.cells #[.bool false, .slice none 0 0, .slice none 0 0] 86) = wr) (fun kv _ => A - (intOf kv).toNat)
  case atStart => exact ⟨⟨0, Nat.zero_le _, rfl⟩, rfl⟩
  case round =>
    obtain ⟨⟨k, hk, rfl⟩, rfl⟩ := hrel
    have hkN : (k : Int) < (N : Int) := by omega
    by_cases hlt : k < A
    · have hgk : ∀ h : k < s.size, (s[k]'h).toNat = ch l k := fun h => HG.out _ h
      have hc := HNo.out k hlt
      generalize ch l k = c at *
      have hcb : ((c : Int) == 47) = false := by simp only [beq_eq_false_iff_ne, ne_eq]; omega
      go_wp2
      refine ⟨?_, ?_⟩
      · exact ⟨⟨k + 1, by omega, by go_num⟩, trivial⟩
      · simp [intOf]; omega
    · obtain rfl : k = A := by omega
      have hgk : ∀ h : k < s.size, (s[k]'h).toNat = 47 := fun h => (HG.out _ h).trans HSt.out
      go_wp2_with (first
        | (go_at_call 70; (with_reducible refine (HGI.out _).mono ?_); rintro e w2 ⟨sv, rfl, hs, hb⟩
           obtain ⟨so, sc, rfl, -⟩ := id hs
           rw [HNl.out] at hs ⊢
           have HSn := Lib.hid hs
           have HB2 := Lib.hid hb
           clear hs hb)
        | (fail "no arm"))
      obtain ⟨V, hV⟩ : ∃ V, V = w2.alloc (.cells #[.bool p, .slice so zn sc] 57) := ⟨_, rfl⟩
      have hVn : V.heap[w2.heap.size]? = some (.cells #[.bool p, .slice so zn sc] 57 (0, 0)) := by rw [hV]; exact heap_alloc_new _ _
      have hb2 : Below w2.heap.size w2 V := by rw [hV]; exact (Below.refl _ _).alloc (Nat.le_refl _) _
      have HVr := Lib.hid (show V.heap[w.heap.size]? = some (.cells #[.bool false, .slice none 0 0, .slice none 0 0] 86 (0, 0)) from
        (hb2.block w.heap.size (Nat.lt_of_lt_of_le (by simp) HB2.out.size)).trans ((HB2.out.block w.heap.size (by simp)).trans HBL.out))
      have HVw := Lib.hid (HB0.out.trans ((HB2.out.trans (hb2.mono HB2.out.size)).mono HB0.out.size))
      have HVn := Lib.hid hVn
      have HSV := Lib.hid (HSn.out.below hb2)
      have HU1 := Lib.hid (fun W => OfU_int 1 1 rfl (by decide) W)
      rw [← hV]
      clear hV hVn hb2 HB2
      have HOLD := Lib.hid (fun W (hW : Below V.heap.size V W) => (show Below V.heap.size V W ∧ W.cell? ⟨w2.heap.size, 0, none⟩ = some (.bool p) ∧ W.cell? ⟨w2.heap.size, 1, none⟩ = some (.slice so zn sc) from by
        have h := (hW.block w2.heap.size (Array.getElem?_eq_some_iff.1 HVn.out).1).trans HVn.out
        exact ⟨hW, by rw [cell_of_row _ _ 0 _ 57 (0, 0) h]; rfl, by rw [cell_of_row _ _ 1 _ 57 (0, 0) h]; rfl⟩))
      go_region_held3 (fun w' => Below V.heap.size V w' ∧ w'.cell? ⟨w2.heap.size, 0, none⟩ = some (.bool p) ∧ w'.cell? ⟨w2.heap.size, 1, none⟩ = some (.slice so zn sc))
        (first
          | exact HOLD.out _ (Below.refl _ _).drew
          | exact HOLD.out _ (HB3.out.alloc HB3.out.size _)
          | exact HOLD.out _ (((HB3.out.setCell (Nat.le_refl _) _).setCell (Nat.le_refl _) _).setCell (Nat.le_refl _) _)
          | exact HOLD.out _ HB3.out
          | exact HOLD.out _ ((Below.refl _ _).alloc (Nat.le_refl _) _).drew
          | exact HOLD.out _ ((Below.refl _ _).drew.alloc (Nat.le_refl _) _))
        (first
          | (go_at_call 48; (with_reducible refine (HU1.out _).mono ?_); rintro e' w3 ⟨one, rfl, ho, hb⟩
             obtain ⟨oo, oc, rfl, -⟩ := id ho
             have HO := Lib.hid ho
             have HB3 := Lib.hid ((And.left ‹_ ∧ _› : Below V.heap.size V _).trans (hb.mono (And.left ‹_ ∧ _› : Below V.heap.size V _).size))
             clear ho
             first | (rw [madeQ_eq] at hb; obtain ⟨d0, d1, d2, g0, g1, g2⟩ := hb.cells; have HRow := Lib.hid hb.row) | (have hv := madeQ_drew hb; obtain ⟨d0, d1, d2, g0, g1, g2⟩ := hv.cells; have HRow := Lib.hid hv.row) | skip
             clear hb)
          | (fail "no arm"))
      all_goals
        have HBW := Lib.hid (And.left ‹_ ∧ _› : Below V.heap.size V _)
        obtain ⟨c0, c1, c2, f0, f1, f2⟩ := row3 ((HBW.out.block w.heap.size (Array.getElem?_eq_some_iff.1 HVr.out).1).trans HVr.out)
        have HSW := Lib.hid (HSV.out.below HBW.out)
      all_goals first
        | (have hrow := set3_row (v0 := .bool p) (v1 := .slice so zn sc) (v2 := .slice oo (digs 1).length oc) HRow.out
           have HQA := Lib.hid hrow
           have hlt : w.heap.size < V.heap.size := (Array.getElem?_eq_some_iff.1 HVr.out).1
           have HLt := Lib.hid hlt
           clear hrow hlt)
        | (have hrow := heap_alloc_new w3 (.cells #[.bool p, .slice so zn sc, .slice oo (digs 1).length oc] 86)
           have HQA := Lib.hid hrow
           have hlt : w.heap.size < w3.heap.size := Nat.lt_of_lt_of_le (Array.getElem?_eq_some_iff.1 HVr.out).1 HB3.out.size
           have HLt := Lib.hid hlt
           clear hrow hlt)
      all_goals
        go_wp2_with (first
          | (go_at_call 45; (with_reducible refine (HGN.out _).mono ?_); rintro e w5 ⟨dv, rfl, hdv, hb⟩; obtain ⟨do_, dc, rfl, -⟩ := id hdv
             have HB5 := Lib.hid (HBW.out.trans (hb.mono HBW.out.size))
             have hq5 := (hb.block _ (Array.getElem?_eq_some_iff.1 HQA.out).1).trans HQA.out
             have HQ5 := Lib.hid hq5
             obtain ⟨m0, m1, m2, n0, n1, n2⟩ := row3 hq5
             have HS5 := Lib.hid (show IsN _ (.slice so zn sc) z.natAbs from Reads.result (HSW.out.below hb) m0 2 (.slice do_ (digs d).length dc))
             have HD5 := Lib.hid (show IsN _ (.slice do_ (digs d).length dc) d from Reads.result hdv m0 2 (.slice do_ (digs d).length dc))
             have hne := Nat.ne_of_lt HLt.out
             have hne2 := hne.symm
             clear hb hq5 hdv)
          | (go_at_call 76; (with_reducible refine (HQT.out _ (.agg #[.bool p, .slice so zn sc, .slice do_ (digs d).length dc]) (IsQ.of HDp.out HS5.out HD5.out)).mono ?_); rintro e w6 ⟨rfl, hb⟩
             have HS6 := Lib.hid ((show IsN _ (.slice so zn sc) z.natAbs from HS5.out).below hb)
             have HD6 := Lib.hid ((show IsN _ (.slice do_ (digs d).length dc) d from HD5.out).below hb)
             have HB6 := Lib.hid (((HVw.out.trans (HB5.out.mono HVw.out.size)).setCell (Nat.le_of_lt HLt.out) (.slice do_ (digs d).length dc)).trans (hb.mono ((HVw.out.trans (HB5.out.mono HVw.out.size)).setCell (Nat.le_of_lt HLt.out) (.slice do_ (digs d).length dc)).size))
             have hq6 := (hb.block _ (Array.getElem?_eq_some_iff.1 (set_row2 (v2 := .slice do_ (digs d).length dc) HQ5.out)).1).trans (set_row2 (v2 := .slice do_ (digs d).length dc) HQ5.out)
             obtain ⟨m0, m1, m2, -⟩ := row3 hq6
             have hr6 := (hb.block w.heap.size (Array.getElem?_eq_some_iff.1 (far_row (k := 2) (u := .slice do_ (digs d).length dc) (Nat.ne_of_lt HLt.out) ((HB5.out.block w.heap.size (Array.getElem?_eq_some_iff.1 HVr.out).1).trans HVr.out))).1).trans (far_row (k := 2) (u := .slice do_ (digs d).length dc) (Nat.ne_of_lt HLt.out) ((HB5.out.block w.heap.size (Array.getElem?_eq_some_iff.1 HVr.out).1).trans HVr.out))
             obtain ⟨c0, c1, c2, f0, f1, f2⟩ := row3 hr6
             clear hb hq6 hr6)
          | (fail "no arm"))
      all_goals
        obtain ⟨-, -, -, q3, q4, q5⟩ := three_cells (.bool false) (.slice none 0 0) (.slice none 0 0) c0 c1 c2
        refine bodyPost_ret (v := .tuple #[.agg #[.bool false, .slice none 0 0, .slice none 0 0], .bool false]) ?_ rfl ?_
        · simp [results, Tryz.results72, go_sem, q3, q4, q5]
        · refine ⟨_, _, rfl, (fun h => by cases h), fun _ => ⟨rfl, fun z' d' h => ?_⟩, result_below HB6.out (Nat.le_refl _) _ _ _⟩
          obtain ⟨rfl, rfl⟩ := HEnd.out z' d' h
          exact HRt.out.symm
theorem slash_first (l : List UInt8) : (∀ c ∈ l, c ≠ 47) ∨ ∃ a b, l = a ++ 47 :: b ∧ ∀ c ∈ a, c ≠ 47 := by
  induction l with
  | nil => exact Or.inl fun c h => by simp at h
  | cons x l ih =>
    by_cases hx : x = 47
    · exact Or.inr ⟨[], l, by rw [hx]; rfl, fun c h => by simp at h⟩
    · rcases ih with h | ⟨a, b, rfl, h⟩
      · refine Or.inl fun c hc => ?_
        rcases List.mem_cons.1 hc with rfl | hc
        · exact hx
        · exact h c hc
      · refine Or.inr ⟨x :: a, b, rfl, fun c hc => ?_⟩
        rcases List.mem_cons.1 hc with rfl | hc
        · exact hx
        · exact h c hc
theorem GetQ_any (l : List UInt8) (w : World) (hl : l.length ≤ 9000) : Calls Tryz.prog 72 #[.string (str l)] w fun e w' => GetQEnd l w e w' := by
  rcases slash_first l with hn | ⟨a, b, rfl, hn⟩
  · by_cases hI : ∃ z, IntText l z
    · obtain ⟨z, hz⟩ := hI
      exact GetQ_whole l z w hl hn hz
    · exact GetQ_none l w hl hn fun z hz => hI ⟨z, hz⟩
  · by_cases hI : ∃ z, IntText a z
    · obtain ⟨z, hz⟩ := hI
      by_cases hb : Numeral b
      · rcases Nat.eq_zero_or_pos (seg b 0 b.length) with h0 | h0
        · exact GetQ_nought a b z w hl hz hb h0
        · by_cases hr : ratText z (seg b 0 b.length) = a ++ 47 :: b
          · exact GetQ_same a b z w hl hz hb h0 hr
          · exact GetQ_differ a b z w hl hz hb h0 hr
      · exact GetQ_bad a b z w hl hz hb
    · exact GetQ_ahead a b w hl hn fun z hz => hI ⟨z, hz⟩
end Go.Proofs.YtfpooimjjpamoaaGreatDoor.ref
