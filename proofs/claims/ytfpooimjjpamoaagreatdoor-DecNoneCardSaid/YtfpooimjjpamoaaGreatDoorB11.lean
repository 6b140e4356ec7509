/-
  The steps of the walks, part 11: RefGetQ.
-/
import Derived.Test.YtfpooimjjpamoaaGreatDoorB10
import Derived.Test.YtfpooimjjpamoaaGreatDoorB08
import Derived.Test.YtfpooimjjpamoaaGreatDoorS22
namespace Go.Proofs.YtfpooimjjpamoaaGreatDoor.ref
open Go.RowKit
theorem GetI_yes (l : List UInt8) (z : Int) (w : World) (hl : l.length ≤ 90000) (h : IntText l z) :
    Calls Tryz.prog 70 #[.string (str l)] w fun e w' => ∃ s, e = .returned (.tuple #[.agg #[.bool (decide (z < 0)), s], .bool true]) ∧ IsN w' s z.natAbs ∧ Below w.heap.size w w' := by
  refine (GetI_any l w hl).mono ?_
  rintro e w' ⟨s, b, ok, rfl, h1, h2, hb⟩
  cases ok
  · exact absurd h ((h2 rfl).1 z)
  · obtain ⟨z', hz, rfl, hs⟩ := h1 rfl
    obtain rfl := h.inj hz
    exact ⟨s, rfl, hs, hb⟩
theorem GetI_no (l : List UInt8) (w : World) (hl : l.length ≤ 90000) (h : ∀ z, ¬ IntText l z) :
    Calls Tryz.prog 70 #[.string (str l)] w fun e w' => e = .returned (.tuple #[.agg #[.bool false, .slice none 0 0], .bool false]) ∧ Below w.heap.size w w' := by
  refine (GetI_any l w hl).mono ?_
  rintro e w' ⟨s, b, ok, rfl, h1, h2, hb⟩
  cases ok
  · obtain ⟨-, rfl, rfl⟩ := h2 rfl
    exact ⟨rfl, hb⟩
  · obtain ⟨z', hz, -⟩ := h1 rfl
    exact absurd hz (h z')
theorem ratText_one (z : Int) : ratText z 1 = Lib.itoa z := by
  unfold ratText lowN lowD
  rw [Nat.gcd_one_right, Nat.div_one, if_pos rfl, List.append_nil, signed_back]
def MadeQ (V w3 : World) : Prop := Below (V.alloc (.cells #[Value.bool false, .slice none 0 0, .slice none 0 0] 86)).heap.size (V.alloc (.cells #[Value.bool false, .slice none 0 0, .slice none 0 0] 86)) w3
theorem madeQ_eq (V w3 : World) : Below (V.alloc (.cells #[Value.bool false, .slice none 0 0, .slice none 0 0] 86)).heap.size (V.alloc (.cells #[Value.bool false, .slice none 0 0, .slice none 0 0] 86)) w3 = MadeQ V w3 := rfl
theorem madeQ_drew {V w3 : World} (h : Below (V.alloc (.cells #[Value.bool false, .slice none 0 0, .slice none 0 0] 86)).drew.heap.size (V.alloc (.cells #[Value.bool false, .slice none 0 0, .slice none 0 0] 86)).drew w3) : MadeQ V w3 :=
  (Below.refl (V.alloc (.cells #[Value.bool false, .slice none 0 0, .slice none 0 0] 86)).heap.size (V.alloc (.cells #[Value.bool false, .slice none 0 0, .slice none 0 0] 86))).drew.trans h
theorem MadeQ.cells {V w3 : World} (h : MadeQ V w3) : w3.cell? ⟨V.heap.size, 0, none⟩ = some (.bool false) ∧ w3.cell? ⟨V.heap.size, 1, none⟩ = some (.slice none 0 0) ∧ w3.cell? ⟨V.heap.size, 2, none⟩ = some (.slice none 0 0) ∧ w3.frozen? ⟨V.heap.size, 0, none⟩ = false ∧ w3.frozen? ⟨V.heap.size, 1, none⟩ = false ∧ w3.frozen? ⟨V.heap.size, 2, none⟩ = false :=
  row3 ((Below.block h V.heap.size (by simp)).trans (heap_alloc_new V _))
theorem IsQ.of {w : World} {s t : Value} {z : Int} {d : Nat} {p : Bool} (hp : decide (z < 0) = p) (hs : IsN w s z.natAbs) (ht : IsN w t d) : IsQ w (.agg #[.bool p, s, t]) z d := ⟨s, t, by rw [hp], hs, ht⟩
theorem no_slash {a b : List UInt8} (hn : ∀ c ∈ a, c ≠ 47) {i : Nat} (h : i < a.length) : ch (a ++ 47 :: b) i ≠ 47 := fun e => by
  have hc : ch (a ++ 47 :: b) i = a[i].toNat := by
    unfold ch
    rw [List.getD_eq_getElem?_getD, List.getElem?_append_left h, List.getElem?_eq_getElem h]
    rfl
  refine hn a[i] (List.getElem_mem h) ?_
  rw [← UInt8.ofNat_toNat (x := a[i]), ← hc, e]
  rfl
theorem ch_slash (a b : List UInt8) : ch (a ++ 47 :: b) a.length = 47 := by
  unfold ch
  rw [List.getD_eq_getElem?_getD, List.getElem?_append_right (Nat.le_refl _), Nat.sub_self]
  rfl
theorem ext_ahead (a b : List UInt8) : (str (a ++ 47 :: b)).extract 0 a.length = str a := by apply ByteArray.ext; simp [str]
theorem ext_behind (a b : List UInt8) : (str (a ++ 47 :: b)).extract (a.length + 1) (a ++ 47 :: b).length = str b := by
  apply ByteArray.ext
  simp [str]
  rw [List.take_of_length_le (by omega)]
def GetQEnd (l : List UInt8) (w : World) (e : Ending) (w' : World) : Prop :=
  ∃ v ok, e = .returned (.tuple #[v, .bool ok]) ∧ (ok = true → ∃ z d, 0 < d ∧ RatForm l z d ∧ l = ratText z d ∧ IsQ w' v z d) ∧ (ok = false → v = .agg #[.bool false, .slice none 0 0, .slice none 0 0] ∧ ∀ z d, RatForm l z d → l ≠ ratText z d) ∧ Below w.heap.size w w'
set_option maxRecDepth 100000 in
set_option maxHeartbeats 4000000 in
theorem GetQ_none (l : List UInt8) (w : World) (hl : l.length ≤ 9000) (hn : ∀ c ∈ l, c ≠ 47) (hI : ∀ z, ¬ IntText l z) :
    Calls Tryz.prog 72 #[.string (str l)] w fun e w' => GetQEnd l w e w' := by
  have hz : (str l).size = l.length := str_size l
  have HG := Lib.hid (fun i (h : i < (str l).size) => ch_get (l := l) h)
  have HNo := Lib.hid (fun i (h : i < l.length) => (show ch l i ≠ 47 from fun e => by
    have hc : ch l i = l[i].toNat := by simp [ch, h]
    refine hn l[i] (List.getElem_mem h) ?_
    rw [← UInt8.ofNat_toNat (x := l[i]), ← hc, e]
    rfl))
  have HGI := Lib.hid (fun W => GetI_no l W (by omega) hI)
  have hx : (str l).extract 0 l.length = str l := by apply ByteArray.ext; simp [str]
  obtain ⟨N, hN⟩ : ∃ N, l.length = N := ⟨_, rfl⟩
  rw [hN] at hz hl HNo hx
  have HN := Lib.hid hN
  have HEnd := Lib.hid (fun z d (h : RatForm l z d) => (show False from hI z (h.whole hn).1))
  have HB0 := Lib.hid ((Below.refl w.heap.size w).alloc (Nat.le_refl _) blankQ)
  have HBL := Lib.hid (heap_alloc_new w blankQ)
  unfold blankQ at HB0 HBL
  generalize str l = s at *
  clear hN hn hI
  go_enter Tryz.func72, Tryz.ntmps72
  go_wp2
  go_loopw [4] (fun kv wr => (∃ k : Nat, k ≤ N ∧ kv = .int .i64 k) ∧ w.alloc (.cells #[.bool false, .slice none 0 0, .slice none 0 0] 86) = wr) (fun kv _ => N - (intOf kv).toNat)
  case atStart => exact ⟨⟨0, Nat.zero_le _, rfl⟩, rfl⟩
  case round =>
    obtain ⟨⟨k, hk, rfl⟩, rfl⟩ := hrel
    by_cases hlt : k < N
    · have hgk : ∀ h : k < s.size, (s[k]'h).toNat = ch l k := fun h => HG.out _ h
      have hc := HNo.out k hlt
      generalize ch l k = c at *
      have hcb : ((c : Int) == 47) = false := by simp only [beq_eq_false_iff_ne, ne_eq]; omega
      go_wp2
      refine ⟨?_, ?_⟩
      · exact ⟨⟨k + 1, by omega, by go_num⟩, trivial⟩
      · simp [intOf]; omega
    · obtain rfl : k = N := by omega
      go_wp2_with (first
        | (go_at_call 70; (with_reducible refine (HGI.out _).mono ?_); rintro e w2 ⟨rfl, hb⟩
           have HB2 := Lib.hid hb
           clear hb)
        | (fail "no arm"))
      obtain ⟨V, hV⟩ : ∃ V, V = w2.alloc (.cells #[.bool false, .slice none 0 0] 57) := ⟨_, rfl⟩
      have hVn : V.heap[w2.heap.size]? = some (.cells #[.bool false, .slice none 0 0] 57 (0, 0)) := by rw [hV]; exact heap_alloc_new _ _
      have hb2 : Below w2.heap.size w2 V := by rw [hV]; exact (Below.refl _ _).alloc (Nat.le_refl _) _
      have HVr := Lib.hid (show V.heap[w.heap.size]? = some (.cells #[.bool false, .slice none 0 0, .slice none 0 0] 86 (0, 0)) from
        (hb2.block w.heap.size (Nat.lt_of_lt_of_le (by simp) HB2.out.size)).trans ((HB2.out.block w.heap.size (by simp)).trans HBL.out))
      have HVw := Lib.hid (HB0.out.trans ((HB2.out.trans (hb2.mono HB2.out.size)).mono HB0.out.size))
      have HVn := Lib.hid hVn
      have HU1 := Lib.hid (fun W => OfU_int 1 1 rfl (by decide) W)
      rw [← hV]
      clear hV hVn hb2 HB2
      have HOLD := Lib.hid (fun W (hW : Below V.heap.size V W) => (show Below V.heap.size V W ∧ W.cell? ⟨w2.heap.size, 0, none⟩ = some (.bool false) ∧ W.cell? ⟨w2.heap.size, 1, none⟩ = some (.slice none 0 0) from by
        have h := (hW.block w2.heap.size (Array.getElem?_eq_some_iff.1 HVn.out).1).trans HVn.out
        exact ⟨hW, by rw [cell_of_row _ _ 0 _ 57 (0, 0) h]; rfl, by rw [cell_of_row _ _ 1 _ 57 (0, 0) h]; rfl⟩))
      go_region_held3 (fun w' => Below V.heap.size V w' ∧ w'.cell? ⟨w2.heap.size, 0, none⟩ = some (.bool false) ∧ w'.cell? ⟨w2.heap.size, 1, none⟩ = some (.slice none 0 0))
        (first
          | exact HOLD.out _ (Below.refl _ _).drew
          | exact HOLD.out _ (HB3.out.alloc HB3.out.size _)
          | exact HOLD.out _ (((HB3.out.setCell (Nat.le_refl _) _).setCell (Nat.le_refl _) _).setCell (Nat.le_refl _) _)
          | exact HOLD.out _ HB3.out
          | exact HOLD.out _ ((Below.refl _ _).alloc (Nat.le_refl _) _).drew
          | exact HOLD.out _ ((Below.refl _ _).drew.alloc (Nat.le_refl _) _))
        (first
          | (go_at_call 48; (with_reducible refine (HU1.out _).mono ?_); rintro e' w3 ⟨one, rfl, ho, hb⟩
             obtain ⟨oo, oc, rfl, -⟩ := id ho
             have HO := Lib.hid ho
             have HB3 := Lib.hid ((And.left ‹_ ∧ _› : Below V.heap.size V _).trans (hb.mono (And.left ‹_ ∧ _› : Below V.heap.size V _).size))
             clear ho
             first | (rw [madeQ_eq] at hb; obtain ⟨d0, d1, d2, g0, g1, g2⟩ := hb.cells) | (have hv := madeQ_drew hb; obtain ⟨d0, d1, d2, g0, g1, g2⟩ := hv.cells) | skip
             clear hb)
          | (fail "no arm"))
      all_goals
        have HBW := Lib.hid (And.left ‹_ ∧ _› : Below V.heap.size V _)
        obtain ⟨c0, c1, c2, f0, f1, f2⟩ := row3 ((HBW.out.block w.heap.size (Array.getElem?_eq_some_iff.1 HVr.out).1).trans HVr.out)
        go_wp2
        obtain ⟨-, -, -, q3, q4, q5⟩ := three_cells (.bool false) (.slice none 0 0) (.slice none 0 0) c0 c1 c2
        refine bodyPost_ret (v := .tuple #[.agg #[.bool false, .slice none 0 0, .slice none 0 0], .bool false]) ?_ rfl ?_
        · simp [results, Tryz.results72, go_sem, q3, q4, q5]
        · exact ⟨_, _, rfl, (fun h => by cases h), fun _ => ⟨rfl, fun z d h => absurd h (fun h => HEnd.out z d h)⟩, result_below (HVw.out.trans (HBW.out.mono HVw.out.size)) (Nat.le_refl _) _ _ _⟩
set_option maxRecDepth 100000 in
set_option maxHeartbeats 4000000 in
theorem GetQ_whole (l : List UInt8) (z : Int) (w : World) (hl : l.length ≤ 9000) (hn : ∀ c ∈ l, c ≠ 47) (hI : IntText l z) :
    Calls Tryz.prog 72 #[.string (str l)] w fun e w' => GetQEnd l w e w' := by
  have hz : (str l).size = l.length := str_size l
  have HG := Lib.hid (fun i (h : i < (str l).size) => ch_get (l := l) h)
  have HNo := Lib.hid (fun i (h : i < l.length) => (show ch l i ≠ 47 from fun e => by
    have hc : ch l i = l[i].toNat := by simp [ch, h]
    refine hn l[i] (List.getElem_mem h) ?_
    rw [← UInt8.ofNat_toNat (x := l[i]), ← hc, e]
    rfl))
  have HGI0 := fun W => GetI_yes l z W (by omega) hI
  have hzl : (digs z.natAbs).length ≤ 80000 := by
    rcases hI with ⟨h, rfl⟩ | ⟨t, -, h, -, rfl⟩
    · rw [Int.natAbs_natCast]
      refine Nat.le_trans (digs_len_of_lt (n := l.length) (Nat.lt_of_lt_of_le (seg_lt (l := l) (st := 0) (m := l.length) fun i _ hi => h.2.2.2 i (by omega)) (Nat.pow_le_pow_left (by omega) _))) (by have := h.2.1; omega)
    · rw [Int.natAbs_neg, Int.natAbs_natCast]
      refine Nat.le_trans (digs_len_of_lt (n := t.length) (Nat.lt_of_lt_of_le (seg_lt (l := t) (st := 0) (m := t.length) fun i _ hi => h.2.2.2 i (by omega)) (Nat.pow_le_pow_left (by omega) _))) (by have := h.2.1; omega)
  have HQT0 := fun W v (hv : IsQ W v z 1) => QText_any v z 1 W hv hzl (by rw [show digs 1 = [1] by decide +kernel]; simp) (by omega)
  rw [ratText_one, ← hI.itoa] at HQT0
  have HEnd := Lib.hid (show RatForm l z 1 ∧ l = ratText z 1 from ⟨Or.inl ⟨hI, rfl⟩, by rw [ratText_one]; exact hI.itoa⟩)
  have hx : (str l).extract 0 l.length = str l := by apply ByteArray.ext; simp [str]
  obtain ⟨N, hN⟩ : ∃ N, l.length = N := ⟨_, rfl⟩
  rw [hN] at hz hl HNo hx
  have HN := Lib.hid hN
  have HGI := Lib.hid HGI0
  have HQT := Lib.hid HQT0
  have HB0 := Lib.hid ((Below.refl w.heap.size w).alloc (Nat.le_refl _) blankQ)
  have HBL := Lib.hid (heap_alloc_new w blankQ)
  unfold blankQ at HB0 HBL
  generalize str l = s at *
  clear hN hn hI hzl HGI0 HQT0
  generalize hdp : decide (z < 0) = p at *
  have HDp := Lib.hid hdp
  generalize hnl : (digs z.natAbs).length = zn at *
  have HNl := Lib.hid hnl
  clear hdp hnl
  go_enter Tryz.func72, Tryz.ntmps72
  go_wp2
  go_loopw [4] (fun kv wr => (∃ k : Nat, k ≤ N ∧ kv = .int .i64 k) ∧ w.alloc (.cells #[.bool false, .slice none 0 0, .slice none 0 0] 86) = wr) (fun kv _ => N - (intOf kv).toNat)
  case atStart => exact ⟨⟨0, Nat.zero_le _, rfl⟩, rfl⟩
  case round =>
    obtain ⟨⟨k, hk, rfl⟩, rfl⟩ := hrel
    by_cases hlt : k < N
    · have hgk : ∀ h : k < s.size, (s[k]'h).toNat = ch l k := fun h => HG.out _ h
      have hc := HNo.out k hlt
      generalize ch l k = c at *
      have hcb : ((c : Int) == 47) = false := by simp only [beq_eq_false_iff_ne, ne_eq]; omega
      go_wp2
      refine ⟨?_, ?_⟩
      · exact ⟨⟨k + 1, by omega, by go_num⟩, trivial⟩
      · simp [intOf]; omega
    · obtain rfl : k = N := by omega
      go_wp2_with (first
        | (go_at_call 70; (with_reducible refine (HGI.out _).mono ?_); rintro e w2 ⟨sv, rfl, hs, hb⟩
           obtain ⟨so, sc, rfl, -⟩ := id hs
           rw [HNl.out] at hs ⊢
           have HSn := Lib.hid hs
           have HB2 := Lib.hid hb
           clear hs hb)
        | (fail "no arm"))
      obtain ⟨V, hV⟩ : ∃ V, V = w2.alloc (.cells #[.bool p, .slice so zn sc] 57) := ⟨_, rfl⟩
      have hVn : V.heap[w2.heap.size]? = some (.cells #[.bool p, .slice so zn sc] 57 (0, 0)) := by rw [hV]; exact heap_alloc_new _ _
      have hb2 : Below w2.heap.size w2 V := by rw [hV]; exact (Below.refl _ _).alloc (Nat.le_refl _) _
      have HVr := Lib.hid (show V.heap[w.heap.size]? = some (.cells #[.bool false, .slice none 0 0, .slice none 0 0] 86 (0, 0)) from
        (hb2.block w.heap.size (Nat.lt_of_lt_of_le (by simp) HB2.out.size)).trans ((HB2.out.block w.heap.size (by simp)).trans HBL.out))
      have HVw := Lib.hid (HB0.out.trans ((HB2.out.trans (hb2.mono HB2.out.size)).mono HB0.out.size))
      have HVn := Lib.hid hVn
      have HSV := Lib.hid (HSn.out.below hb2)
      have HU1 := Lib.hid (fun W => OfU_int 1 1 rfl (by decide) W)
      rw [← hV]
      clear hV hVn hb2 HB2
      have HOLD := Lib.hid (fun W (hW : Below V.heap.size V W) => (show Below V.heap.size V W ∧ W.cell? ⟨w2.heap.size, 0, none⟩ = some (.bool p) ∧ W.cell? ⟨w2.heap.size, 1, none⟩ = some (.slice so zn sc) from by
        have h := (hW.block w2.heap.size (Array.getElem?_eq_some_iff.1 HVn.out).1).trans HVn.out
        exact ⟨hW, by rw [cell_of_row _ _ 0 _ 57 (0, 0) h]; rfl, by rw [cell_of_row _ _ 1 _ 57 (0, 0) h]; rfl⟩))
      go_region_held3 (fun w' => Below V.heap.size V w' ∧ w'.cell? ⟨w2.heap.size, 0, none⟩ = some (.bool p) ∧ w'.cell? ⟨w2.heap.size, 1, none⟩ = some (.slice so zn sc))
        (first
          | exact HOLD.out _ (Below.refl _ _).drew
          | exact HOLD.out _ (HB3.out.alloc HB3.out.size _)
          | exact HOLD.out _ (((HB3.out.setCell (Nat.le_refl _) _).setCell (Nat.le_refl _) _).setCell (Nat.le_refl _) _)
          | exact HOLD.out _ HB3.out
          | exact HOLD.out _ ((Below.refl _ _).alloc (Nat.le_refl _) _).drew
          | exact HOLD.out _ ((Below.refl _ _).drew.alloc (Nat.le_refl _) _))
        (first
          | (go_at_call 48; (with_reducible refine (HU1.out _).mono ?_); rintro e' w3 ⟨one, rfl, ho, hb⟩
             obtain ⟨oo, oc, rfl, -⟩ := id ho
             have HO := Lib.hid ho
             have HB3 := Lib.hid ((And.left ‹_ ∧ _› : Below V.heap.size V _).trans (hb.mono (And.left ‹_ ∧ _› : Below V.heap.size V _).size))
             clear ho
             first | (rw [madeQ_eq] at hb; obtain ⟨d0, d1, d2, g0, g1, g2⟩ := hb.cells) | (have hv := madeQ_drew hb; obtain ⟨d0, d1, d2, g0, g1, g2⟩ := hv.cells) | skip
             clear hb)
          | (fail "no arm"))
      all_goals
        have HBW := Lib.hid (And.left ‹_ ∧ _› : Below V.heap.size V _)
        obtain ⟨c0, c1, c2, f0, f1, f2⟩ := row3 ((HBW.out.block w.heap.size (Array.getElem?_eq_some_iff.1 HVr.out).1).trans HVr.out)
        have HSW := Lib.hid (HSV.out.below HBW.out)
      all_goals first
        | (have hone := result_num (b' := p) (v1 := .slice so zn sc) (v2 := .slice oo (digs 1).length oc) HO.out d0 d1 d2
           have HOne := Lib.hid hone
           obtain ⟨-, -, -, e0, e1, e2⟩ := three_cells (.bool p) (.slice so zn sc) (.slice oo (digs 1).length oc) d0 d1 d2
           clear hone)
        | (have hone := HO.out.below ((Below.refl w3.heap.size w3).alloc (Nat.le_refl _) (.cells #[.bool p, .slice so zn sc, .slice oo (digs 1).length oc] 86))
           have HOne := Lib.hid hone
           obtain ⟨e0, e1, e2, -⟩ := row3 (heap_alloc_new w3 (.cells #[.bool p, .slice so zn sc, .slice oo (digs 1).length oc] 86))
           clear hone)
      all_goals
        go_wp2_with (first
          | (go_at_call 76; (with_reducible refine (HQT.out _ (.agg #[.bool p, .slice so zn sc, .slice oo (digs 1).length oc]) (IsQ.of HDp.out HSW.out HOne.out)).mono ?_); rintro e w5 ⟨rfl, hb⟩
             have HS5 := Lib.hid (HSW.out.below hb)
             have HO5 := Lib.hid (HOne.out.below hb)
             have HB5 := Lib.hid (HBW.out.trans (hb.mono HBW.out.size))
             have m0 := (hb.cell (cell_lt e0)).trans e0
             have m1 := (hb.cell (cell_lt e1)).trans e1
             have m2 := (hb.cell (cell_lt e2)).trans e2
             obtain ⟨c0, c1, c2, f0, f1, f2⟩ := row3 ((HB5.out.block w.heap.size (Array.getElem?_eq_some_iff.1 HVr.out).1).trans HVr.out)
             clear hb)
          | (fail "no arm"))
      all_goals
        obtain ⟨-, -, -, q3, q4, q5⟩ := three_cells (.bool p) (.slice so zn sc) (.slice oo (digs 1).length oc) c0 c1 c2
        have HF1 := Lib.hid (result_num (v1 := .slice so zn sc) (v2 := .slice oo (digs 1).length oc) (b' := p) HS5.out c0 c1 c2)
        have HF2 := Lib.hid (result_num (v1 := .slice so zn sc) (v2 := .slice oo (digs 1).length oc) (b' := p) HO5.out c0 c1 c2)
        refine bodyPost_ret (v := .tuple #[.agg #[.bool p, .slice so zn sc, .slice oo (digs 1).length oc], .bool true]) ?_ rfl ?_
        · simp [results, Tryz.results72, go_sem, q3, q4, q5]
        · exact ⟨_, _, rfl, fun _ => ⟨z, 1, by omega, HEnd.out.1, HEnd.out.2, IsQ.of HDp.out HF1.out HF2.out⟩, (fun h => by cases h), result_below (HVw.out.trans (HB5.out.mono HVw.out.size)) (Nat.le_refl _) _ _ _⟩
set_option maxRecDepth 100000 in
set_option maxHeartbeats 4000000 in
theorem GetQ_ahead (a b : List UInt8) (w : World) (hl : (a ++ 47 :: b).length ≤ 9000) (hn : ∀ c ∈ a, c ≠ 47) (hI : ∀ z, ¬ IntText a z) :
    Calls Tryz.prog 72 #[.string (str (a ++ 47 :: b))] w fun e w' => GetQEnd (a ++ 47 :: b) w e w' := by
  have hz : (str (a ++ 47 :: b)).size = (a ++ 47 :: b).length := str_size _
  have HG := Lib.hid (fun i (h : i < (str (a ++ 47 :: b)).size) => ch_get (l := a ++ 47 :: b) h)
  have HNo := Lib.hid (fun i (h : i < a.length) => no_slash (b := b) hn h)
  have HSt := Lib.hid (ch_slash a b)
  have HGI := Lib.hid (fun W => GetI_no a W (by simp at hl; omega) hI)
  have hx := ext_ahead a b
  have hAN : a.length < (a ++ 47 :: b).length := by simp
  have HEnd := Lib.hid (fun z d (h : RatForm (a ++ 47 :: b) z d) => (show False from hI z (h.parts hn).1))
  generalize a ++ 47 :: b = l at *
  obtain ⟨N, hN⟩ : ∃ N, l.length = N := ⟨_, rfl⟩
  obtain ⟨A, hA⟩ : ∃ A, a.length = A := ⟨_, rfl⟩
  rw [hN] at hz hl hAN
  rw [hA] at hx hAN HNo HSt
  have HN := Lib.hid hN
  have HB0 := Lib.hid ((Below.refl w.heap.size w).alloc (Nat.le_refl _) blankQ)
  have HBL := Lib.hid (heap_alloc_new w blankQ)
  unfold blankQ at HB0 HBL
  generalize str l = s at *
  generalize str a = sa at *
  clear hN hn hI hA
  go_enter Tryz.func72, Tryz.ntmps72
  go_wp2
  go_loopw [4] (fun kv wr => (∃ k : Nat, k ≤ A ∧ kv = .int .i64 k) ∧ w.alloc (.cells #[.bool false, .slice none 0 0, .slice none 0 0] 86) = wr) (fun kv _ => A - (intOf kv).toNat)
  case atStart => exact ⟨⟨0, Nat.zero_le _, rfl⟩, rfl⟩
  case round =>
    obtain ⟨⟨k, hk, rfl⟩, rfl⟩ := hrel
    have hkN : (k : Int) < (N : Int) := by omega
    by_cases hlt : k < A
    · have hgk : ∀ h : k < s.size, (s[k]'h).toNat = ch l k := fun h => HG.out _ h
      have hc := HNo.out k hlt
      generalize ch l k = c at *
      have hcb : ((c : Int) == 47) = false := by simp only [beq_eq_false_iff_ne, ne_eq]; omega
      go_wp2
      refine ⟨?_, ?_⟩
      · exact ⟨⟨k + 1, by omega, by go_num⟩, trivial⟩
      · simp [intOf]; omega
    · obtain rfl : k = A := by omega
      have hgk : ∀ h : k < s.size, (s[k]'h).toNat = 47 := fun h => (HG.out _ h).trans HSt.out
      go_wp2_with (first
        | (go_at_call 70; (with_reducible refine (HGI.out _).mono ?_); rintro e w2 ⟨rfl, hb⟩
           have HB2 := Lib.hid hb
           clear hb)
        | (fail "no arm"))
      obtain ⟨V, hV⟩ : ∃ V, V = w2.alloc (.cells #[.bool false, .slice none 0 0] 57) := ⟨_, rfl⟩
      have hVn : V.heap[w2.heap.size]? = some (.cells #[.bool false, .slice none 0 0] 57 (0, 0)) := by rw [hV]; exact heap_alloc_new _ _
      have hb2 : Below w2.heap.size w2 V := by rw [hV]; exact (Below.refl _ _).alloc (Nat.le_refl _) _
      have HVr := Lib.hid (show V.heap[w.heap.size]? = some (.cells #[.bool false, .slice none 0 0, .slice none 0 0] 86 (0, 0)) from
        (hb2.block w.heap.size (Nat.lt_of_lt_of_le (by simp) HB2.out.size)).trans ((HB2.out.block w.heap.size (by simp)).trans HBL.out))
      have HVw := Lib.hid (HB0.out.trans ((HB2.out.trans (hb2.mono HB2.out.size)).mono HB0.out.size))
      have HVn := Lib.hid hVn
      have HU1 := Lib.hid (fun W => OfU_int 1 1 rfl (by decide) W)
      rw [← hV]
      clear hV hVn hb2 HB2
      have HOLD := Lib.hid (fun W (hW : Below V.heap.size V W) => (show Below V.heap.size V W ∧ W.cell? ⟨w2.heap.size, 0, none⟩ = some (.bool false) ∧ W.cell? ⟨w2.heap.size, 1, none⟩ = some (.slice none 0 0) from by
        have h := (hW.block w2.heap.size (Array.getElem?_eq_some_iff.1 HVn.out).1).trans HVn.out
        exact ⟨hW, by rw [cell_of_row _ _ 0 _ 57 (0, 0) h]; rfl, by rw [cell_of_row _ _ 1 _ 57 (0, 0) h]; rfl⟩))
      go_region_held3 (fun w' => Below V.heap.size V w' ∧ w'.cell? ⟨w2.heap.size, 0, none⟩ = some (.bool false) ∧ w'.cell? ⟨w2.heap.size, 1, none⟩ = some (.slice none 0 0))
        (first
          | exact HOLD.out _ (Below.refl _ _).drew
          | exact HOLD.out _ (HB3.out.alloc HB3.out.size _)
          | exact HOLD.out _ (((HB3.out.setCell (Nat.le_refl _) _).setCell (Nat.le_refl _) _).setCell (Nat.le_refl _) _)
          | exact HOLD.out _ HB3.out
          | exact HOLD.out _ ((Below.refl _ _).alloc (Nat.le_refl _) _).drew
          | exact HOLD.out _ ((Below.refl _ _).drew.alloc (Nat.le_refl _) _))
        (first
          | (go_at_call 48; (with_reducible refine (HU1.out _).mono ?_); rintro e' w3 ⟨one, rfl, ho, hb⟩
             obtain ⟨oo, oc, rfl, -⟩ := id ho
             have HO := Lib.hid ho
             have HB3 := Lib.hid ((And.left ‹_ ∧ _› : Below V.heap.size V _).trans (hb.mono (And.left ‹_ ∧ _› : Below V.heap.size V _).size))
             clear ho
             first | (rw [madeQ_eq] at hb; obtain ⟨d0, d1, d2, g0, g1, g2⟩ := hb.cells) | (have hv := madeQ_drew hb; obtain ⟨d0, d1, d2, g0, g1, g2⟩ := hv.cells) | skip
             clear hb)
          | (fail "no arm"))
      all_goals
        have HBW := Lib.hid (And.left ‹_ ∧ _› : Below V.heap.size V _)
        obtain ⟨c0, c1, c2, f0, f1, f2⟩ := row3 ((HBW.out.block w.heap.size (Array.getElem?_eq_some_iff.1 HVr.out).1).trans HVr.out)
        go_wp2
        obtain ⟨-, -, -, q3, q4, q5⟩ := three_cells (.bool false) (.slice none 0 0) (.slice none 0 0) c0 c1 c2
        refine bodyPost_ret (v := .tuple #[.agg #[.bool false, .slice none 0 0, .slice none 0 0], .bool false]) ?_ rfl ?_
        · simp [results, Tryz.results72, go_sem, q3, q4, q5]
        · exact ⟨_, _, rfl, (fun h => by cases h), fun _ => ⟨rfl, fun z d h => absurd h (fun h => HEnd.out z d h)⟩, result_below (HVw.out.trans (HBW.out.mono HVw.out.size)) (Nat.le_refl _) _ _ _⟩
end Go.Proofs.YtfpooimjjpamoaaGreatDoor.ref
