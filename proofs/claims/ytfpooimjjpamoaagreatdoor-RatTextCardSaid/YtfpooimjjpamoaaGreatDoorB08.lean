/-
  The steps of the walks, part 8: RefLow, RefQText.
-/
import Derived.Test.YtfpooimjjpamoaaGreatDoorB07
namespace Go.Proofs.YtfpooimjjpamoaaGreatDoor.ref
open Go.RowKit
theorem Q_end {w w1 w4 : World} {z : Int} {d n3 n4 r : Nat} {zo yo : Option Addr} {zc yc : Nat} (hz : IsN w4 (.slice zo n3 zc) z.natAbs) (hy : IsN w4 (.slice yo n4 yc) d) (h1 : w1.heap[r]? = some blankQ) (h : Below w1.heap.size w1 w4) (hw : Below w.heap.size w w1) (hr : w.heap.size ≤ r) :
    IsQ (((w4.setCell ⟨r, 0, none⟩ (.bool (decide (z < 0)))).setCell ⟨r, 1, none⟩ (.slice zo n3 zc)).setCell ⟨r, 2, none⟩ (.slice yo n4 yc)) (.agg #[.bool (decide (z < 0)), .slice zo n3 zc, .slice yo n4 yc]) z d ∧
    Below w.heap.size w (((w4.setCell ⟨r, 0, none⟩ (.bool (decide (z < 0)))).setCell ⟨r, 1, none⟩ (.slice zo n3 zc)).setCell ⟨r, 2, none⟩ (.slice yo n4 yc)) := by
  obtain ⟨c0, c1, c2, -, -, -⟩ := result_cells3 h1 h
  exact ⟨⟨_, _, rfl, result_num hz c0 c1 c2, result_num hy c0 c1 c2⟩, result_below (hw.trans (h.mono hw.size)) hr _ _ _⟩
set_option maxRecDepth 100000 in
set_option maxHeartbeats 4000000 in
theorem Low_any (v : Value) (z : Int) (d : Nat) (w : World) (hv : IsQ w v z d) (hz : (digs z.natAbs).length ≤ 80000) (hd : (digs d).length ≤ 80000) (h0 : 0 < d) :
    Calls Tryz.prog 92 #[v] w fun e w' => ∃ v', e = .returned v' ∧ IsQ w' v' (signed (decide (z < 0)) (z.natAbs / Nat.gcd z.natAbs d)) (d / Nat.gcd z.natAbs d) ∧ Below w.heap.size w w' := by
  obtain ⟨s, t, rfl, hs, ht⟩ := hv
  have hg0 : 0 < Nat.gcd z.natAbs d := Nat.gcd_pos_of_pos_right _ h0
  have hgl : (digs (Nat.gcd z.natAbs d)).length ≤ 80000 := by
    have h1 := Nat.gcd_le_right z.natAbs h0
    refine Nat.le_trans (digs_len_of_lt (n := (digs d).length) ?_) hd
    have h2 := val_lt (norm_digs d).1
    rw [val_digs] at h2
    omega
  have HS := Lib.hid hs
  have HT := Lib.hid ht
  generalize z.natAbs = x at *
  have HG := Lib.hid (fun w' (hb : Below w.heap.size w w') => Gcd_any s t x d w' (hs.below hb) (ht.below hb) (by omega) (by omega))
  generalize Nat.gcd x d = g at *
  have HD1 := Lib.hid (fun w' gv (hb : Below w.heap.size w w') (hg : IsN w' gv g) => Div_any s gv x g w' (hs.below hb) hg (by omega) (by omega) hg0)
  have HD2 := Lib.hid (fun w' gv (hb : Below w.heap.size w w') (hg : IsN w' gv g) => Div_any t gv d g w' (ht.below hb) hg (by omega) (by omega) hg0)
  generalize decide (z < 0) = p at *
  have HI := Lib.hid (fun w' a h => Int_any p a (x / g) w' h)
  obtain ⟨ao, ac, rfl, -⟩ := hs
  obtain ⟨co, cc, rfl, -⟩ := ht
  generalize (digs x).length = n at *
  generalize (digs d).length = m at *
  clear hz hd h0 hg0 hgl
  have HB := Lib.hid (((Below.refl w.heap.size w).alloc (Nat.le_refl _) (.cells #[.bool p, .slice ao n ac, .slice co m cc] 86)).alloc (by simp) blankQ)
  have HBL := Lib.hid (show ((w.alloc (.cells #[.bool p, .slice ao n ac, .slice co m cc] 86)).alloc blankQ).heap[w.heap.size + 1]? = some blankQ from by
    have := heap_alloc_new (w.alloc (.cells #[.bool p, .slice ao n ac, .slice co m cc] 86)) blankQ
    simpa [blankQ] using this)
  have HOLDS := Lib.hid (fun W (hW : Below ((w.alloc (.cells #[.bool p, .slice ao n ac, .slice co m cc] 86)).alloc blankQ).heap.size ((w.alloc (.cells #[.bool p, .slice ao n ac, .slice co m cc] 86)).alloc blankQ) W) =>
    (show W.cell? ⟨w.heap.size, 0, none⟩ = some (.bool p) ∧ W.cell? ⟨w.heap.size, 1, none⟩ = some (.slice ao n ac) ∧ W.cell? ⟨w.heap.size, 2, none⟩ = some (.slice co m cc) from by
      have h1 : ((w.alloc (.cells #[.bool p, .slice ao n ac, .slice co m cc] 86)).alloc blankQ).heap[w.heap.size]? = some (.cells #[.bool p, .slice ao n ac, .slice co m cc] 86 (0, 0)) :=
        (((Below.refl (w.alloc (.cells #[.bool p, .slice ao n ac, .slice co m cc] 86)).heap.size (w.alloc (.cells #[.bool p, .slice ao n ac, .slice co m cc] 86))).alloc (Nat.le_refl _) blankQ).block w.heap.size (by simp)).trans (heap_alloc_new w _)
      have h2 : W.heap[w.heap.size]? = some (.cells #[.bool p, .slice ao n ac, .slice co m cc] 86 (0, 0)) := (hW.block _ (by simp; omega)).trans h1
      exact ⟨by rw [cell_of_row _ w.heap.size 0 _ 86 (0, 0) h2]; rfl, by rw [cell_of_row _ w.heap.size 1 _ 86 (0, 0) h2]; rfl, by rw [cell_of_row _ w.heap.size 2 _ 86 (0, 0) h2]; rfl⟩))
  unfold blankQ at HB HBL HOLDS
  go_enter Tryz.func92, Tryz.ntmps92
  go_wp2_with (first
    | (go_at_call 41; (with_reducible refine (HG.out _ HB.out).mono ?_); rintro e' w2 ⟨gv, rfl, hi, hb⟩
       have HGv := Lib.hid hi
       have HB2 := Lib.hid hb
       have HW2 := Lib.hid (HB.out.trans (hb.mono HB.out.size))
       obtain ⟨go', gc, rfl, -⟩ := id HGv.out
       obtain ⟨k0, k1, k2⟩ := HOLDS.out _ HB2.out
       clear hi hb)
    | (go_at_call 34; (with_reducible refine (HD1.out _ _ HW2.out HGv.out).mono ?_); rintro e' w3 ⟨nv, rv, rfl, hi, hrv, hb⟩
       have HN := Lib.hid hi
       obtain ⟨no', nc, rfl, -⟩ := id hi
       obtain ⟨ro', rc, rfl, -⟩ := hrv
       have HG3 := Lib.hid (HGv.out.below hb)
       have HB3 := Lib.hid (HB2.out.trans (hb.mono HB2.out.size))
       have HW3 := Lib.hid (HW2.out.trans (hb.mono HW2.out.size))
       obtain ⟨k0, k1, k2⟩ := HOLDS.out _ HB3.out
       clear hi hb HGv)
    | (go_at_call 34; (with_reducible refine (HD2.out _ _ HW3.out HG3.out).mono ?_); rintro e' w4 ⟨dv, rv2, rfl, hi, hrv, hb⟩
       have HD4 := Lib.hid hi
       obtain ⟨yo, yc, rfl, -⟩ := id hi
       obtain ⟨ro2, rc2, rfl, -⟩ := hrv
       have HN4 := Lib.hid (HN.out.below hb)
       have HB4 := Lib.hid (HB3.out.trans (hb.mono HB3.out.size))
       obtain ⟨k0, k1, k2⟩ := HOLDS.out _ HB4.out
       clear hi hb HG3 HN)
    | (go_at_call 121; (with_reducible refine (HI.out _ _ HN4.out).mono ?_); rintro e' w5 ⟨x5, rfl, hi, hb⟩
       obtain ⟨s5, rfl, hs5⟩ := hi
       obtain ⟨zo, zc, rfl, -⟩ := id hs5
       have HS5 := Lib.hid hs5
       have HD5 := Lib.hid (HD4.out.below hb)
       have HB5 := Lib.hid (HB4.out.trans (hb.mono HB4.out.size))
       obtain ⟨c0, c1, c2, f0, f1, f2⟩ := result_cells3 HBL.out HB5.out
       clear hs5 hb)
    | (fail "no arm"))
  obtain ⟨hq, hbf⟩ := Q_end HS5.out HD5.out HBL.out HB5.out HB.out (by simp)
  obtain ⟨-, -, -, q3, q4, q5⟩ := three_cells (.bool (decide (signed p (x / g) < 0))) (.slice zo (digs (signed p (x / g)).natAbs).length zc) (.slice yo (digs (d / g)).length yc) c0 c1 c2
  refine bodyPost_ret (v := .agg #[.bool (decide (signed p (x / g) < 0)), .slice zo (digs (signed p (x / g)).natAbs).length zc, .slice yo (digs (d / g)).length yc]) ?_ rfl ?_
  · simp [results, Tryz.results92, go_sem, q3, q4, q5]
  · exact ⟨_, rfl, hq, hbf⟩
end Go.Proofs.YtfpooimjjpamoaaGreatDoor.ref
namespace Go.Proofs.YtfpooimjjpamoaaGreatDoor.ref
open Go.RowKit
def lowN (z : Int) (d : Nat) : Int := signed (decide (z < 0)) (z.natAbs / Nat.gcd z.natAbs d)
def lowD (z : Int) (d : Nat) : Nat := d / Nat.gcd z.natAbs d
def ratText (z : Int) (d : Nat) : List UInt8 := Lib.itoa (lowN z d) ++ (if lowD z d = 1 then [] else 47 :: Lib.decDigits (lowD z d))
theorem digs_le {x y n : Nat} (h : x ≤ y) (hy : (digs y).length ≤ n) : (digs x).length ≤ n := by
  refine Nat.le_trans (digs_len_of_lt (n := (digs y).length) ?_) hy
  have h2 := val_lt (norm_digs y).1
  rw [val_digs] at h2
  omega
theorem lowN_abs (z : Int) (d : Nat) : (lowN z d).natAbs = z.natAbs / Nat.gcd z.natAbs d := by
  unfold lowN signed
  generalize z.natAbs / Nat.gcd z.natAbs d = q
  split <;> omega
theorem row3 {w : World} {g : Nat} {v0 v1 v2 : Value} {t : TypeId} (h3 : w.heap[g]? = some (.cells #[v0, v1, v2] t (0, 0))) :
    w.cell? ⟨g, 0, none⟩ = some v0 ∧ w.cell? ⟨g, 1, none⟩ = some v1 ∧ w.cell? ⟨g, 2, none⟩ = some v2 ∧ w.frozen? ⟨g, 0, none⟩ = false ∧ w.frozen? ⟨g, 1, none⟩ = false ∧ w.frozen? ⟨g, 2, none⟩ = false := by
  refine ⟨?_, ?_, ?_, ?_, ?_, ?_⟩
  · rw [cell_of_row _ g 0 _ t (0, 0) h3]; rfl
  · rw [cell_of_row _ g 1 _ t (0, 0) h3]; rfl
  · rw [cell_of_row _ g 2 _ t (0, 0) h3]; rfl
  all_goals
    unfold World.frozen?
    rw [h3]
    rfl
theorem Low_ex (v : Value) (z : Int) (d : Nat) (w : World) (hv : IsQ w v z d) (hz : (digs z.natAbs).length ≤ 80000) (hd : (digs d).length ≤ 80000) (h0 : 0 < d) :
    Calls Tryz.prog 92 #[v] w fun e w' => ∃ s t, e = .returned (.agg #[.bool (decide (lowN z d < 0)), s, t]) ∧ (IsN w' s (lowN z d).natAbs ∧ IsN w' t (lowD z d)) ∧ Below w.heap.size w w' := by
  refine (Low_any v z d w hv hz hd h0).mono ?_
  rintro e w' ⟨v', rfl, ⟨s, t, rfl, hs, ht⟩, hb⟩
  exact ⟨s, t, rfl, ⟨hs, ht⟩, hb⟩
set_option maxRecDepth 100000 in
set_option maxHeartbeats 4000000 in
theorem QText_any (v : Value) (z : Int) (d : Nat) (w : World) (hv : IsQ w v z d) (hz : (digs z.natAbs).length ≤ 80000) (hd : (digs d).length ≤ 80000) (h0 : 0 < d) :
    Calls Tryz.prog 76 #[v] w fun e w' => e = .returned (.string (str (ratText z d))) ∧ Below w.heap.size w w' := by
  have HL := Lib.hid (fun w' (hb : Below w.heap.size w w') => Low_ex v z d w' (hv.below hb) hz hd h0)
  have hln : (digs (lowN z d).natAbs).length ≤ 80000 := by rw [lowN_abs]; exact digs_le (Nat.div_le_self _ _) hz
  have hld : (digs (lowD z d)).length ≤ 80000 := digs_le (Nat.div_le_self _ _) hd
  unfold ratText
  obtain ⟨s, t, rfl, hs, ht⟩ := hv
  obtain ⟨ao, ac, rfl, -⟩ := id hs
  obtain ⟨co, cc, rfl, -⟩ := id ht
  clear hs ht hz hd h0
  generalize (digs z.natAbs).length = an at *
  generalize (digs d).length = cn at *
  generalize lowN z d = n at *
  generalize lowD z d = m at *
  generalize decide (z < 0) = p at *
  have HC := Lib.hid (fun W x one (h1 : IsN W x m) (h2 : IsN W one 1) => Cmp_any x one m 1 W h1 h2)
  have HU := Lib.hid (fun W => OfU_int 1 1 rfl (by decide) W)
  have HIT := Lib.hid (fun W sv (h : IsN W sv n.natAbs) => IText_any (.agg #[.bool (decide (n < 0)), sv]) n W ⟨sv, rfl, h⟩ (by omega))
  have HTX := Lib.hid (fun W sv (h : IsN W sv m) => Text_any sv m W h (by omega))
  have hlen1 := dec_size hld
  have hlen2 : (str (Lib.itoa n)).size ≤ 9 * 80000 + 2 := by
    have h1 := dec_size hln
    unfold Lib.itoa
    rw [str_size] at h1 ⊢
    split
    · simp; omega
    · rw [show n.toNat = n.natAbs by omega]; omega
  clear hln hld
  have h47 : str (Lib.itoa n) ++ (⟨#[47]⟩ : ByteArray) ++ str (Lib.decDigits m) = str (Lib.itoa n ++ 47 :: Lib.decDigits m) := by
    rw [show (⟨#[47]⟩ : ByteArray) = str [47] from rfl, str_append, str_append, List.append_assoc]
    rfl
  have H47 := Lib.hid h47
  clear h47
  by_cases hm : m = 1
  · rw [if_pos hm, List.append_nil]
    rw [show cmpN m 1 = 0 by subst hm; rfl] at HC
    clear hm
    have HB := Lib.hid ((Below.refl w.heap.size w).alloc (Nat.le_refl _) (.cells #[.bool p, .slice ao an ac, .slice co cn cc] 86))
    go_enter Tryz.func76, Tryz.ntmps76
    go_wp2_with (first
      | (go_at_call 92; (with_reducible refine (HL.out _ HB.out).mono ?_); rintro e' w2 ⟨s2, t2, rfl, ⟨hs, ht⟩, hb⟩
         obtain ⟨no', nc, rfl, -⟩ := id hs
         obtain ⟨mo, mc, rfl, -⟩ := id ht
         have HS := Lib.hid hs
         have HT := Lib.hid ht
         obtain ⟨c0, c1, c2, f0, f1, f2⟩ := row3 ((hb.block w.heap.size (by simp)).trans (heap_alloc_new w (.cells #[.bool p, .slice ao an ac, .slice co cn cc] 86)))
         have HB2 := Lib.hid (HB.out.trans (hb.mono HB.out.size))
         clear hs ht hb HL)
      | (fail "no arm"))
    obtain ⟨-, -, -, k0, k1, k2⟩ := three_cells (.bool (decide (n < 0))) (.slice no' (digs n.natAbs).length nc) (.slice mo (digs m).length mc) c0 c1 c2
    have HS3 := Lib.hid (result_num (v1 := .slice no' (digs n.natAbs).length nc) (v2 := .slice mo (digs m).length mc) (b' := decide (n < 0)) HS.out c0 c1 c2)
    have HT3 := Lib.hid (result_num (v1 := .slice no' (digs n.natAbs).length nc) (v2 := .slice mo (digs m).length mc) (b' := decide (n < 0)) HT.out c0 c1 c2)
    have HB3 := Lib.hid (result_below HB2.out (Nat.le_refl _) (.bool (decide (n < 0))) (.slice no' (digs n.natAbs).length nc) (.slice mo (digs m).length mc))
    generalize hw3 : ((w2.setCell ⟨w.heap.size, 0, none⟩ (.bool (decide (n < 0)))).setCell ⟨w.heap.size, 1, none⟩ (.slice no' (digs n.natAbs).length nc)).setCell ⟨w.heap.size, 2, none⟩ (.slice mo (digs m).length mc) = w3 at *
    clear hw3 c0 c1 c2 f0 f1 f2 HS HT HB2
    have HOLD := Lib.hid (fun W (hW : Below w3.heap.size w3 W) => (show Below w3.heap.size w3 W ∧ W.cell? ⟨w.heap.size, 0, none⟩ = some (.bool (decide (n < 0))) ∧ W.cell? ⟨w.heap.size, 1, none⟩ = some (.slice no' (digs n.natAbs).length nc) ∧ W.cell? ⟨w.heap.size, 2, none⟩ = some (.slice mo (digs m).length mc) from
      ⟨hW, (hW.cell (cell_lt k0)).trans k0, (hW.cell (cell_lt k1)).trans k1, (hW.cell (cell_lt k2)).trans k2⟩))
    clear k0 k1 k2
    go_region_held3 (fun w' => Below w3.heap.size w3 w' ∧ w'.cell? ⟨w.heap.size, 0, none⟩ = some (.bool (decide (n < 0))) ∧ w'.cell? ⟨w.heap.size, 1, none⟩ = some (.slice no' (digs n.natAbs).length nc) ∧ w'.cell? ⟨w.heap.size, 2, none⟩ = some (.slice mo (digs m).length mc))
      (first
        | exact HOLD.out _ (Below.refl _ _).drew
        | exact HOLD.out _ HB5.out
        | exact HOLD.out _ HB4.out)
      (first
        | (go_at_call 48; (with_reducible refine (HU.out _).mono ?_); rintro e' w4 ⟨one, rfl, ho, hb⟩
           have HO := Lib.hid ho
           have HB4 := Lib.hid ((Below.refl w3.heap.size w3).drew.trans hb)
           clear ho hb)
        | (go_at_call 28; (with_reducible refine (HC.out _ _ _ (HT3.out.below HB4.out) HO.out).mono ?_); rintro e' w5 ⟨rfl, hb⟩
           have HB5 := Lib.hid (HB4.out.trans (hb.mono HB4.out.size))
           clear hb)
        | (fail "no arm"))
    obtain ⟨-, k0, k1, k2⟩ := HOLD.out _ HB5.out
    have HIT5 := Lib.hid (HIT.out _ _ (HS3.out.below HB5.out))
    go_wp2_with (first
      | (go_at_call 53; (with_reducible refine (HIT5.out).mono ?_); rintro e' w6 ⟨rfl, hb⟩
         have HB6 := Lib.hid (HB3.out.trans ((HB5.out.trans (hb.mono HB5.out.size)).mono HB3.out.size))
         clear hb)
      | (fail "no arm"))
    go_ret
    exact ⟨rfl, HB6.out⟩
  · rw [if_neg hm]
    rw [← H47.out]
    clear H47
    obtain ⟨c, hc⟩ : ∃ c, c = cmpN m 1 := ⟨_, rfl⟩
    have hcb : (c == 0) = false := by
      rw [hc]
      unfold cmpN
      simp only [beq_eq_false_iff_ne, ne_eq]
      split
      · omega
      · omega
    rw [← hc] at HC
    clear hm hc
    generalize str (Lib.itoa n) = s1 at *
    generalize str (Lib.decDigits m) = s2 at *
    have hKs : ({ data := #[47] } : ByteArray).size = 1 := rfl
    have hz1 : ¬ 9223372036854775807 < s1.size + ({ data := #[47] } : ByteArray).size := by omega
    have hz2 : ¬ 9223372036854775807 < (s1 ++ ({ data := #[47] } : ByteArray)).size + s2.size := by rw [ByteArray.size_append]; omega
    have hz3 : ¬ 9223372036854775807 < s1.size + 1 := by omega
    have hz4 : ¬ 9223372036854775807 < s1.size + 1 + s2.size := by omega
    have HB := Lib.hid ((Below.refl w.heap.size w).alloc (Nat.le_refl _) (.cells #[.bool p, .slice ao an ac, .slice co cn cc] 86))
    go_enter Tryz.func76, Tryz.ntmps76
    go_wp2_with (first
      | (go_at_call 92; (with_reducible refine (HL.out _ HB.out).mono ?_); rintro e' w2 ⟨s2, t2, rfl, ⟨hs, ht⟩, hb⟩
         obtain ⟨no', nc, rfl, -⟩ := id hs
         obtain ⟨mo, mc, rfl, -⟩ := id ht
         have HS := Lib.hid hs
         have HT := Lib.hid ht
         obtain ⟨c0, c1, c2, f0, f1, f2⟩ := row3 ((hb.block w.heap.size (by simp)).trans (heap_alloc_new w (.cells #[.bool p, .slice ao an ac, .slice co cn cc] 86)))
         have HB2 := Lib.hid (HB.out.trans (hb.mono HB.out.size))
         clear hs ht hb HL)
      | (fail "no arm"))
    obtain ⟨-, -, -, k0, k1, k2⟩ := three_cells (.bool (decide (n < 0))) (.slice no' (digs n.natAbs).length nc) (.slice mo (digs m).length mc) c0 c1 c2
    have HS3 := Lib.hid (result_num (v1 := .slice no' (digs n.natAbs).length nc) (v2 := .slice mo (digs m).length mc) (b' := decide (n < 0)) HS.out c0 c1 c2)
    have HT3 := Lib.hid (result_num (v1 := .slice no' (digs n.natAbs).length nc) (v2 := .slice mo (digs m).length mc) (b' := decide (n < 0)) HT.out c0 c1 c2)
    have HB3 := Lib.hid (result_below HB2.out (Nat.le_refl _) (.bool (decide (n < 0))) (.slice no' (digs n.natAbs).length nc) (.slice mo (digs m).length mc))
    generalize hw3 : ((w2.setCell ⟨w.heap.size, 0, none⟩ (.bool (decide (n < 0)))).setCell ⟨w.heap.size, 1, none⟩ (.slice no' (digs n.natAbs).length nc)).setCell ⟨w.heap.size, 2, none⟩ (.slice mo (digs m).length mc) = w3 at *
    clear hw3 c0 c1 c2 f0 f1 f2 HS HT HB2
    have HOLD := Lib.hid (fun W (hW : Below w3.heap.size w3 W) => (show Below w3.heap.size w3 W ∧ W.cell? ⟨w.heap.size, 0, none⟩ = some (.bool (decide (n < 0))) ∧ W.cell? ⟨w.heap.size, 1, none⟩ = some (.slice no' (digs n.natAbs).length nc) ∧ W.cell? ⟨w.heap.size, 2, none⟩ = some (.slice mo (digs m).length mc) from
      ⟨hW, (hW.cell (cell_lt k0)).trans k0, (hW.cell (cell_lt k1)).trans k1, (hW.cell (cell_lt k2)).trans k2⟩))
    clear k0 k1 k2
    go_region_held3 (fun w' => Below w3.heap.size w3 w' ∧ w'.cell? ⟨w.heap.size, 0, none⟩ = some (.bool (decide (n < 0))) ∧ w'.cell? ⟨w.heap.size, 1, none⟩ = some (.slice no' (digs n.natAbs).length nc) ∧ w'.cell? ⟨w.heap.size, 2, none⟩ = some (.slice mo (digs m).length mc))
      (first
        | exact HOLD.out _ (Below.refl _ _).drew
        | exact HOLD.out _ HB5.out
        | exact HOLD.out _ HB4.out)
      (first
        | (go_at_call 48; (with_reducible refine (HU.out _).mono ?_); rintro e' w4 ⟨one, rfl, ho, hb⟩
           have HO := Lib.hid ho
           have HB4 := Lib.hid ((Below.refl w3.heap.size w3).drew.trans hb)
           clear ho hb)
        | (go_at_call 28; (with_reducible refine (HC.out _ _ _ (HT3.out.below HB4.out) HO.out).mono ?_); rintro e' w5 ⟨rfl, hb⟩
           have HB5 := Lib.hid (HB4.out.trans (hb.mono HB4.out.size))
           clear hb)
        | (fail "no arm"))
    obtain ⟨-, k0, k1, k2⟩ := HOLD.out _ HB5.out
    go_wp2
    go_region_held3 (fun w' => Below w3.heap.size w3 w' ∧ w'.cell? ⟨w.heap.size, 0, none⟩ = some (.bool (decide (n < 0))) ∧ w'.cell? ⟨w.heap.size, 1, none⟩ = some (.slice no' (digs n.natAbs).length nc) ∧ w'.cell? ⟨w.heap.size, 2, none⟩ = some (.slice mo (digs m).length mc))
      (first
        | exact HOLD.out _ HB7.out
        | exact HOLD.out _ HB6.out
        | exact HOLD.out _ HB5.out.drew)
      (first
        | (go_at_call 53; (with_reducible refine (HIT.out _ _ (HS3.out.below HB5.out.drew)).mono ?_); rintro e' w6 ⟨rfl, hb⟩
           have HB6 := Lib.hid (HB5.out.drew.trans (hb.mono HB5.out.size))
           clear hb)
        | (go_at_call 32; (with_reducible refine (HTX.out _ _ (HT3.out.below HB6.out)).mono ?_); rintro e' w7 ⟨rfl, hb⟩
           have HB7 := Lib.hid (HB6.out.trans (hb.mono HB6.out.size))
           clear hb)
        | (fail "no arm"))
    go_wp2
    go_ret
    exact ⟨rfl, HB3.out.trans (HB7.out.mono HB3.out.size)⟩
end Go.Proofs.YtfpooimjjpamoaaGreatDoor.ref
