/-
  The steps of the walks, part 20: LongW, Half.
-/
import Derived.Test.YtlhmfgbaefaneabGreatDoorB19
import Derived.Test.YtlhmfgbaefaneabGreatDoorB15
namespace Go.Proofs.YtlhmfgbaefaneabGreatDoor.nat
open Go.RowKit
set_option maxRecDepth 100000 in
set_option maxHeartbeats 4000000 in
theorem longDivide_any (sx sy : Value) (x y : List Nat) (w : World) (hx : Rd w sx x) (hy : Rd w sy y) (hdx : Dig x) (hny : Norm y) (hn2 : 2 ≤ y.length) (hle : y.length ≤ x.length) (hs : x.length ≤ 900000) :
    Calls Tryz.prog 188 #[sx, sy] w fun e w' => ∃ sq sr, e = .returned (.tuple #[sq, sr]) ∧ (Own w' w.heap.size sq (digs (val x / val y)) ∧ Own w' w.heap.size sr (digs (val x % val y))) ∧ Below w.heap.size w w' := by
  obtain ⟨ao, xcap, rfl, ⟨h1, -⟩, h2, -⟩ := id hx
  obtain ⟨bo, ycap, rfl, ⟨k1, -⟩, k2, -⟩ := id hy
  obtain ⟨N, hN⟩ : ∃ N, x.length = N := ⟨_, rfl⟩
  obtain ⟨n, hn⟩ : ∃ n, y.length = n := ⟨_, rfl⟩
  rw [hN] at h1 hs hx hle ⊢
  rw [hn] at k1 hn2 hy hle ⊢
  obtain ⟨gy, oy, rfl, -⟩ := lenpos hy (by omega)
  unfold maxLen at h2 k2
  have htop := norm_top hny (by omega)
  rw [hn] at htop
  obtain ⟨s, ⟨hs63, hs1, hs2⟩, LZ⟩ := Lead64_ex (dg y (n - 1)) (dg_lt hny.1 _) htop
  obtain ⟨q1, q2, q3, q4⟩ := ld_first hN hn hle (by omega) hdx hny hs63 hs1 hs2
  have hY0 : 0 < val y := by
    have := hny.low (by rintro rfl; simp at hn; omega)
    have := pow_pos (y.length - 1)
    omega
  have c1 := hy.cellAt (n - 1) (by omega)
  obtain ⟨yt, hyt⟩ : ∃ t, t = dg y (n - 1) := ⟨_, rfl⟩
  rw [← hyt] at c1 LZ
  have e1 : ((n : Int) - 1).toNat = n - 1 := by omega
  have HN := Lib.hid hN
  have Hn := Lib.hid hn
  have HX := Lib.hid hx
  have HY := Lib.hid hy
  have HDX := Lib.hid hdx
  have HNY := Lib.hid hny
  have HQ := Lib.hid (And.intro q1 (And.intro q2 (And.intro q3 q4)))
  have HLZ := Lib.hid LZ
  have HY0 := Lib.hid hY0
  have SU := Lib.hid (shiftUp_any _ y s w hy hny.1 (by omega) (by omega))
  obtain ⟨X', hX'⟩ : ∃ X', X' = val x * 2 ^ s := ⟨_, rfl⟩
  obtain ⟨Y', hY'⟩ : ∃ Y', Y' = val y * 2 ^ s := ⟨_, rfl⟩
  rw [← hX', ← hY'] at HQ
  rw [← hY'] at SU
  have HX' := Lib.hid hX'
  have HY' := Lib.hid hY'
  have hY'0 : 0 < Y' := by rw [hY']; exact Nat.mul_pos hY0 (Nat.pow_pos (by omega))
  clear hx hy hdx hny hN hn htop hs1 hs2 LZ q1 q2 q3 q4 hyt hX' hY' hY0
  go_enter Tryz.func188, Tryz.ntmps188
  go_wp2_with (first
    | (go_at_call 220; refine (HLZ.out _).mono ?_; rintro e w' ⟨rfl, rfl⟩)
    | (go_at_call 209; refine (SU.out).mono ?_; rintro e w1 ⟨sb, rfl, ho, hb⟩
       have HOB1 := Lib.hid ho
       have HB1 := Lib.hid hb
       have SU2 := Lib.hid (shiftUp_any _ x s w1 (HX.out.below hb) HDX.out (by rw [HN.out]; omega) (by omega))
       rw [← HX'.out] at SU2
       clear SU ho hb)
    | (go_at_call 209; refine (SU2.out).mono ?_; rintro e w2 ⟨sl, rfl, ho, hb⟩
       have HOB2 := Lib.hid (HOB1.out.below hb)
       have HB2 := Lib.hid (HB1.out.trans (hb.mono HB1.out.size))
       have hlen : (digs X').length ≤ N + 1 := digs_len HQ.out.2.2.2
       have HLX := Lib.hid hlen
       have RM := Lib.hid (room_int sl (digs X') ((N : Int) + 1) (N + 1) w2 (by omega) ho.rd hlen (by omega))
       clear SU2 ho hb HOB1 HB1 hlen)
    | (go_at_call 187; refine (RM.out).mono ?_; rintro e w3 ⟨rfl, hr, hb⟩
       obtain ⟨W4, hmk, hrow4, hb4⟩ := make_int w3 ((N : Int) - n + 1) (N - n + 1) (by omega) (by omega)
       have HS := Lib.hid (show LRel w2 w2.heap.size w3.heap.size N n X' Y' (N - n + 1) W4 from
         ⟨digs X' ++ List.replicate (N + 1 - (digs X').length) 0, List.replicate (N - n + 1) 0, len_room HLX.out, by simp, dig_room (norm_digs _).1 _, dig_zeros _, hr.below hb4 hr.lt, hrow4, hb.trans (hb4.mono hb.size),
          by rw [val_zeros, Nat.zero_mul, Nat.zero_add, val_room, val_digs], by rw [val_room, val_digs]; exact HQ.out.2.2.1, fun j _ => dg_zeros _ _⟩)
       have HG := Lib.hid (show w2.heap.size < w3.heap.size from hr.lt)
       clear RM hr hb hrow4 hb4 HLX))
  go_loopw [9] (fun iv wr => ∃ k : Nat, iv = .int .i64 ((k : Int) - 1) ∧ k ≤ N - n + 1 ∧ LRel w2 w2.heap.size w3.heap.size N n X' Y' k wr) (fun iv _ => (intOf iv + 1).toNat)
  case atStart => exact ⟨N - n + 1, by go_num, Nat.le_refl _, HS.out⟩
  case round =>
    obtain ⟨k, rfl, hk, hrel⟩ := hrel
    clear HS hmk
    obtain ⟨L, Q, hlL, hlQ, hdL, hdQ, hrL, hrQ, hb, hv, hlt, hz⟩ := hrel
    by_cases hk0 : k = 0
    · subst hk0
      rw [Nat.pow_zero, Nat.mul_one] at hlt
      obtain ⟨f1, f2⟩ := ld_end (s := s) (X := val x) (Y := val y) (q := val Q) (r := val L) HY0.out (by rw [← HY'.out, ← HX'.out]; exact hv) (by rw [← HY'.out]; exact hlt)
      have hOQ : Own wr w3.heap.size (.slice (some ⟨w3.heap.size, 0, none⟩) (N - n + 1) (N - n + 1)) Q := by
        have := Own.of_row (cap := N - n + 1) hrQ (Nat.le_refl _) (by omega) (by unfold maxLen; omega)
        rwa [hlQ] at this
      have hOL : Own wr w2.heap.size (.slice (some ⟨w2.heap.size, 0, none⟩) (N + 1) (N + 1)) L := by
        have := Own.of_row (cap := N + 1) hrL (Nat.le_refl _) (by omega) (by unfold maxLen; omega)
        rwa [hlL] at this
      have T1 := Lib.hid (trim_own _ Q wr hOQ (by omega) hdQ)
      have T2 := Lib.hid (trim_own _ L wr hOL (by omega) hdL)
      have HB := Lib.hid (HB2.out.trans (hb.mono HB2.out.size))
      have HF1 := Lib.hid f1
      have HF2 := Lib.hid f2
      have HLb := Lib.hid (show (digs (val L)).length ≤ N + 1 from by have := digs_len_val hdL; omega)
      rw [f1] at T1
      clear hlL hlQ hdL hdQ hrL hrQ hb hv hlt hz f1 f2 hOQ hOL
      go_wp2_with (first
        | (go_at_call 144; refine (T1.out).mono ?_; rintro e w5 ⟨sq, rfl, ho, rfl⟩; have HOQ := Lib.hid ho; clear T1 ho)
        | (go_at_call 144; refine (T2.out).mono ?_; rintro e w5 ⟨sl2, rfl, ho, rfl⟩
           have SD := Lib.hid (shiftDown_any sl2 (digs (val L)) s _ ho.rd (norm_digs _).1 (by have := HLb.out; omega) (by omega))
           rw [val_digs, HF2.out] at SD
           clear T2 ho)
        | (go_at_call 207; refine (SD.out).mono ?_; rintro e w6 ⟨sr, rfl, ho, hb6⟩
           have HOR := Lib.hid ho
           have HOQ6 := Lib.hid (HOQ.out.below hb6)
           have HB6 := Lib.hid (HB.out.trans (hb6.mono HB.out.size))
           clear SD ho hb6))
      go_ret2
      exact ⟨_, _, rfl, ⟨HOQ6.out.mono (Nat.le_trans HB2.out.size (Nat.le_of_lt HG.out)), HOR.out.mono HB.out.size⟩, HB6.out⟩
    · obtain ⟨i, hi⟩ : ∃ i, i = k - 1 := ⟨_, rfl⟩
      have hki : k = i + 1 := by omega
      subst hki
      have hin : i + n + 1 ≤ N + 1 := by omega
      obtain ⟨p1, p2, p3, p4⟩ := ld_part hlL hin HQ.out.1 hlt
      have hrL' : Row wr w2.heap.size (L.take i ++ ((L.drop i).take (n + 1) ++ L.drop (i + n + 1))) := by rw [← p4]; exact hrL
      have l2 : ((L.drop i).take (n + 1)).length = n + 1 := by rw [List.length_take, List.length_drop]; omega
      have hdb : val ((L.drop i).take (n + 1)) / Y' < 18446744073709551616 := by rw [Nat.div_lt_iff_lt_mul hY'0, Nat.mul_comm]; exact p1
      obtain ⟨ab, bcap, rfl, -⟩ := id (HOB2.out).rd
      have TD := Lib.hid (takeDigit_any w2.heap.size i n (N + 1 - i) (.slice ab (digs Y').length bcap) (L.take i) ((L.drop i).take (n + 1)) (L.drop (i + n + 1)) (digs Y') wr (by rw [List.length_take]; omega) l2 hrL' ((hdL.drop _).take _) (HOB2.out.rd.below hb) (HOB2.out.rd.apart (Nat.le_refl _)) (norm_digs _) HQ.out.2.1 hn2 (by rw [val_digs]; exact p1) (by omega) (by omega) (by unfold maxLen; omega))
      rw [val_digs] at TD
      have HNX := Lib.hid (fun (w4 : World) (Z' : List Nat) => LRel.next (w2 := w2) (w4 := w4) (Z' := Z') (gL := w2.heap.size) (gQ := w3.heap.size) hlL hlQ hdL hdQ hrQ hb hv hz p2 p3 hin hY'0 (Nat.le_refl _) HG.out)
      have HRQ := Lib.hid hrQ
      have HLQ := Lib.hid hlQ
      have HDB := Lib.hid hdb
      obtain ⟨d, hd⟩ : ∃ d, d = val ((L.drop i).take (n + 1)) / Y' := ⟨_, rfl⟩
      rw [← hd] at TD
      have HD := Lib.hid hd
      have g1 : ((i + 1 : Nat) : Int) - 1 = (i : Int) := by omega
      have g2 : (i : Int) + (n : Int) + 1 ≤ (N : Int) + 1 := by omega
      have g3 : i + n + 1 - i = n + 1 := by omega
      have g4 : ¬ (N + 1 = i) := by omega
      have g5 : (i : Int) < (N : Int) - n + 1 := by omega
      have g6 : ((i : Int) + (n : Int) + 1).toNat = i + n + 1 := by omega
      have g7 : i < N - n + 1 := by omega
      clear hlL hlQ hdL hdQ hrL hrQ hb hv hlt hz p1 p2 p3 p4 hrL' l2 hdb hd hi hk0
      rw [g1]
      go_wp2_with (go_at_call 224; refine (TD.out).mono ?_; rintro e w5 ⟨Z', rfl, ⟨hl', hd', hv', hr'⟩, hg'⟩
                   have hrQ5 := HRQ.out.kept hg' (by have := HG.out; simp; omega)
                   have c5 := hrQ5.cell i (by rw [HLQ.out]; exact g7)
                   have f5 := hrQ5.free i
                   have HR := Lib.hid (HNX.out w5 Z' hl' hd' hv' hr' hg' HDB.out)
                   rw [← HD.out] at HR
                   clear TD HNX hl' hd' hv' hr' hg' hrQ5)
      go_roundw
      case rel => exact ⟨i, by go_num, by omega, HR.out⟩
      case measure => simp [intOf]
theorem word_own {w : World} {B d : Nat} (hB : B ≤ w.heap.size) : Own (w.alloc (.cells #[Value.int .u64 (d : Int)] 80)) B (.slice (some ⟨w.heap.size, 0, none⟩) 1 1) [d] :=
  Own.of_row (l := [d]) ⟨[], by rw [heap_alloc_new]; rfl⟩ hB (Nat.le_refl _) (by unfold maxLen; omega)
theorem digs_small {d : Nat} (h : d < 18446744073709551616) : (digs d).length ≤ 1 := digs_len (n := 1) (by simpa using h)
set_option maxRecDepth 100000 in
set_option maxHeartbeats 4000000 in
theorem divide_any (sx sy : Value) (x y : List Nat) (w : World) (hx : Rd w sx x) (hy : Rd w sy y) (hnx : Norm x) (hny : Norm y) (hy0 : y ≠ []) (hs : x.length ≤ 900000) (ht : y.length ≤ 900000) :
    Calls Tryz.prog 151 #[sx, sy] w fun e w' => ∃ sq sr, e = .returned (.tuple #[sq, sr]) ∧ (Own w' w.heap.size sq (digs (val x / val y)) ∧ Own w' w.heap.size sr (digs (val x % val y))) ∧ Below w.heap.size w w' := by
  have CM := Lib.hid (compare_any sx sy x y w hx hy hnx hny (by omega) (by omega))
  have HX := Lib.hid hx
  have HY := Lib.hid hy
  have HNX := Lib.hid hnx
  have HNY := Lib.hid hny
  obtain ⟨ao, xcap, rfl, ⟨h1, -⟩, h2, -⟩ := id hx
  obtain ⟨bo, ycap, rfl, ⟨k1, -⟩, k2, -⟩ := id hy
  obtain ⟨N, hN⟩ : ∃ N, x.length = N := ⟨_, rfl⟩
  obtain ⟨n, hn⟩ : ∃ n, y.length = n := ⟨_, rfl⟩
  have hn0 : 0 < n := by rw [← hn]; exact List.length_pos_iff.2 hy0
  have HN := Lib.hid hN
  have Hn := Lib.hid hn
  rw [hN] at h1 hs HX CM ⊢
  rw [hn] at k1 ht HY CM ⊢
  obtain ⟨gy, oy, rfl, -⟩ := lenpos HY.out hn0
  clear hx hy hnx hny hN hn hy0
  rcases Nat.lt_or_ge (val x) (val y) with hlt | hge
  · have hc : cmp3 (val x : Nat) (val y : Nat) = -1 := cmp3_lt (by omega)
    rw [hc] at CM
    have HQ := Lib.hid (show val x / val y = 0 from Nat.div_eq_of_lt hlt)
    have HR := Lib.hid (show val x % val y = val x from Nat.mod_eq_of_lt hlt)
    rw [HQ.out, HR.out, ← HNX.out.eq_digs, digs_zero]
    have CL := Lib.hid (fun (w' : World) (hb : Below w.heap.size w w') => Clone_any _ x w' (HX.out.below hb) (by rw [HN.out]; omega))
    clear hlt hc
    go_enter Tryz.func151, Tryz.ntmps151
    go_wp2_with (first
      | (go_at_call 141; refine (CM.out).mono ?_; rintro e w1 ⟨rfl, m, rfl⟩)
      | (go_at_call 166; refine (CL.out _ (drew_below w m)).mono ?_; rintro e w2 ⟨sv, rfl, ho, hb⟩; have HO := Lib.hid ho; have HB := Lib.hid ((drew_below w m).trans hb); clear ho hb))
    go_ret2
    exact ⟨_, _, rfl, ⟨Own.nil _ _, HO.out⟩, HB.out⟩
  · have hc : ¬ cmp3 (val x : Nat) (val y : Nat) < 0 := by
      unfold cmp3
      rw [if_neg (by omega)]
      split <;> omega
    obtain ⟨c, hcc⟩ : ∃ c, c = cmp3 (val x : Nat) (val y : Nat) := ⟨_, rfl⟩
    rw [← hcc] at CM hc
    have hNn : n ≤ N := by
      rcases Nat.lt_or_ge N n with h | h
      · have := HNX.out.short HNY.out (by rw [HN.out, Hn.out]; exact h)
        omega
      · exact h
    clear hcc hge
    by_cases hn1 : n = 1
    · subst hn1
      have hyv : val y = dg y 0 := by
        have := val_take_succ y 0
        rw [List.take_of_length_le (by rw [Hn.out]; omega)] at this
        simpa [val] using this
      have hy0 : dg y 0 ≠ 0 := by have := norm_top HNY.out (by rw [Hn.out]; omega); rwa [Hn.out] at this
      have hyb := dg_lt HNY.out.1 0
      have c1 := HY.out.cellAt 0 (by omega)
      rw [Nat.add_zero] at c1
      rw [hyv]
      have CL := Lib.hid (fun (w' : World) (hb : Below w.heap.size w w') => Clone_any _ x w' (HX.out.below hb) (by rw [HN.out]; omega))
      obtain ⟨d, hd⟩ : ∃ d, d = dg y 0 := ⟨_, rfl⟩
      rw [← hd] at hy0 hyb c1 ⊢
      have HY2 := Lib.hid (show ∀ w', Below w.heap.size w w' → w'.cell? ⟨gy, oy, none⟩ = some (.int .u64 (d : Nat)) from fun w' hb => (hb.cell (p := ⟨gy, oy, none⟩) (cell_lt c1)).trans c1)
      clear hyv hd c1
      go_enter Tryz.func151, Tryz.ntmps151
      go_wp2_with (first
        | (go_at_call 141; refine (CM.out).mono ?_; rintro e w1 ⟨rfl, m, rfl⟩)
        | (go_at_call 166; refine (CL.out _ (drew_below w m)).mono ?_; rintro e w2 ⟨sv, rfl, ho, hb⟩
           have HB2 := Lib.hid ((drew_below w m).trans hb)
           have c2 := HY2.out w2 HB2.out
           have DW := Lib.hid (divideByWord_own sv x d w2 ho HNX.out.1 hyb (by omega) (by rw [HN.out]; omega))
           clear ho hb)
        | (go_at_call 181; refine (DW.out).mono ?_; rintro e w3 ⟨q, r, rfl, ⟨q1, q2, q3, q4, q5⟩, hb⟩
           have HB3 := Lib.hid (HB2.out.trans hb)
           have hq : val q = val x / d := by
             rw [← q3, Nat.mul_comm, Nat.mul_add_div (by omega), Nat.div_eq_of_lt q4, Nat.add_zero]
           have hr : r = val x % d := by
             rw [← q3, Nat.mul_comm, Nat.mul_add_mod, Nat.mod_eq_of_lt q4]
           have hb4 : Below w3.heap.size w3 (w3.alloc (.cells #[Value.int .u64 (r : Int)] 80)) := (Below.refl _ _).alloc (Nat.le_refl _) _
           have T1 := Lib.hid (trim_own sv q _ (q5.below hb4) (by rw [q1, HN.out]; omega) q2)
           have T2 := Lib.hid (trim_own _ [r] _ (word_own (w := w3) (d := r) (B := w.heap.size) HB3.out.size) (by simp) (Dig.cons (by omega) Dig.nil))
           have HB4 := Lib.hid (HB3.out.trans (hb4.mono HB3.out.size))
           have hv1 : val [r] = r := by simp [val]
           rw [hq] at T1
           rw [hv1, hr] at T2
           rw [hr] at T1 HB4
           subst hr
           clear DW q1 q2 q3 q4 q5 hb hq hb4 hv1)
        | (go_at_call 144; refine (T1.out).mono ?_; rintro e w4 ⟨sq, rfl, ho, rfl⟩; have HO1 := Lib.hid ho; clear T1 ho)
        | (go_at_call 144; refine (T2.out).mono ?_; rintro e w4 ⟨sr, rfl, ho, rfl⟩; have HO2 := Lib.hid ho; clear T2 ho))
      go_ret2
      exact ⟨_, _, rfl, ⟨HO1.out, HO2.out⟩, HB4.out⟩
    · have hb1 : ((n : Int) == 1) = false := by simp; omega
      have LD := Lib.hid (fun (w' : World) (hb : Below w.heap.size w w') => longDivide_any _ _ x y w' (HX.out.below hb) (HY.out.below hb) HNX.out.1 HNY.out (by rw [Hn.out]; omega) (by rw [Hn.out, HN.out]; exact hNn) (by rw [HN.out]; exact hs))
      go_enter Tryz.func151, Tryz.ntmps151
      go_wp2_with (first
        | (go_at_call 141; refine (CM.out).mono ?_; rintro e w1 ⟨rfl, m, rfl⟩)
        | (go_at_call 188; refine (LD.out _ (drew_below w m)).mono ?_; rintro e w2 ⟨sq, sr, rfl, ⟨ho1, ho2⟩, hb⟩; have HO := Lib.hid (And.intro ho1 ho2); have HB := Lib.hid ((drew_below w m).trans hb); clear ho1 ho2 hb))
      go_ret2
      exact ⟨_, _, rfl, HO.out, HB.out⟩
end Go.Proofs.YtlhmfgbaefaneabGreatDoor.nat
namespace Go.Proofs.YtlhmfgbaefaneabGreatDoor.nat
open Go.RowKit
set_option maxRecDepth 100000 in
set_option maxHeartbeats 4000000 in
theorem halved_of (n : Nat) (hn : 40 ≤ n) (hs : n ≤ 1000000) (IH : ProdIs (n - 1)) (sx sy : Value) (x y : List Nat) (w : World) (hx : Rd w sx x) (hy : Rd w sy y) (hdx : Dig x) (hdy : Dig y) (hnx : x.length = n) (hny : y.length = n) :
    Calls Tryz.prog 147 #[sx, sy] w fun e w' => ∃ sv, e = .returned sv ∧ Own w' w.heap.size sv (digs (val x * val y)) ∧ Below w.heap.size w w' := by
  obtain ⟨ao, xcap, rfl, ⟨h1, -⟩, h2, -⟩ := id hx
  obtain ⟨bo, ycap, rfl, ⟨k1, -⟩, k2, -⟩ := id hy
  rw [hnx] at h1 hx ⊢
  rw [hny] at k1 hy ⊢
  obtain ⟨gx, ox, rfl, -⟩ := lenpos hx (by omega)
  obtain ⟨gy, oy, rfl, -⟩ := lenpos hy (by omega)
  unfold maxLen at h2 k2
  obtain ⟨h, hh, hh1, hh2, hh3⟩ : ∃ h : Nat, ((n : Int) + 1) / 2 = h ∧ n ≤ 2 * h ∧ h + 2 ≤ n ∧ 2 * h ≤ n + 1 := ⟨(n + 1) / 2, by omega, by omega, by omega, by omega⟩
  have hxl := hx.part 0 h xcap (by omega) (by omega) (Nat.le_refl _)
  have hyl := hy.part 0 h ycap (by omega) (by omega) (Nat.le_refl _)
  have hxh := hx.part h (n - h) (xcap - h) (by omega) (by omega) (by omega)
  have hyh := hy.part h (n - h) (ycap - h) (by omega) (by omega) (by omega)
  rw [List.drop_zero, Nat.add_zero] at hxl hyl
  rw [List.take_of_length_le (by rw [List.length_drop]; omega)] at hxh hyh
  have dxl := hdx.take h
  have dyl := hdy.take h
  have lxl : (x.take h).length = h := by rw [List.length_take]; omega
  have lyl : (y.take h).length = h := by rw [List.length_take]; omega
  have lxh : (x.drop h).length = n - h := by rw [List.length_drop]; omega
  have lyh : (y.drop h).length = n - h := by rw [List.length_drop]; omega
  have vx := val_parts x h (by omega)
  have vy := val_parts y h (by omega)
  have bxl := val_lt' dxl (Nat.le_of_eq lxl)
  have byl := val_lt' dyl (Nat.le_of_eq lyl)
  have bxh := val_lt' (hdx.drop h) (Nat.le_of_eq lxh)
  have byh := val_lt' (hdy.drop h) (Nat.le_of_eq lyh)
  have TX := Lib.hid (fun m : Nat => trim_x (some ⟨gx, ox, none⟩) h xcap (x.take h) (w.drewN m) (hxl.below (drew_below w m)) lxl (by omega) dxl)
  have TY := Lib.hid (fun m : Nat => trim_x (some ⟨gy, oy, none⟩) h ycap (y.take h) (w.drewN m) (hyl.below (drew_below w m)) lyl (by omega) dyl)
  have RXL := Lib.hid (hxl.strip dxl)
  have RYL := Lib.hid (hyl.strip dyl)
  have RXH := Lib.hid hxh
  have RYH := Lib.hid hyh
  have LXL := Lib.hid (digs_len_val dxl)
  have LX0 := Lib.hid lxl
  have LY0 := Lib.hid lyl
  have LYL := Lib.hid (digs_len_val dyl)
  obtain ⟨X, hX⟩ : ∃ X, X = val x * val y := ⟨_, rfl⟩
  have KS := Lib.hid (kara_sizes hh1 hh2 hh3 hX vx vy (val_lt' hdx (Nat.le_of_eq hnx)) (val_lt' hdy (Nat.le_of_eq hny)) bxl bxh byl byh)
  obtain ⟨xl, hxl'⟩ : ∃ v, v = val (x.take h) := ⟨_, rfl⟩
  obtain ⟨yl, hyl'⟩ : ∃ v, v = val (y.take h) := ⟨_, rfl⟩
  obtain ⟨xh, hxh'⟩ : ∃ v, v = val (x.drop h) := ⟨_, rfl⟩
  obtain ⟨yh, hyh'⟩ : ∃ v, v = val (y.drop h) := ⟨_, rfl⟩
  rw [← hX]
  rw [← hxl'] at TX RXL LXL vx bxl KS
  rw [← hyl'] at TY RYL LYL vy byl KS
  rw [← hxh'] at vx bxh KS
  rw [← hyh'] at vy byh KS
  have HX := Lib.hid hX
  have VX := Lib.hid vx
  have VY := Lib.hid vy
  have BX := Lib.hid (And.intro bxl bxh)
  have BY := Lib.hid (And.intro byl byh)
  have DXH := Lib.hid (hdx.drop h)
  have DYH := Lib.hid (hdy.drop h)
  have VXH := Lib.hid hxh'
  have VYH := Lib.hid hyh'
  have LXH := Lib.hid lxh
  have LYH := Lib.hid lyh
  have II := Lib.hid IH
  generalize hk1 : (digs xl).length = k1' at *
  generalize hk2 : (digs yl).length = k2' at *
  have HK1 := Lib.hid hk1
  have HK2 := Lib.hid hk2
  clear hx hy hdx hdy hxl hyl hxh hyh dxl dyl lxl lyl lxh lyh vx vy bxl byl bxh byh hxl' hyl' hxh' hyh' hX IH hnx hny hk1 hk2
  have e1 : (h : Int) ≤ (xcap : Int) := by omega
  have e2 : (h : Int) ≤ (ycap : Int) := by omega
  have e3 : ¬ (h = xcap) := by omega
  have e4 : ¬ (h = ycap) := by omega
  have e5 : (h : Int) ≤ (n : Int) := by omega
  go_enter Tryz.func147, Tryz.ntmps147
  go_wp2
  go_quiet (first | (go_at_call 144; with_reducible exact Calls.quiet_of_same (TX.out _)) | (go_at_call 144; with_reducible exact Calls.quiet_of_same (TY.out _)))
  have HB0 := Lib.hid (drew_below w nq)
  go_wp2
  go_quiet (fail)
  have HB1 := Lib.hid (drewN_below HB0.out nq)
  have SZ := Lib.hid HB1.out.size
  revert HB1 SZ
  generalize World.drewN _ nq = w1
  intro HB1 SZ
  clear HB0
  have P1 := Lib.hid (prod_v II.out (X := xl) (Y := yl) (val_digs _) (val_digs _) (RXL.out.below HB1.out) (RYL.out.below HB1.out) (norm_digs _).1 (norm_digs _).1 (by rw [HK1.out]; have := LXL.out; rw [LX0.out] at this; omega) (by rw [HK2.out]; have := LYL.out; rw [LY0.out] at this; omega) (Or.inl (by rw [HK1.out]; have := LXL.out; rw [LX0.out] at this; omega)))
  go_wp2_with (first
    | (go_at_call 117; refine (P1.out).mono ?_; rintro e w2 ⟨svl, rfl, ho, hb⟩
       have HOL := Lib.hid ho
       have HB2 := Lib.hid (HB1.out.trans (hb.mono SZ.out))
       have P2 := Lib.hid (prod_v II.out (X := xh) (Y := yh) VXH.out.symm VYH.out.symm (RXH.out.below HB2.out) (RYH.out.below HB2.out) DXH.out DYH.out (by rw [LXH.out]; omega) (by rw [LYH.out]; omega) (Or.inl (by rw [LXH.out]; omega)))
       clear P1 ho hb)
    | (go_at_call 117; refine (P2.out).mono ?_; rintro e w3 ⟨svh, rfl, ho, hb⟩
       have HOH := Lib.hid ho
       have HOL3 := Lib.hid (HOL.out.below hb)
       have HB3 := Lib.hid (HB2.out.trans (hb.mono HB2.out.size))
       have S1 := Lib.hid (sum_v (X := xl) (Y := xh) (val_digs _) VXH.out.symm (RXL.out.below HB3.out) (RXH.out.below HB3.out) (norm_digs _).1 DXH.out (by rw [HK1.out]; have := LXL.out; rw [LX0.out] at this; omega) (by rw [LXH.out]; omega))
       clear P2 ho hb HOL)
    | (go_at_call 161; refine (S1.out).mono ?_; rintro e w4 ⟨sva, rfl, ho, hb⟩
       have HOA := Lib.hid ho
       have HOL4 := Lib.hid (HOL3.out.below hb)
       have HOH4 := Lib.hid (HOH.out.below hb)
       have HB4 := Lib.hid (HB3.out.trans (hb.mono HB3.out.size))
       have S2 := Lib.hid (sum_v (X := yl) (Y := yh) (val_digs _) VYH.out.symm (RYL.out.below HB4.out) (RYH.out.below HB4.out) (norm_digs _).1 DYH.out (by rw [HK2.out]; have := LYL.out; rw [LY0.out] at this; omega) (by rw [LYH.out]; omega))
       clear S1 ho hb HOL3 HOH)
    | (go_at_call 161; refine (S2.out).mono ?_; rintro e w5 ⟨svb, rfl, ho, hb⟩
       have RL5 := Lib.hid (HOL4.out.below hb).rd
       have RH5 := Lib.hid (HOH4.out.below hb).rd
       have HB5 := Lib.hid (HB4.out.trans (hb.mono HB4.out.size))
       have P3 := Lib.hid (prod_v II.out (X := xl + xh) (Y := yl + yh) (val_digs _) (val_digs _) (HOA.out.below hb).rd ho.rd (norm_digs _).1 (norm_digs _).1 (by have := KS.out.2.2.1; omega) (by have := KS.out.2.2.2.1; omega) (Or.inl (by have := KS.out.2.2.1; omega)))
       clear S2 ho hb HOL4 HOH4 HOA)
    | (go_at_call 117; refine (P3.out).mono ?_; rintro e w6 ⟨svm, rfl, ho, hb⟩
       have HB56 := Lib.hid hb
       have S3 := Lib.hid (subFrom_own svm svl _ (digs (xl * yl)) w6 ho (RL5.out.below hb) (norm_digs _).1 (norm_digs _) (digs_len (Nat.lt_of_le_of_lt (Nat.le_trans (Nat.le_add_right _ _) KS.out.2.2.2.2.2.1) (by have := val_lt (norm_digs ((xl + xh) * (yl + yh))).1; rwa [val_digs] at this))) (by rw [val_digs, val_digs]; exact Nat.le_trans (Nat.le_add_right _ _) KS.out.2.2.2.2.2.1) (by have := KS.out.2.2.2.2.1; omega) (fun g hg => RL5.out.apart hg))
       clear P3 ho hb)
    | (go_at_call 186; refine (S3.out).mono ?_; rintro e w7 ⟨z1, rfl, ⟨hl, hd, hv, ho⟩, hb⟩
       have HB57 := Lib.hid (HB56.out.trans hb)
       rw [val_digs, val_digs] at hv
       have HV1 := Lib.hid hv
       have HL1 := Lib.hid hl
       have S4 := Lib.hid (subFrom_own svm svh z1 (digs (xh * yh)) w7 ho (RH5.out.below HB57.out) hd (norm_digs _) (by rw [hl]; exact digs_len (Nat.lt_of_le_of_lt (Nat.le_trans (Nat.le_add_left _ _) KS.out.2.2.2.2.2.1) (by have := val_lt (norm_digs ((xl + xh) * (yl + yh))).1; rwa [val_digs] at this))) (by rw [val_digs]; have := KS.out.2.2.2.2.2.1; omega) (by rw [hl]; have := KS.out.2.2.2.2.1; omega) (fun g hg => RH5.out.apart hg))
       clear S3 hl hd hv ho hb HB56)
    | (go_at_call 186; refine (S4.out).mono ?_; rintro e w8 ⟨z2, rfl, ⟨hl, hd, hv, ho⟩, hb⟩
       have HB58 := Lib.hid (HB57.out.trans hb)
       have HB8 := Lib.hid (HB5.out.trans (HB58.out.mono HB5.out.size))
       have RL8 := Lib.hid (RL5.out.below HB58.out)
       have RH8 := Lib.hid (RH5.out.below HB58.out)
       have RM8 := Lib.hid ho.rd
       have DM8 := Lib.hid hd
       have LM8 := Lib.hid (show z2.length ≤ 2 * h + 2 by have := KS.out.2.2.2.2.1; have := HL1.out; omega)
       rw [val_digs] at hv
       have VM8 := Lib.hid (show val z2 = (xl + xh) * (yl + yh) - xl * yl - xh * yh by have := HV1.out; omega)
       have RM := Lib.hid (room_int svl (digs (xl * yl)) ((n : Int) + n) (2 * n) w8 (by omega) RL8.out (by have := KS.out.1; omega) (by omega))
       clear S4 hl hd hv ho hb HB57 RL5 RH5 HV1 HL1 HB58 RL8)
    | (go_at_call 187; refine (RM.out).mono ?_; rintro e w9 ⟨rfl, hr, hb⟩
       have HB89 := Lib.hid hb
       have HR9 := Lib.hid hr
       clear RM hr hb))
  obtain ⟨aom, capm, rfl, -⟩ := id RM8.out
  have l9 : (digs (xl * yl) ++ List.replicate (2 * n - (digs (xl * yl)).length) 0).length = 2 * n := len_room (by have := KS.out.1; omega)
  have v9 : val (digs (xl * yl) ++ List.replicate (2 * n - (digs (xl * yl)).length) 0) = xl * yl := by rw [val_room, val_digs]
  have d9 := dig_room (norm_digs (xl * yl)).1 (2 * n - (digs (xl * yl)).length)
  have VM := Lib.hid (Eq.trans (congrArg digs VM8.out) rfl)
  have TR := Lib.hid (fun (w' : World) (hb : Below w8.heap.size w8 w') => trim_x aom z2.length capm z2 w' (RM8.out.below hb) rfl (by have := LM8.out; omega) DM8.out)
  have AD := Lib.hid (fun (w' : World) (hb : Below w9.heap.size w9 w') => addInto_at w8.heap.size h (2 * n) (2 * n - h) (.slice aom (digs (val z2)).length capm) _ (digs (val z2)) w' l9 (by omega) (HR9.out.below hb HR9.out.lt) d9 ((RM8.out.strip DM8.out).below (HB89.out.trans (hb.mono HB89.out.size))) ((RM8.out.strip DM8.out).apart (Nat.le_refl _)) (norm_digs _).1
    (by rw [VM8.out]; exact KS.out.2.2.2.2.2.2.1) (by rw [v9, val_digs, VM8.out]; exact KS.out.2.2.2.2.2.2.2.1) (by omega) (Nat.le_refl _) (by unfold maxLen; omega))
  rw [v9, val_digs] at AD
  generalize hkm : (digs (val z2)).length = km at TR AD
  generalize hlm : z2.length = lm at *
  have f1 : (h : Int) ≤ ((2 * n : Nat) : Int) := by omega
  have f2 : ¬ (2 * n = h) := by omega
  have f3 : (h : Int) ≤ 2 * (n : Int) := by omega
  have f4 : ¬ (2 * n = 2 * h) := by omega
  have f5 : 2 * (h : Int) ≤ 2 * (n : Int) := by omega
  have f6 : (2 * (h : Int)).toNat = 2 * h := by omega
  clear l9 v9 d9 VM hkm hlm
  go_region_held3 (fun _ => True) (trivial)
    (first
      | (go_at_call 144; refine (TR.out _ (HB89.out.trans ((Below.refl _ _).drew.mono HB89.out.size))).mono ?_; rintro e' w9' ⟨rfl, rfl⟩)
      | (go_at_call 146; refine (AD.out _ (Below.refl _ _).drew).mono ?_; rintro e' w10 ⟨c10, L1, rfl, ⟨hl, hd, hv, hr⟩, hg⟩
         have HL1 := Lib.hid hl
         have HD1 := Lib.hid hd
         have HV1 := Lib.hid hv
         have HR1 := Lib.hid hr
         have HG1 := Lib.hid hg
         clear hl hd hv hr hg))
  have HB9 := Lib.hid (HB8.out.trans (HB89.out.mono HB8.out.size))
  have HB10 := Lib.hid (below_grown HB9.out.drew HG1.out HB9.out.size (HB8.out.size))
  have HB810 := Lib.hid (below_grown HB89.out.drew HG1.out HB89.out.size (Nat.le_refl _))
  have hh10 : Rd w10 svh (digs (xh * yh)) := (RH8.out).below HB810.out
  have v10 : val L1 + 18446744073709551616 ^ (2 * h) * val (digs (xh * yh)) = X := by
    rw [HV1.out, val_digs, VM8.out]
    exact KS.out.2.2.2.2.2.2.2.2.1
  have AE := Lib.hid (addInto_at w8.heap.size (2 * h) (2 * n) (2 * n - 2 * h) svh L1 (digs (xh * yh)) w10 HL1.out (by omega) HR1.out HD1.out hh10 (RH8.out.apart (Nat.le_refl _)) (norm_digs _).1 KS.out.2.1 (by rw [v10]; exact KS.out.2.2.2.2.2.2.2.2.2) (by omega) (Nat.le_refl _) (by unfold maxLen; omega))
  rw [v10] at AE
  have HSZ := Lib.hid (Nat.le_trans HB810.out.size (Nat.le_refl _))
  clear hh10 v10 AD TR
  go_wp2_with (go_at_call 146; refine (AE.out).mono ?_; rintro e' w11 ⟨c11, L2, rfl, ⟨hl, hd, hv, hr⟩, hg⟩
               have HT := Lib.hid (show Calls Tryz.prog 144 #[.slice (some ⟨w8.heap.size, 0, none⟩) (2 * n) (2 * n)] w11 fun e w' => ∃ sv', e = .returned sv' ∧ Own w' w8.heap.size sv' (digs (val L2)) ∧ w11 = w' from by
                 have hO := Own.of_row (cap := 2 * n) hr (Nat.le_refl _) (by omega) (by unfold maxLen; omega)
                 rw [hl] at hO
                 exact trim_own _ L2 w11 hO (by omega) hd)
               rw [hv] at HT
               have HB11 := Lib.hid (below_grown HB10.out hg HB10.out.size HB8.out.size)
               clear hl hd hv hr hg AE)
  go_wp2_with (go_at_call 144; refine (HT.out).mono ?_; rintro e' w12 ⟨svr, rfl, ho, rfl⟩; have HO := Lib.hid ho; clear ho)
  go_ret
  exact ⟨svr, rfl, HO.out.mono HB8.out.size, HB11.out⟩
end Go.Proofs.YtlhmfgbaefaneabGreatDoor.nat
