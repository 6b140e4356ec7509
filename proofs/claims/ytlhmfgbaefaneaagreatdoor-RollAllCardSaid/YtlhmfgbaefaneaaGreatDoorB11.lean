/-
  The steps of the walks, part 11: LongW, Half, Product, Meth, Power, RootA.
-/
import Derived.Test.YtlhmfgbaefaneaaGreatDoorB10
import Derived.Test.YtlhmfgbaefaneaaGreatDoorB09
namespace Go.Proofs.YtlhmfgbaefaneaaGreatDoor.nat
open Go.RowKit
set_option maxRecDepth 100000 in
set_option maxHeartbeats 4000000 in
theorem longDivide_any (sx sy : Value) (x y : List Nat) (w : World) (hx : Rd w sx x) (hy : Rd w sy y) (hdx : Dig x) (hny : Norm y) (hn2 : 2 ≤ y.length) (hle : y.length ≤ x.length) (hs : x.length ≤ 900000) :
    Calls Tryz.prog 226 #[sx, sy] w fun e w' => ∃ sq sr, e = .returned (.tuple #[sq, sr]) ∧ (Own w' w.heap.size sq (digs (val x / val y)) ∧ Own w' w.heap.size sr (digs (val x % val y))) ∧ Below w.heap.size w w' := by
  obtain ⟨ao, xcap, rfl, ⟨h1, -⟩, h2, -⟩ := id hx
  obtain ⟨bo, ycap, rfl, ⟨k1, -⟩, k2, -⟩ := id hy
  obtain ⟨N, hN⟩ : ∃ N, x.length = N := ⟨_, rfl⟩
  obtain ⟨n, hn⟩ : ∃ n, y.length = n := ⟨_, rfl⟩
  rw [hN] at h1 hs hx hle ⊢
  rw [hn] at k1 hn2 hy hle ⊢
  obtain ⟨gy, oy, rfl, -⟩ := lenpos hy (by omega)
  unfold maxLen at h2 k2
  have htop := norm_top hny (by omega)
  rw [hn] at htop
  obtain ⟨s, ⟨hs63, hs1, hs2⟩, LZ⟩ := Lead64_ex (dg y (n - 1)) (dg_lt hny.1 _) htop
  obtain ⟨q1, q2, q3, q4⟩ := ld_first hN hn hle (by omega) hdx hny hs63 hs1 hs2
  have hY0 : 0 < val y := by
    have := hny.low (by rintro rfl; simp at hn; omega)
    have := pow_pos (y.length - 1)
    omega
  have c1 := hy.cellAt (n - 1) (by omega)
  obtain ⟨yt, hyt⟩ : ∃ t, t = dg y (n - 1) := ⟨_, rfl⟩
  rw [← hyt] at c1 LZ
  have e1 : ((n : Int) - 1).toNat = n - 1 := by omega
  have HN := Lib.hid hN
  have Hn := Lib.hid hn
  have HX := Lib.hid hx
  have HY := Lib.hid hy
  have HDX := Lib.hid hdx
  have HNY := Lib.hid hny
  have HQ := Lib.hid (And.intro q1 (And.intro q2 (And.intro q3 q4)))
  have HLZ := Lib.hid LZ
  have HY0 := Lib.hid hY0
  have SU := Lib.hid (shiftUp_any _ y s w hy hny.1 (by omega) (by omega))
  obtain ⟨X', hX'⟩ : ∃ X', X' = val x * 2 ^ s := ⟨_, rfl⟩
  obtain ⟨Y', hY'⟩ : ∃ Y', Y' = val y * 2 ^ s := ⟨_, rfl⟩
  rw [← hX', ← hY'] at HQ
  rw [← hY'] at SU
  have HX' := Lib.hid hX'
  have HY' := Lib.hid hY'
  have hY'0 : 0 < Y' := by rw [hY']; exact Nat.mul_pos hY0 (Nat.pow_pos (by omega))
  clear hx hy hdx hny hN hn htop hs1 hs2 LZ q1 q2 q3 q4 hyt hX' hY' hY0
  go_enter Tryz.func226, Tryz.ntmps226
  go_wp2_with (first
    | (go_at_call 258; refine (HLZ.out _).mono ?_; rintro e w' ⟨rfl, rfl⟩)
    | (go_at_call 242; refine (SU.out).mono ?_; rintro e w1 ⟨sb, rfl, ho, hb⟩
       have HOB1 := Lib.hid ho
       have HB1 := Lib.hid hb
       have SU2 := Lib.hid (shiftUp_any _ x s w1 (HX.out.below hb) HDX.out (by rw [HN.out]; omega) (by omega))
       rw [← HX'.out] at SU2
       clear SU ho hb)
    | (go_at_call 242; refine (SU2.out).mono ?_; rintro e w2 ⟨sl, rfl, ho, hb⟩
       have HOB2 := Lib.hid (HOB1.out.below hb)
       have HB2 := Lib.hid (HB1.out.trans (hb.mono HB1.out.size))
       have hlen : (digs X').length ≤ N + 1 := digs_len HQ.out.2.2.2
       have HLX := Lib.hid hlen
       have RM := Lib.hid (room_int sl (digs X') ((N : Int) + 1) (N + 1) w2 (by omega) ho.rd hlen (by omega))
       clear SU2 ho hb HOB1 HB1 hlen)
    | (go_at_call 223; refine (RM.out).mono ?_; rintro e w3 ⟨rfl, hr, hb⟩
       obtain ⟨W4, hmk, hrow4, hb4⟩ := make_int w3 ((N : Int) - n + 1) (N - n + 1) (by omega) (by omega)
       have HS := Lib.hid (show LRel w2 w2.heap.size w3.heap.size N n X' Y' (N - n + 1) W4 from
         ⟨digs X' ++ List.replicate (N + 1 - (digs X').length) 0, List.replicate (N - n + 1) 0, len_room HLX.out, by simp, dig_room (norm_digs _).1 _, dig_zeros _, hr.below hb4 hr.lt, hrow4, hb.trans (hb4.mono hb.size),
          by rw [val_zeros, Nat.zero_mul, Nat.zero_add, val_room, val_digs], by rw [val_room, val_digs]; exact HQ.out.2.2.1, fun j _ => dg_zeros _ _⟩)
       have HG := Lib.hid (show w2.heap.size < w3.heap.size from hr.lt)
       clear RM hr hb hrow4 hb4 HLX))
  go_loopw [9] (fun iv wr => ∃ k : Nat, iv = .int .i64 ((k : Int) - 1) ∧ k ≤ N - n + 1 ∧ LRel w2 w2.heap.size w3.heap.size N n X' Y' k wr) (fun iv _ => (intOf iv + 1).toNat)
  case atStart => exact ⟨N - n + 1, by go_num, Nat.le_refl _, HS.out⟩
  case round =>
    obtain ⟨k, rfl, hk, hrel⟩ := hrel
    clear HS hmk
    obtain ⟨L, Q, hlL, hlQ, hdL, hdQ, hrL, hrQ, hb, hv, hlt, hz⟩ := hrel
    by_cases hk0 : k = 0
    · subst hk0
      rw [Nat.pow_zero, Nat.mul_one] at hlt
      obtain ⟨f1, f2⟩ := ld_end (s := s) (X := val x) (Y := val y) (q := val Q) (r := val L) HY0.out (by rw [← HY'.out, ← HX'.out]; exact hv) (by rw [← HY'.out]; exact hlt)
      have hOQ : Own wr w3.heap.size (.slice (some ⟨w3.heap.size, 0, none⟩) (N - n + 1) (N - n + 1)) Q := by
        have := Own.of_row (cap := N - n + 1) hrQ (Nat.le_refl _) (by omega) (by unfold maxLen; omega)
        rwa [hlQ] at this
      have hOL : Own wr w2.heap.size (.slice (some ⟨w2.heap.size, 0, none⟩) (N + 1) (N + 1)) L := by
        have := Own.of_row (cap := N + 1) hrL (Nat.le_refl _) (by omega) (by unfold maxLen; omega)
        rwa [hlL] at this
      have T1 := Lib.hid (trim_own _ Q wr hOQ (by omega) hdQ)
      have T2 := Lib.hid (trim_own _ L wr hOL (by omega) hdL)
      have HB := Lib.hid (HB2.out.trans (hb.mono HB2.out.size))
      have HF1 := Lib.hid f1
      have HF2 := Lib.hid f2
      have HLb := Lib.hid (show (digs (val L)).length ≤ N + 1 from by have := digs_len_val hdL; omega)
      rw [f1] at T1
      clear hlL hlQ hdL hdQ hrL hrQ hb hv hlt hz f1 f2 hOQ hOL
      go_wp2_with (first
        | (go_at_call 209; refine (T1.out).mono ?_; rintro e w5 ⟨sq, rfl, ho, rfl⟩; have HOQ := Lib.hid ho; clear T1 ho)
        | (go_at_call 209; refine (T2.out).mono ?_; rintro e w5 ⟨sl2, rfl, ho, rfl⟩
           have SD := Lib.hid (shiftDown_any sl2 (digs (val L)) s _ ho.rd (norm_digs _).1 (by have := HLb.out; omega) (by omega))
           rw [val_digs, HF2.out] at SD
           clear T2 ho)
        | (go_at_call 240; refine (SD.out).mono ?_; rintro e w6 ⟨sr, rfl, ho, hb6⟩
           have HOR := Lib.hid ho
           have HOQ6 := Lib.hid (HOQ.out.below hb6)
           have HB6 := Lib.hid (HB.out.trans (hb6.mono HB.out.size))
           clear SD ho hb6))
      go_ret2
      exact ⟨_, _, rfl, ⟨HOQ6.out.mono (Nat.le_trans HB2.out.size (Nat.le_of_lt HG.out)), HOR.out.mono HB.out.size⟩, HB6.out⟩
    · obtain ⟨i, hi⟩ : ∃ i, i = k - 1 := ⟨_, rfl⟩
      have hki : k = i + 1 := by omega
      subst hki
      have hin : i + n + 1 ≤ N + 1 := by omega
      obtain ⟨p1, p2, p3, p4⟩ := ld_part hlL hin HQ.out.1 hlt
      have hrL' : Row wr w2.heap.size (L.take i ++ ((L.drop i).take (n + 1) ++ L.drop (i + n + 1))) := by rw [← p4]; exact hrL
      have l2 : ((L.drop i).take (n + 1)).length = n + 1 := by rw [List.length_take, List.length_drop]; omega
      have hdb : val ((L.drop i).take (n + 1)) / Y' < 18446744073709551616 := by rw [Nat.div_lt_iff_lt_mul hY'0, Nat.mul_comm]; exact p1
      obtain ⟨ab, bcap, rfl, -⟩ := id (HOB2.out).rd
      have TD := Lib.hid (takeDigit_any w2.heap.size i n (N + 1 - i) (.slice ab (digs Y').length bcap) (L.take i) ((L.drop i).take (n + 1)) (L.drop (i + n + 1)) (digs Y') wr (by rw [List.length_take]; omega) l2 hrL' ((hdL.drop _).take _) (HOB2.out.rd.below hb) (HOB2.out.rd.apart (Nat.le_refl _)) (norm_digs _) HQ.out.2.1 hn2 (by rw [val_digs]; exact p1) (by omega) (by omega) (by unfold maxLen; omega))
      rw [val_digs] at TD
      have HNX := Lib.hid (fun (w4 : World) (Z' : List Nat) => LRel.next (w2 := w2) (w4 := w4) (Z' := Z') (gL := w2.heap.size) (gQ := w3.heap.size) hlL hlQ hdL hdQ hrQ hb hv hz p2 p3 hin hY'0 (Nat.le_refl _) HG.out)
      have HRQ := Lib.hid hrQ
      have HLQ := Lib.hid hlQ
      have HDB := Lib.hid hdb
      obtain ⟨d, hd⟩ : ∃ d, d = val ((L.drop i).take (n + 1)) / Y' := ⟨_, rfl⟩
      rw [← hd] at TD
      have HD := Lib.hid hd
      have g1 : ((i + 1 : Nat) : Int) - 1 = (i : Int) := by omega
      have g2 : (i : Int) + (n : Int) + 1 ≤ (N : Int) + 1 := by omega
      have g3 : i + n + 1 - i = n + 1 := by omega
      have g4 : ¬ (N + 1 = i) := by omega
      have g5 : (i : Int) < (N : Int) - n + 1 := by omega
      have g6 : ((i : Int) + (n : Int) + 1).toNat = i + n + 1 := by omega
      have g7 : i < N - n + 1 := by omega
      clear hlL hlQ hdL hdQ hrL hrQ hb hv hlt hz p1 p2 p3 p4 hrL' l2 hdb hd hi hk0
      rw [g1]
      go_wp2_with (go_at_call 262; refine (TD.out).mono ?_; rintro e w5 ⟨Z', rfl, ⟨hl', hd', hv', hr'⟩, hg'⟩
                   have hrQ5 := HRQ.out.kept hg' (by have := HG.out; simp; omega)
                   have c5 := hrQ5.cell i (by rw [HLQ.out]; exact g7)
                   have f5 := hrQ5.free i
                   have HR := Lib.hid (HNX.out w5 Z' hl' hd' hv' hr' hg' HDB.out)
                   rw [← HD.out] at HR
                   clear TD HNX hl' hd' hv' hr' hg' hrQ5)
      go_roundw
      case rel => exact ⟨i, by go_num, by omega, HR.out⟩
      case measure => simp [intOf]
theorem word_own {w : World} {B d : Nat} (hB : B ≤ w.heap.size) : Own (w.alloc (.cells #[Value.int .u64 (d : Int)] 104)) B (.slice (some ⟨w.heap.size, 0, none⟩) 1 1) [d] :=
  Own.of_row (l := [d]) ⟨[], by rw [heap_alloc_new]; rfl⟩ hB (Nat.le_refl _) (by unfold maxLen; omega)
theorem digs_small {d : Nat} (h : d < 18446744073709551616) : (digs d).length ≤ 1 := digs_len (n := 1) (by simpa using h)
set_option maxRecDepth 100000 in
set_option maxHeartbeats 4000000 in
theorem divide_any (sx sy : Value) (x y : List Nat) (w : World) (hx : Rd w sx x) (hy : Rd w sy y) (hnx : Norm x) (hny : Norm y) (hy0 : y ≠ []) (hs : x.length ≤ 900000) (ht : y.length ≤ 900000) :
    Calls Tryz.prog 184 #[sx, sy] w fun e w' => ∃ sq sr, e = .returned (.tuple #[sq, sr]) ∧ (Own w' w.heap.size sq (digs (val x / val y)) ∧ Own w' w.heap.size sr (digs (val x % val y))) ∧ Below w.heap.size w w' := by
  have CM := Lib.hid (compare_any sx sy x y w hx hy hnx hny (by omega) (by omega))
  have HX := Lib.hid hx
  have HY := Lib.hid hy
  have HNX := Lib.hid hnx
  have HNY := Lib.hid hny
  obtain ⟨ao, xcap, rfl, ⟨h1, -⟩, h2, -⟩ := id hx
  obtain ⟨bo, ycap, rfl, ⟨k1, -⟩, k2, -⟩ := id hy
  obtain ⟨N, hN⟩ : ∃ N, x.length = N := ⟨_, rfl⟩
  obtain ⟨n, hn⟩ : ∃ n, y.length = n := ⟨_, rfl⟩
  have hn0 : 0 < n := by rw [← hn]; exact List.length_pos_iff.2 hy0
  have HN := Lib.hid hN
  have Hn := Lib.hid hn
  rw [hN] at h1 hs HX CM ⊢
  rw [hn] at k1 ht HY CM ⊢
  obtain ⟨gy, oy, rfl, -⟩ := lenpos HY.out hn0
  clear hx hy hnx hny hN hn hy0
  rcases Nat.lt_or_ge (val x) (val y) with hlt | hge
  · have hc : cmp3 (val x : Nat) (val y : Nat) = -1 := cmp3_lt (by omega)
    rw [hc] at CM
    have HQ := Lib.hid (show val x / val y = 0 from Nat.div_eq_of_lt hlt)
    have HR := Lib.hid (show val x % val y = val x from Nat.mod_eq_of_lt hlt)
    rw [HQ.out, HR.out, ← HNX.out.eq_digs, digs_zero]
    have CL := Lib.hid (fun (w' : World) (hb : Below w.heap.size w w') => Clone_any _ x w' (HX.out.below hb) (by rw [HN.out]; omega))
    clear hlt hc
    go_enter Tryz.func184, Tryz.ntmps184
    go_wp2_with (first
      | (go_at_call 170; refine (CM.out).mono ?_; rintro e w1 ⟨rfl, m, rfl⟩)
      | (go_at_call 195; refine (CL.out _ (drew_below w m)).mono ?_; rintro e w2 ⟨sv, rfl, ho, hb⟩; have HO := Lib.hid ho; have HB := Lib.hid ((drew_below w m).trans hb); clear ho hb))
    go_ret2
    exact ⟨_, _, rfl, ⟨Own.nil _ _, HO.out⟩, HB.out⟩
  · have hc : ¬ cmp3 (val x : Nat) (val y : Nat) < 0 := by
      unfold cmp3
      rw [if_neg (by omega)]
      split <;> omega
    obtain ⟨c, hcc⟩ : ∃ c, c = cmp3 (val x : Nat) (val y : Nat) := ⟨_, rfl⟩
    rw [← hcc] at CM hc
    have hNn : n ≤ N := by
      rcases Nat.lt_or_ge N n with h | h
      · have := HNX.out.short HNY.out (by rw [HN.out, Hn.out]; exact h)
        omega
      · exact h
    clear hcc hge
    by_cases hn1 : n = 1
    · subst hn1
      have hyv : val y = dg y 0 := by
        have := val_take_succ y 0
        rw [List.take_of_length_le (by rw [Hn.out]; omega)] at this
        simpa [val] using this
      have hy0 : dg y 0 ≠ 0 := by have := norm_top HNY.out (by rw [Hn.out]; omega); rwa [Hn.out] at this
      have hyb := dg_lt HNY.out.1 0
      have c1 := HY.out.cellAt 0 (by omega)
      rw [Nat.add_zero] at c1
      rw [hyv]
      have CL := Lib.hid (fun (w' : World) (hb : Below w.heap.size w w') => Clone_any _ x w' (HX.out.below hb) (by rw [HN.out]; omega))
      obtain ⟨d, hd⟩ : ∃ d, d = dg y 0 := ⟨_, rfl⟩
      rw [← hd] at hy0 hyb c1 ⊢
      have HY2 := Lib.hid (show ∀ w', Below w.heap.size w w' → w'.cell? ⟨gy, oy, none⟩ = some (.int .u64 (d : Nat)) from fun w' hb => (hb.cell (p := ⟨gy, oy, none⟩) (cell_lt c1)).trans c1)
      clear hyv hd c1
      go_enter Tryz.func184, Tryz.ntmps184
      go_wp2_with (first
        | (go_at_call 170; refine (CM.out).mono ?_; rintro e w1 ⟨rfl, m, rfl⟩)
        | (go_at_call 195; refine (CL.out _ (drew_below w m)).mono ?_; rintro e w2 ⟨sv, rfl, ho, hb⟩
           have HB2 := Lib.hid ((drew_below w m).trans hb)
           have c2 := HY2.out w2 HB2.out
           have DW := Lib.hid (divideByWord_own sv x d w2 ho HNX.out.1 hyb (by omega) (by rw [HN.out]; omega))
           clear ho hb)
        | (go_at_call 221; refine (DW.out).mono ?_; rintro e w3 ⟨q, r, rfl, ⟨q1, q2, q3, q4, q5⟩, hb⟩
           have HB3 := Lib.hid (HB2.out.trans hb)
           have hq : val q = val x / d := by
             rw [← q3, Nat.mul_comm, Nat.mul_add_div (by omega), Nat.div_eq_of_lt q4, Nat.add_zero]
           have hr : r = val x % d := by
             rw [← q3, Nat.mul_comm, Nat.mul_add_mod, Nat.mod_eq_of_lt q4]
           have hb4 : Below w3.heap.size w3 (w3.alloc (.cells #[Value.int .u64 (r : Int)] 104)) := (Below.refl _ _).alloc (Nat.le_refl _) _
           have T1 := Lib.hid (trim_own sv q _ (q5.below hb4) (by rw [q1, HN.out]; omega) q2)
           have T2 := Lib.hid (trim_own _ [r] _ (word_own (w := w3) (d := r) (B := w.heap.size) HB3.out.size) (by simp) (Dig.cons (by omega) Dig.nil))
           have HB4 := Lib.hid (HB3.out.trans (hb4.mono HB3.out.size))
           have hv1 : val [r] = r := by simp [val]
           rw [hq] at T1
           rw [hv1, hr] at T2
           rw [hr] at T1 HB4
           subst hr
           clear DW q1 q2 q3 q4 q5 hb hq hb4 hv1)
        | (go_at_call 209; refine (T1.out).mono ?_; rintro e w4 ⟨sq, rfl, ho, rfl⟩; have HO1 := Lib.hid ho; clear T1 ho)
        | (go_at_call 209; refine (T2.out).mono ?_; rintro e w4 ⟨sr, rfl, ho, rfl⟩; have HO2 := Lib.hid ho; clear T2 ho))
      go_ret2
      exact ⟨_, _, rfl, ⟨HO1.out, HO2.out⟩, HB4.out⟩
    · have hb1 : ((n : Int) == 1) = false := by simp; omega
      have LD := Lib.hid (fun (w' : World) (hb : Below w.heap.size w w') => longDivide_any _ _ x y w' (HX.out.below hb) (HY.out.below hb) HNX.out.1 HNY.out (by rw [Hn.out]; omega) (by rw [Hn.out, HN.out]; exact hNn) (by rw [HN.out]; exact hs))
      go_enter Tryz.func184, Tryz.ntmps184
      go_wp2_with (first
        | (go_at_call 170; refine (CM.out).mono ?_; rintro e w1 ⟨rfl, m, rfl⟩)
        | (go_at_call 226; refine (LD.out _ (drew_below w m)).mono ?_; rintro e w2 ⟨sq, sr, rfl, ⟨ho1, ho2⟩, hb⟩; have HO := Lib.hid (And.intro ho1 ho2); have HB := Lib.hid ((drew_below w m).trans hb); clear ho1 ho2 hb))
      go_ret2
      exact ⟨_, _, rfl, HO.out, HB.out⟩
end Go.Proofs.YtlhmfgbaefaneaaGreatDoor.nat
namespace Go.Proofs.YtlhmfgbaefaneaaGreatDoor.nat
open Go.RowKit
set_option maxRecDepth 100000 in
set_option maxHeartbeats 4000000 in
theorem halved_of (n : Nat) (hn : 40 ≤ n) (hs : n ≤ 1000000) (IH : ProdIs (n - 1)) (sx sy : Value) (x y : List Nat) (w : World) (hx : Rd w sx x) (hy : Rd w sy y) (hdx : Dig x) (hdy : Dig y) (hnx : x.length = n) (hny : y.length = n) :
    Calls Tryz.prog 212 #[sx, sy] w fun e w' => ∃ sv, e = .returned sv ∧ Own w' w.heap.size sv (digs (val x * val y)) ∧ Below w.heap.size w w' := by
  obtain ⟨ao, xcap, rfl, ⟨h1, -⟩, h2, -⟩ := id hx
  obtain ⟨bo, ycap, rfl, ⟨k1, -⟩, k2, -⟩ := id hy
  rw [hnx] at h1 hx ⊢
  rw [hny] at k1 hy ⊢
  obtain ⟨gx, ox, rfl, -⟩ := lenpos hx (by omega)
  obtain ⟨gy, oy, rfl, -⟩ := lenpos hy (by omega)
  unfold maxLen at h2 k2
  obtain ⟨h, hh, hh1, hh2, hh3⟩ : ∃ h : Nat, ((n : Int) + 1) / 2 = h ∧ n ≤ 2 * h ∧ h + 2 ≤ n ∧ 2 * h ≤ n + 1 := ⟨(n + 1) / 2, by omega, by omega, by omega, by omega⟩
  have hxl := hx.part 0 h xcap (by omega) (by omega) (Nat.le_refl _)
  have hyl := hy.part 0 h ycap (by omega) (by omega) (Nat.le_refl _)
  have hxh := hx.part h (n - h) (xcap - h) (by omega) (by omega) (by omega)
  have hyh := hy.part h (n - h) (ycap - h) (by omega) (by omega) (by omega)
  rw [List.drop_zero, Nat.add_zero] at hxl hyl
  rw [List.take_of_length_le (by rw [List.length_drop]; omega)] at hxh hyh
  have dxl := hdx.take h
  have dyl := hdy.take h
  have lxl : (x.take h).length = h := by rw [List.length_take]; omega
  have lyl : (y.take h).length = h := by rw [List.length_take]; omega
  have lxh : (x.drop h).length = n - h := by rw [List.length_drop]; omega
  have lyh : (y.drop h).length = n - h := by rw [List.length_drop]; omega
  have vx := val_parts x h (by omega)
  have vy := val_parts y h (by omega)
  have bxl := val_lt' dxl (Nat.le_of_eq lxl)
  have byl := val_lt' dyl (Nat.le_of_eq lyl)
  have bxh := val_lt' (hdx.drop h) (Nat.le_of_eq lxh)
  have byh := val_lt' (hdy.drop h) (Nat.le_of_eq lyh)
  have TX := Lib.hid (fun m : Nat => trim_x (some ⟨gx, ox, none⟩) h xcap (x.take h) (w.drewN m) (hxl.below (drew_below w m)) lxl (by omega) dxl)
  have TY := Lib.hid (fun m : Nat => trim_x (some ⟨gy, oy, none⟩) h ycap (y.take h) (w.drewN m) (hyl.below (drew_below w m)) lyl (by omega) dyl)
  have RXL := Lib.hid (hxl.strip dxl)
  have RYL := Lib.hid (hyl.strip dyl)
  have RXH := Lib.hid hxh
  have RYH := Lib.hid hyh
  have LXL := Lib.hid (digs_len_val dxl)
  have LX0 := Lib.hid lxl
  have LY0 := Lib.hid lyl
  have LYL := Lib.hid (digs_len_val dyl)
  obtain ⟨X, hX⟩ : ∃ X, X = val x * val y := ⟨_, rfl⟩
  have KS := Lib.hid (kara_sizes hh1 hh2 hh3 hX vx vy (val_lt' hdx (Nat.le_of_eq hnx)) (val_lt' hdy (Nat.le_of_eq hny)) bxl bxh byl byh)
  obtain ⟨xl, hxl'⟩ : ∃ v, v = val (x.take h) := ⟨_, rfl⟩
  obtain ⟨yl, hyl'⟩ : ∃ v, v = val (y.take h) := ⟨_, rfl⟩
  obtain ⟨xh, hxh'⟩ : ∃ v, v = val (x.drop h) := ⟨_, rfl⟩
  obtain ⟨yh, hyh'⟩ : ∃ v, v = val (y.drop h) := ⟨_, rfl⟩
  rw [← hX]
  rw [← hxl'] at TX RXL LXL vx bxl KS
  rw [← hyl'] at TY RYL LYL vy byl KS
  rw [← hxh'] at vx bxh KS
  rw [← hyh'] at vy byh KS
  have HX := Lib.hid hX
  have VX := Lib.hid vx
  have VY := Lib.hid vy
  have BX := Lib.hid (And.intro bxl bxh)
  have BY := Lib.hid (And.intro byl byh)
  have DXH := Lib.hid (hdx.drop h)
  have DYH := Lib.hid (hdy.drop h)
  have VXH := Lib.hid hxh'
  have VYH := Lib.hid hyh'
  have LXH := Lib.hid lxh
  have LYH := Lib.hid lyh
  have II := Lib.hid IH
  generalize hk1 : (digs xl).length = k1' at *
  generalize hk2 : (digs yl).length = k2' at *
  have HK1 := Lib.hid hk1
  have HK2 := Lib.hid hk2
  clear hx hy hdx hdy hxl hyl hxh hyh dxl dyl lxl lyl lxh lyh vx vy bxl byl bxh byh hxl' hyl' hxh' hyh' hX IH hnx hny hk1 hk2
  have e1 : (h : Int) ≤ (xcap : Int) := by omega
  have e2 : (h : Int) ≤ (ycap : Int) := by omega
  have e3 : ¬ (h = xcap) := by omega
  have e4 : ¬ (h = ycap) := by omega
  have e5 : (h : Int) ≤ (n : Int) := by omega
  go_enter Tryz.func212, Tryz.ntmps212
  go_wp2
  go_quiet (first | (go_at_call 209; with_reducible exact Calls.quiet_of_same (TX.out _)) | (go_at_call 209; with_reducible exact Calls.quiet_of_same (TY.out _)))
  have HB0 := Lib.hid (drew_below w nq)
  go_wp2
  go_quiet (fail)
  have HB1 := Lib.hid (drewN_below HB0.out nq)
  have SZ := Lib.hid HB1.out.size
  revert HB1 SZ
  generalize World.drewN _ nq = w1
  intro HB1 SZ
  clear HB0
  have P1 := Lib.hid (prod_v II.out (X := xl) (Y := yl) (val_digs _) (val_digs _) (RXL.out.below HB1.out) (RYL.out.below HB1.out) (norm_digs _).1 (norm_digs _).1 (by rw [HK1.out]; have := LXL.out; rw [LX0.out] at this; omega) (by rw [HK2.out]; have := LYL.out; rw [LY0.out] at this; omega) (Or.inl (by rw [HK1.out]; have := LXL.out; rw [LX0.out] at this; omega)))
  go_wp2_with (first
    | (go_at_call 167; refine (P1.out).mono ?_; rintro e w2 ⟨svl, rfl, ho, hb⟩
       have HOL := Lib.hid ho
       have HB2 := Lib.hid (HB1.out.trans (hb.mono SZ.out))
       have P2 := Lib.hid (prod_v II.out (X := xh) (Y := yh) VXH.out.symm VYH.out.symm (RXH.out.below HB2.out) (RYH.out.below HB2.out) DXH.out DYH.out (by rw [LXH.out]; omega) (by rw [LYH.out]; omega) (Or.inl (by rw [LXH.out]; omega)))
       clear P1 ho hb)
    | (go_at_call 167; refine (P2.out).mono ?_; rintro e w3 ⟨svh, rfl, ho, hb⟩
       have HOH := Lib.hid ho
       have HOL3 := Lib.hid (HOL.out.below hb)
       have HB3 := Lib.hid (HB2.out.trans (hb.mono HB2.out.size))
       have S1 := Lib.hid (sum_v (X := xl) (Y := xh) (val_digs _) VXH.out.symm (RXL.out.below HB3.out) (RXH.out.below HB3.out) (norm_digs _).1 DXH.out (by rw [HK1.out]; have := LXL.out; rw [LX0.out] at this; omega) (by rw [LXH.out]; omega))
       clear P2 ho hb HOL)
    | (go_at_call 179; refine (S1.out).mono ?_; rintro e w4 ⟨sva, rfl, ho, hb⟩
       have HOA := Lib.hid ho
       have HOL4 := Lib.hid (HOL3.out.below hb)
       have HOH4 := Lib.hid (HOH.out.below hb)
       have HB4 := Lib.hid (HB3.out.trans (hb.mono HB3.out.size))
       have S2 := Lib.hid (sum_v (X := yl) (Y := yh) (val_digs _) VYH.out.symm (RYL.out.below HB4.out) (RYH.out.below HB4.out) (norm_digs _).1 DYH.out (by rw [HK2.out]; have := LYL.out; rw [LY0.out] at this; omega) (by rw [LYH.out]; omega))
       clear S1 ho hb HOL3 HOH)
    | (go_at_call 179; refine (S2.out).mono ?_; rintro e w5 ⟨svb, rfl, ho, hb⟩
       have RL5 := Lib.hid (HOL4.out.below hb).rd
       have RH5 := Lib.hid (HOH4.out.below hb).rd
       have HB5 := Lib.hid (HB4.out.trans (hb.mono HB4.out.size))
       have P3 := Lib.hid (prod_v II.out (X := xl + xh) (Y := yl + yh) (val_digs _) (val_digs _) (HOA.out.below hb).rd ho.rd (norm_digs _).1 (norm_digs _).1 (by have := KS.out.2.2.1; omega) (by have := KS.out.2.2.2.1; omega) (Or.inl (by have := KS.out.2.2.1; omega)))
       clear S2 ho hb HOL4 HOH4 HOA)
    | (go_at_call 167; refine (P3.out).mono ?_; rintro e w6 ⟨svm, rfl, ho, hb⟩
       have HB56 := Lib.hid hb
       have S3 := Lib.hid (subFrom_own svm svl _ (digs (xl * yl)) w6 ho (RL5.out.below hb) (norm_digs _).1 (norm_digs _) (digs_len (Nat.lt_of_le_of_lt (Nat.le_trans (Nat.le_add_right _ _) KS.out.2.2.2.2.2.1) (by have := val_lt (norm_digs ((xl + xh) * (yl + yh))).1; rwa [val_digs] at this))) (by rw [val_digs, val_digs]; exact Nat.le_trans (Nat.le_add_right _ _) KS.out.2.2.2.2.2.1) (by have := KS.out.2.2.2.2.1; omega) (fun g hg => RL5.out.apart hg))
       clear P3 ho hb)
    | (go_at_call 224; refine (S3.out).mono ?_; rintro e w7 ⟨z1, rfl, ⟨hl, hd, hv, ho⟩, hb⟩
       have HB57 := Lib.hid (HB56.out.trans hb)
       rw [val_digs, val_digs] at hv
       have HV1 := Lib.hid hv
       have HL1 := Lib.hid hl
       have S4 := Lib.hid (subFrom_own svm svh z1 (digs (xh * yh)) w7 ho (RH5.out.below HB57.out) hd (norm_digs _) (by rw [hl]; exact digs_len (Nat.lt_of_le_of_lt (Nat.le_trans (Nat.le_add_left _ _) KS.out.2.2.2.2.2.1) (by have := val_lt (norm_digs ((xl + xh) * (yl + yh))).1; rwa [val_digs] at this))) (by rw [val_digs]; have := KS.out.2.2.2.2.2.1; omega) (by rw [hl]; have := KS.out.2.2.2.2.1; omega) (fun g hg => RH5.out.apart hg))
       clear S3 hl hd hv ho hb HB56)
    | (go_at_call 224; refine (S4.out).mono ?_; rintro e w8 ⟨z2, rfl, ⟨hl, hd, hv, ho⟩, hb⟩
       have HB58 := Lib.hid (HB57.out.trans hb)
       have HB8 := Lib.hid (HB5.out.trans (HB58.out.mono HB5.out.size))
       have RL8 := Lib.hid (RL5.out.below HB58.out)
       have RH8 := Lib.hid (RH5.out.below HB58.out)
       have RM8 := Lib.hid ho.rd
       have DM8 := Lib.hid hd
       have LM8 := Lib.hid (show z2.length ≤ 2 * h + 2 by have := KS.out.2.2.2.2.1; have := HL1.out; omega)
       rw [val_digs] at hv
       have VM8 := Lib.hid (show val z2 = (xl + xh) * (yl + yh) - xl * yl - xh * yh by have := HV1.out; omega)
       have RM := Lib.hid (room_int svl (digs (xl * yl)) ((n : Int) + n) (2 * n) w8 (by omega) RL8.out (by have := KS.out.1; omega) (by omega))
       clear S4 hl hd hv ho hb HB57 RL5 RH5 HV1 HL1 HB58 RL8)
    | (go_at_call 223; refine (RM.out).mono ?_; rintro e w9 ⟨rfl, hr, hb⟩
       have HB89 := Lib.hid hb
       have HR9 := Lib.hid hr
       clear RM hr hb))
  obtain ⟨aom, capm, rfl, -⟩ := id RM8.out
  have l9 : (digs (xl * yl) ++ List.replicate (2 * n - (digs (xl * yl)).length) 0).length = 2 * n := len_room (by have := KS.out.1; omega)
  have v9 : val (digs (xl * yl) ++ List.replicate (2 * n - (digs (xl * yl)).length) 0) = xl * yl := by rw [val_room, val_digs]
  have d9 := dig_room (norm_digs (xl * yl)).1 (2 * n - (digs (xl * yl)).length)
  have VM := Lib.hid (Eq.trans (congrArg digs VM8.out) rfl)
  have TR := Lib.hid (fun (w' : World) (hb : Below w8.heap.size w8 w') => trim_x aom z2.length capm z2 w' (RM8.out.below hb) rfl (by have := LM8.out; omega) DM8.out)
  have AD := Lib.hid (fun (w' : World) (hb : Below w9.heap.size w9 w') => addInto_at w8.heap.size h (2 * n) (2 * n - h) (.slice aom (digs (val z2)).length capm) _ (digs (val z2)) w' l9 (by omega) (HR9.out.below hb HR9.out.lt) d9 ((RM8.out.strip DM8.out).below (HB89.out.trans (hb.mono HB89.out.size))) ((RM8.out.strip DM8.out).apart (Nat.le_refl _)) (norm_digs _).1
    (by rw [VM8.out]; exact KS.out.2.2.2.2.2.2.1) (by rw [v9, val_digs, VM8.out]; exact KS.out.2.2.2.2.2.2.2.1) (by omega) (Nat.le_refl _) (by unfold maxLen; omega))
  rw [v9, val_digs] at AD
  generalize hkm : (digs (val z2)).length = km at TR AD
  generalize hlm : z2.length = lm at *
  have f1 : (h : Int) ≤ ((2 * n : Nat) : Int) := by omega
  have f2 : ¬ (2 * n = h) := by omega
  have f3 : (h : Int) ≤ 2 * (n : Int) := by omega
  have f4 : ¬ (2 * n = 2 * h) := by omega
  have f5 : 2 * (h : Int) ≤ 2 * (n : Int) := by omega
  have f6 : (2 * (h : Int)).toNat = 2 * h := by omega
  clear l9 v9 d9 VM hkm hlm
  go_region_held3 (fun _ => True) (trivial)
    (first
      | (go_at_call 209; refine (TR.out _ (HB89.out.trans ((Below.refl _ _).drew.mono HB89.out.size))).mono ?_; rintro e' w9' ⟨rfl, rfl⟩)
      | (go_at_call 211; refine (AD.out _ (Below.refl _ _).drew).mono ?_; rintro e' w10 ⟨c10, L1, rfl, ⟨hl, hd, hv, hr⟩, hg⟩
         have HL1 := Lib.hid hl
         have HD1 := Lib.hid hd
         have HV1 := Lib.hid hv
         have HR1 := Lib.hid hr
         have HG1 := Lib.hid hg
         clear hl hd hv hr hg))
  have HB9 := Lib.hid (HB8.out.trans (HB89.out.mono HB8.out.size))
  have HB10 := Lib.hid (below_grown HB9.out.drew HG1.out HB9.out.size (HB8.out.size))
  have HB810 := Lib.hid (below_grown HB89.out.drew HG1.out HB89.out.size (Nat.le_refl _))
  have hh10 : Rd w10 svh (digs (xh * yh)) := (RH8.out).below HB810.out
  have v10 : val L1 + 18446744073709551616 ^ (2 * h) * val (digs (xh * yh)) = X := by
    rw [HV1.out, val_digs, VM8.out]
    exact KS.out.2.2.2.2.2.2.2.2.1
  have AE := Lib.hid (addInto_at w8.heap.size (2 * h) (2 * n) (2 * n - 2 * h) svh L1 (digs (xh * yh)) w10 HL1.out (by omega) HR1.out HD1.out hh10 (RH8.out.apart (Nat.le_refl _)) (norm_digs _).1 KS.out.2.1 (by rw [v10]; exact KS.out.2.2.2.2.2.2.2.2.2) (by omega) (Nat.le_refl _) (by unfold maxLen; omega))
  rw [v10] at AE
  have HSZ := Lib.hid (Nat.le_trans HB810.out.size (Nat.le_refl _))
  clear hh10 v10 AD TR
  go_wp2_with (go_at_call 211; refine (AE.out).mono ?_; rintro e' w11 ⟨c11, L2, rfl, ⟨hl, hd, hv, hr⟩, hg⟩
               have HT := Lib.hid (show Calls Tryz.prog 209 #[.slice (some ⟨w8.heap.size, 0, none⟩) (2 * n) (2 * n)] w11 fun e w' => ∃ sv', e = .returned sv' ∧ Own w' w8.heap.size sv' (digs (val L2)) ∧ w11 = w' from by
                 have hO := Own.of_row (cap := 2 * n) hr (Nat.le_refl _) (by omega) (by unfold maxLen; omega)
                 rw [hl] at hO
                 exact trim_own _ L2 w11 hO (by omega) hd)
               rw [hv] at HT
               have HB11 := Lib.hid (below_grown HB10.out hg HB10.out.size HB8.out.size)
               clear hl hd hv hr hg AE)
  go_wp2_with (go_at_call 209; refine (HT.out).mono ?_; rintro e' w12 ⟨svr, rfl, ho, rfl⟩; have HO := Lib.hid ho; clear ho)
  go_ret
  exact ⟨svr, rfl, HO.out.mono HB8.out.size, HB11.out⟩
end Go.Proofs.YtlhmfgbaefaneaaGreatDoor.nat
namespace Go.Proofs.YtlhmfgbaefaneaaGreatDoor.nat
open Go.RowKit
def QRel (w : World) (x y : List Nat) (g T at' : Nat) (wr : World) : Prop :=
  ∃ Z, Z.length = T ∧ Dig Z ∧ Row wr g Z ∧ Below w.heap.size w wr ∧ val Z = val (x.take at') * val y
theorem QRel.sum {x y : List Nat} {N M at' e : Nat} (hdx : Dig x) (hdy : Dig y) (hx : x.length = N) (hy : y.length = M) (h1 : at' ≤ e) (h2 : e ≤ N) :
    val (x.take at') * val y + 18446744073709551616 ^ at' * (val ((x.drop at').take (e - at')) * val y) = val (x.take e) * val y ∧ val (x.take e) * val y < 18446744073709551616 ^ (N + M) := by
  constructor
  · have h := val_parts (x.take e) at' (by rw [List.length_take]; omega)
    rw [List.take_take, Nat.min_eq_left h1, List.drop_take] at h
    rw [h, Nat.add_mul, Nat.mul_assoc]
  · exact mul_pow_lt (val_lt' (hdx.take e) (by rw [List.length_take]; omega)) (val_lt' hdy (by omega))
set_option maxRecDepth 100000 in
set_option maxHeartbeats 4000000 in
theorem product_ge (n : Nat) (IH : ∀ k, k < n → ProdIs k) (sx sy : Value) (x y : List Nat) (w : World) (hx : Rd w sx x) (hy : Rd w sy y) (hdx : Dig x) (hdy : Dig y) (hn : x.length ≤ 1000000) (hm : y.length ≤ 1000000) (hyn : y.length ≤ n) (hle : y.length ≤ x.length) :
    Calls Tryz.prog 167 #[sx, sy] w fun e w' => ∃ sv, e = .returned sv ∧ Own w' w.heap.size sv (digs (val x * val y)) ∧ Below w.heap.size w w' := by
  obtain ⟨ao, xcap, rfl, ⟨h1, -⟩, h2, -⟩ := id hx
  obtain ⟨bo, ycap, rfl, ⟨k1, -⟩, k2, -⟩ := id hy
  obtain ⟨N, hN⟩ : ∃ N, x.length = N := ⟨_, rfl⟩
  obtain ⟨M, hM⟩ : ∃ M, y.length = M := ⟨_, rfl⟩
  have HN := Lib.hid hN
  have HM := Lib.hid hM
  unfold maxLen at h2 k2
  rw [hN] at h1 hn hx ⊢
  rw [hM] at k1 hm hy hyn ⊢
  rw [hN, hM] at hle
  by_cases h40 : M < 40
  · have HS := Lib.hid (shortProduct_any (.slice ao N xcap) (.slice bo M ycap) x y w hx hy hdx hdy (by rw [hN]; omega) (by rw [hM]; omega))
    clear hx hy hdx hdy hN hM
    go_enter Tryz.func167, Tryz.ntmps167
    go_wp2_with (go_at_call 210; refine (HS.out).mono ?_; rintro e w2 ⟨sv, rfl, ho, hb⟩; have HO := Lib.hid ho; have HB := Lib.hid hb; clear ho hb)
    go_ret
    exact ⟨sv, rfl, HO.out, HB.out⟩
  · obtain ⟨gx, ox, rfl, -⟩ := lenpos hx (by omega)
    obtain ⟨W1, hmk, hrow, hb⟩ := make_int w ((N : Int) + M) (N + M) (by omega) (by omega)
    have HS := Lib.hid (show QRel w x y w.heap.size (N + M) 0 W1 from ⟨_, by simp, dig_zeros _, hrow, hb, by rw [val_zeros]; simp [val]⟩)
    have HX := Lib.hid hx
    have HY := Lib.hid hy
    have HDX := Lib.hid hdx
    have HDY := Lib.hid hdy
    have II := Lib.hid (IH (M - 1) (by omega))
    clear hx hy hdx hdy hN hM hrow hb IH
    have t1 : ¬ N < M := by omega
    go_enter Tryz.func167, Tryz.ntmps167
    go_wp2
    go_loopw [6] (fun av wr => ∃ a : Nat, a ≤ N + M ∧ av = .int .i64 a ∧ QRel w x y w.heap.size (N + M) a wr) (fun av _ => N + M - (intOf av).toNat)
    case atStart => exact ⟨0, Nat.zero_le _, rfl, HS.out⟩
    case round =>
      obtain ⟨a, ha, rfl, hrel⟩ := hrel
      obtain ⟨Z, hl, hd, hrow, hb, hv⟩ := hrel
      clear HS hmk
      by_cases hlt : a < N
      · obtain ⟨e, he, he1, he2, he3⟩ : ∃ e : Nat, min ((a : Int) + M) N = e ∧ a < e ∧ e ≤ N ∧ (e ≤ a + M ∧ (e = a + M ∨ e = N)) := ⟨min (a + M) N, by omega, by omega, by omega, by omega⟩
        have hx2 := (HX.out.below hb).part a (e - a) (xcap - a) (by rw [HN.out]; omega) (by omega) (by omega)
        have lP : ((x.drop a).take (e - a)).length = e - a := by rw [List.length_take, List.length_drop, HN.out]; omega
        have dP := (HDX.out.drop a).take (e - a)
        have HP := Lib.hid (hx2.strip dP)
        have TR := Lib.hid (trim_x (some ⟨gx, ox + a, none⟩) (e - a) (xcap - a) _ wr hx2 lP (by omega) dP)
        have LP := Lib.hid (digs_len_val dP)
        have hsum := QRel.sum HDX.out HDY.out HN.out HM.out (Nat.le_of_lt he1) he2
        rw [lP] at LP
        have htk : x.take (a + M) = x.take e := by
          rcases he3.2 with h | h
          · rw [h]
          · rw [List.take_of_length_le (by rw [HN.out]; omega), List.take_of_length_le (by rw [HN.out]; omega)]
        have HTK := Lib.hid htk
        rw [← hv] at hsum
        have HSM := Lib.hid hsum
        obtain ⟨V, hV⟩ : ∃ V, V = val ((x.drop a).take (e - a)) := ⟨_, rfl⟩
        rw [← hV] at HP TR LP HSM
        have HB := Lib.hid hb
        have HL := Lib.hid hl
        have HD := Lib.hid hd
        have HR := Lib.hid hrow
        have HSZ := Lib.hid hb.size
        clear hV lP dP hx2 hb hl hd hrow hv hsum htk
        have g1 : (a : Int) ≤ (e : Int) := by omega
        have g2 : (e : Int) ≤ (xcap : Int) := by omega
        have g3 : ¬ (a = xcap) := by omega
        have g4 : ¬ (xcap = a) := by omega
        have g5 : ¬ (N + M = a) := by omega
        have g6 : (a : Int) ≤ (N : Int) + (M : Int) := by omega
        have PL : Hid ((digs (V * val y)).length ≤ N + M - a) := by
          have hV : V < 18446744073709551616 ^ (e - a) := by
            have := val_lt (norm_digs V).1
            rw [val_digs] at this
            exact Nat.lt_of_lt_of_le this (pow_le LP.out)
          exact digs_len (Nat.lt_of_lt_of_le (mul_pow_lt hV (val_lt' HDY.out (Nat.le_of_eq HM.out))) (pow_le (by omega)))
        have AD := Lib.hid (fun (w' : World) (sv : Value) (hb' : Below wr.heap.size wr w') (hsv : Own w' wr.heap.size sv (digs (V * val y))) => addInto_at w.heap.size a (N + M) (N + M - a) sv Z (digs (V * val y)) w' HL.out (by omega) (HR.out.below hb' HR.out.lt) HD.out hsv.rd (hsv.apart HR.out.lt) (norm_digs _).1 PL.out (by rw [val_digs, HSM.out.1]; exact HSM.out.2) (by omega) (Nat.le_refl _) (by unfold maxLen; omega))
        generalize hkp : (digs V).length = kp at *
        have HKP := Lib.hid hkp
        by_cases hkm : kp = M
        · have HF := Lib.hid (fun (w' : World) (hb' : Below wr.heap.size wr w') => halved_of M (by omega) (by omega) II.out (.slice (some ⟨gx, ox + a, none⟩) kp (xcap - a)) (.slice bo M ycap) (digs V) y w' (HP.out.below hb') ((HY.out.below HB.out).below hb') (norm_digs _).1 HDY.out (by rw [HKP.out, hkm]) HM.out)
          rw [val_digs] at HF
          clear hkp
          subst hkm
          go_wp2_with (go_at_call 209; refine (TR.out).mono ?_; rintro e' w2 ⟨rfl, rfl⟩; clear TR)
          go_region_held3 (fun _ => True) (trivial)
            (first
              | (go_at_call 212; refine (HF.out _ (Below.refl _ _).drew).mono ?_; rintro e' w3 ⟨sv, rfl, ho, hb3⟩
                 have HO3 := Lib.hid (ho.mono (B' := w2.heap.size) (Nat.le_refl _))
                 have HB3 := Lib.hid ((Below.refl w2.heap.size w2).drew.trans hb3)
                 clear ho hb3)
              | (go_at_call 211; refine (AD.out _ _ HB3.out HO3.out).mono ?_; rintro e' w4 ⟨c4, L4, rfl, ⟨hl, hd, hv, hr⟩, hg⟩
                 have HL4 := Lib.hid hl
                 have HD4 := Lib.hid hd
                 have HV4 := Lib.hid hv
                 have HR4 := Lib.hid hr
                 have HG4 := Lib.hid hg
                 clear hl hd hv hr hg))
          have HRel := Lib.hid (show QRel w x y w.heap.size (N + kp) (a + kp) w4 from ⟨L4, HL4.out, HD4.out, HR4.out, below_grown (HB.out.trans (HB3.out.mono HSZ.out)) HG4.out (Nat.le_trans HSZ.out HB3.out.size) (Nat.le_refl _), by rw [HV4.out, val_digs, HSM.out.1, HTK.out]⟩)
          go_wp2
          go_roundw
          case rel => exact ⟨a + kp, by omega, by go_num, HRel.out⟩
          case measure => simp [intOf]; omega
        · have HF := Lib.hid (fun (w' : World) (hb' : Below wr.heap.size wr w') => prod_v II.out (sx := .slice (some ⟨gx, ox + a, none⟩) kp (xcap - a)) (sy := .slice bo M ycap) (X := V) (w := w') (val_digs V) rfl (HP.out.below hb') ((HY.out.below HB.out).below hb') (norm_digs _).1 HDY.out (by rw [HKP.out]; have := LP.out; omega) (by rw [HM.out]; omega) (Or.inl (by rw [HKP.out]; have := LP.out; omega)))
          have hkb : ((kp : Int) == M) = false := by simp; omega
          clear hkp
          go_wp2_with (go_at_call 209; refine (TR.out).mono ?_; rintro e' w2 ⟨rfl, rfl⟩; clear TR)
          go_region_held3 (fun _ => True) (trivial)
            (first
              | (go_at_call 167; refine (HF.out _ (Below.refl _ _).drew).mono ?_; rintro e' w3 ⟨sv, rfl, ho, hb3⟩
                 have HO3 := Lib.hid (ho.mono (B' := w2.heap.size) (Nat.le_refl _))
                 have HB3 := Lib.hid ((Below.refl w2.heap.size w2).drew.trans hb3)
                 clear ho hb3)
              | (go_at_call 211; refine (AD.out _ _ HB3.out HO3.out).mono ?_; rintro e' w4 ⟨c4, L4, rfl, ⟨hl, hd, hv, hr⟩, hg⟩
                 have HL4 := Lib.hid hl
                 have HD4 := Lib.hid hd
                 have HV4 := Lib.hid hv
                 have HR4 := Lib.hid hr
                 have HG4 := Lib.hid hg
                 clear hl hd hv hr hg))
          have HRel := Lib.hid (show QRel w x y w.heap.size (N + M) (a + M) w4 from ⟨L4, HL4.out, HD4.out, HR4.out, below_grown (HB.out.trans (HB3.out.mono HSZ.out)) HG4.out (Nat.le_trans HSZ.out HB3.out.size) (Nat.le_refl _), by rw [HV4.out, val_digs, HSM.out.1, HTK.out]⟩)
          go_wp2
          go_roundw
          case rel => exact ⟨a + M, by omega, by go_num, HRel.out⟩
          case measure => simp [intOf]; omega
      · have hv2 : val Z = val x * val y := by rw [hv, List.take_of_length_le (by rw [HN.out]; omega)]
        have hO : Own wr w.heap.size (.slice (some ⟨w.heap.size, 0, none⟩) (N + M) (N + M)) Z := by
          have := Own.of_row (cap := N + M) hrow (Nat.le_refl _) (by omega) (by unfold maxLen; omega)
          rwa [hl] at this
        have HT := Lib.hid (trim_own _ Z wr hO (by omega) hd)
        rw [hv2] at HT
        have HB := Lib.hid hb
        clear hl hd hrow hb hv hv2 hO
        go_wp2_with (go_at_call 209; refine (HT.out).mono ?_; rintro e w3 ⟨sv, rfl, hO3, rfl⟩; have HO3 := Lib.hid hO3; clear hO3)
        go_ret
        exact ⟨sv, rfl, HO3.out, HB.out⟩
set_option maxRecDepth 100000 in
set_option maxHeartbeats 4000000 in
theorem product_lt (n : Nat) (IH : ∀ k, k < n → ProdIs k) (sx sy : Value) (x y : List Nat) (w : World) (hx : Rd w sx x) (hy : Rd w sy y) (hdx : Dig x) (hdy : Dig y) (hn : x.length ≤ 1000000) (hm : y.length ≤ 1000000) (hyn : y.length ≤ n) (hle : y.length < x.length) :
    Calls Tryz.prog 167 #[sy, sx] w fun e w' => ∃ sv, e = .returned sv ∧ Own w' w.heap.size sv (digs (val x * val y)) ∧ Below w.heap.size w w' := by
  obtain ⟨ao, xcap, rfl, ⟨h1, -⟩, h2, -⟩ := id hx
  obtain ⟨bo, ycap, rfl, ⟨k1, -⟩, k2, -⟩ := id hy
  obtain ⟨N, hN⟩ : ∃ N, x.length = N := ⟨_, rfl⟩
  obtain ⟨M, hM⟩ : ∃ M, y.length = M := ⟨_, rfl⟩
  have HN := Lib.hid hN
  have HM := Lib.hid hM
  unfold maxLen at h2 k2
  rw [hN] at h1 hn hx ⊢
  rw [hM] at k1 hm hy hyn ⊢
  rw [hN, hM] at hle
  by_cases h40 : M < 40
  · have HS := Lib.hid (shortProduct_any (.slice ao N xcap) (.slice bo M ycap) x y w hx hy hdx hdy (by rw [hN]; omega) (by rw [hM]; omega))
    clear hx hy hdx hdy hN hM
    go_enter Tryz.func167, Tryz.ntmps167
    go_wp2_with (go_at_call 210; refine (HS.out).mono ?_; rintro e w2 ⟨sv, rfl, ho, hb⟩; have HO := Lib.hid ho; have HB := Lib.hid hb; clear ho hb)
    go_ret
    exact ⟨sv, rfl, HO.out, HB.out⟩
  · obtain ⟨gx, ox, rfl, -⟩ := lenpos hx (by omega)
    obtain ⟨W1, hmk, hrow, hb⟩ := make_int w ((N : Int) + M) (N + M) (by omega) (by omega)
    have HS := Lib.hid (show QRel w x y w.heap.size (N + M) 0 W1 from ⟨_, by simp, dig_zeros _, hrow, hb, by rw [val_zeros]; simp [val]⟩)
    have HX := Lib.hid hx
    have HY := Lib.hid hy
    have HDX := Lib.hid hdx
    have HDY := Lib.hid hdy
    have II := Lib.hid (IH (M - 1) (by omega))
    clear hx hy hdx hdy hN hM hrow hb IH
    have t1 : M < N := by omega
    go_enter Tryz.func167, Tryz.ntmps167
    go_wp2
    go_loopw [6] (fun av wr => ∃ a : Nat, a ≤ N + M ∧ av = .int .i64 a ∧ QRel w x y w.heap.size (N + M) a wr) (fun av _ => N + M - (intOf av).toNat)
    case atStart => exact ⟨0, Nat.zero_le _, rfl, HS.out⟩
    case round =>
      obtain ⟨a, ha, rfl, hrel⟩ := hrel
      obtain ⟨Z, hl, hd, hrow, hb, hv⟩ := hrel
      clear HS hmk
      by_cases hlt : a < N
      · obtain ⟨e, he, he1, he2, he3⟩ : ∃ e : Nat, min ((a : Int) + M) N = e ∧ a < e ∧ e ≤ N ∧ (e ≤ a + M ∧ (e = a + M ∨ e = N)) := ⟨min (a + M) N, by omega, by omega, by omega, by omega⟩
        have hx2 := (HX.out.below hb).part a (e - a) (xcap - a) (by rw [HN.out]; omega) (by omega) (by omega)
        have lP : ((x.drop a).take (e - a)).length = e - a := by rw [List.length_take, List.length_drop, HN.out]; omega
        have dP := (HDX.out.drop a).take (e - a)
        have HP := Lib.hid (hx2.strip dP)
        have TR := Lib.hid (trim_x (some ⟨gx, ox + a, none⟩) (e - a) (xcap - a) _ wr hx2 lP (by omega) dP)
        have LP := Lib.hid (digs_len_val dP)
        have hsum := QRel.sum HDX.out HDY.out HN.out HM.out (Nat.le_of_lt he1) he2
        rw [lP] at LP
        have htk : x.take (a + M) = x.take e := by
          rcases he3.2 with h | h
          · rw [h]
          · rw [List.take_of_length_le (by rw [HN.out]; omega), List.take_of_length_le (by rw [HN.out]; omega)]
        have HTK := Lib.hid htk
        rw [← hv] at hsum
        have HSM := Lib.hid hsum
        obtain ⟨V, hV⟩ : ∃ V, V = val ((x.drop a).take (e - a)) := ⟨_, rfl⟩
        rw [← hV] at HP TR LP HSM
        have HB := Lib.hid hb
        have HL := Lib.hid hl
        have HD := Lib.hid hd
        have HR := Lib.hid hrow
        have HSZ := Lib.hid hb.size
        clear hV lP dP hx2 hb hl hd hrow hv hsum htk
        have g1 : (a : Int) ≤ (e : Int) := by omega
        have g2 : (e : Int) ≤ (xcap : Int) := by omega
        have g3 : ¬ (a = xcap) := by omega
        have g4 : ¬ (xcap = a) := by omega
        have g5 : ¬ (N + M = a) := by omega
        have g6 : (a : Int) ≤ (N : Int) + (M : Int) := by omega
        have PL : Hid ((digs (V * val y)).length ≤ N + M - a) := by
          have hV : V < 18446744073709551616 ^ (e - a) := by
            have := val_lt (norm_digs V).1
            rw [val_digs] at this
            exact Nat.lt_of_lt_of_le this (pow_le LP.out)
          exact digs_len (Nat.lt_of_lt_of_le (mul_pow_lt hV (val_lt' HDY.out (Nat.le_of_eq HM.out))) (pow_le (by omega)))
        have AD := Lib.hid (fun (w' : World) (sv : Value) (hb' : Below wr.heap.size wr w') (hsv : Own w' wr.heap.size sv (digs (V * val y))) => addInto_at w.heap.size a (N + M) (N + M - a) sv Z (digs (V * val y)) w' HL.out (by omega) (HR.out.below hb' HR.out.lt) HD.out hsv.rd (hsv.apart HR.out.lt) (norm_digs _).1 PL.out (by rw [val_digs, HSM.out.1]; exact HSM.out.2) (by omega) (Nat.le_refl _) (by unfold maxLen; omega))
        generalize hkp : (digs V).length = kp at *
        have HKP := Lib.hid hkp
        by_cases hkm : kp = M
        · have HF := Lib.hid (fun (w' : World) (hb' : Below wr.heap.size wr w') => halved_of M (by omega) (by omega) II.out (.slice (some ⟨gx, ox + a, none⟩) kp (xcap - a)) (.slice bo M ycap) (digs V) y w' (HP.out.below hb') ((HY.out.below HB.out).below hb') (norm_digs _).1 HDY.out (by rw [HKP.out, hkm]) HM.out)
          rw [val_digs] at HF
          clear hkp
          subst hkm
          go_wp2_with (go_at_call 209; refine (TR.out).mono ?_; rintro e' w2 ⟨rfl, rfl⟩; clear TR)
          go_region_held3 (fun _ => True) (trivial)
            (first
              | (go_at_call 212; refine (HF.out _ (Below.refl _ _).drew).mono ?_; rintro e' w3 ⟨sv, rfl, ho, hb3⟩
                 have HO3 := Lib.hid (ho.mono (B' := w2.heap.size) (Nat.le_refl _))
                 have HB3 := Lib.hid ((Below.refl w2.heap.size w2).drew.trans hb3)
                 clear ho hb3)
              | (go_at_call 211; refine (AD.out _ _ HB3.out HO3.out).mono ?_; rintro e' w4 ⟨c4, L4, rfl, ⟨hl, hd, hv, hr⟩, hg⟩
                 have HL4 := Lib.hid hl
                 have HD4 := Lib.hid hd
                 have HV4 := Lib.hid hv
                 have HR4 := Lib.hid hr
                 have HG4 := Lib.hid hg
                 clear hl hd hv hr hg))
          have HRel := Lib.hid (show QRel w x y w.heap.size (N + kp) (a + kp) w4 from ⟨L4, HL4.out, HD4.out, HR4.out, below_grown (HB.out.trans (HB3.out.mono HSZ.out)) HG4.out (Nat.le_trans HSZ.out HB3.out.size) (Nat.le_refl _), by rw [HV4.out, val_digs, HSM.out.1, HTK.out]⟩)
          go_wp2
          go_roundw
          case rel => exact ⟨a + kp, by omega, by go_num, HRel.out⟩
          case measure => simp [intOf]; omega
        · have HF := Lib.hid (fun (w' : World) (hb' : Below wr.heap.size wr w') => prod_v II.out (sx := .slice (some ⟨gx, ox + a, none⟩) kp (xcap - a)) (sy := .slice bo M ycap) (X := V) (w := w') (val_digs V) rfl (HP.out.below hb') ((HY.out.below HB.out).below hb') (norm_digs _).1 HDY.out (by rw [HKP.out]; have := LP.out; omega) (by rw [HM.out]; omega) (Or.inl (by rw [HKP.out]; have := LP.out; omega)))
          have hkb : ((kp : Int) == M) = false := by simp; omega
          clear hkp
          go_wp2_with (go_at_call 209; refine (TR.out).mono ?_; rintro e' w2 ⟨rfl, rfl⟩; clear TR)
          go_region_held3 (fun _ => True) (trivial)
            (first
              | (go_at_call 167; refine (HF.out _ (Below.refl _ _).drew).mono ?_; rintro e' w3 ⟨sv, rfl, ho, hb3⟩
                 have HO3 := Lib.hid (ho.mono (B' := w2.heap.size) (Nat.le_refl _))
                 have HB3 := Lib.hid ((Below.refl w2.heap.size w2).drew.trans hb3)
                 clear ho hb3)
              | (go_at_call 211; refine (AD.out _ _ HB3.out HO3.out).mono ?_; rintro e' w4 ⟨c4, L4, rfl, ⟨hl, hd, hv, hr⟩, hg⟩
                 have HL4 := Lib.hid hl
                 have HD4 := Lib.hid hd
                 have HV4 := Lib.hid hv
                 have HR4 := Lib.hid hr
                 have HG4 := Lib.hid hg
                 clear hl hd hv hr hg))
          have HRel := Lib.hid (show QRel w x y w.heap.size (N + M) (a + M) w4 from ⟨L4, HL4.out, HD4.out, HR4.out, below_grown (HB.out.trans (HB3.out.mono HSZ.out)) HG4.out (Nat.le_trans HSZ.out HB3.out.size) (Nat.le_refl _), by rw [HV4.out, val_digs, HSM.out.1, HTK.out]⟩)
          go_wp2
          go_roundw
          case rel => exact ⟨a + M, by omega, by go_num, HRel.out⟩
          case measure => simp [intOf]; omega
      · have hv2 : val Z = val x * val y := by rw [hv, List.take_of_length_le (by rw [HN.out]; omega)]
        have hO : Own wr w.heap.size (.slice (some ⟨w.heap.size, 0, none⟩) (N + M) (N + M)) Z := by
          have := Own.of_row (cap := N + M) hrow (Nat.le_refl _) (by omega) (by unfold maxLen; omega)
          rwa [hl] at this
        have HT := Lib.hid (trim_own _ Z wr hO (by omega) hd)
        rw [hv2] at HT
        have HB := Lib.hid hb
        clear hl hd hrow hb hv hv2 hO
        go_wp2_with (go_at_call 209; refine (HT.out).mono ?_; rintro e w3 ⟨sv, rfl, hO3, rfl⟩; have HO3 := Lib.hid hO3; clear hO3)
        go_ret
        exact ⟨sv, rfl, HO3.out, HB.out⟩
theorem prod_is : ∀ n, ProdIs n := fun n => by
  induction n using Nat.strongRecOn with
  | _ n ih =>
    intro sx sy x y w hx hy hdx hdy hn hm h
    by_cases hle : y.length ≤ x.length
    · exact product_ge n ih sx sy x y w hx hy hdx hdy hn hm (by omega) hle
    · rw [Nat.mul_comm]
      exact product_lt n ih sy sx y x w hy hx hdy hdx hm hn (by omega) (by omega)
theorem product_any (sx sy : Value) (x y : List Nat) (w : World) (hx : Rd w sx x) (hy : Rd w sy y) (hdx : Dig x) (hdy : Dig y) (hn : x.length ≤ 1000000) (hm : y.length ≤ 1000000) :
    Calls Tryz.prog 167 #[sx, sy] w fun e w' => ∃ sv, e = .returned sv ∧ Own w' w.heap.size sv (digs (val x * val y)) ∧ Below w.heap.size w w' :=
  prod_is x.length sx sy x y w hx hy hdx hdy hn hm (Or.inl (Nat.le_refl _))
end Go.Proofs.YtlhmfgbaefaneaaGreatDoor.nat
namespace Go.Proofs.YtlhmfgbaefaneaaGreatDoor.nat
open Go.RowKit
def IsN (w : World) (v : Value) (X : Nat) : Prop :=
  (v = .pointer none ∧ X = 0) ∨ ∃ b o sv, v = .pointer (some ⟨b, o, none⟩) ∧ w.cell? ⟨b, o, none⟩ = some sv ∧ Rd w sv (digs X)
theorem IsN.below {w w' : World} {v : Value} {X : Nat} (h : IsN w v X) (hb : Below w.heap.size w w') : IsN w' v X := by
  rcases h with h | ⟨b, o, sv, h1, h2, h3⟩
  · exact Or.inl h
  · exact Or.inr ⟨b, o, sv, h1, (hb.cell (p := ⟨b, o, none⟩) (cell_lt h2)).trans h2, h3.below hb⟩
theorem IsN.inj {w : World} {v : Value} {X Y : Nat} (h : IsN w v X) (h' : IsN w v Y) : X = Y := by
  rcases h with ⟨rfl, rfl⟩ | ⟨b, o, sv, rfl, h2, h3⟩
  · rcases h' with ⟨_, rfl⟩ | ⟨b', o', sv', he, _, _⟩
    · rfl
    · simp at he
  · rcases h' with ⟨he, _⟩ | ⟨b', o', sv', he, h5, h6⟩
    · simp at he
    · simp only [Value.pointer.injEq, Option.some.injEq, Addr.mk.injEq, and_true] at he
      obtain ⟨rfl, rfl⟩ := he
      rw [h2] at h5
      simp only [Option.some.injEq] at h5
      subst h5
      rw [← val_digs X, ← val_digs Y, h3.inj h6]
set_option maxRecDepth 100000 in
theorem list_any (v : Value) (X : Nat) (w : World) (h : IsN w v X) :
    Calls Tryz.prog 168 #[v] w fun e w' => ∃ sv, e = .returned sv ∧ Rd w sv (digs X) ∧ w = w' := by
  rcases h with ⟨rfl, rfl⟩ | ⟨b, o, sv, rfl, h2, h3⟩
  · go_enter Tryz.func168, Tryz.ntmps168
    go_wp2
    go_ret
    exact ⟨_, rfl, by rw [digs_zero]; exact Rd.nil _, rfl⟩
  · have H3 := Lib.hid h3
    clear h3
    go_enter Tryz.func168, Tryz.ntmps168
    go_wp2
    go_ret
    exact ⟨_, rfl, H3.out, rfl⟩
set_option maxRecDepth 100000 in
theorem own_any (sv : Value) (l : List Nat) (w : World) (h : Rd w sv l) (hd : Dig l) (hn : l.length ≤ 4000000) :
    Calls Tryz.prog 166 #[sv] w fun e w' => ∃ v, e = .returned v ∧ (IsN w' v (val l) ∧ v ≠ .pointer none) ∧ Below w.heap.size w w' := by
  have T := Lib.hid (trim_rd sv l w h hn hd)
  clear h
  go_enter Tryz.func166, Tryz.ntmps166
  go_wp2_with (go_at_call 209; refine (T.out).mono ?_; rintro e w1 ⟨sv', rfl, ⟨hr, -, -⟩, rfl⟩; obtain ⟨ao', cap', rfl, -⟩ := id hr; have HR := Lib.hid hr; clear hr T)
  go_ret
  have hb : Below w.heap.size w (w.alloc (.cells #[.slice ao' (digs (val l)).length cap'] 140)) := (Below.refl _ _).alloc (Nat.le_refl _) _
  exact ⟨_, rfl, ⟨Or.inr ⟨w.heap.size, 0, _, rfl, cell_of_one (heap_alloc_new w _), HR.out.below hb⟩, by simp⟩, hb⟩
theorem Of_any (d : Nat) (w : World) (h : d < 18446744073709551616) :
    Calls Tryz.prog 134 #[.int .u64 (d : Int)] w fun e w' => ∃ v, e = .returned v ∧ (IsN w' v d ∧ v ≠ .pointer none) ∧ Below w.heap.size w w' := by
  have hb : Below w.heap.size w (w.alloc (.cells #[Value.int .u64 (d : Int)] 104)) := (Below.refl _ _).alloc (Nat.le_refl _) _
  have OW := Lib.hid (own_any _ [d] _ (word_own (w := w) (d := d) (B := w.heap.size) (Nat.le_refl _)).rd (Dig.cons h Dig.nil) (by simp))
  have hv : val [d] = d := by simp [val]
  rw [hv] at OW
  have HB := Lib.hid hb
  clear hb hv
  go_enter Tryz.func134, Tryz.ntmps134
  go_wp2_with (go_at_call 166; refine (OW.out).mono ?_; rintro e w1 ⟨v, rfl, hi, hb⟩; have HI := Lib.hid hi; have HB1 := Lib.hid (HB.out.trans (hb.mono HB.out.size)); clear hi hb OW)
  go_ret
  exact ⟨v, rfl, HI.out, HB1.out⟩
theorem digs_add_len {X Y n : Nat} (hx : (digs X).length ≤ n) (hy : (digs Y).length ≤ n) : (digs (X + Y)).length ≤ n + 1 := by
  refine digs_len (add_pow_lt ?_ ?_)
  · have := val_lt' (norm_digs X).1 hx; rwa [val_digs] at this
  · have := val_lt' (norm_digs Y).1 hy; rwa [val_digs] at this
theorem digs_mul_len {X Y n m : Nat} (hx : (digs X).length ≤ n) (hy : (digs Y).length ≤ m) : (digs (X * Y)).length ≤ n + m := by
  refine digs_len (mul_pow_lt ?_ ?_)
  · have := val_lt' (norm_digs X).1 hx; rwa [val_digs] at this
  · have := val_lt' (norm_digs Y).1 hy; rwa [val_digs] at this
theorem digs_le_len {X Y n : Nat} (h : X ≤ Y) (hy : (digs Y).length ≤ n) : (digs X).length ≤ n := by
  refine digs_len (Nat.lt_of_le_of_lt h ?_)
  have := val_lt' (norm_digs Y).1 hy; rwa [val_digs] at this
set_option maxRecDepth 100000 in
theorem Add_any (a b : Value) (X Y : Nat) (w : World) (ha : IsN w a X) (hb : IsN w b Y) (hx : (digs X).length ≤ 1000000) (hy : (digs Y).length ≤ 1000000) :
    Calls Tryz.prog 141 #[a, b] w fun e w' => ∃ v, e = .returned v ∧ (IsN w' v (X + Y) ∧ v ≠ .pointer none) ∧ Below w.heap.size w w' := by
  have L1 := Lib.hid (list_any a X w ha)
  have L2 := Lib.hid (list_any b Y w hb)
  clear ha hb
  go_enter Tryz.func141, Tryz.ntmps141
  go_wp2_with (first
    | (go_at_call 168; refine (L1.out).mono ?_; rintro e w1 ⟨sa, rfl, ha, rfl⟩; have HA := Lib.hid ha; clear L1 ha)
    | (go_at_call 168; refine (L2.out).mono ?_; rintro e w1 ⟨sb, rfl, hb, rfl⟩
       have C := Lib.hid (sum_any sa sb _ _ w HA.out hb (norm_digs X).1 (norm_digs Y).1 (by omega) (by omega))
       rw [val_digs, val_digs] at C
       clear L2 hb)
    | (go_at_call 179; refine (C.out).mono ?_; rintro e w2 ⟨sv, rfl, ho, hb2⟩
       have O := Lib.hid (own_any sv _ w2 ho.rd (norm_digs _).1 (by have := digs_add_len hx hy; omega))
       rw [val_digs] at O
       have HB2 := Lib.hid hb2
       clear C ho hb2)
    | (go_at_call 166; refine (O.out).mono ?_; rintro e w3 ⟨v, rfl, hi, hb3⟩; have HI := Lib.hid hi; have HB3 := Lib.hid (HB2.out.trans (hb3.mono HB2.out.size)); clear O hi hb3))
  go_ret
  exact ⟨v, rfl, HI.out, HB3.out⟩
set_option maxRecDepth 100000 in
theorem Mul_any (a b : Value) (X Y : Nat) (w : World) (ha : IsN w a X) (hb : IsN w b Y) (hx : (digs X).length ≤ 1000000) (hy : (digs Y).length ≤ 1000000) :
    Calls Tryz.prog 131 #[a, b] w fun e w' => ∃ v, e = .returned v ∧ (IsN w' v (X * Y) ∧ v ≠ .pointer none) ∧ Below w.heap.size w w' := by
  have L1 := Lib.hid (list_any a X w ha)
  have L2 := Lib.hid (list_any b Y w hb)
  clear ha hb
  go_enter Tryz.func131, Tryz.ntmps131
  go_wp2_with (first
    | (go_at_call 168; refine (L1.out).mono ?_; rintro e w1 ⟨sa, rfl, ha, rfl⟩; have HA := Lib.hid ha; clear L1 ha)
    | (go_at_call 168; refine (L2.out).mono ?_; rintro e w1 ⟨sb, rfl, hb, rfl⟩
       have C := Lib.hid (product_any sa sb _ _ w HA.out hb (norm_digs X).1 (norm_digs Y).1 (by omega) (by omega))
       rw [val_digs, val_digs] at C
       clear L2 hb)
    | (go_at_call 167; refine (C.out).mono ?_; rintro e w2 ⟨sv, rfl, ho, hb2⟩
       have O := Lib.hid (own_any sv _ w2 ho.rd (norm_digs _).1 (by have := digs_mul_len hx hy; omega))
       rw [val_digs] at O
       have HB2 := Lib.hid hb2
       clear C ho hb2)
    | (go_at_call 166; refine (O.out).mono ?_; rintro e w3 ⟨v, rfl, hi, hb3⟩; have HI := Lib.hid hi; have HB3 := Lib.hid (HB2.out.trans (hb3.mono HB2.out.size)); clear O hi hb3))
  go_ret
  exact ⟨v, rfl, HI.out, HB3.out⟩
set_option maxRecDepth 100000 in
theorem Cmp_any (a b : Value) (X Y : Nat) (w : World) (ha : IsN w a X) (hb : IsN w b Y) (hx : (digs X).length ≤ 1000000) (hy : (digs Y).length ≤ 1000000) :
    Calls Tryz.prog 133 #[a, b] w fun e w' => e = .returned (.int .i64 (cmp3 (X : Nat) (Y : Nat))) ∧ ∃ m, w' = w.drewN m := by
  have L1 := Lib.hid (list_any a X w ha)
  have L2 := Lib.hid (list_any b Y w hb)
  clear ha hb
  go_enter Tryz.func133, Tryz.ntmps133
  go_wp2_with (first
    | (go_at_call 168; refine (L1.out).mono ?_; rintro e w1 ⟨sa, rfl, ha, rfl⟩; have HA := Lib.hid ha; clear L1 ha)
    | (go_at_call 168; refine (L2.out).mono ?_; rintro e w1 ⟨sb, rfl, hb, rfl⟩
       have C := Lib.hid (compare_any sa sb _ _ w HA.out hb (norm_digs X) (norm_digs Y) (by omega) (by omega))
       rw [val_digs, val_digs] at C
       clear L2 hb)
    | (go_at_call 170; refine (C.out).mono ?_; rintro e w2 ⟨rfl, m, rfl⟩; clear C))
  go_ret
  exact ⟨rfl, m, rfl⟩
set_option maxRecDepth 100000 in
theorem Zero_any (a : Value) (X : Nat) (w : World) (ha : IsN w a X) :
    Calls Tryz.prog 164 #[a] w fun e w' => e = .returned (.bool (decide (X = 0))) ∧ w = w' := by
  have L1 := Lib.hid (list_any a X w ha)
  clear ha
  have hz : (digs X).length = 0 ↔ X = 0 := by
    constructor
    · intro h
      have := List.eq_nil_of_length_eq_zero h
      rw [← val_digs X, this]; rfl
    · rintro rfl
      rw [digs_zero]; rfl
  have HZ := Lib.hid hz
  clear hz
  go_enter Tryz.func164, Tryz.ntmps164
  go_wp2_with (go_at_call 168; refine (L1.out).mono ?_; rintro e w1 ⟨sa, rfl, ha, rfl⟩; obtain ⟨ao, cap, rfl, -⟩ := id ha; clear L1 ha)
  go_ret
  refine ⟨?_, rfl⟩
  have := HZ.out
  by_cases h : X = 0
  · subst h
    rw [digs_zero]; rfl
  · have h2 : ¬ (digs X).length = 0 := fun h3 => h (this.1 h3)
    show Ending.returned (.bool (((digs X).length : Int) == 0)) = _
    rw [decide_eq_false h, show (((digs X).length : Int) == 0) = false by simp only [beq_eq_false_iff_ne, ne_eq]; omega]
end Go.Proofs.YtlhmfgbaefaneaaGreatDoor.nat
namespace Go.Proofs.YtlhmfgbaefaneaaGreatDoor.nat
open Go.RowKit
theorem and_one (n : Int) : bits .and .i64 n 1 = n % 2 := by
  have h1 : (BitVec.ofInt 64 1).toNat = 2 ^ 1 - 1 := by decide
  have key : (BitVec.ofInt 64 n &&& BitVec.ofInt 64 1).toNat = (n % ((2 ^ 64 : Nat) : Int)).toNat % 2 ^ 1 := by
    rw [BitVec.toNat_and, BitVec.toNat_ofInt, h1, Nat.and_two_pow_sub_one_eq_mod]
  show IntKind.i64.wrap ((BitVec.ofInt 64 n &&& BitVec.ofInt 64 1).toNat : Nat) = n % 2
  rw [key, IntKind.wrap_i64]
  omega
theorem exp_step {X K p : Nat} (hp : 0 < p) : X ^ (K / 2 ^ p) * X ^ (K / 2 ^ p) * X ^ (K / 2 ^ (p - 1) % 2) = X ^ (K / 2 ^ (p - 1)) := by
  have h1 : K / 2 ^ p = K / 2 ^ (p - 1) / 2 := by
    rw [Nat.div_div_eq_div_mul, ← Nat.pow_succ]
    congr 2
    omega
  rw [h1, ← Nat.pow_add, ← Nat.pow_add]
  congr 1
  omega
theorem pow_small {X K j n : Nat} (hj : j ≤ K) (h : (digs (X ^ K)).length ≤ n) (hn : 1 ≤ n) : (digs (X ^ j)).length ≤ n := by
  rcases Nat.eq_zero_or_pos X with rfl | hX
  · rcases Nat.eq_zero_or_pos j with rfl | h0
    · exact Nat.le_trans (digs_small (by simp)) hn
    · rw [Nat.zero_pow h0, digs_zero]; simp
  · exact digs_le_len (Nat.pow_le_pow_right hX hj) h
set_option maxRecDepth 100000 in
set_option maxHeartbeats 2000000 in
theorem power_pos (sx : Value) (x : List Nat) (K : Nat) (w : World) (hx : Rd w sx x) (hnx : Norm x) (hs : x.length ≤ 900000) (hK : K < 9223372036854775808) (hb : (digs (val x ^ K)).length ≤ 900000) :
    Calls Tryz.prog 194 #[sx, .int .i64 (K : Int)] w fun e w' => ∃ sv, e = .returned sv ∧ Own w' w.heap.size sv (digs (val x ^ K)) ∧ Below w.heap.size w w' := by
  obtain ⟨ao, xcap, rfl, -⟩ := id hx
  have HX := Lib.hid hx
  have HNX := Lib.hid hnx
  have HS := Lib.hid hs
  have HBd := Lib.hid hb
  have hb1 : Below w.heap.size w (w.alloc (.cells #[Value.int .u64 1] 104)) := (Below.refl _ _).alloc (Nat.le_refl _) _
  have hO1 : Own (w.alloc (.cells #[Value.int .u64 1] 104)) w.heap.size (.slice (some ⟨w.heap.size, 0, none⟩) 1 1) (digs 1) := by
    have := word_own (w := w) (d := 1) (B := w.heap.size) (Nat.le_refl _)
    have e : digs 1 = [1] := by rw [digs_pos (by omega), show 1 % 18446744073709551616 = 1 by omega, show 1 / 18446744073709551616 = 0 by omega, digs_zero]
    rw [e]
    exact this
  have HO1 := Lib.hid hO1
  have HB1 := Lib.hid hb1
  have hmax : max (K : Int) 0 = (K : Int) := by omega
  obtain ⟨X, hX⟩ : ∃ X, X = val x := ⟨_, rfl⟩
  rw [← hX] at HBd ⊢
  have HXe := Lib.hid hX
  clear hx hnx hs hb hb1 hO1 hX
  go_enter Tryz.func194, Tryz.ntmps194
  go_wp2_with (go_at_call 237; refine (Len_any K _ (by omega)).mono ?_; rintro e w1 ⟨p, rfl, ⟨hp, hpk, -⟩, rfl⟩; have HPK := Lib.hid hpk; clear hpk)
  go_loopw [5, 6] (fun zv pv wr => ∃ q : Nat, pv = .int .i64 ((q : Int) - 1) ∧ q ≤ 64 ∧ Own wr w.heap.size zv (digs (X ^ (K / 2 ^ q))) ∧ Below w.heap.size w wr) (fun _ pv _ => (intOf pv + 1).toNat)
  case atStart => exact ⟨p, rfl, hp, by rw [Nat.div_eq_of_lt HPK.out, Nat.pow_zero]; exact HO1.out, HB1.out⟩
  case round =>
    obtain ⟨q, rfl, hq, ho, hb⟩ := hrel
    clear HO1 HPK
    by_cases hq0 : q = 0
    · subst hq0
      rw [Nat.pow_zero, Nat.div_one] at ho
      have HO := Lib.hid ho
      have HB := Lib.hid hb
      clear ho hb
      go_wp2
      go_ret
      exact ⟨_, rfl, HO.out, HB.out⟩
    · obtain ⟨j, hj⟩ : ∃ j, q = j + 1 := ⟨q - 1, by omega⟩
      subst hj
      have hstep := exp_step (X := X) (K := K) (p := j + 1) (by omega)
      rw [show j + 1 - 1 = j by omega] at hstep
      obtain ⟨E, hE⟩ : ∃ E, E = K / 2 ^ (j + 1) := ⟨_, rfl⟩
      obtain ⟨F, hF⟩ : ∃ F, F = K / 2 ^ j := ⟨_, rfl⟩
      rw [← hE] at hstep ho
      rw [← hF] at hstep
      have hEK : E ≤ K := by rw [hE]; exact Nat.div_le_self _ _
      have hFK : F ≤ K := by rw [hF]; exact Nat.div_le_self _ _
      have l1 := pow_small hEK HBd.out (by omega)
      have l2 := pow_small hFK HBd.out (by omega)
      have g1 : ((j + 1 : Nat) : Int) - 1 = (j : Int) := by omega
      have g2 : (K : Int) / 2 ^ j = (F : Int) := by rw [divShr, ← hF]
      have P1 := Lib.hid (product_any _ _ _ _ wr ho.rd ho.rd (norm_digs _).1 (norm_digs _).1 (by omega) (by omega))
      rw [val_digs] at P1
      obtain ⟨ao5, cap5, rfl, -⟩ := id ho
      have HB := Lib.hid hb
      have HST := Lib.hid hstep
      have HF := Lib.hid hF
      have HL2 := Lib.hid l2
      have e0 : ¬ ((j : Int) < 0) := by omega
      rw [g1]
      clear hstep hE hF l1 l2 ho hb hq0
      by_cases hbit : F % 2 = 1
      · have g3 : bits .and .i64 (F : Int) 1 = 1 := by rw [and_one]; omega
        have HST1 := Lib.hid (show X ^ E * X ^ E * X = X ^ F by have := HST.out; rwa [hbit, Nat.pow_one] at this)
        have hEE : (digs (X ^ E * X ^ E)).length ≤ 900000 := by
          rw [← Nat.pow_add]
          have : X ^ E * X ^ E * X = X ^ F := HST1.out
          rcases Nat.eq_zero_or_pos X with h0 | h0
          · rw [h0]
            rcases Nat.eq_zero_or_pos (E + E) with h1 | h1
            · rw [h1, Nat.pow_zero]; exact Nat.le_trans (digs_small (by omega)) (by omega)
            · rw [Nat.zero_pow h1, digs_zero]; simp
          · refine digs_le_len ?_ HL2.out
            rw [← this, ← Nat.pow_add]
            exact Nat.le_mul_of_pos_right _ h0
        have HEE := Lib.hid hEE
        clear hEE hbit
        go_wp2_with (first
          | (go_at_call 167; refine (P1.out).mono ?_; rintro e w2 ⟨sv, rfl, ho2, hb2⟩
             have HB2 := Lib.hid (HB.out.trans (hb2.mono HB.out.size))
             have P2 := Lib.hid (product_any _ _ _ _ w2 ho2.rd (HX.out.below HB2.out) (norm_digs _).1 HNX.out.1 (by have := HEE.out; omega) (by have := HS.out; omega))
             rw [val_digs, ← HXe.out, HST1.out] at P2
             clear P1 ho2 hb2)
          | (go_at_call 167; refine (P2.out).mono ?_; rintro e w3 ⟨sv2, rfl, ho3, hb3⟩
             have HO3 := Lib.hid (ho3.mono HB2.out.size)
             have HB3 := Lib.hid (HB2.out.trans (hb3.mono HB2.out.size))
             clear P2 ho3 hb3))
        go_roundw
        case rel => exact ⟨j, by go_num, by omega, by rw [← HF.out]; exact HO3.out, HB3.out⟩
        case measure => simp [intOf]
      · have g3 : bits .and .i64 (F : Int) 1 = 0 := by rw [and_one]; omega
        have HST1 := Lib.hid (show X ^ E * X ^ E = X ^ F by have := HST.out; rwa [show F % 2 = 0 by omega, Nat.pow_zero, Nat.mul_one] at this)
        rw [HST1.out] at P1
        go_wp2_with (go_at_call 167; refine (P1.out).mono ?_; rintro e w2 ⟨sv, rfl, ho2, hb2⟩; have HB2 := Lib.hid (HB.out.trans (hb2.mono HB.out.size)); have HO2 := Lib.hid (ho2.mono HB.out.size); clear P1 ho2 hb2)
        go_roundw
        case rel => exact ⟨j, by go_num, by omega, by rw [← HF.out]; exact HO2.out, HB2.out⟩
        case measure => simp [intOf]
end Go.Proofs.YtlhmfgbaefaneaaGreatDoor.nat
namespace Go.Proofs.YtlhmfgbaefaneaaGreatDoor.nat
theorem arrange (v r : Nat) (a b : Nat) (h : r ≤ v) (h2 : b ≤ a) : b * v + r * a ≤ v * a + r * b := by
  obtain ⟨d, rfl⟩ : ∃ d, v = r + d := ⟨v - r, by omega⟩
  obtain ⟨e, rfl⟩ : ∃ e, a = b + e := ⟨a - b, by omega⟩
  have : b * (r + d) + r * (b + e) + d * e = (r + d) * (b + e) + r * b := by grind
  omega
theorem arrange_pow (v r k : Nat) : r ^ k * v + r * v ^ k ≤ v * v ^ k + r * r ^ k := by
  rcases Nat.le_total r v with h | h
  · exact arrange v r (v ^ k) (r ^ k) h (Nat.pow_le_pow_left h k)
  · have := arrange r v (r ^ k) (v ^ k) h (Nat.pow_le_pow_left h k)
    have e1 : v ^ k * r = r * v ^ k := Nat.mul_comm _ _
    have e2 : v * r ^ k = r ^ k * v := Nat.mul_comm _ _
    omega
theorem mean_pow (v r : Nat) : ∀ k, (k + 1) * r * v ^ k ≤ k * v ^ (k + 1) + r ^ (k + 1)
  | 0 => by simp
  | k + 1 => by
    have ih := Nat.mul_le_mul_right v (mean_pow v r k)
    have h := arrange_pow v r (k + 1)
    have e1 : (k + 1) * r * v ^ k * v = (k + 1) * r * v ^ (k + 1) := by rw [Nat.pow_succ, Nat.mul_assoc]
    have e2 : (k * v ^ (k + 1) + r ^ (k + 1)) * v = k * v ^ (k + 2) + r ^ (k + 1) * v := by rw [Nat.add_mul, Nat.mul_assoc, ← Nat.pow_succ]
    have e3 : v * v ^ (k + 1) = v ^ (k + 2) := by rw [Nat.mul_comm, ← Nat.pow_succ]
    have e4 : r * r ^ (k + 1) = r ^ (k + 2) := by rw [Nat.mul_comm, ← Nat.pow_succ]
    have e5 : (k + 1 + 1) * r * v ^ (k + 1) = (k + 1) * r * v ^ (k + 1) + r * v ^ (k + 1) := by rw [Nat.add_mul (k + 1), Nat.add_mul, Nat.one_mul]
    have e6 : (k + 1) * v ^ (k + 1 + 1) = k * v ^ (k + 2) + v ^ (k + 2) := by rw [Nat.add_mul, Nat.one_mul]
    rw [e1, e2] at ih
    rw [e3, e4] at h
    rw [e5, e6]
    show _ ≤ _ + r ^ (k + 2)
    omega
theorem newton_low {X v r k : Nat} (hv : 0 < v) (hk : 0 < k) (hr : r ^ (k + 1) ≤ X) : r ≤ (v * k + X / v ^ k) / (k + 1) := by
  rw [Nat.le_div_iff_mul_le (by omega)]
  have h1 := mean_pow v r k
  have hp : 0 < v ^ k := Nat.pow_pos hv
  rcases Nat.lt_or_ge (r * (k + 1)) (v * k) with h | h
  · exact Nat.le_trans (Nat.le_of_lt h) (Nat.le_add_right _ _)
  · have h2 : r * (k + 1) - v * k ≤ X / v ^ k := by
      rw [Nat.le_div_iff_mul_le hp]
      refine Nat.le_trans ?_ hr
      rw [Nat.sub_mul]
      have e1 : r * (k + 1) * v ^ k = (k + 1) * r * v ^ k := by rw [Nat.mul_comm r]
      have e2 : v * k * v ^ k = k * v ^ (k + 1) := by rw [Nat.pow_succ, Nat.mul_comm v k, Nat.mul_assoc, Nat.mul_comm v]
      rw [e1, e2]
      omega
    exact Nat.sub_le_iff_le_add'.1 h2
theorem newton_done {X v k : Nat} (hv : 0 < v) (h : v ≤ (v * k + X / v ^ k) / (k + 1)) : v ^ (k + 1) ≤ X := by
  rw [Nat.le_div_iff_mul_le (by omega), Nat.mul_succ] at h
  have h2 : v ≤ X / v ^ k := Nat.le_of_add_le_add_left h
  rw [Nat.le_div_iff_mul_le (Nat.pow_pos hv)] at h2
  rw [Nat.pow_succ, Nat.mul_comm]
  exact h2
def RootIs (X k r : Nat) : Prop := r ^ k ≤ X ∧ X < (r + 1) ^ k
theorem root_start {X k c r : Nat} (h : RootIs (X / 2 ^ (c * k)) k r) : X < ((r + 1) * 2 ^ c) ^ k := by
  rw [Nat.mul_pow, ← Nat.pow_mul]
  have h1 : X / 2 ^ (c * k) + 1 ≤ (r + 1) ^ k := h.2
  have h2 := Nat.mul_le_mul_right (2 ^ (c * k)) h1
  have h3 := Nat.div_add_mod X (2 ^ (c * k))
  have h4 := Nat.mod_lt X (Nat.pow_pos (n := c * k) (show 0 < 2 by omega))
  rw [Nat.add_mul, Nat.one_mul, Nat.mul_comm (X / _)] at h2
  omega
theorem root_bound {X k c r : Nat} (h : RootIs (X / 2 ^ (c * k)) k r) (hr : 1 ≤ r) : ((r + 1) * 2 ^ c) ^ k ≤ 2 ^ k * X := by
  have h1 : (r + 1) * 2 ^ c ≤ 2 * (r * 2 ^ c) := by
    rw [← Nat.mul_assoc]
    exact Nat.mul_le_mul_right _ (by omega)
  refine Nat.le_trans (Nat.pow_le_pow_left h1 k) ?_
  rw [Nat.mul_pow, Nat.mul_pow, ← Nat.pow_mul]
  refine Nat.mul_le_mul_left _ ?_
  refine Nat.le_trans (Nat.mul_le_mul_right _ h.1) ?_
  exact Nat.div_mul_le_self _ _
end Go.Proofs.YtlhmfgbaefaneaaGreatDoor.nat
