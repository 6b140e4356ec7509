/-
  DecPut answers true for every two texts, a sign and a number. Conditions: begun answers true; texts of at most 2^62 bytes.
-/
import Derived.Test.YtfpooimjjpamoaaGreatDoorE23
namespace Go.Proofs.YtfpooimjjpamoaaGreatDoor.law2
open Go.RowKit Go.Proofs.YtfpooimjjpamoaaGreatDoor.nat
open Go.Proofs.YtfpooimjjpamoaaGreatDoor.ref (str signed decText)
set_option maxRecDepth 100000 in
set_option maxHeartbeats 4000000 in
theorem LwDecPut (HBg : BegunC) (s : List UInt8) (hs : s.length ≤ 4611686018427387904) (t : List UInt8) (ht : t.length ≤ 4611686018427387904) (neg : Bool) (places : Int) (_places1 : -9223372036854775808 ≤ places) (_places2 : places < 9223372036854775808) (w : World) (hd : Hd w) :
    Calls Tryz.prog 11 #[.string (str s), .string (str t), .bool neg, .int .i64 places] w fun e w' => e = .returned (.bool true) ∧ Below w.heap.size w w' := by
  unfold BegunC at HBg
  have HBG := Lib.hid HBg
  have HG := Lib.hid hd
  clear HBg hd
  have HR1 := Lib.hid (fun W => R_any s t neg W hs ht)
  clear hs ht
  generalize str s = zs at *
  generalize str t = zt at *
  go_enter Tryz.func11, Tryz.ntmps11
  go_wp2_with (first
    | (go_at_call 25; (with_reducible refine (HBG.out _ HG.out).mono ?_); rintro e W1 ⟨rfl, hb⟩
       have HB1 := Lib.hid hb
       clear hb)
    | (go_at_call 81; (with_reducible refine (HR1.out _).mono ?_); rintro e W2 ⟨a, x, za, da, rfl, ⟨hz, hd, h0⟩, ⟨ha, hna, hx⟩, hb⟩
       obtain ⟨p_a, rfl⟩ := ha.some hna
       obtain ⟨s_x, t_x, rfl, h3, h4⟩ := id hx
       obtain ⟨o_x, c_x, rfl⟩ := IsX_slice h3
       obtain ⟨u_x, e_x, rfl⟩ := IsX_slice h4
       obtain ⟨q, hq⟩ : ∃ q, q = ((za : Rat) / (da : Rat)) := ⟨_, rfl⟩
       rw [← hq] at ha
       have H_a := Lib.hid ha
       have N_a := Lib.hid hna
       have H_x := Lib.hid hx
       have L_q := Lib.hid (Br_low h0 hq hz hd)
       have E_q := Lib.hid hq
       have LZ_a := Lib.hid hz
       have LD_a := Lib.hid hd
       have P_a := Lib.hid h0
       have HB2 := Lib.hid hb
       have HB3 := Lib.hid (show Below W2.heap.size W2 (W2.alloc (.cells #[.bool (decide (za < 0)), .slice o_x (ref.digs (Int.natAbs za)).length c_x, .slice u_x (ref.digs da).length e_x] 86)) from (Below.refl _ _).alloc (Nat.le_refl _) _)
       have M_x := Lib.hid (cells3_new W2 (.bool (decide (za < 0))) (.slice o_x (ref.digs (Int.natAbs za)).length c_x) (.slice u_x (ref.digs da).length e_x) 86)
       clear ha hna hx hq hz hd h0 hb h3 h4 HR1)
    | (fail "no arm"))
  rcases (show (places < 0 ∨ 20 < places) ∨ (0 ≤ places ∧ places ≤ 20) by omega) with hp | hp
  · have HP := Lib.hid hp
    rcases hp with hp | hp
    · go_wp2_with (first
        | (go_at_call 80; (with_reducible refine (dec.Put_no _ places _ HP.out).mono ?_); rintro e w9 ⟨rfl, rfl⟩)
        | (fail "no arm"))
      skip
      all_goals (go_ret; exact ⟨rfl, (nat.below_tr (nat.below_tr HB1.out HB2.out) HB3.out)⟩)
    · go_wp2_with (first
        | (go_at_call 80; (with_reducible refine (dec.Put_no _ places _ HP.out).mono ?_); rintro e w9 ⟨rfl, rfl⟩)
        | (fail "no arm"))
      skip
      all_goals (go_ret; exact ⟨rfl, (nat.below_tr (nat.below_tr HB1.out HB2.out) HB3.out)⟩)
  · obtain ⟨k, rfl⟩ : ∃ k : Nat, places = (k : Int) := ⟨places.toNat, by omega⟩
    have hk : k ≤ 20 := by omega
    clear hp _places1 _places2
    obtain ⟨p1, p2⟩ := dec.put_low (k := k) P_a.out E_q.out
    have HPr := Lib.hid (fun W v s t (hv : ref.IsQ W v za da) hs ht => Prod_ten v s t za da k 30 W hv hs ht LZ_a.out LD_a.out (by decide) hk)
    have HLw := Lib.hid (fun W v (hv : ref.IsQ W v (za * ((10 ^ k : Nat) : Int)) (da * 1)) => ref.Low_ex v _ _ W hv ((Bz_prod LZ_a.out hk).ref (by decide)) ((Bn_one LD_a.out).ref (by decide)) (by have := P_a.out; omega))
    have HU10 := Lib.hid (fun W => ref.OfU_int 10 10 rfl (by decide) W)
    have HU1 := Lib.hid (fun W => ref.OfU_int 1 1 rfl (by decide) W)
    have HPw := Lib.hid (fun W v (h : ref.IsN W v 10) => XPow_at v 10 k 20 (k : Int) rfl (by omega) W h (Bn_small (by decide)) (by omega) (by decide))
    have HBl := Lib.hid (show Bz (ref.lowN (za * ((10 ^ k : Nat) : Int)) (da * 1)) 51 from by unfold Bz; rw [ref.lowN_abs]; exact Bn_less (Nat.div_le_self _ _) (Bz_prod LZ_a.out hk))
    by_cases hr : q.num.natAbs * 10 ^ k % q.den = 0
    · have PT := fun W v (h : rat.IsR W v q) => dec.Put_ok v q k W h (L_q.out.rat (by decide)) hk hr
      rw [← p2 hr] at PT
      have PT := Lib.hid PT
      have HDc := Lib.hid (fun W v (h : ref.IsI W v (ref.lowN (za * ((10 ^ k : Nat) : Int)) (da * 1))) => ref.Dec_any v _ k W h (HBl.out.ref (by decide)) (by omega))
      have hD1 := p1.2 hr
      clear p1 p2 hr
      generalize str (decText (ref.lowN (za * ((10 ^ k : Nat) : Int)) (da * 1)) k) = R at *
      have hcm := cmp_one (ref.lowD (za * ((10 ^ k : Nat) : Int)) (da * 1))
      rw [decide_eq_true hD1] at hcm
      clear hD1
      generalize ref.lowN (za * ((10 ^ k : Nat) : Int)) (da * 1) = LN at *
      generalize ref.lowD (za * ((10 ^ k : Nat) : Int)) (da * 1) = LD at *
      generalize za * ((10 ^ k : Nat) : Int) = ZP at *
      generalize da * 1 = DP at *
      have CMP := fun W a b (h1 : ref.IsN W a LD) (h2 : ref.IsN W b 1) => ref.Cmp_any a b LD 1 W h1 h2
      generalize ref.cmpN LD 1 = cm at *
      have CMP := Lib.hid CMP
      go_wp2_with (first
        | (go_at_call 80; (with_reducible refine (PT.out _ _ (H_a.out.below HB3.out)).mono ?_); rintro e W4 ⟨rfl, hb⟩
           have HB4 := Lib.hid hb
           obtain ⟨d4_x_0, d4_x_1, d4_x_2⟩ := (M_x.out.below HB4.out)
           clear hb PT)
        | (fail "no arm"))
      clear d4_x_0 d4_x_1 d4_x_2
      have HX4 := Lib.hid (((H_x.out.below HB3.out).below HB4.out))
      have HOLD := Lib.hid (fun W (hW : Below W4.heap.size W4 W) => (show Below W4.heap.size W4 W ∧ W.cell? ⟨W2.heap.size, 0, none⟩ = some (.bool (decide (za < 0))) ∧ W.cell? ⟨W2.heap.size, 1, none⟩ = some (.slice o_x (ref.digs (Int.natAbs za)).length c_x) ∧ W.cell? ⟨W2.heap.size, 2, none⟩ = some (.slice u_x (ref.digs da).length e_x) from ⟨hW, ((M_x.out.below HB4.out).below hW).1, ((M_x.out.below HB4.out).below hW).2.1, ((M_x.out.below HB4.out).below hW).2.2⟩))
      first
      | (go_region_held3 (fun w' => Below W4.heap.size W4 w' ∧ w'.cell? ⟨W2.heap.size, 0, none⟩ = some (.bool (decide (za < 0))) ∧ w'.cell? ⟨W2.heap.size, 1, none⟩ = some (.slice o_x (ref.digs (Int.natAbs za)).length c_x) ∧ w'.cell? ⟨W2.heap.size, 2, none⟩ = some (.slice u_x (ref.digs da).length e_x))
        (first
          | exact HOLD.out _ (Below.refl _ _).drew
          | exact HOLD.out _ ((Below.refl _ _).drew.alloc (Nat.le_refl _) _)
          | exact HOLD.out _ ((Below.refl _ _).alloc (Nat.le_refl _) _).drew
          | exact HOLD.out _ HR9.out
          | exact HOLD.out _ (HR9.out.alloc HR9.out.size _)
          | exact HOLD.out _ HR8.out
          | exact HOLD.out _ (HR8.out.alloc HR8.out.size _)
          | exact HOLD.out _ HR7.out
          | exact HOLD.out _ (HR7.out.alloc HR7.out.size _)
          | exact HOLD.out _ HR6.out
          | exact HOLD.out _ (HR6.out.alloc HR6.out.size _)
          | exact HOLD.out _ HR5.out
          | exact HOLD.out _ (HR5.out.alloc HR5.out.size _)
          | exact HOLD.out _ (((HR9.out.setCell (Nat.le_refl _) _).setCell (Nat.le_refl _) _).setCell (Nat.le_refl _) _)
          | exact HOLD.out _ (((HR9.out.setCell HR5.out.size _).setCell HR5.out.size _).setCell HR5.out.size _)
          | exact HOLD.out _ (((HR9.out.setCell HR6.out.size _).setCell HR6.out.size _).setCell HR6.out.size _)
          | exact HOLD.out _ (((HR9.out.setCell HR7.out.size _).setCell HR7.out.size _).setCell HR7.out.size _)
          | exact HOLD.out _ (((HR9.out.setCell HR8.out.size _).setCell HR8.out.size _).setCell HR8.out.size _))
        (first
        | (go_at_call 48; (with_reducible refine (HU10.out _).mono ?_); rintro e W5 ⟨v1, rfl, h_v1, hb⟩
           have H_v1 := Lib.hid h_v1
           have HR5 := Lib.hid ((And.left ‹_ ∧ _› : Below W4.heap.size W4 _).trans (hb.mono (And.left ‹_ ∧ _› : Below W4.heap.size W4 _).size))
           first | (have HM : Hid (W5.heap[W4.heap.size]? = some ref.blankQ) := Lib.hid ((hb.block W4.heap.size (by simp)).trans (heap_alloc_new _ ref.blankQ))) | skip
           clear h_v1 hb HU10)
        | (go_at_call 87; (with_reducible refine (HPw.out _ _ (by first | exact H_v1.out | exact H_v1.out.below ((Below.refl _ _).alloc (Nat.le_refl _) _))).mono ?_); rintro e W6 ⟨v2, rfl, h_v2, hb⟩
           obtain ⟨o_v2, c_v2, rfl⟩ := IsX_slice h_v2
           have H_v2 := Lib.hid h_v2
           have HR6 := Lib.hid ((And.left ‹_ ∧ _› : Below W4.heap.size W4 _).trans (hb.mono (And.left ‹_ ∧ _› : Below W4.heap.size W4 _).size))
           first | (have HM := Lib.hid ((hb.block _ (Array.getElem?_eq_some_iff.1 HM.out).1).trans HM.out)) | (have HM : Hid (W6.heap[W5.heap.size]? = some ref.blankQ) := Lib.hid ((hb.block W5.heap.size (by simp)).trans (heap_alloc_new W5 ref.blankQ))) | skip
           clear h_v2 hb HPw)
        | (go_at_call 48; (with_reducible refine (HU1.out _).mono ?_); rintro e W7 ⟨v3, rfl, h_v3, hb⟩
           obtain ⟨o_v3, c_v3, rfl⟩ := IsX_slice h_v3
           have H_v3 := Lib.hid h_v3
           have H_v2b := Lib.hid (show ref.IsN _ _ _ from by first | exact H_v2.out.below hb | exact (H_v2.out.below ((Below.refl _ _).alloc (Nat.le_refl _) _)).below hb)
           have HR7 := Lib.hid ((And.left ‹_ ∧ _› : Below W4.heap.size W4 _).trans (hb.mono (And.left ‹_ ∧ _› : Below W4.heap.size W4 _).size))
           first | (have HM := Lib.hid ((hb.block _ (Array.getElem?_eq_some_iff.1 HM.out).1).trans HM.out)) | (have HM : Hid (W7.heap[W6.heap.size]? = some ref.blankQ) := Lib.hid ((hb.block W6.heap.size (by simp)).trans (heap_alloc_new W6 ref.blankQ))) | skip
           clear h_v3 hb HU1)
        | (go_at_call 86; (with_reducible refine (HPr.out _ _ _ _ (HX4.out.below (And.left ‹_ ∧ _› : Below W4.heap.size W4 _)) (by first | exact H_v2b.out | exact H_v2b.out.below ((Below.refl _ _).alloc (Nat.le_refl _) _)) (by first | exact H_v3.out | exact H_v3.out.below ((Below.refl _ _).alloc (Nat.le_refl _) _))).mono ?_); rintro e W8 ⟨v4, rfl, h_v4, hb⟩
           have H_v4 := Lib.hid h_v4
           have HR8 := Lib.hid ((And.left ‹_ ∧ _› : Below W4.heap.size W4 _).trans (hb.mono (And.left ‹_ ∧ _› : Below W4.heap.size W4 _).size))
           first | (have HM := Lib.hid ((hb.block _ (Array.getElem?_eq_some_iff.1 HM.out).1).trans HM.out)) | (have HM : Hid (W8.heap[W7.heap.size]? = some ref.blankQ) := Lib.hid ((hb.block W7.heap.size (by simp)).trans (heap_alloc_new W7 ref.blankQ))) | skip
           clear h_v4 hb HPr)
        | (go_at_call 92; (with_reducible refine (HLw.out _ _ (by first | exact H_v4.out | exact H_v4.out.below ((Below.refl _ _).alloc (Nat.le_refl _) _))).mono ?_); rintro e W9 ⟨s_lo, t_lo, rfl, ⟨h3, h4⟩, hb⟩
           obtain ⟨o_lo, c_lo, rfl⟩ := IsX_slice h3
           obtain ⟨u_lo, e_lo, rfl⟩ := IsX_slice h4
           have H_l3 := Lib.hid h3
           have H_l4 := Lib.hid h4
           have HR9 := Lib.hid ((And.left ‹_ ∧ _› : Below W4.heap.size W4 _).trans (hb.mono (And.left ‹_ ∧ _› : Below W4.heap.size W4 _).size))
           first | (have HM := Lib.hid ((hb.block _ (Array.getElem?_eq_some_iff.1 HM.out).1).trans HM.out)) | (have HM : Hid (W9.heap[W8.heap.size]? = some ref.blankQ) := Lib.hid ((hb.block W8.heap.size (by simp)).trans (heap_alloc_new W8 ref.blankQ))) | skip
           first | (have HMc := ref.row3 HM.out; obtain ⟨c0, c1, c2, f0, f1, f2⟩ := HMc) | skip
           clear h3 h4 hb HLw)
        | (fail "no arm")))
      | (fail "no region")
      all_goals
        first
        | (have HF := Lib.hid (show Below W4.heap.size W4 (W9.alloc (.cells #[.bool (decide (LN < 0)), .slice o_lo (ref.digs LN.natAbs).length c_lo, .slice u_lo (ref.digs LD).length e_lo] 86)) from HR9.out.alloc HR9.out.size _)
           have G3 := Lib.hid (show ref.IsN (W9.alloc (.cells #[.bool (decide (LN < 0)), .slice o_lo (ref.digs LN.natAbs).length c_lo, .slice u_lo (ref.digs LD).length e_lo] 86)) _ _ from H_l3.out.below ((Below.refl _ _).alloc (Nat.le_refl _) _))
           have G4 := Lib.hid (show ref.IsN (W9.alloc (.cells #[.bool (decide (LN < 0)), .slice o_lo (ref.digs LN.natAbs).length c_lo, .slice u_lo (ref.digs LD).length e_lo] 86)) _ _ from H_l4.out.below ((Below.refl _ _).alloc (Nat.le_refl _) _))
           have M_lo := Lib.hid (cells3_new W9 (.bool (decide (LN < 0))) (.slice o_lo (ref.digs LN.natAbs).length c_lo) (.slice u_lo (ref.digs LD).length e_lo) 86)
           obtain ⟨WF, hWF⟩ : ∃ W : World, W = (W9.alloc (.cells #[.bool (decide (LN < 0)), .slice o_lo (ref.digs LN.natAbs).length c_lo, .slice u_lo (ref.digs LD).length e_lo] 86)) := ⟨_, rfl⟩
           rw [← hWF] at M_lo HF G3 G4 ⊢
           obtain ⟨g, hg⟩ : ∃ g, g = W9.heap.size := ⟨_, rfl⟩
           rw [← hg] at M_lo ⊢
           clear hg hWF)
        | (have HF := Lib.hid (show Below W4.heap.size W4 (((W9.setCell ⟨W4.heap.size, 0, none⟩ (.bool (decide (LN < 0)))).setCell ⟨W4.heap.size, 1, none⟩ (.slice o_lo (ref.digs LN.natAbs).length c_lo)).setCell ⟨W4.heap.size, 2, none⟩ (.slice u_lo (ref.digs LD).length e_lo)) from ((HR9.out.setCell (Nat.le_refl _) _).setCell (Nat.le_refl _) _).setCell (Nat.le_refl _) _)
           have G3 := Lib.hid (show ref.IsN (((W9.setCell ⟨W4.heap.size, 0, none⟩ (.bool (decide (LN < 0)))).setCell ⟨W4.heap.size, 1, none⟩ (.slice o_lo (ref.digs LN.natAbs).length c_lo)).setCell ⟨W4.heap.size, 2, none⟩ (.slice u_lo (ref.digs LD).length e_lo)) _ _ from ref.result_num H_l3.out c0 c1 c2)
           have G4 := Lib.hid (show ref.IsN (((W9.setCell ⟨W4.heap.size, 0, none⟩ (.bool (decide (LN < 0)))).setCell ⟨W4.heap.size, 1, none⟩ (.slice o_lo (ref.digs LN.natAbs).length c_lo)).setCell ⟨W4.heap.size, 2, none⟩ (.slice u_lo (ref.digs LD).length e_lo)) _ _ from ref.result_num H_l4.out c0 c1 c2)
           obtain ⟨-, -, -, q3, q4, q5⟩ := ref.three_cells (.bool (decide (LN < 0))) (.slice o_lo (ref.digs LN.natAbs).length c_lo) (.slice u_lo (ref.digs LD).length e_lo) c0 c1 c2
           have M_lo := Lib.hid (show Cells3 (((W9.setCell ⟨W4.heap.size, 0, none⟩ (.bool (decide (LN < 0)))).setCell ⟨W4.heap.size, 1, none⟩ (.slice o_lo (ref.digs LN.natAbs).length c_lo)).setCell ⟨W4.heap.size, 2, none⟩ (.slice u_lo (ref.digs LD).length e_lo)) W4.heap.size (.bool (decide (LN < 0))) (.slice o_lo (ref.digs LN.natAbs).length c_lo) (.slice u_lo (ref.digs LD).length e_lo) from ⟨q3, q4, q5⟩)
           clear c0 c1 c2 f0 f1 f2 q3 q4 q5
           obtain ⟨WF, hWF⟩ : ∃ W : World, W = (((W9.setCell ⟨W4.heap.size, 0, none⟩ (.bool (decide (LN < 0)))).setCell ⟨W4.heap.size, 1, none⟩ (.slice o_lo (ref.digs LN.natAbs).length c_lo)).setCell ⟨W4.heap.size, 2, none⟩ (.slice u_lo (ref.digs LD).length e_lo)) := ⟨_, rfl⟩
           rw [← hWF] at M_lo HF G3 G4 ⊢
           obtain ⟨g, hg⟩ : ∃ g, g = W4.heap.size := ⟨_, rfl⟩
           rw [← hg] at M_lo ⊢
           clear hg hWF)
        | (have HF := Lib.hid (show Below W4.heap.size W4 (((W9.setCell ⟨W5.heap.size, 0, none⟩ (.bool (decide (LN < 0)))).setCell ⟨W5.heap.size, 1, none⟩ (.slice o_lo (ref.digs LN.natAbs).length c_lo)).setCell ⟨W5.heap.size, 2, none⟩ (.slice u_lo (ref.digs LD).length e_lo)) from ((HR9.out.setCell HR5.out.size _).setCell HR5.out.size _).setCell HR5.out.size _)
           have G3 := Lib.hid (show ref.IsN (((W9.setCell ⟨W5.heap.size, 0, none⟩ (.bool (decide (LN < 0)))).setCell ⟨W5.heap.size, 1, none⟩ (.slice o_lo (ref.digs LN.natAbs).length c_lo)).setCell ⟨W5.heap.size, 2, none⟩ (.slice u_lo (ref.digs LD).length e_lo)) _ _ from ref.result_num H_l3.out c0 c1 c2)
           have G4 := Lib.hid (show ref.IsN (((W9.setCell ⟨W5.heap.size, 0, none⟩ (.bool (decide (LN < 0)))).setCell ⟨W5.heap.size, 1, none⟩ (.slice o_lo (ref.digs LN.natAbs).length c_lo)).setCell ⟨W5.heap.size, 2, none⟩ (.slice u_lo (ref.digs LD).length e_lo)) _ _ from ref.result_num H_l4.out c0 c1 c2)
           obtain ⟨-, -, -, q3, q4, q5⟩ := ref.three_cells (.bool (decide (LN < 0))) (.slice o_lo (ref.digs LN.natAbs).length c_lo) (.slice u_lo (ref.digs LD).length e_lo) c0 c1 c2
           have M_lo := Lib.hid (show Cells3 (((W9.setCell ⟨W5.heap.size, 0, none⟩ (.bool (decide (LN < 0)))).setCell ⟨W5.heap.size, 1, none⟩ (.slice o_lo (ref.digs LN.natAbs).length c_lo)).setCell ⟨W5.heap.size, 2, none⟩ (.slice u_lo (ref.digs LD).length e_lo)) W5.heap.size (.bool (decide (LN < 0))) (.slice o_lo (ref.digs LN.natAbs).length c_lo) (.slice u_lo (ref.digs LD).length e_lo) from ⟨q3, q4, q5⟩)
           clear c0 c1 c2 f0 f1 f2 q3 q4 q5
           obtain ⟨WF, hWF⟩ : ∃ W : World, W = (((W9.setCell ⟨W5.heap.size, 0, none⟩ (.bool (decide (LN < 0)))).setCell ⟨W5.heap.size, 1, none⟩ (.slice o_lo (ref.digs LN.natAbs).length c_lo)).setCell ⟨W5.heap.size, 2, none⟩ (.slice u_lo (ref.digs LD).length e_lo)) := ⟨_, rfl⟩
           rw [← hWF] at M_lo HF G3 G4 ⊢
           obtain ⟨g, hg⟩ : ∃ g, g = W5.heap.size := ⟨_, rfl⟩
           rw [← hg] at M_lo ⊢
           clear hg hWF)
        | (have HF := Lib.hid (show Below W4.heap.size W4 (((W9.setCell ⟨W6.heap.size, 0, none⟩ (.bool (decide (LN < 0)))).setCell ⟨W6.heap.size, 1, none⟩ (.slice o_lo (ref.digs LN.natAbs).length c_lo)).setCell ⟨W6.heap.size, 2, none⟩ (.slice u_lo (ref.digs LD).length e_lo)) from ((HR9.out.setCell HR6.out.size _).setCell HR6.out.size _).setCell HR6.out.size _)
           have G3 := Lib.hid (show ref.IsN (((W9.setCell ⟨W6.heap.size, 0, none⟩ (.bool (decide (LN < 0)))).setCell ⟨W6.heap.size, 1, none⟩ (.slice o_lo (ref.digs LN.natAbs).length c_lo)).setCell ⟨W6.heap.size, 2, none⟩ (.slice u_lo (ref.digs LD).length e_lo)) _ _ from ref.result_num H_l3.out c0 c1 c2)
           have G4 := Lib.hid (show ref.IsN (((W9.setCell ⟨W6.heap.size, 0, none⟩ (.bool (decide (LN < 0)))).setCell ⟨W6.heap.size, 1, none⟩ (.slice o_lo (ref.digs LN.natAbs).length c_lo)).setCell ⟨W6.heap.size, 2, none⟩ (.slice u_lo (ref.digs LD).length e_lo)) _ _ from ref.result_num H_l4.out c0 c1 c2)
           obtain ⟨-, -, -, q3, q4, q5⟩ := ref.three_cells (.bool (decide (LN < 0))) (.slice o_lo (ref.digs LN.natAbs).length c_lo) (.slice u_lo (ref.digs LD).length e_lo) c0 c1 c2
           have M_lo := Lib.hid (show Cells3 (((W9.setCell ⟨W6.heap.size, 0, none⟩ (.bool (decide (LN < 0)))).setCell ⟨W6.heap.size, 1, none⟩ (.slice o_lo (ref.digs LN.natAbs).length c_lo)).setCell ⟨W6.heap.size, 2, none⟩ (.slice u_lo (ref.digs LD).length e_lo)) W6.heap.size (.bool (decide (LN < 0))) (.slice o_lo (ref.digs LN.natAbs).length c_lo) (.slice u_lo (ref.digs LD).length e_lo) from ⟨q3, q4, q5⟩)
           clear c0 c1 c2 f0 f1 f2 q3 q4 q5
           obtain ⟨WF, hWF⟩ : ∃ W : World, W = (((W9.setCell ⟨W6.heap.size, 0, none⟩ (.bool (decide (LN < 0)))).setCell ⟨W6.heap.size, 1, none⟩ (.slice o_lo (ref.digs LN.natAbs).length c_lo)).setCell ⟨W6.heap.size, 2, none⟩ (.slice u_lo (ref.digs LD).length e_lo)) := ⟨_, rfl⟩
           rw [← hWF] at M_lo HF G3 G4 ⊢
           obtain ⟨g, hg⟩ : ∃ g, g = W6.heap.size := ⟨_, rfl⟩
           rw [← hg] at M_lo ⊢
           clear hg hWF)
        | (have HF := Lib.hid (show Below W4.heap.size W4 (((W9.setCell ⟨W7.heap.size, 0, none⟩ (.bool (decide (LN < 0)))).setCell ⟨W7.heap.size, 1, none⟩ (.slice o_lo (ref.digs LN.natAbs).length c_lo)).setCell ⟨W7.heap.size, 2, none⟩ (.slice u_lo (ref.digs LD).length e_lo)) from ((HR9.out.setCell HR7.out.size _).setCell HR7.out.size _).setCell HR7.out.size _)
           have G3 := Lib.hid (show ref.IsN (((W9.setCell ⟨W7.heap.size, 0, none⟩ (.bool (decide (LN < 0)))).setCell ⟨W7.heap.size, 1, none⟩ (.slice o_lo (ref.digs LN.natAbs).length c_lo)).setCell ⟨W7.heap.size, 2, none⟩ (.slice u_lo (ref.digs LD).length e_lo)) _ _ from ref.result_num H_l3.out c0 c1 c2)
           have G4 := Lib.hid (show ref.IsN (((W9.setCell ⟨W7.heap.size, 0, none⟩ (.bool (decide (LN < 0)))).setCell ⟨W7.heap.size, 1, none⟩ (.slice o_lo (ref.digs LN.natAbs).length c_lo)).setCell ⟨W7.heap.size, 2, none⟩ (.slice u_lo (ref.digs LD).length e_lo)) _ _ from ref.result_num H_l4.out c0 c1 c2)
           obtain ⟨-, -, -, q3, q4, q5⟩ := ref.three_cells (.bool (decide (LN < 0))) (.slice o_lo (ref.digs LN.natAbs).length c_lo) (.slice u_lo (ref.digs LD).length e_lo) c0 c1 c2
           have M_lo := Lib.hid (show Cells3 (((W9.setCell ⟨W7.heap.size, 0, none⟩ (.bool (decide (LN < 0)))).setCell ⟨W7.heap.size, 1, none⟩ (.slice o_lo (ref.digs LN.natAbs).length c_lo)).setCell ⟨W7.heap.size, 2, none⟩ (.slice u_lo (ref.digs LD).length e_lo)) W7.heap.size (.bool (decide (LN < 0))) (.slice o_lo (ref.digs LN.natAbs).length c_lo) (.slice u_lo (ref.digs LD).length e_lo) from ⟨q3, q4, q5⟩)
           clear c0 c1 c2 f0 f1 f2 q3 q4 q5
           obtain ⟨WF, hWF⟩ : ∃ W : World, W = (((W9.setCell ⟨W7.heap.size, 0, none⟩ (.bool (decide (LN < 0)))).setCell ⟨W7.heap.size, 1, none⟩ (.slice o_lo (ref.digs LN.natAbs).length c_lo)).setCell ⟨W7.heap.size, 2, none⟩ (.slice u_lo (ref.digs LD).length e_lo)) := ⟨_, rfl⟩
           rw [← hWF] at M_lo HF G3 G4 ⊢
           obtain ⟨g, hg⟩ : ∃ g, g = W7.heap.size := ⟨_, rfl⟩
           rw [← hg] at M_lo ⊢
           clear hg hWF)
        | (have HF := Lib.hid (show Below W4.heap.size W4 (((W9.setCell ⟨W8.heap.size, 0, none⟩ (.bool (decide (LN < 0)))).setCell ⟨W8.heap.size, 1, none⟩ (.slice o_lo (ref.digs LN.natAbs).length c_lo)).setCell ⟨W8.heap.size, 2, none⟩ (.slice u_lo (ref.digs LD).length e_lo)) from ((HR9.out.setCell HR8.out.size _).setCell HR8.out.size _).setCell HR8.out.size _)
           have G3 := Lib.hid (show ref.IsN (((W9.setCell ⟨W8.heap.size, 0, none⟩ (.bool (decide (LN < 0)))).setCell ⟨W8.heap.size, 1, none⟩ (.slice o_lo (ref.digs LN.natAbs).length c_lo)).setCell ⟨W8.heap.size, 2, none⟩ (.slice u_lo (ref.digs LD).length e_lo)) _ _ from ref.result_num H_l3.out c0 c1 c2)
           have G4 := Lib.hid (show ref.IsN (((W9.setCell ⟨W8.heap.size, 0, none⟩ (.bool (decide (LN < 0)))).setCell ⟨W8.heap.size, 1, none⟩ (.slice o_lo (ref.digs LN.natAbs).length c_lo)).setCell ⟨W8.heap.size, 2, none⟩ (.slice u_lo (ref.digs LD).length e_lo)) _ _ from ref.result_num H_l4.out c0 c1 c2)
           obtain ⟨-, -, -, q3, q4, q5⟩ := ref.three_cells (.bool (decide (LN < 0))) (.slice o_lo (ref.digs LN.natAbs).length c_lo) (.slice u_lo (ref.digs LD).length e_lo) c0 c1 c2
           have M_lo := Lib.hid (show Cells3 (((W9.setCell ⟨W8.heap.size, 0, none⟩ (.bool (decide (LN < 0)))).setCell ⟨W8.heap.size, 1, none⟩ (.slice o_lo (ref.digs LN.natAbs).length c_lo)).setCell ⟨W8.heap.size, 2, none⟩ (.slice u_lo (ref.digs LD).length e_lo)) W8.heap.size (.bool (decide (LN < 0))) (.slice o_lo (ref.digs LN.natAbs).length c_lo) (.slice u_lo (ref.digs LD).length e_lo) from ⟨q3, q4, q5⟩)
           clear c0 c1 c2 f0 f1 f2 q3 q4 q5
           obtain ⟨WF, hWF⟩ : ∃ W : World, W = (((W9.setCell ⟨W8.heap.size, 0, none⟩ (.bool (decide (LN < 0)))).setCell ⟨W8.heap.size, 1, none⟩ (.slice o_lo (ref.digs LN.natAbs).length c_lo)).setCell ⟨W8.heap.size, 2, none⟩ (.slice u_lo (ref.digs LD).length e_lo)) := ⟨_, rfl⟩
           rw [← hWF] at M_lo HF G3 G4 ⊢
           obtain ⟨g, hg⟩ : ∃ g, g = W8.heap.size := ⟨_, rfl⟩
           rw [← hg] at M_lo ⊢
           clear hg hWF)
      all_goals
        clear HOLD H_l3 H_l4 H_v1 H_v2 H_v2b H_v3 H_v4 HR5 HR6 HR7 HR8 HR9
        have HB5 := Lib.hid HF.out
        rename World => W5
        clear HF
      all_goals
        have HU1 := Lib.hid (fun W => ref.OfU_int 1 1 rfl (by decide) W)
        have CM := Lib.hid (fun W a b (h1 : ref.IsN W a LD) (h2 : ref.IsN W b 1) => CMP.out W a b h1 h2)
        go_wp2
        have HOLD := Lib.hid (fun W (hW : Below W5.heap.size W5 W) => (show Below W5.heap.size W5 W ∧ W.cell? ⟨W2.heap.size, 0, none⟩ = some (.bool (decide (za < 0))) ∧ W.cell? ⟨W2.heap.size, 1, none⟩ = some (.slice o_x (ref.digs (Int.natAbs za)).length c_x) ∧ W.cell? ⟨W2.heap.size, 2, none⟩ = some (.slice u_x (ref.digs da).length e_x) ∧ W.cell? ⟨g, 0, none⟩ = some (.bool (decide (LN < 0))) ∧ W.cell? ⟨g, 1, none⟩ = some (.slice o_lo (ref.digs LN.natAbs).length c_lo) ∧ W.cell? ⟨g, 2, none⟩ = some (.slice u_lo (ref.digs LD).length e_lo) from ⟨hW, (((M_x.out.below HB4.out).below HB5.out).below hW).1, (((M_x.out.below HB4.out).below HB5.out).below hW).2.1, (((M_x.out.below HB4.out).below HB5.out).below hW).2.2, (M_lo.out.below hW).1, (M_lo.out.below hW).2.1, (M_lo.out.below hW).2.2⟩))
        first
        | (go_region_held3 (fun w' => Below W5.heap.size W5 w' ∧ w'.cell? ⟨W2.heap.size, 0, none⟩ = some (.bool (decide (za < 0))) ∧ w'.cell? ⟨W2.heap.size, 1, none⟩ = some (.slice o_x (ref.digs (Int.natAbs za)).length c_x) ∧ w'.cell? ⟨W2.heap.size, 2, none⟩ = some (.slice u_x (ref.digs da).length e_x) ∧ w'.cell? ⟨g, 0, none⟩ = some (.bool (decide (LN < 0))) ∧ w'.cell? ⟨g, 1, none⟩ = some (.slice o_lo (ref.digs LN.natAbs).length c_lo) ∧ w'.cell? ⟨g, 2, none⟩ = some (.slice u_lo (ref.digs LD).length e_lo))
          (first
            | exact HOLD.out _ (Below.refl _ _).drew
            | exact HOLD.out _ HR7.out
            | exact HOLD.out _ HR6.out)
          (first
          | (go_at_call 48; (with_reducible refine (HU1.out _).mono ?_); rintro e W6 ⟨v5, rfl, h_v5, hb⟩
             obtain ⟨o_v5, c_v5, rfl⟩ := IsX_slice h_v5
             have H_v5 := Lib.hid h_v5
             have HB6 := Lib.hid (nat.below_tr (Below.refl _ _).drew hb)
             have HR6 := Lib.hid HB6.out
             obtain ⟨d6_x_0, d6_x_1, d6_x_2⟩ := (((M_x.out.below HB4.out).below HB5.out).below HB6.out)
             obtain ⟨d6_lo_0, d6_lo_1, d6_lo_2⟩ := (M_lo.out.below HB6.out)
             clear h_v5 hb)
          | (go_at_call 28; (with_reducible refine (CM.out _ _ _ (G4.out.below HB6.out) H_v5.out).mono ?_); rintro e W7 ⟨rfl, hb⟩
             have HB7 := Lib.hid hb
             have HR7 := Lib.hid (nat.below_tr HB6.out HB7.out)
             obtain ⟨d7_x_0, d7_x_1, d7_x_2⟩ := ((((M_x.out.below HB4.out).below HB5.out).below HB6.out).below HB7.out)
             obtain ⟨d7_lo_0, d7_lo_1, d7_lo_2⟩ := ((M_lo.out.below HB6.out).below HB7.out)
             clear hb)
          | (fail "no arm")))
        | (fail "no region")
        obtain ⟨e_lo_0, e_lo_1, e_lo_2⟩ := ((M_lo.out.below HB6.out).below HB7.out)
        go_wp2_with (first
          | (go_at_call 93; (with_reducible refine (HDc.out _ _ (ref_isI ((G3.out.below HB6.out).below HB7.out))).mono ?_); rintro e W8 ⟨rfl, hb⟩
             have HB8 := Lib.hid hb
             obtain ⟨d8_x_0, d8_x_1, d8_x_2⟩ := (((((M_x.out.below HB4.out).below HB5.out).below HB6.out).below HB7.out).below HB8.out)
             obtain ⟨d8_lo_0, d8_lo_1, d8_lo_2⟩ := (((M_lo.out.below HB6.out).below HB7.out).below HB8.out)
             clear hb)
          | (fail "no arm"))
        skip
        all_goals (go_ret; exact ⟨rfl, (nat.below_tr (nat.below_tr (nat.below_tr (nat.below_tr (nat.below_tr (nat.below_tr (nat.below_tr HB1.out HB2.out) HB3.out) HB4.out) HB5.out) HB6.out) HB7.out) HB8.out)⟩)
    · have PT := Lib.hid (fun W v (h : rat.IsR W v q) => dec.Put_none v q k W h (L_q.out.rat (by decide)) hk hr)
      have hD1 : ¬ ref.lowD (za * ((10 ^ k : Nat) : Int)) (da * 1) = 1 := fun e => hr (p1.1 e)
      clear p1 p2 hr
      have hcm := cmp_one (ref.lowD (za * ((10 ^ k : Nat) : Int)) (da * 1))
      rw [decide_eq_false hD1] at hcm
      clear hD1
      generalize ref.lowN (za * ((10 ^ k : Nat) : Int)) (da * 1) = LN at *
      generalize ref.lowD (za * ((10 ^ k : Nat) : Int)) (da * 1) = LD at *
      generalize za * ((10 ^ k : Nat) : Int) = ZP at *
      generalize da * 1 = DP at *
      have CMP := fun W a b (h1 : ref.IsN W a LD) (h2 : ref.IsN W b 1) => ref.Cmp_any a b LD 1 W h1 h2
      generalize ref.cmpN LD 1 = cm at *
      have CMP := Lib.hid CMP
      go_wp2_with (first
        | (go_at_call 80; (with_reducible refine (PT.out _ _ (H_a.out.below HB3.out)).mono ?_); rintro e W4 ⟨rfl, hb⟩
           have HB4 := Lib.hid hb
           obtain ⟨d4_x_0, d4_x_1, d4_x_2⟩ := (M_x.out.below HB4.out)
           clear hb PT)
        | (fail "no arm"))
      clear d4_x_0 d4_x_1 d4_x_2
      have HX4 := Lib.hid (((H_x.out.below HB3.out).below HB4.out))
      have HOLD := Lib.hid (fun W (hW : Below W4.heap.size W4 W) => (show Below W4.heap.size W4 W ∧ W.cell? ⟨W2.heap.size, 0, none⟩ = some (.bool (decide (za < 0))) ∧ W.cell? ⟨W2.heap.size, 1, none⟩ = some (.slice o_x (ref.digs (Int.natAbs za)).length c_x) ∧ W.cell? ⟨W2.heap.size, 2, none⟩ = some (.slice u_x (ref.digs da).length e_x) from ⟨hW, ((M_x.out.below HB4.out).below hW).1, ((M_x.out.below HB4.out).below hW).2.1, ((M_x.out.below HB4.out).below hW).2.2⟩))
      first
      | (go_region_held3 (fun w' => Below W4.heap.size W4 w' ∧ w'.cell? ⟨W2.heap.size, 0, none⟩ = some (.bool (decide (za < 0))) ∧ w'.cell? ⟨W2.heap.size, 1, none⟩ = some (.slice o_x (ref.digs (Int.natAbs za)).length c_x) ∧ w'.cell? ⟨W2.heap.size, 2, none⟩ = some (.slice u_x (ref.digs da).length e_x))
        (first
          | exact HOLD.out _ (Below.refl _ _).drew
          | exact HOLD.out _ ((Below.refl _ _).drew.alloc (Nat.le_refl _) _)
          | exact HOLD.out _ ((Below.refl _ _).alloc (Nat.le_refl _) _).drew
          | exact HOLD.out _ HR9.out
          | exact HOLD.out _ (HR9.out.alloc HR9.out.size _)
          | exact HOLD.out _ HR8.out
          | exact HOLD.out _ (HR8.out.alloc HR8.out.size _)
          | exact HOLD.out _ HR7.out
          | exact HOLD.out _ (HR7.out.alloc HR7.out.size _)
          | exact HOLD.out _ HR6.out
          | exact HOLD.out _ (HR6.out.alloc HR6.out.size _)
          | exact HOLD.out _ HR5.out
          | exact HOLD.out _ (HR5.out.alloc HR5.out.size _)
          | exact HOLD.out _ (((HR9.out.setCell (Nat.le_refl _) _).setCell (Nat.le_refl _) _).setCell (Nat.le_refl _) _)
          | exact HOLD.out _ (((HR9.out.setCell HR5.out.size _).setCell HR5.out.size _).setCell HR5.out.size _)
          | exact HOLD.out _ (((HR9.out.setCell HR6.out.size _).setCell HR6.out.size _).setCell HR6.out.size _)
          | exact HOLD.out _ (((HR9.out.setCell HR7.out.size _).setCell HR7.out.size _).setCell HR7.out.size _)
          | exact HOLD.out _ (((HR9.out.setCell HR8.out.size _).setCell HR8.out.size _).setCell HR8.out.size _))
        (first
        | (go_at_call 48; (with_reducible refine (HU10.out _).mono ?_); rintro e W5 ⟨v1, rfl, h_v1, hb⟩
           have H_v1 := Lib.hid h_v1
           have HR5 := Lib.hid ((And.left ‹_ ∧ _› : Below W4.heap.size W4 _).trans (hb.mono (And.left ‹_ ∧ _› : Below W4.heap.size W4 _).size))
           first | (have HM : Hid (W5.heap[W4.heap.size]? = some ref.blankQ) := Lib.hid ((hb.block W4.heap.size (by simp)).trans (heap_alloc_new _ ref.blankQ))) | skip
           clear h_v1 hb HU10)
        | (go_at_call 87; (with_reducible refine (HPw.out _ _ (by first | exact H_v1.out | exact H_v1.out.below ((Below.refl _ _).alloc (Nat.le_refl _) _))).mono ?_); rintro e W6 ⟨v2, rfl, h_v2, hb⟩
           obtain ⟨o_v2, c_v2, rfl⟩ := IsX_slice h_v2
           have H_v2 := Lib.hid h_v2
           have HR6 := Lib.hid ((And.left ‹_ ∧ _› : Below W4.heap.size W4 _).trans (hb.mono (And.left ‹_ ∧ _› : Below W4.heap.size W4 _).size))
           first | (have HM := Lib.hid ((hb.block _ (Array.getElem?_eq_some_iff.1 HM.out).1).trans HM.out)) | (have HM : Hid (W6.heap[W5.heap.size]? = some ref.blankQ) := Lib.hid ((hb.block W5.heap.size (by simp)).trans (heap_alloc_new W5 ref.blankQ))) | skip
           clear h_v2 hb HPw)
        | (go_at_call 48; (with_reducible refine (HU1.out _).mono ?_); rintro e W7 ⟨v3, rfl, h_v3, hb⟩
           obtain ⟨o_v3, c_v3, rfl⟩ := IsX_slice h_v3
           have H_v3 := Lib.hid h_v3
           have H_v2b := Lib.hid (show ref.IsN _ _ _ from by first | exact H_v2.out.below hb | exact (H_v2.out.below ((Below.refl _ _).alloc (Nat.le_refl _) _)).below hb)
           have HR7 := Lib.hid ((And.left ‹_ ∧ _› : Below W4.heap.size W4 _).trans (hb.mono (And.left ‹_ ∧ _› : Below W4.heap.size W4 _).size))
           first | (have HM := Lib.hid ((hb.block _ (Array.getElem?_eq_some_iff.1 HM.out).1).trans HM.out)) | (have HM : Hid (W7.heap[W6.heap.size]? = some ref.blankQ) := Lib.hid ((hb.block W6.heap.size (by simp)).trans (heap_alloc_new W6 ref.blankQ))) | skip
           clear h_v3 hb HU1)
        | (go_at_call 86; (with_reducible refine (HPr.out _ _ _ _ (HX4.out.below (And.left ‹_ ∧ _› : Below W4.heap.size W4 _)) (by first | exact H_v2b.out | exact H_v2b.out.below ((Below.refl _ _).alloc (Nat.le_refl _) _)) (by first | exact H_v3.out | exact H_v3.out.below ((Below.refl _ _).alloc (Nat.le_refl _) _))).mono ?_); rintro e W8 ⟨v4, rfl, h_v4, hb⟩
           have H_v4 := Lib.hid h_v4
           have HR8 := Lib.hid ((And.left ‹_ ∧ _› : Below W4.heap.size W4 _).trans (hb.mono (And.left ‹_ ∧ _› : Below W4.heap.size W4 _).size))
           first | (have HM := Lib.hid ((hb.block _ (Array.getElem?_eq_some_iff.1 HM.out).1).trans HM.out)) | (have HM : Hid (W8.heap[W7.heap.size]? = some ref.blankQ) := Lib.hid ((hb.block W7.heap.size (by simp)).trans (heap_alloc_new W7 ref.blankQ))) | skip
           clear h_v4 hb HPr)
        | (go_at_call 92; (with_reducible refine (HLw.out _ _ (by first | exact H_v4.out | exact H_v4.out.below ((Below.refl _ _).alloc (Nat.le_refl _) _))).mono ?_); rintro e W9 ⟨s_lo, t_lo, rfl, ⟨h3, h4⟩, hb⟩
           obtain ⟨o_lo, c_lo, rfl⟩ := IsX_slice h3
           obtain ⟨u_lo, e_lo, rfl⟩ := IsX_slice h4
           have H_l3 := Lib.hid h3
           have H_l4 := Lib.hid h4
           have HR9 := Lib.hid ((And.left ‹_ ∧ _› : Below W4.heap.size W4 _).trans (hb.mono (And.left ‹_ ∧ _› : Below W4.heap.size W4 _).size))
           first | (have HM := Lib.hid ((hb.block _ (Array.getElem?_eq_some_iff.1 HM.out).1).trans HM.out)) | (have HM : Hid (W9.heap[W8.heap.size]? = some ref.blankQ) := Lib.hid ((hb.block W8.heap.size (by simp)).trans (heap_alloc_new W8 ref.blankQ))) | skip
           first | (have HMc := ref.row3 HM.out; obtain ⟨c0, c1, c2, f0, f1, f2⟩ := HMc) | skip
           clear h3 h4 hb HLw)
        | (fail "no arm")))
      | (fail "no region")
      all_goals
        first
        | (have HF := Lib.hid (show Below W4.heap.size W4 (W9.alloc (.cells #[.bool (decide (LN < 0)), .slice o_lo (ref.digs LN.natAbs).length c_lo, .slice u_lo (ref.digs LD).length e_lo] 86)) from HR9.out.alloc HR9.out.size _)
           have G3 := Lib.hid (show ref.IsN (W9.alloc (.cells #[.bool (decide (LN < 0)), .slice o_lo (ref.digs LN.natAbs).length c_lo, .slice u_lo (ref.digs LD).length e_lo] 86)) _ _ from H_l3.out.below ((Below.refl _ _).alloc (Nat.le_refl _) _))
           have G4 := Lib.hid (show ref.IsN (W9.alloc (.cells #[.bool (decide (LN < 0)), .slice o_lo (ref.digs LN.natAbs).length c_lo, .slice u_lo (ref.digs LD).length e_lo] 86)) _ _ from H_l4.out.below ((Below.refl _ _).alloc (Nat.le_refl _) _))
           have M_lo := Lib.hid (cells3_new W9 (.bool (decide (LN < 0))) (.slice o_lo (ref.digs LN.natAbs).length c_lo) (.slice u_lo (ref.digs LD).length e_lo) 86)
           obtain ⟨WF, hWF⟩ : ∃ W : World, W = (W9.alloc (.cells #[.bool (decide (LN < 0)), .slice o_lo (ref.digs LN.natAbs).length c_lo, .slice u_lo (ref.digs LD).length e_lo] 86)) := ⟨_, rfl⟩
           rw [← hWF] at M_lo HF G3 G4 ⊢
           obtain ⟨g, hg⟩ : ∃ g, g = W9.heap.size := ⟨_, rfl⟩
           rw [← hg] at M_lo ⊢
           clear hg hWF)
        | (have HF := Lib.hid (show Below W4.heap.size W4 (((W9.setCell ⟨W4.heap.size, 0, none⟩ (.bool (decide (LN < 0)))).setCell ⟨W4.heap.size, 1, none⟩ (.slice o_lo (ref.digs LN.natAbs).length c_lo)).setCell ⟨W4.heap.size, 2, none⟩ (.slice u_lo (ref.digs LD).length e_lo)) from ((HR9.out.setCell (Nat.le_refl _) _).setCell (Nat.le_refl _) _).setCell (Nat.le_refl _) _)
           have G3 := Lib.hid (show ref.IsN (((W9.setCell ⟨W4.heap.size, 0, none⟩ (.bool (decide (LN < 0)))).setCell ⟨W4.heap.size, 1, none⟩ (.slice o_lo (ref.digs LN.natAbs).length c_lo)).setCell ⟨W4.heap.size, 2, none⟩ (.slice u_lo (ref.digs LD).length e_lo)) _ _ from ref.result_num H_l3.out c0 c1 c2)
           have G4 := Lib.hid (show ref.IsN (((W9.setCell ⟨W4.heap.size, 0, none⟩ (.bool (decide (LN < 0)))).setCell ⟨W4.heap.size, 1, none⟩ (.slice o_lo (ref.digs LN.natAbs).length c_lo)).setCell ⟨W4.heap.size, 2, none⟩ (.slice u_lo (ref.digs LD).length e_lo)) _ _ from ref.result_num H_l4.out c0 c1 c2)
           obtain ⟨-, -, -, q3, q4, q5⟩ := ref.three_cells (.bool (decide (LN < 0))) (.slice o_lo (ref.digs LN.natAbs).length c_lo) (.slice u_lo (ref.digs LD).length e_lo) c0 c1 c2
           have M_lo := Lib.hid (show Cells3 (((W9.setCell ⟨W4.heap.size, 0, none⟩ (.bool (decide (LN < 0)))).setCell ⟨W4.heap.size, 1, none⟩ (.slice o_lo (ref.digs LN.natAbs).length c_lo)).setCell ⟨W4.heap.size, 2, none⟩ (.slice u_lo (ref.digs LD).length e_lo)) W4.heap.size (.bool (decide (LN < 0))) (.slice o_lo (ref.digs LN.natAbs).length c_lo) (.slice u_lo (ref.digs LD).length e_lo) from ⟨q3, q4, q5⟩)
           clear c0 c1 c2 f0 f1 f2 q3 q4 q5
           obtain ⟨WF, hWF⟩ : ∃ W : World, W = (((W9.setCell ⟨W4.heap.size, 0, none⟩ (.bool (decide (LN < 0)))).setCell ⟨W4.heap.size, 1, none⟩ (.slice o_lo (ref.digs LN.natAbs).length c_lo)).setCell ⟨W4.heap.size, 2, none⟩ (.slice u_lo (ref.digs LD).length e_lo)) := ⟨_, rfl⟩
           rw [← hWF] at M_lo HF G3 G4 ⊢
           obtain ⟨g, hg⟩ : ∃ g, g = W4.heap.size := ⟨_, rfl⟩
           rw [← hg] at M_lo ⊢
           clear hg hWF)
        | (have HF := Lib.hid (show Below W4.heap.size W4 (((W9.setCell ⟨W5.heap.size, 0, none⟩ (.bool (decide (LN < 0)))).setCell ⟨W5.heap.size, 1, none⟩ (.slice o_lo (ref.digs LN.natAbs).length c_lo)).setCell ⟨W5.heap.size, 2, none⟩ (.slice u_lo (ref.digs LD).length e_lo)) from ((HR9.out.setCell HR5.out.size _).setCell HR5.out.size _).setCell HR5.out.size _)
           have G3 := Lib.hid (show ref.IsN (((W9.setCell ⟨W5.heap.size, 0, none⟩ (.bool (decide (LN < 0)))).setCell ⟨W5.heap.size, 1, none⟩ (.slice o_lo (ref.digs LN.natAbs).length c_lo)).setCell ⟨W5.heap.size, 2, none⟩ (.slice u_lo (ref.digs LD).length e_lo)) _ _ from ref.result_num H_l3.out c0 c1 c2)
           have G4 := Lib.hid (show ref.IsN (((W9.setCell ⟨W5.heap.size, 0, none⟩ (.bool (decide (LN < 0)))).setCell ⟨W5.heap.size, 1, none⟩ (.slice o_lo (ref.digs LN.natAbs).length c_lo)).setCell ⟨W5.heap.size, 2, none⟩ (.slice u_lo (ref.digs LD).length e_lo)) _ _ from ref.result_num H_l4.out c0 c1 c2)
           obtain ⟨-, -, -, q3, q4, q5⟩ := ref.three_cells (.bool (decide (LN < 0))) (.slice o_lo (ref.digs LN.natAbs).length c_lo) (.slice u_lo (ref.digs LD).length e_lo) c0 c1 c2
           have M_lo := Lib.hid (show Cells3 (((W9.setCell ⟨W5.heap.size, 0, none⟩ (.bool (decide (LN < 0)))).setCell ⟨W5.heap.size, 1, none⟩ (.slice o_lo (ref.digs LN.natAbs).length c_lo)).setCell ⟨W5.heap.size, 2, none⟩ (.slice u_lo (ref.digs LD).length e_lo)) W5.heap.size (.bool (decide (LN < 0))) (.slice o_lo (ref.digs LN.natAbs).length c_lo) (.slice u_lo (ref.digs LD).length e_lo) from ⟨q3, q4, q5⟩)
           clear c0 c1 c2 f0 f1 f2 q3 q4 q5
           obtain ⟨WF, hWF⟩ : ∃ W : World, W = (((W9.setCell ⟨W5.heap.size, 0, none⟩ (.bool (decide (LN < 0)))).setCell ⟨W5.heap.size, 1, none⟩ (.slice o_lo (ref.digs LN.natAbs).length c_lo)).setCell ⟨W5.heap.size, 2, none⟩ (.slice u_lo (ref.digs LD).length e_lo)) := ⟨_, rfl⟩
           rw [← hWF] at M_lo HF G3 G4 ⊢
           obtain ⟨g, hg⟩ : ∃ g, g = W5.heap.size := ⟨_, rfl⟩
           rw [← hg] at M_lo ⊢
           clear hg hWF)
        | (have HF := Lib.hid (show Below W4.heap.size W4 (((W9.setCell ⟨W6.heap.size, 0, none⟩ (.bool (decide (LN < 0)))).setCell ⟨W6.heap.size, 1, none⟩ (.slice o_lo (ref.digs LN.natAbs).length c_lo)).setCell ⟨W6.heap.size, 2, none⟩ (.slice u_lo (ref.digs LD).length e_lo)) from ((HR9.out.setCell HR6.out.size _).setCell HR6.out.size _).setCell HR6.out.size _)
           have G3 := Lib.hid (show ref.IsN (((W9.setCell ⟨W6.heap.size, 0, none⟩ (.bool (decide (LN < 0)))).setCell ⟨W6.heap.size, 1, none⟩ (.slice o_lo (ref.digs LN.natAbs).length c_lo)).setCell ⟨W6.heap.size, 2, none⟩ (.slice u_lo (ref.digs LD).length e_lo)) _ _ from ref.result_num H_l3.out c0 c1 c2)
           have G4 := Lib.hid (show ref.IsN (((W9.setCell ⟨W6.heap.size, 0, none⟩ (.bool (decide (LN < 0)))).setCell ⟨W6.heap.size, 1, none⟩ (.slice o_lo (ref.digs LN.natAbs).length c_lo)).setCell ⟨W6.heap.size, 2, none⟩ (.slice u_lo (ref.digs LD).length e_lo)) _ _ from ref.result_num H_l4.out c0 c1 c2)
           obtain ⟨-, -, -, q3, q4, q5⟩ := ref.three_cells (.bool (decide (LN < 0))) (.slice o_lo (ref.digs LN.natAbs).length c_lo) (.slice u_lo (ref.digs LD).length e_lo) c0 c1 c2
           have M_lo := Lib.hid (show Cells3 (((W9.setCell ⟨W6.heap.size, 0, none⟩ (.bool (decide (LN < 0)))).setCell ⟨W6.heap.size, 1, none⟩ (.slice o_lo (ref.digs LN.natAbs).length c_lo)).setCell ⟨W6.heap.size, 2, none⟩ (.slice u_lo (ref.digs LD).length e_lo)) W6.heap.size (.bool (decide (LN < 0))) (.slice o_lo (ref.digs LN.natAbs).length c_lo) (.slice u_lo (ref.digs LD).length e_lo) from ⟨q3, q4, q5⟩)
           clear c0 c1 c2 f0 f1 f2 q3 q4 q5
           obtain ⟨WF, hWF⟩ : ∃ W : World, W = (((W9.setCell ⟨W6.heap.size, 0, none⟩ (.bool (decide (LN < 0)))).setCell ⟨W6.heap.size, 1, none⟩ (.slice o_lo (ref.digs LN.natAbs).length c_lo)).setCell ⟨W6.heap.size, 2, none⟩ (.slice u_lo (ref.digs LD).length e_lo)) := ⟨_, rfl⟩
           rw [← hWF] at M_lo HF G3 G4 ⊢
           obtain ⟨g, hg⟩ : ∃ g, g = W6.heap.size := ⟨_, rfl⟩
           rw [← hg] at M_lo ⊢
           clear hg hWF)
        | (have HF := Lib.hid (show Below W4.heap.size W4 (((W9.setCell ⟨W7.heap.size, 0, none⟩ (.bool (decide (LN < 0)))).setCell ⟨W7.heap.size, 1, none⟩ (.slice o_lo (ref.digs LN.natAbs).length c_lo)).setCell ⟨W7.heap.size, 2, none⟩ (.slice u_lo (ref.digs LD).length e_lo)) from ((HR9.out.setCell HR7.out.size _).setCell HR7.out.size _).setCell HR7.out.size _)
           have G3 := Lib.hid (show ref.IsN (((W9.setCell ⟨W7.heap.size, 0, none⟩ (.bool (decide (LN < 0)))).setCell ⟨W7.heap.size, 1, none⟩ (.slice o_lo (ref.digs LN.natAbs).length c_lo)).setCell ⟨W7.heap.size, 2, none⟩ (.slice u_lo (ref.digs LD).length e_lo)) _ _ from ref.result_num H_l3.out c0 c1 c2)
           have G4 := Lib.hid (show ref.IsN (((W9.setCell ⟨W7.heap.size, 0, none⟩ (.bool (decide (LN < 0)))).setCell ⟨W7.heap.size, 1, none⟩ (.slice o_lo (ref.digs LN.natAbs).length c_lo)).setCell ⟨W7.heap.size, 2, none⟩ (.slice u_lo (ref.digs LD).length e_lo)) _ _ from ref.result_num H_l4.out c0 c1 c2)
           obtain ⟨-, -, -, q3, q4, q5⟩ := ref.three_cells (.bool (decide (LN < 0))) (.slice o_lo (ref.digs LN.natAbs).length c_lo) (.slice u_lo (ref.digs LD).length e_lo) c0 c1 c2
           have M_lo := Lib.hid (show Cells3 (((W9.setCell ⟨W7.heap.size, 0, none⟩ (.bool (decide (LN < 0)))).setCell ⟨W7.heap.size, 1, none⟩ (.slice o_lo (ref.digs LN.natAbs).length c_lo)).setCell ⟨W7.heap.size, 2, none⟩ (.slice u_lo (ref.digs LD).length e_lo)) W7.heap.size (.bool (decide (LN < 0))) (.slice o_lo (ref.digs LN.natAbs).length c_lo) (.slice u_lo (ref.digs LD).length e_lo) from ⟨q3, q4, q5⟩)
           clear c0 c1 c2 f0 f1 f2 q3 q4 q5
           obtain ⟨WF, hWF⟩ : ∃ W : World, W = (((W9.setCell ⟨W7.heap.size, 0, none⟩ (.bool (decide (LN < 0)))).setCell ⟨W7.heap.size, 1, none⟩ (.slice o_lo (ref.digs LN.natAbs).length c_lo)).setCell ⟨W7.heap.size, 2, none⟩ (.slice u_lo (ref.digs LD).length e_lo)) := ⟨_, rfl⟩
           rw [← hWF] at M_lo HF G3 G4 ⊢
           obtain ⟨g, hg⟩ : ∃ g, g = W7.heap.size := ⟨_, rfl⟩
           rw [← hg] at M_lo ⊢
           clear hg hWF)
        | (have HF := Lib.hid (show Below W4.heap.size W4 (((W9.setCell ⟨W8.heap.size, 0, none⟩ (.bool (decide (LN < 0)))).setCell ⟨W8.heap.size, 1, none⟩ (.slice o_lo (ref.digs LN.natAbs).length c_lo)).setCell ⟨W8.heap.size, 2, none⟩ (.slice u_lo (ref.digs LD).length e_lo)) from ((HR9.out.setCell HR8.out.size _).setCell HR8.out.size _).setCell HR8.out.size _)
           have G3 := Lib.hid (show ref.IsN (((W9.setCell ⟨W8.heap.size, 0, none⟩ (.bool (decide (LN < 0)))).setCell ⟨W8.heap.size, 1, none⟩ (.slice o_lo (ref.digs LN.natAbs).length c_lo)).setCell ⟨W8.heap.size, 2, none⟩ (.slice u_lo (ref.digs LD).length e_lo)) _ _ from ref.result_num H_l3.out c0 c1 c2)
           have G4 := Lib.hid (show ref.IsN (((W9.setCell ⟨W8.heap.size, 0, none⟩ (.bool (decide (LN < 0)))).setCell ⟨W8.heap.size, 1, none⟩ (.slice o_lo (ref.digs LN.natAbs).length c_lo)).setCell ⟨W8.heap.size, 2, none⟩ (.slice u_lo (ref.digs LD).length e_lo)) _ _ from ref.result_num H_l4.out c0 c1 c2)
           obtain ⟨-, -, -, q3, q4, q5⟩ := ref.three_cells (.bool (decide (LN < 0))) (.slice o_lo (ref.digs LN.natAbs).length c_lo) (.slice u_lo (ref.digs LD).length e_lo) c0 c1 c2
           have M_lo := Lib.hid (show Cells3 (((W9.setCell ⟨W8.heap.size, 0, none⟩ (.bool (decide (LN < 0)))).setCell ⟨W8.heap.size, 1, none⟩ (.slice o_lo (ref.digs LN.natAbs).length c_lo)).setCell ⟨W8.heap.size, 2, none⟩ (.slice u_lo (ref.digs LD).length e_lo)) W8.heap.size (.bool (decide (LN < 0))) (.slice o_lo (ref.digs LN.natAbs).length c_lo) (.slice u_lo (ref.digs LD).length e_lo) from ⟨q3, q4, q5⟩)
           clear c0 c1 c2 f0 f1 f2 q3 q4 q5
           obtain ⟨WF, hWF⟩ : ∃ W : World, W = (((W9.setCell ⟨W8.heap.size, 0, none⟩ (.bool (decide (LN < 0)))).setCell ⟨W8.heap.size, 1, none⟩ (.slice o_lo (ref.digs LN.natAbs).length c_lo)).setCell ⟨W8.heap.size, 2, none⟩ (.slice u_lo (ref.digs LD).length e_lo)) := ⟨_, rfl⟩
           rw [← hWF] at M_lo HF G3 G4 ⊢
           obtain ⟨g, hg⟩ : ∃ g, g = W8.heap.size := ⟨_, rfl⟩
           rw [← hg] at M_lo ⊢
           clear hg hWF)
      all_goals
        clear HOLD H_l3 H_l4 H_v1 H_v2 H_v2b H_v3 H_v4 HR5 HR6 HR7 HR8 HR9
        have HB5 := Lib.hid HF.out
        rename World => W5
        clear HF
      all_goals
        have HU1 := Lib.hid (fun W => ref.OfU_int 1 1 rfl (by decide) W)
        have CM := Lib.hid (fun W a b (h1 : ref.IsN W a LD) (h2 : ref.IsN W b 1) => CMP.out W a b h1 h2)
        go_wp2
        have HOLD := Lib.hid (fun W (hW : Below W5.heap.size W5 W) => (show Below W5.heap.size W5 W ∧ W.cell? ⟨W2.heap.size, 0, none⟩ = some (.bool (decide (za < 0))) ∧ W.cell? ⟨W2.heap.size, 1, none⟩ = some (.slice o_x (ref.digs (Int.natAbs za)).length c_x) ∧ W.cell? ⟨W2.heap.size, 2, none⟩ = some (.slice u_x (ref.digs da).length e_x) ∧ W.cell? ⟨g, 0, none⟩ = some (.bool (decide (LN < 0))) ∧ W.cell? ⟨g, 1, none⟩ = some (.slice o_lo (ref.digs LN.natAbs).length c_lo) ∧ W.cell? ⟨g, 2, none⟩ = some (.slice u_lo (ref.digs LD).length e_lo) from ⟨hW, (((M_x.out.below HB4.out).below HB5.out).below hW).1, (((M_x.out.below HB4.out).below HB5.out).below hW).2.1, (((M_x.out.below HB4.out).below HB5.out).below hW).2.2, (M_lo.out.below hW).1, (M_lo.out.below hW).2.1, (M_lo.out.below hW).2.2⟩))
        first
        | (go_region_held3 (fun w' => Below W5.heap.size W5 w' ∧ w'.cell? ⟨W2.heap.size, 0, none⟩ = some (.bool (decide (za < 0))) ∧ w'.cell? ⟨W2.heap.size, 1, none⟩ = some (.slice o_x (ref.digs (Int.natAbs za)).length c_x) ∧ w'.cell? ⟨W2.heap.size, 2, none⟩ = some (.slice u_x (ref.digs da).length e_x) ∧ w'.cell? ⟨g, 0, none⟩ = some (.bool (decide (LN < 0))) ∧ w'.cell? ⟨g, 1, none⟩ = some (.slice o_lo (ref.digs LN.natAbs).length c_lo) ∧ w'.cell? ⟨g, 2, none⟩ = some (.slice u_lo (ref.digs LD).length e_lo))
          (first
            | exact HOLD.out _ (Below.refl _ _).drew
            | exact HOLD.out _ HR7.out
            | exact HOLD.out _ HR6.out)
          (first
          | (go_at_call 48; (with_reducible refine (HU1.out _).mono ?_); rintro e W6 ⟨v5, rfl, h_v5, hb⟩
             obtain ⟨o_v5, c_v5, rfl⟩ := IsX_slice h_v5
             have H_v5 := Lib.hid h_v5
             have HB6 := Lib.hid (nat.below_tr (Below.refl _ _).drew hb)
             have HR6 := Lib.hid HB6.out
             obtain ⟨d6_x_0, d6_x_1, d6_x_2⟩ := (((M_x.out.below HB4.out).below HB5.out).below HB6.out)
             obtain ⟨d6_lo_0, d6_lo_1, d6_lo_2⟩ := (M_lo.out.below HB6.out)
             clear h_v5 hb)
          | (go_at_call 28; (with_reducible refine (CM.out _ _ _ (G4.out.below HB6.out) H_v5.out).mono ?_); rintro e W7 ⟨rfl, hb⟩
             have HB7 := Lib.hid hb
             have HR7 := Lib.hid (nat.below_tr HB6.out HB7.out)
             obtain ⟨d7_x_0, d7_x_1, d7_x_2⟩ := ((((M_x.out.below HB4.out).below HB5.out).below HB6.out).below HB7.out)
             obtain ⟨d7_lo_0, d7_lo_1, d7_lo_2⟩ := ((M_lo.out.below HB6.out).below HB7.out)
             clear hb)
          | (fail "no arm")))
        | (fail "no region")
        obtain ⟨e_lo_0, e_lo_1, e_lo_2⟩ := ((M_lo.out.below HB6.out).below HB7.out)
        go_wp2
        skip
        all_goals (go_ret; exact ⟨rfl, (nat.below_tr (nat.below_tr (nat.below_tr (nat.below_tr (nat.below_tr (nat.below_tr HB1.out HB2.out) HB3.out) HB4.out) HB5.out) HB6.out) HB7.out)⟩)
end Go.Proofs.YtfpooimjjpamoaaGreatDoor.law2
