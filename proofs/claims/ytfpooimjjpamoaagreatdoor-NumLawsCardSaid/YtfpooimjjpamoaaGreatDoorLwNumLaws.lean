/-
  NumLaws answers true for every two texts and two signs. Conditions: begun answers true; texts of at most 2^62 bytes.
-/
import Derived.Test.YtfpooimjjpamoaaGreatDoorA38
namespace Go.Proofs.YtfpooimjjpamoaaGreatDoor.law2
open Go.RowKit Go.Proofs.YtfpooimjjpamoaaGreatDoor.nat
open Go.Proofs.YtfpooimjjpamoaaGreatDoor.ref (str)
set_option maxRecDepth 100000 in
set_option maxHeartbeats 4000000 in
theorem LwNumLaws (HBg : BegunC) (s : List UInt8) (hs : s.length ≤ 4611686018427387904) (t : List UInt8) (ht : t.length ≤ 4611686018427387904) (m n : Bool) (w : World) (hd : Hd w) :
    Calls Tryz.prog 18 #[.string (str s), .string (str t), .bool m, .bool n] w fun e w' => e = .returned (.bool true) ∧ Below w.heap.size w w' := by
  unfold BegunC at HBg
  have HBG := Lib.hid HBg
  have HG := Lib.hid hd
  clear HBg hd
  have HZs := Lib.hid (fun W => Z_any s m W hs)
  have HZt := Lib.hid (fun W => Z_any t n W ht)
  clear hs ht
  generalize str s = zs at *
  generalize str t = zt at *
  go_enter Tryz.func18, Tryz.ntmps18
  go_wp2_with (first
    | (go_at_call 25; (with_reducible refine (HBG.out _ HG.out).mono ?_); rintro e W1 ⟨rfl, hb⟩
       have HB1 := Lib.hid hb
       clear hb)
    | (go_at_call 49; (with_reducible refine (HZs.out _).mono ?_); rintro e W2 ⟨a, xa, zA, rfl, ⟨hlt, ha, hna, hx⟩, hb⟩
       obtain ⟨p_a, rfl⟩ := ha.some hna
       obtain ⟨s_xa, rfl, h3⟩ := id hx
       obtain ⟨o_xa, c_xa, rfl⟩ := IsX_slice h3
       have L_zA := Lib.hid hlt
       have H_a := Lib.hid ha
       have N_a := Lib.hid hna
       have H_xa := Lib.hid hx
       have H_xaA := Lib.hid h3
       have HB2 := Lib.hid hb
       have HB3 := Lib.hid (show Below W2.heap.size W2 (W2.alloc (.cells #[.bool (decide (zA < 0)), .slice o_xa (ref.digs (Int.natAbs zA)).length c_xa] 57)) from (Below.refl _ _).alloc (Nat.le_refl _) _)
       have M_xa := Lib.hid (cells2_new W2 (.bool (decide (zA < 0))) (.slice o_xa (ref.digs (Int.natAbs zA)).length c_xa) 57)
       clear hlt ha hna hx h3 hb HZs)
    | (go_at_call 49; (with_reducible refine (HZt.out _).mono ?_); rintro e W4 ⟨b, xb, zB, rfl, ⟨hlt, ha, hna, hx⟩, hb⟩
       obtain ⟨p_b, rfl⟩ := ha.some hna
       obtain ⟨s_xb, rfl, h3⟩ := id hx
       obtain ⟨o_xb, c_xb, rfl⟩ := IsX_slice h3
       have L_zB := Lib.hid hlt
       have H_b := Lib.hid ha
       have N_b := Lib.hid hna
       have H_xb := Lib.hid hx
       have H_xbA := Lib.hid h3
       have HB4 := Lib.hid hb
       obtain ⟨d4_xa_0, d4_xa_1⟩ := (M_xa.out.below HB4.out)
       have HB5 := Lib.hid (show Below W4.heap.size W4 (W4.alloc (.cells #[.bool (decide (zB < 0)), .slice o_xb (ref.digs (Int.natAbs zB)).length c_xb] 57)) from (Below.refl _ _).alloc (Nat.le_refl _) _)
       have M_xb := Lib.hid (cells2_new W4 (.bool (decide (zB < 0))) (.slice o_xb (ref.digs (Int.natAbs zB)).length c_xb) 57)
       clear hlt ha hna hx h3 hb HZt)
    | (fail "no arm"))
  rcases (show zB = 0 ∨ zB ≠ 0 by omega) with hB | hB
  · have HB0 := Lib.hid hB
    clear hB
    have c1 := fun (W : World) (v0 : Value) (hh0 : num.IsZ W v0 zB)  => num.Sign_any v0 zB W hh0
    rw [show num.sg zB = 0 from (num.sg_zero HB0.out)] at c1
    have C1 := Lib.hid c1
    clear c1
    go_wp2_with (first
      | (go_at_call 67; (with_reducible refine (C1.out _ _ (H_b.out.below HB5.out)).mono ?_); rintro e w9 ⟨rfl, rfl⟩
         clear C1)
      | (fail "no arm"))
    skip
    all_goals (go_ret; exact ⟨rfl, (nat.below_tr (nat.below_tr (nat.below_tr (nat.below_tr HB1.out HB2.out) HB3.out) HB4.out) HB5.out)⟩)
  · have HBN := Lib.hid hB
    obtain ⟨sB, hsB⟩ : ∃ s, num.sg zB = s := ⟨_, rfl⟩
    have hsn : (sB == 0) = false := by
      rw [← hsB]
      rcases Int.lt_or_gt_of_ne hB with h | h
      · rw [num.sg_neg h]; decide
      · rw [num.sg_pos h]; decide
    have hsn2 : ¬ sB = 0 := by simpa using hsn
    have HSB := Lib.hid hsB
    clear hB hsB
    rcases (show Int.fmod zA zB = 0 ∨ Int.fmod zA zB ≠ 0 by omega) with hr | hr
    · have HR := Lib.hid hr
      clear hr
      have c1 := fun (W : World) (v0 : Value) (hh0 : num.IsZ W v0 zB)  => num.Sign_any v0 zB W hh0
      rw [HSB.out] at c1
      have C1 := Lib.hid c1
      clear c1
      have c2 := fun (W : World) (v0 : Value) (v1 : Value) (hh0 : num.IsZ W v0 zA) (hh1 : num.IsZ W v1 zB)  => num.Div_any v0 v1 zA zB W hh0 hh1 ((show Bz zA 120 from L_zA.out).nat (by decide)) ((show Bz zB 120 from L_zB.out).nat (by decide)) HBN.out
      have C2 := Lib.hid c2
      clear c2
      have c3 := fun (W : World) (v0 : Value) (v1 : Value) (hh0 : num.IsZ W v0 (Int.fdiv zA zB)) (hh1 : num.IsZ W v1 zB)  => num.Mul_any v0 v1 (Int.fdiv zA zB) zB W hh0 hh1 ((Bz_fdiv (show Bz zA 120 from L_zA.out)).nat (by decide)) ((show Bz zB 120 from L_zB.out).nat (by decide))
      have C3 := Lib.hid c3
      clear c3
      have c4 := fun (W : World) (v0 : Value) (v1 : Value) (hh0 : num.IsZ W v0 ((Int.fdiv zA zB) * zB)) (hh1 : num.IsZ W v1 (Int.fmod zA zB))  => num.Add_any v0 v1 ((Int.fdiv zA zB) * zB) (Int.fmod zA zB) W hh0 hh1 ((Bz_mul (Bz_fdiv (show Bz zA 120 from L_zA.out)) (show Bz zB 120 from L_zB.out)).nat (by decide)) ((Bz_fmod zA HBN.out (show Bz zB 120 from L_zB.out)).nat (by decide))
      have C4 := Lib.hid c4
      clear c4
      have c5 := fun (W : World) (v0 : Value) (v1 : Value) (hh0 : num.IsZ W v0 (((Int.fdiv zA zB) * zB) + (Int.fmod zA zB))) (hh1 : num.IsZ W v1 zA)  => num.Cmp_b v0 v1 (((Int.fdiv zA zB) * zB) + (Int.fmod zA zB)) zA W hh0 hh1 ((Bz_add (Bz_mul (Bz_fdiv (show Bz zA 120 from L_zA.out)) (show Bz zB 120 from L_zB.out)) (Bz_fmod zA HBN.out (show Bz zB 120 from L_zB.out))).nat (by decide)) ((show Bz zA 120 from L_zA.out).nat (by decide))
      rw [cmp3_eqZ (show (((Int.fdiv zA zB) * zB) + (Int.fmod zA zB)) = zA from (by rw [Int.mul_comm]; exact Int.mul_fdiv_add_fmod _ _))] at c5
      have C5 := Lib.hid c5
      clear c5
      have c6 := fun (W : World) (v0 : Value) (hh0 : num.IsZ W v0 (Int.fmod zA zB))  => num.Sign_any v0 (Int.fmod zA zB) W hh0
      rw [show num.sg (Int.fmod zA zB) = 0 from (num.sg_zero HR.out)] at c6
      have C6 := Lib.hid c6
      clear c6
      have c7 := fun (W : World) (v0 : Value) (hh0 : num.IsZ W v0 (Int.fmod zA zB))  => num.Abs_any v0 (Int.fmod zA zB) W hh0
      have C7 := Lib.hid c7
      clear c7
      have c8 := fun (W : World) (v0 : Value) (hh0 : num.IsZ W v0 zB)  => num.Abs_any v0 zB W hh0
      have C8 := Lib.hid c8
      clear c8
      have c9 := fun (W : World) (v0 : Value) (v1 : Value) (hh0 : nat.IsN W v0 (Int.natAbs (Int.fmod zA zB))) (hh1 : nat.IsN W v1 (Int.natAbs zB))  => nat.Cmp_b v0 v1 (Int.natAbs (Int.fmod zA zB)) (Int.natAbs zB) W hh0 hh1 ((Bn_abs (Bz_fmod zA HBN.out (show Bz zB 120 from L_zB.out))).nat (by decide)) ((Bn_abs (show Bz zB 120 from L_zB.out)).nat (by decide))
      rw [cmp3_ltN (show (Int.natAbs (Int.fmod zA zB)) < (Int.natAbs zB) from num.fmod_lt HBN.out)] at c9
      have C9 := Lib.hid c9
      clear c9
      have c10 := fun (W : World) (v0 : Value) (v1 : Value) (hh0 : num.IsZ W v0 zA) (hh1 : num.IsZ W v1 zA)  => num.Sub_any v0 v1 zA zA W hh0 hh1 ((show Bz zA 120 from L_zA.out).nat (by decide)) ((show Bz zA 120 from L_zA.out).nat (by decide))
      have C10 := Lib.hid c10
      clear c10
      have c11 := fun (W : World) (v0 : Value) (hh0 : num.IsZ W v0 (zA - zA))  => num.Sign_any v0 (zA - zA) W hh0
      rw [show num.sg (zA - zA) = 0 from (num.sg_zero (Int.sub_self _))] at c11
      have C11 := Lib.hid c11
      clear c11
      have c12 := fun (W : World) (v0 : Value) (hh0 : num.IsZ W v0 zA)  => num.Neg_any v0 zA W hh0
      have C12 := Lib.hid c12
      clear c12
      have c13 := fun (W : World) (v0 : Value) (hh0 : num.IsZ W v0 (-zA))  => num.Neg_any v0 (-zA) W hh0
      have C13 := Lib.hid c13
      clear c13
      have c14 := fun (W : World) (v0 : Value) (v1 : Value) (hh0 : num.IsZ W v0 (-(-zA))) (hh1 : num.IsZ W v1 zA)  => num.Cmp_b v0 v1 (-(-zA)) zA W hh0 hh1 ((Bz_neg (Bz_neg (show Bz zA 120 from L_zA.out))).nat (by decide)) ((show Bz zA 120 from L_zA.out).nat (by decide))
      rw [cmp3_eqZ (show (-(-zA)) = zA from (Int.neg_neg _))] at c14
      have C14 := Lib.hid c14
      clear c14
      have c15 := fun (W : World) (v0 : Value) (v1 : Value) (hh0 : num.IsZ W v0 zA) (hh1 : num.IsZ W v1 zB)  => num.Add_any v0 v1 zA zB W hh0 hh1 ((show Bz zA 120 from L_zA.out).nat (by decide)) ((show Bz zB 120 from L_zB.out).nat (by decide))
      have C15 := Lib.hid c15
      clear c15
      have c16 := fun (W : World) (v0 : Value) (v1 : Value) (hh0 : num.IsZ W v0 (zA + zB)) (hh1 : num.IsZ W v1 zB)  => num.Sub_any v0 v1 (zA + zB) zB W hh0 hh1 ((Bz_add (show Bz zA 120 from L_zA.out) (show Bz zB 120 from L_zB.out)).nat (by decide)) ((show Bz zB 120 from L_zB.out).nat (by decide))
      have C16 := Lib.hid c16
      clear c16
      have c17 := fun (W : World) (v0 : Value) (v1 : Value) (hh0 : num.IsZ W v0 ((zA + zB) - zB)) (hh1 : num.IsZ W v1 zA)  => num.Cmp_b v0 v1 ((zA + zB) - zB) zA W hh0 hh1 ((Bz_sub (Bz_add (show Bz zA 120 from L_zA.out) (show Bz zB 120 from L_zB.out)) (show Bz zB 120 from L_zB.out)).nat (by decide)) ((show Bz zA 120 from L_zA.out).nat (by decide))
      rw [cmp3_eqZ (show ((zA + zB) - zB) = zA from (Int.add_sub_cancel _ _))] at c17
      have C17 := Lib.hid c17
      clear c17
      go_wp2_with (first
        | (go_at_call 67; (with_reducible refine (C1.out _ _ (H_b.out.below HB5.out)).mono ?_); rintro e w9 ⟨rfl, rfl⟩
           clear C1)
        | (go_at_call 50; (with_reducible refine (C2.out _ _ _ (((H_a.out.below HB3.out).below HB4.out).below HB5.out) (H_b.out.below HB5.out)).mono ?_); rintro e W6 ⟨q, r, rfl, ⟨h_q, n_q⟩, ⟨h_r, n_r⟩, hb⟩
           have H_q := Lib.hid h_q
           have N_q := Lib.hid n_q
           have H_r := Lib.hid h_r
           have N_r := Lib.hid n_r
           have HB6 := Lib.hid hb
           obtain ⟨d6_xa_0, d6_xa_1⟩ := (((M_xa.out.below HB4.out).below HB5.out).below HB6.out)
           obtain ⟨d6_xb_0, d6_xb_1⟩ := (M_xb.out.below HB6.out)
           clear h_q n_q h_r n_r hb C2)
        | (go_at_call 54; (with_reducible refine (C3.out _ _ _ H_q.out ((H_b.out.below HB5.out).below HB6.out)).mono ?_); rintro e W7 ⟨x1, rfl, ⟨h_x1, n_x1⟩, hb⟩
           have H_x1 := Lib.hid h_x1
           have N_x1 := Lib.hid n_x1
           have HB7 := Lib.hid hb
           obtain ⟨d7_xa_0, d7_xa_1⟩ := ((((M_xa.out.below HB4.out).below HB5.out).below HB6.out).below HB7.out)
           obtain ⟨d7_xb_0, d7_xb_1⟩ := ((M_xb.out.below HB6.out).below HB7.out)
           clear h_x1 n_x1 hb C3)
        | (go_at_call 55; (with_reducible refine (C4.out _ _ _ H_x1.out (H_r.out.below HB7.out)).mono ?_); rintro e W8 ⟨x2, rfl, ⟨h_x2, n_x2⟩, hb⟩
           have H_x2 := Lib.hid h_x2
           have N_x2 := Lib.hid n_x2
           have HB8 := Lib.hid hb
           obtain ⟨d8_xa_0, d8_xa_1⟩ := (((((M_xa.out.below HB4.out).below HB5.out).below HB6.out).below HB7.out).below HB8.out)
           obtain ⟨d8_xb_0, d8_xb_1⟩ := (((M_xb.out.below HB6.out).below HB7.out).below HB8.out)
           clear h_x2 n_x2 hb C4)
        | (go_at_call 56; (with_reducible refine (C5.out _ _ _ H_x2.out ((((((H_a.out.below HB3.out).below HB4.out).below HB5.out).below HB6.out).below HB7.out).below HB8.out)).mono ?_); rintro e W9 ⟨rfl, hb⟩
           have HB9 := Lib.hid hb
           obtain ⟨d9_xa_0, d9_xa_1⟩ := ((((((M_xa.out.below HB4.out).below HB5.out).below HB6.out).below HB7.out).below HB8.out).below HB9.out)
           obtain ⟨d9_xb_0, d9_xb_1⟩ := ((((M_xb.out.below HB6.out).below HB7.out).below HB8.out).below HB9.out)
           clear hb C5)
        | (go_at_call 67; (with_reducible refine (C6.out _ _ (((H_r.out.below HB7.out).below HB8.out).below HB9.out)).mono ?_); rintro e w9 ⟨rfl, rfl⟩
           clear C6)
        | (go_at_call 66; (with_reducible refine (C7.out _ _ (((H_r.out.below HB7.out).below HB8.out).below HB9.out)).mono ?_); rintro e W10 ⟨y1, rfl, ⟨h_y1, n_y1⟩, hb⟩
           have H_y1 := Lib.hid h_y1
           have N_y1 := Lib.hid n_y1
           have HB10 := Lib.hid hb
           obtain ⟨d10_xa_0, d10_xa_1⟩ := (((((((M_xa.out.below HB4.out).below HB5.out).below HB6.out).below HB7.out).below HB8.out).below HB9.out).below HB10.out)
           obtain ⟨d10_xb_0, d10_xb_1⟩ := (((((M_xb.out.below HB6.out).below HB7.out).below HB8.out).below HB9.out).below HB10.out)
           clear h_y1 n_y1 hb C7)
        | (go_at_call 66; (with_reducible refine (C8.out _ _ ((((((H_b.out.below HB5.out).below HB6.out).below HB7.out).below HB8.out).below HB9.out).below HB10.out)).mono ?_); rintro e W11 ⟨y2, rfl, ⟨h_y2, n_y2⟩, hb⟩
           have H_y2 := Lib.hid h_y2
           have N_y2 := Lib.hid n_y2
           have HB11 := Lib.hid hb
           obtain ⟨d11_xa_0, d11_xa_1⟩ := ((((((((M_xa.out.below HB4.out).below HB5.out).below HB6.out).below HB7.out).below HB8.out).below HB9.out).below HB10.out).below HB11.out)
           obtain ⟨d11_xb_0, d11_xb_1⟩ := ((((((M_xb.out.below HB6.out).below HB7.out).below HB8.out).below HB9.out).below HB10.out).below HB11.out)
           clear h_y2 n_y2 hb C8)
        | (go_at_call 39; (with_reducible refine (C9.out _ _ _ (H_y1.out.below HB11.out) H_y2.out).mono ?_); rintro e W12 ⟨rfl, hb⟩
           have HB12 := Lib.hid hb
           obtain ⟨d12_xa_0, d12_xa_1⟩ := (((((((((M_xa.out.below HB4.out).below HB5.out).below HB6.out).below HB7.out).below HB8.out).below HB9.out).below HB10.out).below HB11.out).below HB12.out)
           obtain ⟨d12_xb_0, d12_xb_1⟩ := (((((((M_xb.out.below HB6.out).below HB7.out).below HB8.out).below HB9.out).below HB10.out).below HB11.out).below HB12.out)
           clear hb C9)
        | (go_at_call 61; (with_reducible refine (C10.out _ _ _ ((((((((((H_a.out.below HB3.out).below HB4.out).below HB5.out).below HB6.out).below HB7.out).below HB8.out).below HB9.out).below HB10.out).below HB11.out).below HB12.out) ((((((((((H_a.out.below HB3.out).below HB4.out).below HB5.out).below HB6.out).below HB7.out).below HB8.out).below HB9.out).below HB10.out).below HB11.out).below HB12.out)).mono ?_); rintro e W13 ⟨u1, rfl, ⟨h_u1, n_u1⟩, hb⟩
           have H_u1 := Lib.hid h_u1
           have N_u1 := Lib.hid n_u1
           have HB13 := Lib.hid hb
           obtain ⟨d13_xa_0, d13_xa_1⟩ := ((((((((((M_xa.out.below HB4.out).below HB5.out).below HB6.out).below HB7.out).below HB8.out).below HB9.out).below HB10.out).below HB11.out).below HB12.out).below HB13.out)
           obtain ⟨d13_xb_0, d13_xb_1⟩ := ((((((((M_xb.out.below HB6.out).below HB7.out).below HB8.out).below HB9.out).below HB10.out).below HB11.out).below HB12.out).below HB13.out)
           clear h_u1 n_u1 hb C10)
        | (go_at_call 67; (with_reducible refine (C11.out _ _ H_u1.out).mono ?_); rintro e w9 ⟨rfl, rfl⟩
           clear C11)
        | (go_at_call 65; (with_reducible refine (C12.out _ _ (((((((((((H_a.out.below HB3.out).below HB4.out).below HB5.out).below HB6.out).below HB7.out).below HB8.out).below HB9.out).below HB10.out).below HB11.out).below HB12.out).below HB13.out)).mono ?_); rintro e W14 ⟨u2, rfl, ⟨h_u2, n_u2⟩, hb⟩
           have H_u2 := Lib.hid h_u2
           have N_u2 := Lib.hid n_u2
           have HB14 := Lib.hid hb
           obtain ⟨d14_xa_0, d14_xa_1⟩ := (((((((((((M_xa.out.below HB4.out).below HB5.out).below HB6.out).below HB7.out).below HB8.out).below HB9.out).below HB10.out).below HB11.out).below HB12.out).below HB13.out).below HB14.out)
           obtain ⟨d14_xb_0, d14_xb_1⟩ := (((((((((M_xb.out.below HB6.out).below HB7.out).below HB8.out).below HB9.out).below HB10.out).below HB11.out).below HB12.out).below HB13.out).below HB14.out)
           clear h_u2 n_u2 hb C12)
        | (go_at_call 65; (with_reducible refine (C13.out _ _ H_u2.out).mono ?_); rintro e W15 ⟨u3, rfl, ⟨h_u3, n_u3⟩, hb⟩
           have H_u3 := Lib.hid h_u3
           have N_u3 := Lib.hid n_u3
           have HB15 := Lib.hid hb
           obtain ⟨d15_xa_0, d15_xa_1⟩ := ((((((((((((M_xa.out.below HB4.out).below HB5.out).below HB6.out).below HB7.out).below HB8.out).below HB9.out).below HB10.out).below HB11.out).below HB12.out).below HB13.out).below HB14.out).below HB15.out)
           obtain ⟨d15_xb_0, d15_xb_1⟩ := ((((((((((M_xb.out.below HB6.out).below HB7.out).below HB8.out).below HB9.out).below HB10.out).below HB11.out).below HB12.out).below HB13.out).below HB14.out).below HB15.out)
           clear h_u3 n_u3 hb C13)
        | (go_at_call 56; (with_reducible refine (C14.out _ _ _ H_u3.out (((((((((((((H_a.out.below HB3.out).below HB4.out).below HB5.out).below HB6.out).below HB7.out).below HB8.out).below HB9.out).below HB10.out).below HB11.out).below HB12.out).below HB13.out).below HB14.out).below HB15.out)).mono ?_); rintro e W16 ⟨rfl, hb⟩
           have HB16 := Lib.hid hb
           obtain ⟨d16_xa_0, d16_xa_1⟩ := (((((((((((((M_xa.out.below HB4.out).below HB5.out).below HB6.out).below HB7.out).below HB8.out).below HB9.out).below HB10.out).below HB11.out).below HB12.out).below HB13.out).below HB14.out).below HB15.out).below HB16.out)
           obtain ⟨d16_xb_0, d16_xb_1⟩ := (((((((((((M_xb.out.below HB6.out).below HB7.out).below HB8.out).below HB9.out).below HB10.out).below HB11.out).below HB12.out).below HB13.out).below HB14.out).below HB15.out).below HB16.out)
           clear hb C14)
        | (go_at_call 55; (with_reducible refine (C15.out _ _ _ ((((((((((((((H_a.out.below HB3.out).below HB4.out).below HB5.out).below HB6.out).below HB7.out).below HB8.out).below HB9.out).below HB10.out).below HB11.out).below HB12.out).below HB13.out).below HB14.out).below HB15.out).below HB16.out) ((((((((((((H_b.out.below HB5.out).below HB6.out).below HB7.out).below HB8.out).below HB9.out).below HB10.out).below HB11.out).below HB12.out).below HB13.out).below HB14.out).below HB15.out).below HB16.out)).mono ?_); rintro e W17 ⟨u4, rfl, ⟨h_u4, n_u4⟩, hb⟩
           have H_u4 := Lib.hid h_u4
           have N_u4 := Lib.hid n_u4
           have HB17 := Lib.hid hb
           obtain ⟨d17_xa_0, d17_xa_1⟩ := ((((((((((((((M_xa.out.below HB4.out).below HB5.out).below HB6.out).below HB7.out).below HB8.out).below HB9.out).below HB10.out).below HB11.out).below HB12.out).below HB13.out).below HB14.out).below HB15.out).below HB16.out).below HB17.out)
           obtain ⟨d17_xb_0, d17_xb_1⟩ := ((((((((((((M_xb.out.below HB6.out).below HB7.out).below HB8.out).below HB9.out).below HB10.out).below HB11.out).below HB12.out).below HB13.out).below HB14.out).below HB15.out).below HB16.out).below HB17.out)
           clear h_u4 n_u4 hb C15)
        | (go_at_call 61; (with_reducible refine (C16.out _ _ _ H_u4.out (((((((((((((H_b.out.below HB5.out).below HB6.out).below HB7.out).below HB8.out).below HB9.out).below HB10.out).below HB11.out).below HB12.out).below HB13.out).below HB14.out).below HB15.out).below HB16.out).below HB17.out)).mono ?_); rintro e W18 ⟨u5, rfl, ⟨h_u5, n_u5⟩, hb⟩
           have H_u5 := Lib.hid h_u5
           have N_u5 := Lib.hid n_u5
           have HB18 := Lib.hid hb
           obtain ⟨d18_xa_0, d18_xa_1⟩ := (((((((((((((((M_xa.out.below HB4.out).below HB5.out).below HB6.out).below HB7.out).below HB8.out).below HB9.out).below HB10.out).below HB11.out).below HB12.out).below HB13.out).below HB14.out).below HB15.out).below HB16.out).below HB17.out).below HB18.out)
           obtain ⟨d18_xb_0, d18_xb_1⟩ := (((((((((((((M_xb.out.below HB6.out).below HB7.out).below HB8.out).below HB9.out).below HB10.out).below HB11.out).below HB12.out).below HB13.out).below HB14.out).below HB15.out).below HB16.out).below HB17.out).below HB18.out)
           clear h_u5 n_u5 hb C16)
        | (go_at_call 56; (with_reducible refine (C17.out _ _ _ H_u5.out ((((((((((((((((H_a.out.below HB3.out).below HB4.out).below HB5.out).below HB6.out).below HB7.out).below HB8.out).below HB9.out).below HB10.out).below HB11.out).below HB12.out).below HB13.out).below HB14.out).below HB15.out).below HB16.out).below HB17.out).below HB18.out)).mono ?_); rintro e W19 ⟨rfl, hb⟩
           have HB19 := Lib.hid hb
           obtain ⟨d19_xa_0, d19_xa_1⟩ := ((((((((((((((((M_xa.out.below HB4.out).below HB5.out).below HB6.out).below HB7.out).below HB8.out).below HB9.out).below HB10.out).below HB11.out).below HB12.out).below HB13.out).below HB14.out).below HB15.out).below HB16.out).below HB17.out).below HB18.out).below HB19.out)
           obtain ⟨d19_xb_0, d19_xb_1⟩ := ((((((((((((((M_xb.out.below HB6.out).below HB7.out).below HB8.out).below HB9.out).below HB10.out).below HB11.out).below HB12.out).below HB13.out).below HB14.out).below HB15.out).below HB16.out).below HB17.out).below HB18.out).below HB19.out)
           clear hb C17)
        | (fail "no arm"))
      rcases (show zA < 0 ∨ zA = 0 ∨ 0 < zA by omega) with ha0 | ha0 | ha0
      · have HA0 := Lib.hid ha0
        clear ha0
        rcases Int.lt_or_gt_of_ne HBN.out with hb0 | hb0
        · have HB0 := Lib.hid hb0
          clear hb0
          have cx18 := fun (W : World) (v0 : Value) (v1 : Value) (hh0 : num.IsZ W v0 zA) (hh1 : num.IsZ W v1 zB)  => num.Mul_any v0 v1 zA zB W hh0 hh1 ((show Bz zA 120 from L_zA.out).nat (by decide)) ((show Bz zB 120 from L_zB.out).nat (by decide))
          have Cx18 := Lib.hid cx18
          clear cx18
          have cx19 := fun (W : World) (v0 : Value) (hh0 : num.IsZ W v0 (zA * zB))  => num.Sign_any v0 (zA * zB) W hh0
          rw [show num.sg (zA * zB) = (1) from (by rw [num.sg_mul, show num.sg zA = (-1) from (num.sg_neg HA0.out), show num.sg zB = (-1) from (num.sg_neg HB0.out)]; rfl)] at cx19
          have Cx19 := Lib.hid cx19
          clear cx19
          have cx20 := fun (W : World) (v0 : Value) (hh0 : num.IsZ W v0 zA)  => num.Sign_any v0 zA W hh0
          rw [show num.sg zA = (-1) from (num.sg_neg HA0.out)] at cx20
          have Cx20 := Lib.hid cx20
          clear cx20
          have cx21 := fun (W : World) (v0 : Value) (hh0 : num.IsZ W v0 zB)  => num.Sign_any v0 zB W hh0
          rw [show num.sg zB = (-1) from (num.sg_neg HB0.out)] at cx21
          have Cx21 := Lib.hid cx21
          clear cx21
          have cx22 := fun (W : World) (v0 : Value) (v1 : Value) (hh0 : num.IsZ W v0 zA) (hh1 : num.IsZ W v1 zB)  => num.Sub_any v0 v1 zA zB W hh0 hh1 ((show Bz zA 120 from L_zA.out).nat (by decide)) ((show Bz zB 120 from L_zB.out).nat (by decide))
          have Cx22 := Lib.hid cx22
          clear cx22
          have cx23 := fun (W : World) (v0 : Value) (v1 : Value) (hh0 : num.IsZ W v0 zB) (hh1 : num.IsZ W v1 zA)  => num.Sub_any v0 v1 zB zA W hh0 hh1 ((show Bz zB 120 from L_zB.out).nat (by decide)) ((show Bz zA 120 from L_zA.out).nat (by decide))
          have Cx23 := Lib.hid cx23
          clear cx23
          have cx24 := fun (W : World) (v0 : Value) (hh0 : num.IsZ W v0 (zB - zA))  => num.Neg_any v0 (zB - zA) W hh0
          have Cx24 := Lib.hid cx24
          clear cx24
          have cx25 := fun (W : World) (v0 : Value) (v1 : Value) (hh0 : num.IsZ W v0 (zA - zB)) (hh1 : num.IsZ W v1 (-(zB - zA)))  => num.Cmp_b v0 v1 (zA - zB) (-(zB - zA)) W hh0 hh1 ((Bz_sub (show Bz zA 120 from L_zA.out) (show Bz zB 120 from L_zB.out)).nat (by decide)) ((Bz_neg (Bz_sub (show Bz zB 120 from L_zB.out) (show Bz zA 120 from L_zA.out))).nat (by decide))
          rw [cmp3_eqZ (show (zA - zB) = (-(zB - zA)) from (by omega))] at cx25
          have Cx25 := Lib.hid cx25
          clear cx25
          go_wp2_with (first
            | (go_at_call 54; (with_reducible refine (Cx18.out _ _ _ (((((((((((((((((H_a.out.below HB3.out).below HB4.out).below HB5.out).below HB6.out).below HB7.out).below HB8.out).below HB9.out).below HB10.out).below HB11.out).below HB12.out).below HB13.out).below HB14.out).below HB15.out).below HB16.out).below HB17.out).below HB18.out).below HB19.out) (((((((((((((((H_b.out.below HB5.out).below HB6.out).below HB7.out).below HB8.out).below HB9.out).below HB10.out).below HB11.out).below HB12.out).below HB13.out).below HB14.out).below HB15.out).below HB16.out).below HB17.out).below HB18.out).below HB19.out)).mono ?_); rintro e W20 ⟨u6, rfl, ⟨h_u6, n_u6⟩, hb⟩
               have H_u6 := Lib.hid h_u6
               have N_u6 := Lib.hid n_u6
               have HB20 := Lib.hid hb
               obtain ⟨d20_xa_0, d20_xa_1⟩ := (((((((((((((((((M_xa.out.below HB4.out).below HB5.out).below HB6.out).below HB7.out).below HB8.out).below HB9.out).below HB10.out).below HB11.out).below HB12.out).below HB13.out).below HB14.out).below HB15.out).below HB16.out).below HB17.out).below HB18.out).below HB19.out).below HB20.out)
               obtain ⟨d20_xb_0, d20_xb_1⟩ := (((((((((((((((M_xb.out.below HB6.out).below HB7.out).below HB8.out).below HB9.out).below HB10.out).below HB11.out).below HB12.out).below HB13.out).below HB14.out).below HB15.out).below HB16.out).below HB17.out).below HB18.out).below HB19.out).below HB20.out)
               clear h_u6 n_u6 hb Cx18)
            | (go_at_call 67; (with_reducible refine (Cx19.out _ _ H_u6.out).mono ?_); rintro e w9 ⟨rfl, rfl⟩
               clear Cx19)
            | (go_at_call 67; (with_reducible refine (Cx20.out _ _ ((((((((((((((((((H_a.out.below HB3.out).below HB4.out).below HB5.out).below HB6.out).below HB7.out).below HB8.out).below HB9.out).below HB10.out).below HB11.out).below HB12.out).below HB13.out).below HB14.out).below HB15.out).below HB16.out).below HB17.out).below HB18.out).below HB19.out).below HB20.out)).mono ?_); rintro e w9 ⟨rfl, rfl⟩
               clear Cx20)
            | (go_at_call 67; (with_reducible refine (Cx21.out _ _ ((((((((((((((((H_b.out.below HB5.out).below HB6.out).below HB7.out).below HB8.out).below HB9.out).below HB10.out).below HB11.out).below HB12.out).below HB13.out).below HB14.out).below HB15.out).below HB16.out).below HB17.out).below HB18.out).below HB19.out).below HB20.out)).mono ?_); rintro e w9 ⟨rfl, rfl⟩
               clear Cx21)
            | (go_at_call 61; (with_reducible refine (Cx22.out _ _ _ ((((((((((((((((((H_a.out.below HB3.out).below HB4.out).below HB5.out).below HB6.out).below HB7.out).below HB8.out).below HB9.out).below HB10.out).below HB11.out).below HB12.out).below HB13.out).below HB14.out).below HB15.out).below HB16.out).below HB17.out).below HB18.out).below HB19.out).below HB20.out) ((((((((((((((((H_b.out.below HB5.out).below HB6.out).below HB7.out).below HB8.out).below HB9.out).below HB10.out).below HB11.out).below HB12.out).below HB13.out).below HB14.out).below HB15.out).below HB16.out).below HB17.out).below HB18.out).below HB19.out).below HB20.out)).mono ?_); rintro e W21 ⟨v1, rfl, ⟨h_v1, n_v1⟩, hb⟩
               have H_v1 := Lib.hid h_v1
               have N_v1 := Lib.hid n_v1
               have HB21 := Lib.hid hb
               obtain ⟨d21_xa_0, d21_xa_1⟩ := ((((((((((((((((((M_xa.out.below HB4.out).below HB5.out).below HB6.out).below HB7.out).below HB8.out).below HB9.out).below HB10.out).below HB11.out).below HB12.out).below HB13.out).below HB14.out).below HB15.out).below HB16.out).below HB17.out).below HB18.out).below HB19.out).below HB20.out).below HB21.out)
               obtain ⟨d21_xb_0, d21_xb_1⟩ := ((((((((((((((((M_xb.out.below HB6.out).below HB7.out).below HB8.out).below HB9.out).below HB10.out).below HB11.out).below HB12.out).below HB13.out).below HB14.out).below HB15.out).below HB16.out).below HB17.out).below HB18.out).below HB19.out).below HB20.out).below HB21.out)
               clear h_v1 n_v1 hb Cx22)
            | (go_at_call 61; (with_reducible refine (Cx23.out _ _ _ (((((((((((((((((H_b.out.below HB5.out).below HB6.out).below HB7.out).below HB8.out).below HB9.out).below HB10.out).below HB11.out).below HB12.out).below HB13.out).below HB14.out).below HB15.out).below HB16.out).below HB17.out).below HB18.out).below HB19.out).below HB20.out).below HB21.out) (((((((((((((((((((H_a.out.below HB3.out).below HB4.out).below HB5.out).below HB6.out).below HB7.out).below HB8.out).below HB9.out).below HB10.out).below HB11.out).below HB12.out).below HB13.out).below HB14.out).below HB15.out).below HB16.out).below HB17.out).below HB18.out).below HB19.out).below HB20.out).below HB21.out)).mono ?_); rintro e W22 ⟨v2, rfl, ⟨h_v2, n_v2⟩, hb⟩
               have H_v2 := Lib.hid h_v2
               have N_v2 := Lib.hid n_v2
               have HB22 := Lib.hid hb
               obtain ⟨d22_xa_0, d22_xa_1⟩ := (((((((((((((((((((M_xa.out.below HB4.out).below HB5.out).below HB6.out).below HB7.out).below HB8.out).below HB9.out).below HB10.out).below HB11.out).below HB12.out).below HB13.out).below HB14.out).below HB15.out).below HB16.out).below HB17.out).below HB18.out).below HB19.out).below HB20.out).below HB21.out).below HB22.out)
               obtain ⟨d22_xb_0, d22_xb_1⟩ := (((((((((((((((((M_xb.out.below HB6.out).below HB7.out).below HB8.out).below HB9.out).below HB10.out).below HB11.out).below HB12.out).below HB13.out).below HB14.out).below HB15.out).below HB16.out).below HB17.out).below HB18.out).below HB19.out).below HB20.out).below HB21.out).below HB22.out)
               clear h_v2 n_v2 hb Cx23)
            | (go_at_call 65; (with_reducible refine (Cx24.out _ _ H_v2.out).mono ?_); rintro e W23 ⟨v3, rfl, ⟨h_v3, n_v3⟩, hb⟩
               have H_v3 := Lib.hid h_v3
               have N_v3 := Lib.hid n_v3
               have HB23 := Lib.hid hb
               obtain ⟨d23_xa_0, d23_xa_1⟩ := ((((((((((((((((((((M_xa.out.below HB4.out).below HB5.out).below HB6.out).below HB7.out).below HB8.out).below HB9.out).below HB10.out).below HB11.out).below HB12.out).below HB13.out).below HB14.out).below HB15.out).below HB16.out).below HB17.out).below HB18.out).below HB19.out).below HB20.out).below HB21.out).below HB22.out).below HB23.out)
               obtain ⟨d23_xb_0, d23_xb_1⟩ := ((((((((((((((((((M_xb.out.below HB6.out).below HB7.out).below HB8.out).below HB9.out).below HB10.out).below HB11.out).below HB12.out).below HB13.out).below HB14.out).below HB15.out).below HB16.out).below HB17.out).below HB18.out).below HB19.out).below HB20.out).below HB21.out).below HB22.out).below HB23.out)
               clear h_v3 n_v3 hb Cx24)
            | (go_at_call 56; (with_reducible refine (Cx25.out _ _ _ ((H_v1.out.below HB22.out).below HB23.out) H_v3.out).mono ?_); rintro e W24 ⟨rfl, hb⟩
               have HB24 := Lib.hid hb
               obtain ⟨d24_xa_0, d24_xa_1⟩ := (((((((((((((((((((((M_xa.out.below HB4.out).below HB5.out).below HB6.out).below HB7.out).below HB8.out).below HB9.out).below HB10.out).below HB11.out).below HB12.out).below HB13.out).below HB14.out).below HB15.out).below HB16.out).below HB17.out).below HB18.out).below HB19.out).below HB20.out).below HB21.out).below HB22.out).below HB23.out).below HB24.out)
               obtain ⟨d24_xb_0, d24_xb_1⟩ := (((((((((((((((((((M_xb.out.below HB6.out).below HB7.out).below HB8.out).below HB9.out).below HB10.out).below HB11.out).below HB12.out).below HB13.out).below HB14.out).below HB15.out).below HB16.out).below HB17.out).below HB18.out).below HB19.out).below HB20.out).below HB21.out).below HB22.out).below HB23.out).below HB24.out)
               clear hb Cx25)
            | (fail "no arm"))
          skip
          all_goals (go_ret; exact ⟨rfl, (nat.below_tr (nat.below_tr (nat.below_tr (nat.below_tr (nat.below_tr (nat.below_tr (nat.below_tr (nat.below_tr (nat.below_tr (nat.below_tr (nat.below_tr (nat.below_tr (nat.below_tr (nat.below_tr (nat.below_tr (nat.below_tr (nat.below_tr (nat.below_tr (nat.below_tr (nat.below_tr (nat.below_tr (nat.below_tr (nat.below_tr HB1.out HB2.out) HB3.out) HB4.out) HB5.out) HB6.out) HB7.out) HB8.out) HB9.out) HB10.out) HB11.out) HB12.out) HB13.out) HB14.out) HB15.out) HB16.out) HB17.out) HB18.out) HB19.out) HB20.out) HB21.out) HB22.out) HB23.out) HB24.out)⟩)
        · have HB0 := Lib.hid hb0
          clear hb0
          have cx18 := fun (W : World) (v0 : Value) (v1 : Value) (hh0 : num.IsZ W v0 zA) (hh1 : num.IsZ W v1 zB)  => num.Mul_any v0 v1 zA zB W hh0 hh1 ((show Bz zA 120 from L_zA.out).nat (by decide)) ((show Bz zB 120 from L_zB.out).nat (by decide))
          have Cx18 := Lib.hid cx18
          clear cx18
          have cx19 := fun (W : World) (v0 : Value) (hh0 : num.IsZ W v0 (zA * zB))  => num.Sign_any v0 (zA * zB) W hh0
          rw [show num.sg (zA * zB) = (-1) from (by rw [num.sg_mul, show num.sg zA = (-1) from (num.sg_neg HA0.out), show num.sg zB = 1 from (num.sg_pos HB0.out)]; rfl)] at cx19
          have Cx19 := Lib.hid cx19
          clear cx19
          have cx20 := fun (W : World) (v0 : Value) (hh0 : num.IsZ W v0 zA)  => num.Sign_any v0 zA W hh0
          rw [show num.sg zA = (-1) from (num.sg_neg HA0.out)] at cx20
          have Cx20 := Lib.hid cx20
          clear cx20
          have cx21 := fun (W : World) (v0 : Value) (hh0 : num.IsZ W v0 zB)  => num.Sign_any v0 zB W hh0
          rw [show num.sg zB = 1 from (num.sg_pos HB0.out)] at cx21
          have Cx21 := Lib.hid cx21
          clear cx21
          have cx22 := fun (W : World) (v0 : Value) (v1 : Value) (hh0 : num.IsZ W v0 zA) (hh1 : num.IsZ W v1 zB)  => num.Sub_any v0 v1 zA zB W hh0 hh1 ((show Bz zA 120 from L_zA.out).nat (by decide)) ((show Bz zB 120 from L_zB.out).nat (by decide))
          have Cx22 := Lib.hid cx22
          clear cx22
          have cx23 := fun (W : World) (v0 : Value) (v1 : Value) (hh0 : num.IsZ W v0 zB) (hh1 : num.IsZ W v1 zA)  => num.Sub_any v0 v1 zB zA W hh0 hh1 ((show Bz zB 120 from L_zB.out).nat (by decide)) ((show Bz zA 120 from L_zA.out).nat (by decide))
          have Cx23 := Lib.hid cx23
          clear cx23
          have cx24 := fun (W : World) (v0 : Value) (hh0 : num.IsZ W v0 (zB - zA))  => num.Neg_any v0 (zB - zA) W hh0
          have Cx24 := Lib.hid cx24
          clear cx24
          have cx25 := fun (W : World) (v0 : Value) (v1 : Value) (hh0 : num.IsZ W v0 (zA - zB)) (hh1 : num.IsZ W v1 (-(zB - zA)))  => num.Cmp_b v0 v1 (zA - zB) (-(zB - zA)) W hh0 hh1 ((Bz_sub (show Bz zA 120 from L_zA.out) (show Bz zB 120 from L_zB.out)).nat (by decide)) ((Bz_neg (Bz_sub (show Bz zB 120 from L_zB.out) (show Bz zA 120 from L_zA.out))).nat (by decide))
          rw [cmp3_eqZ (show (zA - zB) = (-(zB - zA)) from (by omega))] at cx25
          have Cx25 := Lib.hid cx25
          clear cx25
          go_wp2_with (first
            | (go_at_call 54; (with_reducible refine (Cx18.out _ _ _ (((((((((((((((((H_a.out.below HB3.out).below HB4.out).below HB5.out).below HB6.out).below HB7.out).below HB8.out).below HB9.out).below HB10.out).below HB11.out).below HB12.out).below HB13.out).below HB14.out).below HB15.out).below HB16.out).below HB17.out).below HB18.out).below HB19.out) (((((((((((((((H_b.out.below HB5.out).below HB6.out).below HB7.out).below HB8.out).below HB9.out).below HB10.out).below HB11.out).below HB12.out).below HB13.out).below HB14.out).below HB15.out).below HB16.out).below HB17.out).below HB18.out).below HB19.out)).mono ?_); rintro e W20 ⟨u6, rfl, ⟨h_u6, n_u6⟩, hb⟩
               have H_u6 := Lib.hid h_u6
               have N_u6 := Lib.hid n_u6
               have HB20 := Lib.hid hb
               obtain ⟨d20_xa_0, d20_xa_1⟩ := (((((((((((((((((M_xa.out.below HB4.out).below HB5.out).below HB6.out).below HB7.out).below HB8.out).below HB9.out).below HB10.out).below HB11.out).below HB12.out).below HB13.out).below HB14.out).below HB15.out).below HB16.out).below HB17.out).below HB18.out).below HB19.out).below HB20.out)
               obtain ⟨d20_xb_0, d20_xb_1⟩ := (((((((((((((((M_xb.out.below HB6.out).below HB7.out).below HB8.out).below HB9.out).below HB10.out).below HB11.out).below HB12.out).below HB13.out).below HB14.out).below HB15.out).below HB16.out).below HB17.out).below HB18.out).below HB19.out).below HB20.out)
               clear h_u6 n_u6 hb Cx18)
            | (go_at_call 67; (with_reducible refine (Cx19.out _ _ H_u6.out).mono ?_); rintro e w9 ⟨rfl, rfl⟩
               clear Cx19)
            | (go_at_call 67; (with_reducible refine (Cx20.out _ _ ((((((((((((((((((H_a.out.below HB3.out).below HB4.out).below HB5.out).below HB6.out).below HB7.out).below HB8.out).below HB9.out).below HB10.out).below HB11.out).below HB12.out).below HB13.out).below HB14.out).below HB15.out).below HB16.out).below HB17.out).below HB18.out).below HB19.out).below HB20.out)).mono ?_); rintro e w9 ⟨rfl, rfl⟩
               clear Cx20)
            | (go_at_call 67; (with_reducible refine (Cx21.out _ _ ((((((((((((((((H_b.out.below HB5.out).below HB6.out).below HB7.out).below HB8.out).below HB9.out).below HB10.out).below HB11.out).below HB12.out).below HB13.out).below HB14.out).below HB15.out).below HB16.out).below HB17.out).below HB18.out).below HB19.out).below HB20.out)).mono ?_); rintro e w9 ⟨rfl, rfl⟩
               clear Cx21)
            | (go_at_call 61; (with_reducible refine (Cx22.out _ _ _ ((((((((((((((((((H_a.out.below HB3.out).below HB4.out).below HB5.out).below HB6.out).below HB7.out).below HB8.out).below HB9.out).below HB10.out).below HB11.out).below HB12.out).below HB13.out).below HB14.out).below HB15.out).below HB16.out).below HB17.out).below HB18.out).below HB19.out).below HB20.out) ((((((((((((((((H_b.out.below HB5.out).below HB6.out).below HB7.out).below HB8.out).below HB9.out).below HB10.out).below HB11.out).below HB12.out).below HB13.out).below HB14.out).below HB15.out).below HB16.out).below HB17.out).below HB18.out).below HB19.out).below HB20.out)).mono ?_); rintro e W21 ⟨v1, rfl, ⟨h_v1, n_v1⟩, hb⟩
               have H_v1 := Lib.hid h_v1
               have N_v1 := Lib.hid n_v1
               have HB21 := Lib.hid hb
               obtain ⟨d21_xa_0, d21_xa_1⟩ := ((((((((((((((((((M_xa.out.below HB4.out).below HB5.out).below HB6.out).below HB7.out).below HB8.out).below HB9.out).below HB10.out).below HB11.out).below HB12.out).below HB13.out).below HB14.out).below HB15.out).below HB16.out).below HB17.out).below HB18.out).below HB19.out).below HB20.out).below HB21.out)
               obtain ⟨d21_xb_0, d21_xb_1⟩ := ((((((((((((((((M_xb.out.below HB6.out).below HB7.out).below HB8.out).below HB9.out).below HB10.out).below HB11.out).below HB12.out).below HB13.out).below HB14.out).below HB15.out).below HB16.out).below HB17.out).below HB18.out).below HB19.out).below HB20.out).below HB21.out)
               clear h_v1 n_v1 hb Cx22)
            | (go_at_call 61; (with_reducible refine (Cx23.out _ _ _ (((((((((((((((((H_b.out.below HB5.out).below HB6.out).below HB7.out).below HB8.out).below HB9.out).below HB10.out).below HB11.out).below HB12.out).below HB13.out).below HB14.out).below HB15.out).below HB16.out).below HB17.out).below HB18.out).below HB19.out).below HB20.out).below HB21.out) (((((((((((((((((((H_a.out.below HB3.out).below HB4.out).below HB5.out).below HB6.out).below HB7.out).below HB8.out).below HB9.out).below HB10.out).below HB11.out).below HB12.out).below HB13.out).below HB14.out).below HB15.out).below HB16.out).below HB17.out).below HB18.out).below HB19.out).below HB20.out).below HB21.out)).mono ?_); rintro e W22 ⟨v2, rfl, ⟨h_v2, n_v2⟩, hb⟩
               have H_v2 := Lib.hid h_v2
               have N_v2 := Lib.hid n_v2
               have HB22 := Lib.hid hb
               obtain ⟨d22_xa_0, d22_xa_1⟩ := (((((((((((((((((((M_xa.out.below HB4.out).below HB5.out).below HB6.out).below HB7.out).below HB8.out).below HB9.out).below HB10.out).below HB11.out).below HB12.out).below HB13.out).below HB14.out).below HB15.out).below HB16.out).below HB17.out).below HB18.out).below HB19.out).below HB20.out).below HB21.out).below HB22.out)
               obtain ⟨d22_xb_0, d22_xb_1⟩ := (((((((((((((((((M_xb.out.below HB6.out).below HB7.out).below HB8.out).below HB9.out).below HB10.out).below HB11.out).below HB12.out).below HB13.out).below HB14.out).below HB15.out).below HB16.out).below HB17.out).below HB18.out).below HB19.out).below HB20.out).below HB21.out).below HB22.out)
               clear h_v2 n_v2 hb Cx23)
            | (go_at_call 65; (with_reducible refine (Cx24.out _ _ H_v2.out).mono ?_); rintro e W23 ⟨v3, rfl, ⟨h_v3, n_v3⟩, hb⟩
               have H_v3 := Lib.hid h_v3
               have N_v3 := Lib.hid n_v3
               have HB23 := Lib.hid hb
               obtain ⟨d23_xa_0, d23_xa_1⟩ := ((((((((((((((((((((M_xa.out.below HB4.out).below HB5.out).below HB6.out).below HB7.out).below HB8.out).below HB9.out).below HB10.out).below HB11.out).below HB12.out).below HB13.out).below HB14.out).below HB15.out).below HB16.out).below HB17.out).below HB18.out).below HB19.out).below HB20.out).below HB21.out).below HB22.out).below HB23.out)
               obtain ⟨d23_xb_0, d23_xb_1⟩ := ((((((((((((((((((M_xb.out.below HB6.out).below HB7.out).below HB8.out).below HB9.out).below HB10.out).below HB11.out).below HB12.out).below HB13.out).below HB14.out).below HB15.out).below HB16.out).below HB17.out).below HB18.out).below HB19.out).below HB20.out).below HB21.out).below HB22.out).below HB23.out)
               clear h_v3 n_v3 hb Cx24)
            | (go_at_call 56; (with_reducible refine (Cx25.out _ _ _ ((H_v1.out.below HB22.out).below HB23.out) H_v3.out).mono ?_); rintro e W24 ⟨rfl, hb⟩
               have HB24 := Lib.hid hb
               obtain ⟨d24_xa_0, d24_xa_1⟩ := (((((((((((((((((((((M_xa.out.below HB4.out).below HB5.out).below HB6.out).below HB7.out).below HB8.out).below HB9.out).below HB10.out).below HB11.out).below HB12.out).below HB13.out).below HB14.out).below HB15.out).below HB16.out).below HB17.out).below HB18.out).below HB19.out).below HB20.out).below HB21.out).below HB22.out).below HB23.out).below HB24.out)
               obtain ⟨d24_xb_0, d24_xb_1⟩ := (((((((((((((((((((M_xb.out.below HB6.out).below HB7.out).below HB8.out).below HB9.out).below HB10.out).below HB11.out).below HB12.out).below HB13.out).below HB14.out).below HB15.out).below HB16.out).below HB17.out).below HB18.out).below HB19.out).below HB20.out).below HB21.out).below HB22.out).below HB23.out).below HB24.out)
               clear hb Cx25)
            | (fail "no arm"))
          skip
          all_goals (go_ret; exact ⟨rfl, (nat.below_tr (nat.below_tr (nat.below_tr (nat.below_tr (nat.below_tr (nat.below_tr (nat.below_tr (nat.below_tr (nat.below_tr (nat.below_tr (nat.below_tr (nat.below_tr (nat.below_tr (nat.below_tr (nat.below_tr (nat.below_tr (nat.below_tr (nat.below_tr (nat.below_tr (nat.below_tr (nat.below_tr (nat.below_tr (nat.below_tr HB1.out HB2.out) HB3.out) HB4.out) HB5.out) HB6.out) HB7.out) HB8.out) HB9.out) HB10.out) HB11.out) HB12.out) HB13.out) HB14.out) HB15.out) HB16.out) HB17.out) HB18.out) HB19.out) HB20.out) HB21.out) HB22.out) HB23.out) HB24.out)⟩)
      · have HA0 := Lib.hid ha0
        clear ha0
        rcases Int.lt_or_gt_of_ne HBN.out with hb0 | hb0
        · have HB0 := Lib.hid hb0
          clear hb0
          have cx18 := fun (W : World) (v0 : Value) (v1 : Value) (hh0 : num.IsZ W v0 zA) (hh1 : num.IsZ W v1 zB)  => num.Mul_any v0 v1 zA zB W hh0 hh1 ((show Bz zA 120 from L_zA.out).nat (by decide)) ((show Bz zB 120 from L_zB.out).nat (by decide))
          have Cx18 := Lib.hid cx18
          clear cx18
          have cx19 := fun (W : World) (v0 : Value) (hh0 : num.IsZ W v0 (zA * zB))  => num.Sign_any v0 (zA * zB) W hh0
          rw [show num.sg (zA * zB) = (0) from (by rw [num.sg_mul, show num.sg zA = 0 from (num.sg_zero HA0.out), show num.sg zB = (-1) from (num.sg_neg HB0.out)]; rfl)] at cx19
          have Cx19 := Lib.hid cx19
          clear cx19
          have cx20 := fun (W : World) (v0 : Value) (hh0 : num.IsZ W v0 zA)  => num.Sign_any v0 zA W hh0
          rw [show num.sg zA = 0 from (num.sg_zero HA0.out)] at cx20
          have Cx20 := Lib.hid cx20
          clear cx20
          have cx21 := fun (W : World) (v0 : Value) (hh0 : num.IsZ W v0 zB)  => num.Sign_any v0 zB W hh0
          rw [show num.sg zB = (-1) from (num.sg_neg HB0.out)] at cx21
          have Cx21 := Lib.hid cx21
          clear cx21
          have cx22 := fun (W : World) (v0 : Value) (v1 : Value) (hh0 : num.IsZ W v0 zA) (hh1 : num.IsZ W v1 zB)  => num.Sub_any v0 v1 zA zB W hh0 hh1 ((show Bz zA 120 from L_zA.out).nat (by decide)) ((show Bz zB 120 from L_zB.out).nat (by decide))
          have Cx22 := Lib.hid cx22
          clear cx22
          have cx23 := fun (W : World) (v0 : Value) (v1 : Value) (hh0 : num.IsZ W v0 zB) (hh1 : num.IsZ W v1 zA)  => num.Sub_any v0 v1 zB zA W hh0 hh1 ((show Bz zB 120 from L_zB.out).nat (by decide)) ((show Bz zA 120 from L_zA.out).nat (by decide))
          have Cx23 := Lib.hid cx23
          clear cx23
          have cx24 := fun (W : World) (v0 : Value) (hh0 : num.IsZ W v0 (zB - zA))  => num.Neg_any v0 (zB - zA) W hh0
          have Cx24 := Lib.hid cx24
          clear cx24
          have cx25 := fun (W : World) (v0 : Value) (v1 : Value) (hh0 : num.IsZ W v0 (zA - zB)) (hh1 : num.IsZ W v1 (-(zB - zA)))  => num.Cmp_b v0 v1 (zA - zB) (-(zB - zA)) W hh0 hh1 ((Bz_sub (show Bz zA 120 from L_zA.out) (show Bz zB 120 from L_zB.out)).nat (by decide)) ((Bz_neg (Bz_sub (show Bz zB 120 from L_zB.out) (show Bz zA 120 from L_zA.out))).nat (by decide))
          rw [cmp3_eqZ (show (zA - zB) = (-(zB - zA)) from (by omega))] at cx25
          have Cx25 := Lib.hid cx25
          clear cx25
          go_wp2_with (first
            | (go_at_call 54; (with_reducible refine (Cx18.out _ _ _ (((((((((((((((((H_a.out.below HB3.out).below HB4.out).below HB5.out).below HB6.out).below HB7.out).below HB8.out).below HB9.out).below HB10.out).below HB11.out).below HB12.out).below HB13.out).below HB14.out).below HB15.out).below HB16.out).below HB17.out).below HB18.out).below HB19.out) (((((((((((((((H_b.out.below HB5.out).below HB6.out).below HB7.out).below HB8.out).below HB9.out).below HB10.out).below HB11.out).below HB12.out).below HB13.out).below HB14.out).below HB15.out).below HB16.out).below HB17.out).below HB18.out).below HB19.out)).mono ?_); rintro e W20 ⟨u6, rfl, ⟨h_u6, n_u6⟩, hb⟩
               have H_u6 := Lib.hid h_u6
               have N_u6 := Lib.hid n_u6
               have HB20 := Lib.hid hb
               obtain ⟨d20_xa_0, d20_xa_1⟩ := (((((((((((((((((M_xa.out.below HB4.out).below HB5.out).below HB6.out).below HB7.out).below HB8.out).below HB9.out).below HB10.out).below HB11.out).below HB12.out).below HB13.out).below HB14.out).below HB15.out).below HB16.out).below HB17.out).below HB18.out).below HB19.out).below HB20.out)
               obtain ⟨d20_xb_0, d20_xb_1⟩ := (((((((((((((((M_xb.out.below HB6.out).below HB7.out).below HB8.out).below HB9.out).below HB10.out).below HB11.out).below HB12.out).below HB13.out).below HB14.out).below HB15.out).below HB16.out).below HB17.out).below HB18.out).below HB19.out).below HB20.out)
               clear h_u6 n_u6 hb Cx18)
            | (go_at_call 67; (with_reducible refine (Cx19.out _ _ H_u6.out).mono ?_); rintro e w9 ⟨rfl, rfl⟩
               clear Cx19)
            | (go_at_call 67; (with_reducible refine (Cx20.out _ _ ((((((((((((((((((H_a.out.below HB3.out).below HB4.out).below HB5.out).below HB6.out).below HB7.out).below HB8.out).below HB9.out).below HB10.out).below HB11.out).below HB12.out).below HB13.out).below HB14.out).below HB15.out).below HB16.out).below HB17.out).below HB18.out).below HB19.out).below HB20.out)).mono ?_); rintro e w9 ⟨rfl, rfl⟩
               clear Cx20)
            | (go_at_call 67; (with_reducible refine (Cx21.out _ _ ((((((((((((((((H_b.out.below HB5.out).below HB6.out).below HB7.out).below HB8.out).below HB9.out).below HB10.out).below HB11.out).below HB12.out).below HB13.out).below HB14.out).below HB15.out).below HB16.out).below HB17.out).below HB18.out).below HB19.out).below HB20.out)).mono ?_); rintro e w9 ⟨rfl, rfl⟩
               clear Cx21)
            | (go_at_call 61; (with_reducible refine (Cx22.out _ _ _ ((((((((((((((((((H_a.out.below HB3.out).below HB4.out).below HB5.out).below HB6.out).below HB7.out).below HB8.out).below HB9.out).below HB10.out).below HB11.out).below HB12.out).below HB13.out).below HB14.out).below HB15.out).below HB16.out).below HB17.out).below HB18.out).below HB19.out).below HB20.out) ((((((((((((((((H_b.out.below HB5.out).below HB6.out).below HB7.out).below HB8.out).below HB9.out).below HB10.out).below HB11.out).below HB12.out).below HB13.out).below HB14.out).below HB15.out).below HB16.out).below HB17.out).below HB18.out).below HB19.out).below HB20.out)).mono ?_); rintro e W21 ⟨v1, rfl, ⟨h_v1, n_v1⟩, hb⟩
               have H_v1 := Lib.hid h_v1
               have N_v1 := Lib.hid n_v1
               have HB21 := Lib.hid hb
               obtain ⟨d21_xa_0, d21_xa_1⟩ := ((((((((((((((((((M_xa.out.below HB4.out).below HB5.out).below HB6.out).below HB7.out).below HB8.out).below HB9.out).below HB10.out).below HB11.out).below HB12.out).below HB13.out).below HB14.out).below HB15.out).below HB16.out).below HB17.out).below HB18.out).below HB19.out).below HB20.out).below HB21.out)
               obtain ⟨d21_xb_0, d21_xb_1⟩ := ((((((((((((((((M_xb.out.below HB6.out).below HB7.out).below HB8.out).below HB9.out).below HB10.out).below HB11.out).below HB12.out).below HB13.out).below HB14.out).below HB15.out).below HB16.out).below HB17.out).below HB18.out).below HB19.out).below HB20.out).below HB21.out)
               clear h_v1 n_v1 hb Cx22)
            | (go_at_call 61; (with_reducible refine (Cx23.out _ _ _ (((((((((((((((((H_b.out.below HB5.out).below HB6.out).below HB7.out).below HB8.out).below HB9.out).below HB10.out).below HB11.out).below HB12.out).below HB13.out).below HB14.out).below HB15.out).below HB16.out).below HB17.out).below HB18.out).below HB19.out).below HB20.out).below HB21.out) (((((((((((((((((((H_a.out.below HB3.out).below HB4.out).below HB5.out).below HB6.out).below HB7.out).below HB8.out).below HB9.out).below HB10.out).below HB11.out).below HB12.out).below HB13.out).below HB14.out).below HB15.out).below HB16.out).below HB17.out).below HB18.out).below HB19.out).below HB20.out).below HB21.out)).mono ?_); rintro e W22 ⟨v2, rfl, ⟨h_v2, n_v2⟩, hb⟩
               have H_v2 := Lib.hid h_v2
               have N_v2 := Lib.hid n_v2
               have HB22 := Lib.hid hb
               obtain ⟨d22_xa_0, d22_xa_1⟩ := (((((((((((((((((((M_xa.out.below HB4.out).below HB5.out).below HB6.out).below HB7.out).below HB8.out).below HB9.out).below HB10.out).below HB11.out).below HB12.out).below HB13.out).below HB14.out).below HB15.out).below HB16.out).below HB17.out).below HB18.out).below HB19.out).below HB20.out).below HB21.out).below HB22.out)
               obtain ⟨d22_xb_0, d22_xb_1⟩ := (((((((((((((((((M_xb.out.below HB6.out).below HB7.out).below HB8.out).below HB9.out).below HB10.out).below HB11.out).below HB12.out).below HB13.out).below HB14.out).below HB15.out).below HB16.out).below HB17.out).below HB18.out).below HB19.out).below HB20.out).below HB21.out).below HB22.out)
               clear h_v2 n_v2 hb Cx23)
            | (go_at_call 65; (with_reducible refine (Cx24.out _ _ H_v2.out).mono ?_); rintro e W23 ⟨v3, rfl, ⟨h_v3, n_v3⟩, hb⟩
               have H_v3 := Lib.hid h_v3
               have N_v3 := Lib.hid n_v3
               have HB23 := Lib.hid hb
               obtain ⟨d23_xa_0, d23_xa_1⟩ := ((((((((((((((((((((M_xa.out.below HB4.out).below HB5.out).below HB6.out).below HB7.out).below HB8.out).below HB9.out).below HB10.out).below HB11.out).below HB12.out).below HB13.out).below HB14.out).below HB15.out).below HB16.out).below HB17.out).below HB18.out).below HB19.out).below HB20.out).below HB21.out).below HB22.out).below HB23.out)
               obtain ⟨d23_xb_0, d23_xb_1⟩ := ((((((((((((((((((M_xb.out.below HB6.out).below HB7.out).below HB8.out).below HB9.out).below HB10.out).below HB11.out).below HB12.out).below HB13.out).below HB14.out).below HB15.out).below HB16.out).below HB17.out).below HB18.out).below HB19.out).below HB20.out).below HB21.out).below HB22.out).below HB23.out)
               clear h_v3 n_v3 hb Cx24)
            | (go_at_call 56; (with_reducible refine (Cx25.out _ _ _ ((H_v1.out.below HB22.out).below HB23.out) H_v3.out).mono ?_); rintro e W24 ⟨rfl, hb⟩
               have HB24 := Lib.hid hb
               obtain ⟨d24_xa_0, d24_xa_1⟩ := (((((((((((((((((((((M_xa.out.below HB4.out).below HB5.out).below HB6.out).below HB7.out).below HB8.out).below HB9.out).below HB10.out).below HB11.out).below HB12.out).below HB13.out).below HB14.out).below HB15.out).below HB16.out).below HB17.out).below HB18.out).below HB19.out).below HB20.out).below HB21.out).below HB22.out).below HB23.out).below HB24.out)
               obtain ⟨d24_xb_0, d24_xb_1⟩ := (((((((((((((((((((M_xb.out.below HB6.out).below HB7.out).below HB8.out).below HB9.out).below HB10.out).below HB11.out).below HB12.out).below HB13.out).below HB14.out).below HB15.out).below HB16.out).below HB17.out).below HB18.out).below HB19.out).below HB20.out).below HB21.out).below HB22.out).below HB23.out).below HB24.out)
               clear hb Cx25)
            | (fail "no arm"))
          skip
          all_goals (go_ret; exact ⟨rfl, (nat.below_tr (nat.below_tr (nat.below_tr (nat.below_tr (nat.below_tr (nat.below_tr (nat.below_tr (nat.below_tr (nat.below_tr (nat.below_tr (nat.below_tr (nat.below_tr (nat.below_tr (nat.below_tr (nat.below_tr (nat.below_tr (nat.below_tr (nat.below_tr (nat.below_tr (nat.below_tr (nat.below_tr (nat.below_tr (nat.below_tr HB1.out HB2.out) HB3.out) HB4.out) HB5.out) HB6.out) HB7.out) HB8.out) HB9.out) HB10.out) HB11.out) HB12.out) HB13.out) HB14.out) HB15.out) HB16.out) HB17.out) HB18.out) HB19.out) HB20.out) HB21.out) HB22.out) HB23.out) HB24.out)⟩)
        · have HB0 := Lib.hid hb0
          clear hb0
          have cx18 := fun (W : World) (v0 : Value) (v1 : Value) (hh0 : num.IsZ W v0 zA) (hh1 : num.IsZ W v1 zB)  => num.Mul_any v0 v1 zA zB W hh0 hh1 ((show Bz zA 120 from L_zA.out).nat (by decide)) ((show Bz zB 120 from L_zB.out).nat (by decide))
          have Cx18 := Lib.hid cx18
          clear cx18
          have cx19 := fun (W : World) (v0 : Value) (hh0 : num.IsZ W v0 (zA * zB))  => num.Sign_any v0 (zA * zB) W hh0
          rw [show num.sg (zA * zB) = (0) from (by rw [num.sg_mul, show num.sg zA = 0 from (num.sg_zero HA0.out), show num.sg zB = 1 from (num.sg_pos HB0.out)]; rfl)] at cx19
          have Cx19 := Lib.hid cx19
          clear cx19
          have cx20 := fun (W : World) (v0 : Value) (hh0 : num.IsZ W v0 zA)  => num.Sign_any v0 zA W hh0
          rw [show num.sg zA = 0 from (num.sg_zero HA0.out)] at cx20
          have Cx20 := Lib.hid cx20
          clear cx20
          have cx21 := fun (W : World) (v0 : Value) (hh0 : num.IsZ W v0 zB)  => num.Sign_any v0 zB W hh0
          rw [show num.sg zB = 1 from (num.sg_pos HB0.out)] at cx21
          have Cx21 := Lib.hid cx21
          clear cx21
          have cx22 := fun (W : World) (v0 : Value) (v1 : Value) (hh0 : num.IsZ W v0 zA) (hh1 : num.IsZ W v1 zB)  => num.Sub_any v0 v1 zA zB W hh0 hh1 ((show Bz zA 120 from L_zA.out).nat (by decide)) ((show Bz zB 120 from L_zB.out).nat (by decide))
          have Cx22 := Lib.hid cx22
          clear cx22
          have cx23 := fun (W : World) (v0 : Value) (v1 : Value) (hh0 : num.IsZ W v0 zB) (hh1 : num.IsZ W v1 zA)  => num.Sub_any v0 v1 zB zA W hh0 hh1 ((show Bz zB 120 from L_zB.out).nat (by decide)) ((show Bz zA 120 from L_zA.out).nat (by decide))
          have Cx23 := Lib.hid cx23
          clear cx23
          have cx24 := fun (W : World) (v0 : Value) (hh0 : num.IsZ W v0 (zB - zA))  => num.Neg_any v0 (zB - zA) W hh0
          have Cx24 := Lib.hid cx24
          clear cx24
          have cx25 := fun (W : World) (v0 : Value) (v1 : Value) (hh0 : num.IsZ W v0 (zA - zB)) (hh1 : num.IsZ W v1 (-(zB - zA)))  => num.Cmp_b v0 v1 (zA - zB) (-(zB - zA)) W hh0 hh1 ((Bz_sub (show Bz zA 120 from L_zA.out) (show Bz zB 120 from L_zB.out)).nat (by decide)) ((Bz_neg (Bz_sub (show Bz zB 120 from L_zB.out) (show Bz zA 120 from L_zA.out))).nat (by decide))
          rw [cmp3_eqZ (show (zA - zB) = (-(zB - zA)) from (by omega))] at cx25
          have Cx25 := Lib.hid cx25
          clear cx25
          go_wp2_with (first
            | (go_at_call 54; (with_reducible refine (Cx18.out _ _ _ (((((((((((((((((H_a.out.below HB3.out).below HB4.out).below HB5.out).below HB6.out).below HB7.out).below HB8.out).below HB9.out).below HB10.out).below HB11.out).below HB12.out).below HB13.out).below HB14.out).below HB15.out).below HB16.out).below HB17.out).below HB18.out).below HB19.out) (((((((((((((((H_b.out.below HB5.out).below HB6.out).below HB7.out).below HB8.out).below HB9.out).below HB10.out).below HB11.out).below HB12.out).below HB13.out).below HB14.out).below HB15.out).below HB16.out).below HB17.out).below HB18.out).below HB19.out)).mono ?_); rintro e W20 ⟨u6, rfl, ⟨h_u6, n_u6⟩, hb⟩
               have H_u6 := Lib.hid h_u6
               have N_u6 := Lib.hid n_u6
               have HB20 := Lib.hid hb
               obtain ⟨d20_xa_0, d20_xa_1⟩ := (((((((((((((((((M_xa.out.below HB4.out).below HB5.out).below HB6.out).below HB7.out).below HB8.out).below HB9.out).below HB10.out).below HB11.out).below HB12.out).below HB13.out).below HB14.out).below HB15.out).below HB16.out).below HB17.out).below HB18.out).below HB19.out).below HB20.out)
               obtain ⟨d20_xb_0, d20_xb_1⟩ := (((((((((((((((M_xb.out.below HB6.out).below HB7.out).below HB8.out).below HB9.out).below HB10.out).below HB11.out).below HB12.out).below HB13.out).below HB14.out).below HB15.out).below HB16.out).below HB17.out).below HB18.out).below HB19.out).below HB20.out)
               clear h_u6 n_u6 hb Cx18)
            | (go_at_call 67; (with_reducible refine (Cx19.out _ _ H_u6.out).mono ?_); rintro e w9 ⟨rfl, rfl⟩
               clear Cx19)
            | (go_at_call 67; (with_reducible refine (Cx20.out _ _ ((((((((((((((((((H_a.out.below HB3.out).below HB4.out).below HB5.out).below HB6.out).below HB7.out).below HB8.out).below HB9.out).below HB10.out).below HB11.out).below HB12.out).below HB13.out).below HB14.out).below HB15.out).below HB16.out).below HB17.out).below HB18.out).below HB19.out).below HB20.out)).mono ?_); rintro e w9 ⟨rfl, rfl⟩
               clear Cx20)
            | (go_at_call 67; (with_reducible refine (Cx21.out _ _ ((((((((((((((((H_b.out.below HB5.out).below HB6.out).below HB7.out).below HB8.out).below HB9.out).below HB10.out).below HB11.out).below HB12.out).below HB13.out).below HB14.out).below HB15.out).below HB16.out).below HB17.out).below HB18.out).below HB19.out).below HB20.out)).mono ?_); rintro e w9 ⟨rfl, rfl⟩
               clear Cx21)
            | (go_at_call 61; (with_reducible refine (Cx22.out _ _ _ ((((((((((((((((((H_a.out.below HB3.out).below HB4.out).below HB5.out).below HB6.out).below HB7.out).below HB8.out).below HB9.out).below HB10.out).below HB11.out).below HB12.out).below HB13.out).below HB14.out).below HB15.out).below HB16.out).below HB17.out).below HB18.out).below HB19.out).below HB20.out) ((((((((((((((((H_b.out.below HB5.out).below HB6.out).below HB7.out).below HB8.out).below HB9.out).below HB10.out).below HB11.out).below HB12.out).below HB13.out).below HB14.out).below HB15.out).below HB16.out).below HB17.out).below HB18.out).below HB19.out).below HB20.out)).mono ?_); rintro e W21 ⟨v1, rfl, ⟨h_v1, n_v1⟩, hb⟩
               have H_v1 := Lib.hid h_v1
               have N_v1 := Lib.hid n_v1
               have HB21 := Lib.hid hb
               obtain ⟨d21_xa_0, d21_xa_1⟩ := ((((((((((((((((((M_xa.out.below HB4.out).below HB5.out).below HB6.out).below HB7.out).below HB8.out).below HB9.out).below HB10.out).below HB11.out).below HB12.out).below HB13.out).below HB14.out).below HB15.out).below HB16.out).below HB17.out).below HB18.out).below HB19.out).below HB20.out).below HB21.out)
               obtain ⟨d21_xb_0, d21_xb_1⟩ := ((((((((((((((((M_xb.out.below HB6.out).below HB7.out).below HB8.out).below HB9.out).below HB10.out).below HB11.out).below HB12.out).below HB13.out).below HB14.out).below HB15.out).below HB16.out).below HB17.out).below HB18.out).below HB19.out).below HB20.out).below HB21.out)
               clear h_v1 n_v1 hb Cx22)
            | (go_at_call 61; (with_reducible refine (Cx23.out _ _ _ (((((((((((((((((H_b.out.below HB5.out).below HB6.out).below HB7.out).below HB8.out).below HB9.out).below HB10.out).below HB11.out).below HB12.out).below HB13.out).below HB14.out).below HB15.out).below HB16.out).below HB17.out).below HB18.out).below HB19.out).below HB20.out).below HB21.out) (((((((((((((((((((H_a.out.below HB3.out).below HB4.out).below HB5.out).below HB6.out).below HB7.out).below HB8.out).below HB9.out).below HB10.out).below HB11.out).below HB12.out).below HB13.out).below HB14.out).below HB15.out).below HB16.out).below HB17.out).below HB18.out).below HB19.out).below HB20.out).below HB21.out)).mono ?_); rintro e W22 ⟨v2, rfl, ⟨h_v2, n_v2⟩, hb⟩
               have H_v2 := Lib.hid h_v2
               have N_v2 := Lib.hid n_v2
               have HB22 := Lib.hid hb
               obtain ⟨d22_xa_0, d22_xa_1⟩ := (((((((((((((((((((M_xa.out.below HB4.out).below HB5.out).below HB6.out).below HB7.out).below HB8.out).below HB9.out).below HB10.out).below HB11.out).below HB12.out).below HB13.out).below HB14.out).below HB15.out).below HB16.out).below HB17.out).below HB18.out).below HB19.out).below HB20.out).below HB21.out).below HB22.out)
               obtain ⟨d22_xb_0, d22_xb_1⟩ := (((((((((((((((((M_xb.out.below HB6.out).below HB7.out).below HB8.out).below HB9.out).below HB10.out).below HB11.out).below HB12.out).below HB13.out).below HB14.out).below HB15.out).below HB16.out).below HB17.out).below HB18.out).below HB19.out).below HB20.out).below HB21.out).below HB22.out)
               clear h_v2 n_v2 hb Cx23)
            | (go_at_call 65; (with_reducible refine (Cx24.out _ _ H_v2.out).mono ?_); rintro e W23 ⟨v3, rfl, ⟨h_v3, n_v3⟩, hb⟩
               have H_v3 := Lib.hid h_v3
               have N_v3 := Lib.hid n_v3
               have HB23 := Lib.hid hb
               obtain ⟨d23_xa_0, d23_xa_1⟩ := ((((((((((((((((((((M_xa.out.below HB4.out).below HB5.out).below HB6.out).below HB7.out).below HB8.out).below HB9.out).below HB10.out).below HB11.out).below HB12.out).below HB13.out).below HB14.out).below HB15.out).below HB16.out).below HB17.out).below HB18.out).below HB19.out).below HB20.out).below HB21.out).below HB22.out).below HB23.out)
               obtain ⟨d23_xb_0, d23_xb_1⟩ := ((((((((((((((((((M_xb.out.below HB6.out).below HB7.out).below HB8.out).below HB9.out).below HB10.out).below HB11.out).below HB12.out).below HB13.out).below HB14.out).below HB15.out).below HB16.out).below HB17.out).below HB18.out).below HB19.out).below HB20.out).below HB21.out).below HB22.out).below HB23.out)
               clear h_v3 n_v3 hb Cx24)
            | (go_at_call 56; (with_reducible refine (Cx25.out _ _ _ ((H_v1.out.below HB22.out).below HB23.out) H_v3.out).mono ?_); rintro e W24 ⟨rfl, hb⟩
               have HB24 := Lib.hid hb
               obtain ⟨d24_xa_0, d24_xa_1⟩ := (((((((((((((((((((((M_xa.out.below HB4.out).below HB5.out).below HB6.out).below HB7.out).below HB8.out).below HB9.out).below HB10.out).below HB11.out).below HB12.out).below HB13.out).below HB14.out).below HB15.out).below HB16.out).below HB17.out).below HB18.out).below HB19.out).below HB20.out).below HB21.out).below HB22.out).below HB23.out).below HB24.out)
               obtain ⟨d24_xb_0, d24_xb_1⟩ := (((((((((((((((((((M_xb.out.below HB6.out).below HB7.out).below HB8.out).below HB9.out).below HB10.out).below HB11.out).below HB12.out).below HB13.out).below HB14.out).below HB15.out).below HB16.out).below HB17.out).below HB18.out).below HB19.out).below HB20.out).below HB21.out).below HB22.out).below HB23.out).below HB24.out)
               clear hb Cx25)
            | (fail "no arm"))
          skip
          all_goals (go_ret; exact ⟨rfl, (nat.below_tr (nat.below_tr (nat.below_tr (nat.below_tr (nat.below_tr (nat.below_tr (nat.below_tr (nat.below_tr (nat.below_tr (nat.below_tr (nat.below_tr (nat.below_tr (nat.below_tr (nat.below_tr (nat.below_tr (nat.below_tr (nat.below_tr (nat.below_tr (nat.below_tr (nat.below_tr (nat.below_tr (nat.below_tr (nat.below_tr HB1.out HB2.out) HB3.out) HB4.out) HB5.out) HB6.out) HB7.out) HB8.out) HB9.out) HB10.out) HB11.out) HB12.out) HB13.out) HB14.out) HB15.out) HB16.out) HB17.out) HB18.out) HB19.out) HB20.out) HB21.out) HB22.out) HB23.out) HB24.out)⟩)
      · have HA0 := Lib.hid ha0
        clear ha0
        rcases Int.lt_or_gt_of_ne HBN.out with hb0 | hb0
        · have HB0 := Lib.hid hb0
          clear hb0
          have cx18 := fun (W : World) (v0 : Value) (v1 : Value) (hh0 : num.IsZ W v0 zA) (hh1 : num.IsZ W v1 zB)  => num.Mul_any v0 v1 zA zB W hh0 hh1 ((show Bz zA 120 from L_zA.out).nat (by decide)) ((show Bz zB 120 from L_zB.out).nat (by decide))
          have Cx18 := Lib.hid cx18
          clear cx18
          have cx19 := fun (W : World) (v0 : Value) (hh0 : num.IsZ W v0 (zA * zB))  => num.Sign_any v0 (zA * zB) W hh0
          rw [show num.sg (zA * zB) = (-1) from (by rw [num.sg_mul, show num.sg zA = 1 from (num.sg_pos HA0.out), show num.sg zB = (-1) from (num.sg_neg HB0.out)]; rfl)] at cx19
          have Cx19 := Lib.hid cx19
          clear cx19
          have cx20 := fun (W : World) (v0 : Value) (hh0 : num.IsZ W v0 zA)  => num.Sign_any v0 zA W hh0
          rw [show num.sg zA = 1 from (num.sg_pos HA0.out)] at cx20
          have Cx20 := Lib.hid cx20
          clear cx20
          have cx21 := fun (W : World) (v0 : Value) (hh0 : num.IsZ W v0 zB)  => num.Sign_any v0 zB W hh0
          rw [show num.sg zB = (-1) from (num.sg_neg HB0.out)] at cx21
          have Cx21 := Lib.hid cx21
          clear cx21
          have cx22 := fun (W : World) (v0 : Value) (v1 : Value) (hh0 : num.IsZ W v0 zA) (hh1 : num.IsZ W v1 zB)  => num.Sub_any v0 v1 zA zB W hh0 hh1 ((show Bz zA 120 from L_zA.out).nat (by decide)) ((show Bz zB 120 from L_zB.out).nat (by decide))
          have Cx22 := Lib.hid cx22
          clear cx22
          have cx23 := fun (W : World) (v0 : Value) (v1 : Value) (hh0 : num.IsZ W v0 zB) (hh1 : num.IsZ W v1 zA)  => num.Sub_any v0 v1 zB zA W hh0 hh1 ((show Bz zB 120 from L_zB.out).nat (by decide)) ((show Bz zA 120 from L_zA.out).nat (by decide))
          have Cx23 := Lib.hid cx23
          clear cx23
          have cx24 := fun (W : World) (v0 : Value) (hh0 : num.IsZ W v0 (zB - zA))  => num.Neg_any v0 (zB - zA) W hh0
          have Cx24 := Lib.hid cx24
          clear cx24
          have cx25 := fun (W : World) (v0 : Value) (v1 : Value) (hh0 : num.IsZ W v0 (zA - zB)) (hh1 : num.IsZ W v1 (-(zB - zA)))  => num.Cmp_b v0 v1 (zA - zB) (-(zB - zA)) W hh0 hh1 ((Bz_sub (show Bz zA 120 from L_zA.out) (show Bz zB 120 from L_zB.out)).nat (by decide)) ((Bz_neg (Bz_sub (show Bz zB 120 from L_zB.out) (show Bz zA 120 from L_zA.out))).nat (by decide))
          rw [cmp3_eqZ (show (zA - zB) = (-(zB - zA)) from (by omega))] at cx25
          have Cx25 := Lib.hid cx25
          clear cx25
          go_wp2_with (first
            | (go_at_call 54; (with_reducible refine (Cx18.out _ _ _ (((((((((((((((((H_a.out.below HB3.out).below HB4.out).below HB5.out).below HB6.out).below HB7.out).below HB8.out).below HB9.out).below HB10.out).below HB11.out).below HB12.out).below HB13.out).below HB14.out).below HB15.out).below HB16.out).below HB17.out).below HB18.out).below HB19.out) (((((((((((((((H_b.out.below HB5.out).below HB6.out).below HB7.out).below HB8.out).below HB9.out).below HB10.out).below HB11.out).below HB12.out).below HB13.out).below HB14.out).below HB15.out).below HB16.out).below HB17.out).below HB18.out).below HB19.out)).mono ?_); rintro e W20 ⟨u6, rfl, ⟨h_u6, n_u6⟩, hb⟩
               have H_u6 := Lib.hid h_u6
               have N_u6 := Lib.hid n_u6
               have HB20 := Lib.hid hb
               obtain ⟨d20_xa_0, d20_xa_1⟩ := (((((((((((((((((M_xa.out.below HB4.out).below HB5.out).below HB6.out).below HB7.out).below HB8.out).below HB9.out).below HB10.out).below HB11.out).below HB12.out).below HB13.out).below HB14.out).below HB15.out).below HB16.out).below HB17.out).below HB18.out).below HB19.out).below HB20.out)
               obtain ⟨d20_xb_0, d20_xb_1⟩ := (((((((((((((((M_xb.out.below HB6.out).below HB7.out).below HB8.out).below HB9.out).below HB10.out).below HB11.out).below HB12.out).below HB13.out).below HB14.out).below HB15.out).below HB16.out).below HB17.out).below HB18.out).below HB19.out).below HB20.out)
               clear h_u6 n_u6 hb Cx18)
            | (go_at_call 67; (with_reducible refine (Cx19.out _ _ H_u6.out).mono ?_); rintro e w9 ⟨rfl, rfl⟩
               clear Cx19)
            | (go_at_call 67; (with_reducible refine (Cx20.out _ _ ((((((((((((((((((H_a.out.below HB3.out).below HB4.out).below HB5.out).below HB6.out).below HB7.out).below HB8.out).below HB9.out).below HB10.out).below HB11.out).below HB12.out).below HB13.out).below HB14.out).below HB15.out).below HB16.out).below HB17.out).below HB18.out).below HB19.out).below HB20.out)).mono ?_); rintro e w9 ⟨rfl, rfl⟩
               clear Cx20)
            | (go_at_call 67; (with_reducible refine (Cx21.out _ _ ((((((((((((((((H_b.out.below HB5.out).below HB6.out).below HB7.out).below HB8.out).below HB9.out).below HB10.out).below HB11.out).below HB12.out).below HB13.out).below HB14.out).below HB15.out).below HB16.out).below HB17.out).below HB18.out).below HB19.out).below HB20.out)).mono ?_); rintro e w9 ⟨rfl, rfl⟩
               clear Cx21)
            | (go_at_call 61; (with_reducible refine (Cx22.out _ _ _ ((((((((((((((((((H_a.out.below HB3.out).below HB4.out).below HB5.out).below HB6.out).below HB7.out).below HB8.out).below HB9.out).below HB10.out).below HB11.out).below HB12.out).below HB13.out).below HB14.out).below HB15.out).below HB16.out).below HB17.out).below HB18.out).below HB19.out).below HB20.out) ((((((((((((((((H_b.out.below HB5.out).below HB6.out).below HB7.out).below HB8.out).below HB9.out).below HB10.out).below HB11.out).below HB12.out).below HB13.out).below HB14.out).below HB15.out).below HB16.out).below HB17.out).below HB18.out).below HB19.out).below HB20.out)).mono ?_); rintro e W21 ⟨v1, rfl, ⟨h_v1, n_v1⟩, hb⟩
               have H_v1 := Lib.hid h_v1
               have N_v1 := Lib.hid n_v1
               have HB21 := Lib.hid hb
               obtain ⟨d21_xa_0, d21_xa_1⟩ := ((((((((((((((((((M_xa.out.below HB4.out).below HB5.out).below HB6.out).below HB7.out).below HB8.out).below HB9.out).below HB10.out).below HB11.out).below HB12.out).below HB13.out).below HB14.out).below HB15.out).below HB16.out).below HB17.out).below HB18.out).below HB19.out).below HB20.out).below HB21.out)
               obtain ⟨d21_xb_0, d21_xb_1⟩ := ((((((((((((((((M_xb.out.below HB6.out).below HB7.out).below HB8.out).below HB9.out).below HB10.out).below HB11.out).below HB12.out).below HB13.out).below HB14.out).below HB15.out).below HB16.out).below HB17.out).below HB18.out).below HB19.out).below HB20.out).below HB21.out)
               clear h_v1 n_v1 hb Cx22)
            | (go_at_call 61; (with_reducible refine (Cx23.out _ _ _ (((((((((((((((((H_b.out.below HB5.out).below HB6.out).below HB7.out).below HB8.out).below HB9.out).below HB10.out).below HB11.out).below HB12.out).below HB13.out).below HB14.out).below HB15.out).below HB16.out).below HB17.out).below HB18.out).below HB19.out).below HB20.out).below HB21.out) (((((((((((((((((((H_a.out.below HB3.out).below HB4.out).below HB5.out).below HB6.out).below HB7.out).below HB8.out).below HB9.out).below HB10.out).below HB11.out).below HB12.out).below HB13.out).below HB14.out).below HB15.out).below HB16.out).below HB17.out).below HB18.out).below HB19.out).below HB20.out).below HB21.out)).mono ?_); rintro e W22 ⟨v2, rfl, ⟨h_v2, n_v2⟩, hb⟩
               have H_v2 := Lib.hid h_v2
               have N_v2 := Lib.hid n_v2
               have HB22 := Lib.hid hb
               obtain ⟨d22_xa_0, d22_xa_1⟩ := (((((((((((((((((((M_xa.out.below HB4.out).below HB5.out).below HB6.out).below HB7.out).below HB8.out).below HB9.out).below HB10.out).below HB11.out).below HB12.out).below HB13.out).below HB14.out).below HB15.out).below HB16.out).below HB17.out).below HB18.out).below HB19.out).below HB20.out).below HB21.out).below HB22.out)
               obtain ⟨d22_xb_0, d22_xb_1⟩ := (((((((((((((((((M_xb.out.below HB6.out).below HB7.out).below HB8.out).below HB9.out).below HB10.out).below HB11.out).below HB12.out).below HB13.out).below HB14.out).below HB15.out).below HB16.out).below HB17.out).below HB18.out).below HB19.out).below HB20.out).below HB21.out).below HB22.out)
               clear h_v2 n_v2 hb Cx23)
            | (go_at_call 65; (with_reducible refine (Cx24.out _ _ H_v2.out).mono ?_); rintro e W23 ⟨v3, rfl, ⟨h_v3, n_v3⟩, hb⟩
               have H_v3 := Lib.hid h_v3
               have N_v3 := Lib.hid n_v3
               have HB23 := Lib.hid hb
               obtain ⟨d23_xa_0, d23_xa_1⟩ := ((((((((((((((((((((M_xa.out.below HB4.out).below HB5.out).below HB6.out).below HB7.out).below HB8.out).below HB9.out).below HB10.out).below HB11.out).below HB12.out).below HB13.out).below HB14.out).below HB15.out).below HB16.out).below HB17.out).below HB18.out).below HB19.out).below HB20.out).below HB21.out).below HB22.out).below HB23.out)
               obtain ⟨d23_xb_0, d23_xb_1⟩ := ((((((((((((((((((M_xb.out.below HB6.out).below HB7.out).below HB8.out).below HB9.out).below HB10.out).below HB11.out).below HB12.out).below HB13.out).below HB14.out).below HB15.out).below HB16.out).below HB17.out).below HB18.out).below HB19.out).below HB20.out).below HB21.out).below HB22.out).below HB23.out)
               clear h_v3 n_v3 hb Cx24)
            | (go_at_call 56; (with_reducible refine (Cx25.out _ _ _ ((H_v1.out.below HB22.out).below HB23.out) H_v3.out).mono ?_); rintro e W24 ⟨rfl, hb⟩
               have HB24 := Lib.hid hb
               obtain ⟨d24_xa_0, d24_xa_1⟩ := (((((((((((((((((((((M_xa.out.below HB4.out).below HB5.out).below HB6.out).below HB7.out).below HB8.out).below HB9.out).below HB10.out).below HB11.out).below HB12.out).below HB13.out).below HB14.out).below HB15.out).below HB16.out).below HB17.out).below HB18.out).below HB19.out).below HB20.out).below HB21.out).below HB22.out).below HB23.out).below HB24.out)
               obtain ⟨d24_xb_0, d24_xb_1⟩ := (((((((((((((((((((M_xb.out.below HB6.out).below HB7.out).below HB8.out).below HB9.out).below HB10.out).below HB11.out).below HB12.out).below HB13.out).below HB14.out).below HB15.out).below HB16.out).below HB17.out).below HB18.out).below HB19.out).below HB20.out).below HB21.out).below HB22.out).below HB23.out).below HB24.out)
               clear hb Cx25)
            | (fail "no arm"))
          skip
          all_goals (go_ret; exact ⟨rfl, (nat.below_tr (nat.below_tr (nat.below_tr (nat.below_tr (nat.below_tr (nat.below_tr (nat.below_tr (nat.below_tr (nat.below_tr (nat.below_tr (nat.below_tr (nat.below_tr (nat.below_tr (nat.below_tr (nat.below_tr (nat.below_tr (nat.below_tr (nat.below_tr (nat.below_tr (nat.below_tr (nat.below_tr (nat.below_tr (nat.below_tr HB1.out HB2.out) HB3.out) HB4.out) HB5.out) HB6.out) HB7.out) HB8.out) HB9.out) HB10.out) HB11.out) HB12.out) HB13.out) HB14.out) HB15.out) HB16.out) HB17.out) HB18.out) HB19.out) HB20.out) HB21.out) HB22.out) HB23.out) HB24.out)⟩)
        · have HB0 := Lib.hid hb0
          clear hb0
          have cx18 := fun (W : World) (v0 : Value) (v1 : Value) (hh0 : num.IsZ W v0 zA) (hh1 : num.IsZ W v1 zB)  => num.Mul_any v0 v1 zA zB W hh0 hh1 ((show Bz zA 120 from L_zA.out).nat (by decide)) ((show Bz zB 120 from L_zB.out).nat (by decide))
          have Cx18 := Lib.hid cx18
          clear cx18
          have cx19 := fun (W : World) (v0 : Value) (hh0 : num.IsZ W v0 (zA * zB))  => num.Sign_any v0 (zA * zB) W hh0
          rw [show num.sg (zA * zB) = (1) from (by rw [num.sg_mul, show num.sg zA = 1 from (num.sg_pos HA0.out), show num.sg zB = 1 from (num.sg_pos HB0.out)]; rfl)] at cx19
          have Cx19 := Lib.hid cx19
          clear cx19
          have cx20 := fun (W : World) (v0 : Value) (hh0 : num.IsZ W v0 zA)  => num.Sign_any v0 zA W hh0
          rw [show num.sg zA = 1 from (num.sg_pos HA0.out)] at cx20
          have Cx20 := Lib.hid cx20
          clear cx20
          have cx21 := fun (W : World) (v0 : Value) (hh0 : num.IsZ W v0 zB)  => num.Sign_any v0 zB W hh0
          rw [show num.sg zB = 1 from (num.sg_pos HB0.out)] at cx21
          have Cx21 := Lib.hid cx21
          clear cx21
          have cx22 := fun (W : World) (v0 : Value) (v1 : Value) (hh0 : num.IsZ W v0 zA) (hh1 : num.IsZ W v1 zB)  => num.Sub_any v0 v1 zA zB W hh0 hh1 ((show Bz zA 120 from L_zA.out).nat (by decide)) ((show Bz zB 120 from L_zB.out).nat (by decide))
          have Cx22 := Lib.hid cx22
          clear cx22
          have cx23 := fun (W : World) (v0 : Value) (v1 : Value) (hh0 : num.IsZ W v0 zB) (hh1 : num.IsZ W v1 zA)  => num.Sub_any v0 v1 zB zA W hh0 hh1 ((show Bz zB 120 from L_zB.out).nat (by decide)) ((show Bz zA 120 from L_zA.out).nat (by decide))
          have Cx23 := Lib.hid cx23
          clear cx23
          have cx24 := fun (W : World) (v0 : Value) (hh0 : num.IsZ W v0 (zB - zA))  => num.Neg_any v0 (zB - zA) W hh0
          have Cx24 := Lib.hid cx24
          clear cx24
          have cx25 := fun (W : World) (v0 : Value) (v1 : Value) (hh0 : num.IsZ W v0 (zA - zB)) (hh1 : num.IsZ W v1 (-(zB - zA)))  => num.Cmp_b v0 v1 (zA - zB) (-(zB - zA)) W hh0 hh1 ((Bz_sub (show Bz zA 120 from L_zA.out) (show Bz zB 120 from L_zB.out)).nat (by decide)) ((Bz_neg (Bz_sub (show Bz zB 120 from L_zB.out) (show Bz zA 120 from L_zA.out))).nat (by decide))
          rw [cmp3_eqZ (show (zA - zB) = (-(zB - zA)) from (by omega))] at cx25
          have Cx25 := Lib.hid cx25
          clear cx25
          go_wp2_with (first
            | (go_at_call 54; (with_reducible refine (Cx18.out _ _ _ (((((((((((((((((H_a.out.below HB3.out).below HB4.out).below HB5.out).below HB6.out).below HB7.out).below HB8.out).below HB9.out).below HB10.out).below HB11.out).below HB12.out).below HB13.out).below HB14.out).below HB15.out).below HB16.out).below HB17.out).below HB18.out).below HB19.out) (((((((((((((((H_b.out.below HB5.out).below HB6.out).below HB7.out).below HB8.out).below HB9.out).below HB10.out).below HB11.out).below HB12.out).below HB13.out).below HB14.out).below HB15.out).below HB16.out).below HB17.out).below HB18.out).below HB19.out)).mono ?_); rintro e W20 ⟨u6, rfl, ⟨h_u6, n_u6⟩, hb⟩
               have H_u6 := Lib.hid h_u6
               have N_u6 := Lib.hid n_u6
               have HB20 := Lib.hid hb
               obtain ⟨d20_xa_0, d20_xa_1⟩ := (((((((((((((((((M_xa.out.below HB4.out).below HB5.out).below HB6.out).below HB7.out).below HB8.out).below HB9.out).below HB10.out).below HB11.out).below HB12.out).below HB13.out).below HB14.out).below HB15.out).below HB16.out).below HB17.out).below HB18.out).below HB19.out).below HB20.out)
               obtain ⟨d20_xb_0, d20_xb_1⟩ := (((((((((((((((M_xb.out.below HB6.out).below HB7.out).below HB8.out).below HB9.out).below HB10.out).below HB11.out).below HB12.out).below HB13.out).below HB14.out).below HB15.out).below HB16.out).below HB17.out).below HB18.out).below HB19.out).below HB20.out)
               clear h_u6 n_u6 hb Cx18)
            | (go_at_call 67; (with_reducible refine (Cx19.out _ _ H_u6.out).mono ?_); rintro e w9 ⟨rfl, rfl⟩
               clear Cx19)
            | (go_at_call 67; (with_reducible refine (Cx20.out _ _ ((((((((((((((((((H_a.out.below HB3.out).below HB4.out).below HB5.out).below HB6.out).below HB7.out).below HB8.out).below HB9.out).below HB10.out).below HB11.out).below HB12.out).below HB13.out).below HB14.out).below HB15.out).below HB16.out).below HB17.out).below HB18.out).below HB19.out).below HB20.out)).mono ?_); rintro e w9 ⟨rfl, rfl⟩
               clear Cx20)
            | (go_at_call 67; (with_reducible refine (Cx21.out _ _ ((((((((((((((((H_b.out.below HB5.out).below HB6.out).below HB7.out).below HB8.out).below HB9.out).below HB10.out).below HB11.out).below HB12.out).below HB13.out).below HB14.out).below HB15.out).below HB16.out).below HB17.out).below HB18.out).below HB19.out).below HB20.out)).mono ?_); rintro e w9 ⟨rfl, rfl⟩
               clear Cx21)
            | (go_at_call 61; (with_reducible refine (Cx22.out _ _ _ ((((((((((((((((((H_a.out.below HB3.out).below HB4.out).below HB5.out).below HB6.out).below HB7.out).below HB8.out).below HB9.out).below HB10.out).below HB11.out).below HB12.out).below HB13.out).below HB14.out).below HB15.out).below HB16.out).below HB17.out).below HB18.out).below HB19.out).below HB20.out) ((((((((((((((((H_b.out.below HB5.out).below HB6.out).below HB7.out).below HB8.out).below HB9.out).below HB10.out).below HB11.out).below HB12.out).below HB13.out).below HB14.out).below HB15.out).below HB16.out).below HB17.out).below HB18.out).below HB19.out).below HB20.out)).mono ?_); rintro e W21 ⟨v1, rfl, ⟨h_v1, n_v1⟩, hb⟩
               have H_v1 := Lib.hid h_v1
               have N_v1 := Lib.hid n_v1
               have HB21 := Lib.hid hb
               obtain ⟨d21_xa_0, d21_xa_1⟩ := ((((((((((((((((((M_xa.out.below HB4.out).below HB5.out).below HB6.out).below HB7.out).below HB8.out).below HB9.out).below HB10.out).below HB11.out).below HB12.out).below HB13.out).below HB14.out).below HB15.out).below HB16.out).below HB17.out).below HB18.out).below HB19.out).below HB20.out).below HB21.out)
               obtain ⟨d21_xb_0, d21_xb_1⟩ := ((((((((((((((((M_xb.out.below HB6.out).below HB7.out).below HB8.out).below HB9.out).below HB10.out).below HB11.out).below HB12.out).below HB13.out).below HB14.out).below HB15.out).below HB16.out).below HB17.out).below HB18.out).below HB19.out).below HB20.out).below HB21.out)
               clear h_v1 n_v1 hb Cx22)
            | (go_at_call 61; (with_reducible refine (Cx23.out _ _ _ (((((((((((((((((H_b.out.below HB5.out).below HB6.out).below HB7.out).below HB8.out).below HB9.out).below HB10.out).below HB11.out).below HB12.out).below HB13.out).below HB14.out).below HB15.out).below HB16.out).below HB17.out).below HB18.out).below HB19.out).below HB20.out).below HB21.out) (((((((((((((((((((H_a.out.below HB3.out).below HB4.out).below HB5.out).below HB6.out).below HB7.out).below HB8.out).below HB9.out).below HB10.out).below HB11.out).below HB12.out).below HB13.out).below HB14.out).below HB15.out).below HB16.out).below HB17.out).below HB18.out).below HB19.out).below HB20.out).below HB21.out)).mono ?_); rintro e W22 ⟨v2, rfl, ⟨h_v2, n_v2⟩, hb⟩
               have H_v2 := Lib.hid h_v2
               have N_v2 := Lib.hid n_v2
               have HB22 := Lib.hid hb
               obtain ⟨d22_xa_0, d22_xa_1⟩ := (((((((((((((((((((M_xa.out.below HB4.out).below HB5.out).below HB6.out).below HB7.out).below HB8.out).below HB9.out).below HB10.out).below HB11.out).below HB12.out).below HB13.out).below HB14.out).below HB15.out).below HB16.out).below HB17.out).below HB18.out).below HB19.out).below HB20.out).below HB21.out).below HB22.out)
               obtain ⟨d22_xb_0, d22_xb_1⟩ := (((((((((((((((((M_xb.out.below HB6.out).below HB7.out).below HB8.out).below HB9.out).below HB10.out).below HB11.out).below HB12.out).below HB13.out).below HB14.out).below HB15.out).below HB16.out).below HB17.out).below HB18.out).below HB19.out).below HB20.out).below HB21.out).below HB22.out)
               clear h_v2 n_v2 hb Cx23)
            | (go_at_call 65; (with_reducible refine (Cx24.out _ _ H_v2.out).mono ?_); rintro e W23 ⟨v3, rfl, ⟨h_v3, n_v3⟩, hb⟩
               have H_v3 := Lib.hid h_v3
               have N_v3 := Lib.hid n_v3
               have HB23 := Lib.hid hb
               obtain ⟨d23_xa_0, d23_xa_1⟩ := ((((((((((((((((((((M_xa.out.below HB4.out).below HB5.out).below HB6.out).below HB7.out).below HB8.out).below HB9.out).below HB10.out).below HB11.out).below HB12.out).below HB13.out).below HB14.out).below HB15.out).below HB16.out).below HB17.out).below HB18.out).below HB19.out).below HB20.out).below HB21.out).below HB22.out).below HB23.out)
               obtain ⟨d23_xb_0, d23_xb_1⟩ := ((((((((((((((((((M_xb.out.below HB6.out).below HB7.out).below HB8.out).below HB9.out).below HB10.out).below HB11.out).below HB12.out).below HB13.out).below HB14.out).below HB15.out).below HB16.out).below HB17.out).below HB18.out).below HB19.out).below HB20.out).below HB21.out).below HB22.out).below HB23.out)
               clear h_v3 n_v3 hb Cx24)
            | (go_at_call 56; (with_reducible refine (Cx25.out _ _ _ ((H_v1.out.below HB22.out).below HB23.out) H_v3.out).mono ?_); rintro e W24 ⟨rfl, hb⟩
               have HB24 := Lib.hid hb
               obtain ⟨d24_xa_0, d24_xa_1⟩ := (((((((((((((((((((((M_xa.out.below HB4.out).below HB5.out).below HB6.out).below HB7.out).below HB8.out).below HB9.out).below HB10.out).below HB11.out).below HB12.out).below HB13.out).below HB14.out).below HB15.out).below HB16.out).below HB17.out).below HB18.out).below HB19.out).below HB20.out).below HB21.out).below HB22.out).below HB23.out).below HB24.out)
               obtain ⟨d24_xb_0, d24_xb_1⟩ := (((((((((((((((((((M_xb.out.below HB6.out).below HB7.out).below HB8.out).below HB9.out).below HB10.out).below HB11.out).below HB12.out).below HB13.out).below HB14.out).below HB15.out).below HB16.out).below HB17.out).below HB18.out).below HB19.out).below HB20.out).below HB21.out).below HB22.out).below HB23.out).below HB24.out)
               clear hb Cx25)
            | (fail "no arm"))
          skip
          all_goals (go_ret; exact ⟨rfl, (nat.below_tr (nat.below_tr (nat.below_tr (nat.below_tr (nat.below_tr (nat.below_tr (nat.below_tr (nat.below_tr (nat.below_tr (nat.below_tr (nat.below_tr (nat.below_tr (nat.below_tr (nat.below_tr (nat.below_tr (nat.below_tr (nat.below_tr (nat.below_tr (nat.below_tr (nat.below_tr (nat.below_tr (nat.below_tr (nat.below_tr HB1.out HB2.out) HB3.out) HB4.out) HB5.out) HB6.out) HB7.out) HB8.out) HB9.out) HB10.out) HB11.out) HB12.out) HB13.out) HB14.out) HB15.out) HB16.out) HB17.out) HB18.out) HB19.out) HB20.out) HB21.out) HB22.out) HB23.out) HB24.out)⟩)
    · have HR := Lib.hid hr
      clear hr
      have HSR := Lib.hid (show num.sg (Int.fmod zA zB) = sB from by
        rw [← HSB.out]
        rcases Int.lt_or_gt_of_ne HBN.out with h | h
        · rw [num.sg_fmod_neg h HR.out, num.sg_neg h]
        · rw [num.sg_fmod_pos h HR.out, num.sg_pos h])
      have c1 := fun (W : World) (v0 : Value) (hh0 : num.IsZ W v0 zB)  => num.Sign_any v0 zB W hh0
      rw [HSB.out] at c1
      have C1 := Lib.hid c1
      clear c1
      have c2 := fun (W : World) (v0 : Value) (v1 : Value) (hh0 : num.IsZ W v0 zA) (hh1 : num.IsZ W v1 zB)  => num.Div_any v0 v1 zA zB W hh0 hh1 ((show Bz zA 120 from L_zA.out).nat (by decide)) ((show Bz zB 120 from L_zB.out).nat (by decide)) HBN.out
      have C2 := Lib.hid c2
      clear c2
      have c3 := fun (W : World) (v0 : Value) (v1 : Value) (hh0 : num.IsZ W v0 (Int.fdiv zA zB)) (hh1 : num.IsZ W v1 zB)  => num.Mul_any v0 v1 (Int.fdiv zA zB) zB W hh0 hh1 ((Bz_fdiv (show Bz zA 120 from L_zA.out)).nat (by decide)) ((show Bz zB 120 from L_zB.out).nat (by decide))
      have C3 := Lib.hid c3
      clear c3
      have c4 := fun (W : World) (v0 : Value) (v1 : Value) (hh0 : num.IsZ W v0 ((Int.fdiv zA zB) * zB)) (hh1 : num.IsZ W v1 (Int.fmod zA zB))  => num.Add_any v0 v1 ((Int.fdiv zA zB) * zB) (Int.fmod zA zB) W hh0 hh1 ((Bz_mul (Bz_fdiv (show Bz zA 120 from L_zA.out)) (show Bz zB 120 from L_zB.out)).nat (by decide)) ((Bz_fmod zA HBN.out (show Bz zB 120 from L_zB.out)).nat (by decide))
      have C4 := Lib.hid c4
      clear c4
      have c5 := fun (W : World) (v0 : Value) (v1 : Value) (hh0 : num.IsZ W v0 (((Int.fdiv zA zB) * zB) + (Int.fmod zA zB))) (hh1 : num.IsZ W v1 zA)  => num.Cmp_b v0 v1 (((Int.fdiv zA zB) * zB) + (Int.fmod zA zB)) zA W hh0 hh1 ((Bz_add (Bz_mul (Bz_fdiv (show Bz zA 120 from L_zA.out)) (show Bz zB 120 from L_zB.out)) (Bz_fmod zA HBN.out (show Bz zB 120 from L_zB.out))).nat (by decide)) ((show Bz zA 120 from L_zA.out).nat (by decide))
      rw [cmp3_eqZ (show (((Int.fdiv zA zB) * zB) + (Int.fmod zA zB)) = zA from (by rw [Int.mul_comm]; exact Int.mul_fdiv_add_fmod _ _))] at c5
      have C5 := Lib.hid c5
      clear c5
      have c6 := fun (W : World) (v0 : Value) (hh0 : num.IsZ W v0 (Int.fmod zA zB))  => num.Sign_any v0 (Int.fmod zA zB) W hh0
      rw [HSR.out] at c6
      have C6 := Lib.hid c6
      clear c6
      have c7 := fun (W : World) (v0 : Value) (hh0 : num.IsZ W v0 (Int.fmod zA zB))  => num.Sign_any v0 (Int.fmod zA zB) W hh0
      rw [HSR.out] at c7
      have C7 := Lib.hid c7
      clear c7
      have c8 := fun (W : World) (v0 : Value) (hh0 : num.IsZ W v0 zB)  => num.Sign_any v0 zB W hh0
      rw [HSB.out] at c8
      have C8 := Lib.hid c8
      clear c8
      have c9 := fun (W : World) (v0 : Value) (hh0 : num.IsZ W v0 (Int.fmod zA zB))  => num.Abs_any v0 (Int.fmod zA zB) W hh0
      have C9 := Lib.hid c9
      clear c9
      have c10 := fun (W : World) (v0 : Value) (hh0 : num.IsZ W v0 zB)  => num.Abs_any v0 zB W hh0
      have C10 := Lib.hid c10
      clear c10
      have c11 := fun (W : World) (v0 : Value) (v1 : Value) (hh0 : nat.IsN W v0 (Int.natAbs (Int.fmod zA zB))) (hh1 : nat.IsN W v1 (Int.natAbs zB))  => nat.Cmp_b v0 v1 (Int.natAbs (Int.fmod zA zB)) (Int.natAbs zB) W hh0 hh1 ((Bn_abs (Bz_fmod zA HBN.out (show Bz zB 120 from L_zB.out))).nat (by decide)) ((Bn_abs (show Bz zB 120 from L_zB.out)).nat (by decide))
      rw [cmp3_ltN (show (Int.natAbs (Int.fmod zA zB)) < (Int.natAbs zB) from num.fmod_lt HBN.out)] at c11
      have C11 := Lib.hid c11
      clear c11
      have c12 := fun (W : World) (v0 : Value) (v1 : Value) (hh0 : num.IsZ W v0 zA) (hh1 : num.IsZ W v1 zA)  => num.Sub_any v0 v1 zA zA W hh0 hh1 ((show Bz zA 120 from L_zA.out).nat (by decide)) ((show Bz zA 120 from L_zA.out).nat (by decide))
      have C12 := Lib.hid c12
      clear c12
      have c13 := fun (W : World) (v0 : Value) (hh0 : num.IsZ W v0 (zA - zA))  => num.Sign_any v0 (zA - zA) W hh0
      rw [show num.sg (zA - zA) = 0 from (num.sg_zero (Int.sub_self _))] at c13
      have C13 := Lib.hid c13
      clear c13
      have c14 := fun (W : World) (v0 : Value) (hh0 : num.IsZ W v0 zA)  => num.Neg_any v0 zA W hh0
      have C14 := Lib.hid c14
      clear c14
      have c15 := fun (W : World) (v0 : Value) (hh0 : num.IsZ W v0 (-zA))  => num.Neg_any v0 (-zA) W hh0
      have C15 := Lib.hid c15
      clear c15
      have c16 := fun (W : World) (v0 : Value) (v1 : Value) (hh0 : num.IsZ W v0 (-(-zA))) (hh1 : num.IsZ W v1 zA)  => num.Cmp_b v0 v1 (-(-zA)) zA W hh0 hh1 ((Bz_neg (Bz_neg (show Bz zA 120 from L_zA.out))).nat (by decide)) ((show Bz zA 120 from L_zA.out).nat (by decide))
      rw [cmp3_eqZ (show (-(-zA)) = zA from (Int.neg_neg _))] at c16
      have C16 := Lib.hid c16
      clear c16
      have c17 := fun (W : World) (v0 : Value) (v1 : Value) (hh0 : num.IsZ W v0 zA) (hh1 : num.IsZ W v1 zB)  => num.Add_any v0 v1 zA zB W hh0 hh1 ((show Bz zA 120 from L_zA.out).nat (by decide)) ((show Bz zB 120 from L_zB.out).nat (by decide))
      have C17 := Lib.hid c17
      clear c17
      have c18 := fun (W : World) (v0 : Value) (v1 : Value) (hh0 : num.IsZ W v0 (zA + zB)) (hh1 : num.IsZ W v1 zB)  => num.Sub_any v0 v1 (zA + zB) zB W hh0 hh1 ((Bz_add (show Bz zA 120 from L_zA.out) (show Bz zB 120 from L_zB.out)).nat (by decide)) ((show Bz zB 120 from L_zB.out).nat (by decide))
      have C18 := Lib.hid c18
      clear c18
      have c19 := fun (W : World) (v0 : Value) (v1 : Value) (hh0 : num.IsZ W v0 ((zA + zB) - zB)) (hh1 : num.IsZ W v1 zA)  => num.Cmp_b v0 v1 ((zA + zB) - zB) zA W hh0 hh1 ((Bz_sub (Bz_add (show Bz zA 120 from L_zA.out) (show Bz zB 120 from L_zB.out)) (show Bz zB 120 from L_zB.out)).nat (by decide)) ((show Bz zA 120 from L_zA.out).nat (by decide))
      rw [cmp3_eqZ (show ((zA + zB) - zB) = zA from (Int.add_sub_cancel _ _))] at c19
      have C19 := Lib.hid c19
      clear c19
      go_wp2_with (first
        | (go_at_call 67; (with_reducible refine (C1.out _ _ (H_b.out.below HB5.out)).mono ?_); rintro e w9 ⟨rfl, rfl⟩
           clear C1)
        | (go_at_call 50; (with_reducible refine (C2.out _ _ _ (((H_a.out.below HB3.out).below HB4.out).below HB5.out) (H_b.out.below HB5.out)).mono ?_); rintro e W6 ⟨q, r, rfl, ⟨h_q, n_q⟩, ⟨h_r, n_r⟩, hb⟩
           have H_q := Lib.hid h_q
           have N_q := Lib.hid n_q
           have H_r := Lib.hid h_r
           have N_r := Lib.hid n_r
           have HB6 := Lib.hid hb
           obtain ⟨d6_xa_0, d6_xa_1⟩ := (((M_xa.out.below HB4.out).below HB5.out).below HB6.out)
           obtain ⟨d6_xb_0, d6_xb_1⟩ := (M_xb.out.below HB6.out)
           clear h_q n_q h_r n_r hb C2)
        | (go_at_call 54; (with_reducible refine (C3.out _ _ _ H_q.out ((H_b.out.below HB5.out).below HB6.out)).mono ?_); rintro e W7 ⟨x1, rfl, ⟨h_x1, n_x1⟩, hb⟩
           have H_x1 := Lib.hid h_x1
           have N_x1 := Lib.hid n_x1
           have HB7 := Lib.hid hb
           obtain ⟨d7_xa_0, d7_xa_1⟩ := ((((M_xa.out.below HB4.out).below HB5.out).below HB6.out).below HB7.out)
           obtain ⟨d7_xb_0, d7_xb_1⟩ := ((M_xb.out.below HB6.out).below HB7.out)
           clear h_x1 n_x1 hb C3)
        | (go_at_call 55; (with_reducible refine (C4.out _ _ _ H_x1.out (H_r.out.below HB7.out)).mono ?_); rintro e W8 ⟨x2, rfl, ⟨h_x2, n_x2⟩, hb⟩
           have H_x2 := Lib.hid h_x2
           have N_x2 := Lib.hid n_x2
           have HB8 := Lib.hid hb
           obtain ⟨d8_xa_0, d8_xa_1⟩ := (((((M_xa.out.below HB4.out).below HB5.out).below HB6.out).below HB7.out).below HB8.out)
           obtain ⟨d8_xb_0, d8_xb_1⟩ := (((M_xb.out.below HB6.out).below HB7.out).below HB8.out)
           clear h_x2 n_x2 hb C4)
        | (go_at_call 56; (with_reducible refine (C5.out _ _ _ H_x2.out ((((((H_a.out.below HB3.out).below HB4.out).below HB5.out).below HB6.out).below HB7.out).below HB8.out)).mono ?_); rintro e W9 ⟨rfl, hb⟩
           have HB9 := Lib.hid hb
           obtain ⟨d9_xa_0, d9_xa_1⟩ := ((((((M_xa.out.below HB4.out).below HB5.out).below HB6.out).below HB7.out).below HB8.out).below HB9.out)
           obtain ⟨d9_xb_0, d9_xb_1⟩ := ((((M_xb.out.below HB6.out).below HB7.out).below HB8.out).below HB9.out)
           clear hb C5)
        | (go_at_call 67; (with_reducible refine (C6.out _ _ (((H_r.out.below HB7.out).below HB8.out).below HB9.out)).mono ?_); rintro e w9 ⟨rfl, rfl⟩
           clear C6)
        | (go_at_call 67; (with_reducible refine (C7.out _ _ (((H_r.out.below HB7.out).below HB8.out).below HB9.out)).mono ?_); rintro e w9 ⟨rfl, rfl⟩
           clear C7)
        | (go_at_call 67; (with_reducible refine (C8.out _ _ (((((H_b.out.below HB5.out).below HB6.out).below HB7.out).below HB8.out).below HB9.out)).mono ?_); rintro e w9 ⟨rfl, rfl⟩
           clear C8)
        | (go_at_call 66; (with_reducible refine (C9.out _ _ (((H_r.out.below HB7.out).below HB8.out).below HB9.out)).mono ?_); rintro e W10 ⟨y1, rfl, ⟨h_y1, n_y1⟩, hb⟩
           have H_y1 := Lib.hid h_y1
           have N_y1 := Lib.hid n_y1
           have HB10 := Lib.hid hb
           obtain ⟨d10_xa_0, d10_xa_1⟩ := (((((((M_xa.out.below HB4.out).below HB5.out).below HB6.out).below HB7.out).below HB8.out).below HB9.out).below HB10.out)
           obtain ⟨d10_xb_0, d10_xb_1⟩ := (((((M_xb.out.below HB6.out).below HB7.out).below HB8.out).below HB9.out).below HB10.out)
           clear h_y1 n_y1 hb C9)
        | (go_at_call 66; (with_reducible refine (C10.out _ _ ((((((H_b.out.below HB5.out).below HB6.out).below HB7.out).below HB8.out).below HB9.out).below HB10.out)).mono ?_); rintro e W11 ⟨y2, rfl, ⟨h_y2, n_y2⟩, hb⟩
           have H_y2 := Lib.hid h_y2
           have N_y2 := Lib.hid n_y2
           have HB11 := Lib.hid hb
           obtain ⟨d11_xa_0, d11_xa_1⟩ := ((((((((M_xa.out.below HB4.out).below HB5.out).below HB6.out).below HB7.out).below HB8.out).below HB9.out).below HB10.out).below HB11.out)
           obtain ⟨d11_xb_0, d11_xb_1⟩ := ((((((M_xb.out.below HB6.out).below HB7.out).below HB8.out).below HB9.out).below HB10.out).below HB11.out)
           clear h_y2 n_y2 hb C10)
        | (go_at_call 39; (with_reducible refine (C11.out _ _ _ (H_y1.out.below HB11.out) H_y2.out).mono ?_); rintro e W12 ⟨rfl, hb⟩
           have HB12 := Lib.hid hb
           obtain ⟨d12_xa_0, d12_xa_1⟩ := (((((((((M_xa.out.below HB4.out).below HB5.out).below HB6.out).below HB7.out).below HB8.out).below HB9.out).below HB10.out).below HB11.out).below HB12.out)
           obtain ⟨d12_xb_0, d12_xb_1⟩ := (((((((M_xb.out.below HB6.out).below HB7.out).below HB8.out).below HB9.out).below HB10.out).below HB11.out).below HB12.out)
           clear hb C11)
        | (go_at_call 61; (with_reducible refine (C12.out _ _ _ ((((((((((H_a.out.below HB3.out).below HB4.out).below HB5.out).below HB6.out).below HB7.out).below HB8.out).below HB9.out).below HB10.out).below HB11.out).below HB12.out) ((((((((((H_a.out.below HB3.out).below HB4.out).below HB5.out).below HB6.out).below HB7.out).below HB8.out).below HB9.out).below HB10.out).below HB11.out).below HB12.out)).mono ?_); rintro e W13 ⟨u1, rfl, ⟨h_u1, n_u1⟩, hb⟩
           have H_u1 := Lib.hid h_u1
           have N_u1 := Lib.hid n_u1
           have HB13 := Lib.hid hb
           obtain ⟨d13_xa_0, d13_xa_1⟩ := ((((((((((M_xa.out.below HB4.out).below HB5.out).below HB6.out).below HB7.out).below HB8.out).below HB9.out).below HB10.out).below HB11.out).below HB12.out).below HB13.out)
           obtain ⟨d13_xb_0, d13_xb_1⟩ := ((((((((M_xb.out.below HB6.out).below HB7.out).below HB8.out).below HB9.out).below HB10.out).below HB11.out).below HB12.out).below HB13.out)
           clear h_u1 n_u1 hb C12)
        | (go_at_call 67; (with_reducible refine (C13.out _ _ H_u1.out).mono ?_); rintro e w9 ⟨rfl, rfl⟩
           clear C13)
        | (go_at_call 65; (with_reducible refine (C14.out _ _ (((((((((((H_a.out.below HB3.out).below HB4.out).below HB5.out).below HB6.out).below HB7.out).below HB8.out).below HB9.out).below HB10.out).below HB11.out).below HB12.out).below HB13.out)).mono ?_); rintro e W14 ⟨u2, rfl, ⟨h_u2, n_u2⟩, hb⟩
           have H_u2 := Lib.hid h_u2
           have N_u2 := Lib.hid n_u2
           have HB14 := Lib.hid hb
           obtain ⟨d14_xa_0, d14_xa_1⟩ := (((((((((((M_xa.out.below HB4.out).below HB5.out).below HB6.out).below HB7.out).below HB8.out).below HB9.out).below HB10.out).below HB11.out).below HB12.out).below HB13.out).below HB14.out)
           obtain ⟨d14_xb_0, d14_xb_1⟩ := (((((((((M_xb.out.below HB6.out).below HB7.out).below HB8.out).below HB9.out).below HB10.out).below HB11.out).below HB12.out).below HB13.out).below HB14.out)
           clear h_u2 n_u2 hb C14)
        | (go_at_call 65; (with_reducible refine (C15.out _ _ H_u2.out).mono ?_); rintro e W15 ⟨u3, rfl, ⟨h_u3, n_u3⟩, hb⟩
           have H_u3 := Lib.hid h_u3
           have N_u3 := Lib.hid n_u3
           have HB15 := Lib.hid hb
           obtain ⟨d15_xa_0, d15_xa_1⟩ := ((((((((((((M_xa.out.below HB4.out).below HB5.out).below HB6.out).below HB7.out).below HB8.out).below HB9.out).below HB10.out).below HB11.out).below HB12.out).below HB13.out).below HB14.out).below HB15.out)
           obtain ⟨d15_xb_0, d15_xb_1⟩ := ((((((((((M_xb.out.below HB6.out).below HB7.out).below HB8.out).below HB9.out).below HB10.out).below HB11.out).below HB12.out).below HB13.out).below HB14.out).below HB15.out)
           clear h_u3 n_u3 hb C15)
        | (go_at_call 56; (with_reducible refine (C16.out _ _ _ H_u3.out (((((((((((((H_a.out.below HB3.out).below HB4.out).below HB5.out).below HB6.out).below HB7.out).below HB8.out).below HB9.out).below HB10.out).below HB11.out).below HB12.out).below HB13.out).below HB14.out).below HB15.out)).mono ?_); rintro e W16 ⟨rfl, hb⟩
           have HB16 := Lib.hid hb
           obtain ⟨d16_xa_0, d16_xa_1⟩ := (((((((((((((M_xa.out.below HB4.out).below HB5.out).below HB6.out).below HB7.out).below HB8.out).below HB9.out).below HB10.out).below HB11.out).below HB12.out).below HB13.out).below HB14.out).below HB15.out).below HB16.out)
           obtain ⟨d16_xb_0, d16_xb_1⟩ := (((((((((((M_xb.out.below HB6.out).below HB7.out).below HB8.out).below HB9.out).below HB10.out).below HB11.out).below HB12.out).below HB13.out).below HB14.out).below HB15.out).below HB16.out)
           clear hb C16)
        | (go_at_call 55; (with_reducible refine (C17.out _ _ _ ((((((((((((((H_a.out.below HB3.out).below HB4.out).below HB5.out).below HB6.out).below HB7.out).below HB8.out).below HB9.out).below HB10.out).below HB11.out).below HB12.out).below HB13.out).below HB14.out).below HB15.out).below HB16.out) ((((((((((((H_b.out.below HB5.out).below HB6.out).below HB7.out).below HB8.out).below HB9.out).below HB10.out).below HB11.out).below HB12.out).below HB13.out).below HB14.out).below HB15.out).below HB16.out)).mono ?_); rintro e W17 ⟨u4, rfl, ⟨h_u4, n_u4⟩, hb⟩
           have H_u4 := Lib.hid h_u4
           have N_u4 := Lib.hid n_u4
           have HB17 := Lib.hid hb
           obtain ⟨d17_xa_0, d17_xa_1⟩ := ((((((((((((((M_xa.out.below HB4.out).below HB5.out).below HB6.out).below HB7.out).below HB8.out).below HB9.out).below HB10.out).below HB11.out).below HB12.out).below HB13.out).below HB14.out).below HB15.out).below HB16.out).below HB17.out)
           obtain ⟨d17_xb_0, d17_xb_1⟩ := ((((((((((((M_xb.out.below HB6.out).below HB7.out).below HB8.out).below HB9.out).below HB10.out).below HB11.out).below HB12.out).below HB13.out).below HB14.out).below HB15.out).below HB16.out).below HB17.out)
           clear h_u4 n_u4 hb C17)
        | (go_at_call 61; (with_reducible refine (C18.out _ _ _ H_u4.out (((((((((((((H_b.out.below HB5.out).below HB6.out).below HB7.out).below HB8.out).below HB9.out).below HB10.out).below HB11.out).below HB12.out).below HB13.out).below HB14.out).below HB15.out).below HB16.out).below HB17.out)).mono ?_); rintro e W18 ⟨u5, rfl, ⟨h_u5, n_u5⟩, hb⟩
           have H_u5 := Lib.hid h_u5
           have N_u5 := Lib.hid n_u5
           have HB18 := Lib.hid hb
           obtain ⟨d18_xa_0, d18_xa_1⟩ := (((((((((((((((M_xa.out.below HB4.out).below HB5.out).below HB6.out).below HB7.out).below HB8.out).below HB9.out).below HB10.out).below HB11.out).below HB12.out).below HB13.out).below HB14.out).below HB15.out).below HB16.out).below HB17.out).below HB18.out)
           obtain ⟨d18_xb_0, d18_xb_1⟩ := (((((((((((((M_xb.out.below HB6.out).below HB7.out).below HB8.out).below HB9.out).below HB10.out).below HB11.out).below HB12.out).below HB13.out).below HB14.out).below HB15.out).below HB16.out).below HB17.out).below HB18.out)
           clear h_u5 n_u5 hb C18)
        | (go_at_call 56; (with_reducible refine (C19.out _ _ _ H_u5.out ((((((((((((((((H_a.out.below HB3.out).below HB4.out).below HB5.out).below HB6.out).below HB7.out).below HB8.out).below HB9.out).below HB10.out).below HB11.out).below HB12.out).below HB13.out).below HB14.out).below HB15.out).below HB16.out).below HB17.out).below HB18.out)).mono ?_); rintro e W19 ⟨rfl, hb⟩
           have HB19 := Lib.hid hb
           obtain ⟨d19_xa_0, d19_xa_1⟩ := ((((((((((((((((M_xa.out.below HB4.out).below HB5.out).below HB6.out).below HB7.out).below HB8.out).below HB9.out).below HB10.out).below HB11.out).below HB12.out).below HB13.out).below HB14.out).below HB15.out).below HB16.out).below HB17.out).below HB18.out).below HB19.out)
           obtain ⟨d19_xb_0, d19_xb_1⟩ := ((((((((((((((M_xb.out.below HB6.out).below HB7.out).below HB8.out).below HB9.out).below HB10.out).below HB11.out).below HB12.out).below HB13.out).below HB14.out).below HB15.out).below HB16.out).below HB17.out).below HB18.out).below HB19.out)
           clear hb C19)
        | (fail "no arm"))
      rcases (show zA < 0 ∨ zA = 0 ∨ 0 < zA by omega) with ha0 | ha0 | ha0
      · have HA0 := Lib.hid ha0
        clear ha0
        rcases Int.lt_or_gt_of_ne HBN.out with hb0 | hb0
        · have HB0 := Lib.hid hb0
          clear hb0
          have cx20 := fun (W : World) (v0 : Value) (v1 : Value) (hh0 : num.IsZ W v0 zA) (hh1 : num.IsZ W v1 zB)  => num.Mul_any v0 v1 zA zB W hh0 hh1 ((show Bz zA 120 from L_zA.out).nat (by decide)) ((show Bz zB 120 from L_zB.out).nat (by decide))
          have Cx20 := Lib.hid cx20
          clear cx20
          have cx21 := fun (W : World) (v0 : Value) (hh0 : num.IsZ W v0 (zA * zB))  => num.Sign_any v0 (zA * zB) W hh0
          rw [show num.sg (zA * zB) = (1) from (by rw [num.sg_mul, show num.sg zA = (-1) from (num.sg_neg HA0.out), show num.sg zB = (-1) from (num.sg_neg HB0.out)]; rfl)] at cx21
          have Cx21 := Lib.hid cx21
          clear cx21
          have cx22 := fun (W : World) (v0 : Value) (hh0 : num.IsZ W v0 zA)  => num.Sign_any v0 zA W hh0
          rw [show num.sg zA = (-1) from (num.sg_neg HA0.out)] at cx22
          have Cx22 := Lib.hid cx22
          clear cx22
          have cx23 := fun (W : World) (v0 : Value) (hh0 : num.IsZ W v0 zB)  => num.Sign_any v0 zB W hh0
          rw [show num.sg zB = (-1) from (num.sg_neg HB0.out)] at cx23
          have Cx23 := Lib.hid cx23
          clear cx23
          have cx24 := fun (W : World) (v0 : Value) (v1 : Value) (hh0 : num.IsZ W v0 zA) (hh1 : num.IsZ W v1 zB)  => num.Sub_any v0 v1 zA zB W hh0 hh1 ((show Bz zA 120 from L_zA.out).nat (by decide)) ((show Bz zB 120 from L_zB.out).nat (by decide))
          have Cx24 := Lib.hid cx24
          clear cx24
          have cx25 := fun (W : World) (v0 : Value) (v1 : Value) (hh0 : num.IsZ W v0 zB) (hh1 : num.IsZ W v1 zA)  => num.Sub_any v0 v1 zB zA W hh0 hh1 ((show Bz zB 120 from L_zB.out).nat (by decide)) ((show Bz zA 120 from L_zA.out).nat (by decide))
          have Cx25 := Lib.hid cx25
          clear cx25
          have cx26 := fun (W : World) (v0 : Value) (hh0 : num.IsZ W v0 (zB - zA))  => num.Neg_any v0 (zB - zA) W hh0
          have Cx26 := Lib.hid cx26
          clear cx26
          have cx27 := fun (W : World) (v0 : Value) (v1 : Value) (hh0 : num.IsZ W v0 (zA - zB)) (hh1 : num.IsZ W v1 (-(zB - zA)))  => num.Cmp_b v0 v1 (zA - zB) (-(zB - zA)) W hh0 hh1 ((Bz_sub (show Bz zA 120 from L_zA.out) (show Bz zB 120 from L_zB.out)).nat (by decide)) ((Bz_neg (Bz_sub (show Bz zB 120 from L_zB.out) (show Bz zA 120 from L_zA.out))).nat (by decide))
          rw [cmp3_eqZ (show (zA - zB) = (-(zB - zA)) from (by omega))] at cx27
          have Cx27 := Lib.hid cx27
          clear cx27
          go_wp2_with (first
            | (go_at_call 54; (with_reducible refine (Cx20.out _ _ _ (((((((((((((((((H_a.out.below HB3.out).below HB4.out).below HB5.out).below HB6.out).below HB7.out).below HB8.out).below HB9.out).below HB10.out).below HB11.out).below HB12.out).below HB13.out).below HB14.out).below HB15.out).below HB16.out).below HB17.out).below HB18.out).below HB19.out) (((((((((((((((H_b.out.below HB5.out).below HB6.out).below HB7.out).below HB8.out).below HB9.out).below HB10.out).below HB11.out).below HB12.out).below HB13.out).below HB14.out).below HB15.out).below HB16.out).below HB17.out).below HB18.out).below HB19.out)).mono ?_); rintro e W20 ⟨u6, rfl, ⟨h_u6, n_u6⟩, hb⟩
               have H_u6 := Lib.hid h_u6
               have N_u6 := Lib.hid n_u6
               have HB20 := Lib.hid hb
               obtain ⟨d20_xa_0, d20_xa_1⟩ := (((((((((((((((((M_xa.out.below HB4.out).below HB5.out).below HB6.out).below HB7.out).below HB8.out).below HB9.out).below HB10.out).below HB11.out).below HB12.out).below HB13.out).below HB14.out).below HB15.out).below HB16.out).below HB17.out).below HB18.out).below HB19.out).below HB20.out)
               obtain ⟨d20_xb_0, d20_xb_1⟩ := (((((((((((((((M_xb.out.below HB6.out).below HB7.out).below HB8.out).below HB9.out).below HB10.out).below HB11.out).below HB12.out).below HB13.out).below HB14.out).below HB15.out).below HB16.out).below HB17.out).below HB18.out).below HB19.out).below HB20.out)
               clear h_u6 n_u6 hb Cx20)
            | (go_at_call 67; (with_reducible refine (Cx21.out _ _ H_u6.out).mono ?_); rintro e w9 ⟨rfl, rfl⟩
               clear Cx21)
            | (go_at_call 67; (with_reducible refine (Cx22.out _ _ ((((((((((((((((((H_a.out.below HB3.out).below HB4.out).below HB5.out).below HB6.out).below HB7.out).below HB8.out).below HB9.out).below HB10.out).below HB11.out).below HB12.out).below HB13.out).below HB14.out).below HB15.out).below HB16.out).below HB17.out).below HB18.out).below HB19.out).below HB20.out)).mono ?_); rintro e w9 ⟨rfl, rfl⟩
               clear Cx22)
            | (go_at_call 67; (with_reducible refine (Cx23.out _ _ ((((((((((((((((H_b.out.below HB5.out).below HB6.out).below HB7.out).below HB8.out).below HB9.out).below HB10.out).below HB11.out).below HB12.out).below HB13.out).below HB14.out).below HB15.out).below HB16.out).below HB17.out).below HB18.out).below HB19.out).below HB20.out)).mono ?_); rintro e w9 ⟨rfl, rfl⟩
               clear Cx23)
            | (go_at_call 61; (with_reducible refine (Cx24.out _ _ _ ((((((((((((((((((H_a.out.below HB3.out).below HB4.out).below HB5.out).below HB6.out).below HB7.out).below HB8.out).below HB9.out).below HB10.out).below HB11.out).below HB12.out).below HB13.out).below HB14.out).below HB15.out).below HB16.out).below HB17.out).below HB18.out).below HB19.out).below HB20.out) ((((((((((((((((H_b.out.below HB5.out).below HB6.out).below HB7.out).below HB8.out).below HB9.out).below HB10.out).below HB11.out).below HB12.out).below HB13.out).below HB14.out).below HB15.out).below HB16.out).below HB17.out).below HB18.out).below HB19.out).below HB20.out)).mono ?_); rintro e W21 ⟨v1, rfl, ⟨h_v1, n_v1⟩, hb⟩
               have H_v1 := Lib.hid h_v1
               have N_v1 := Lib.hid n_v1
               have HB21 := Lib.hid hb
               obtain ⟨d21_xa_0, d21_xa_1⟩ := ((((((((((((((((((M_xa.out.below HB4.out).below HB5.out).below HB6.out).below HB7.out).below HB8.out).below HB9.out).below HB10.out).below HB11.out).below HB12.out).below HB13.out).below HB14.out).below HB15.out).below HB16.out).below HB17.out).below HB18.out).below HB19.out).below HB20.out).below HB21.out)
               obtain ⟨d21_xb_0, d21_xb_1⟩ := ((((((((((((((((M_xb.out.below HB6.out).below HB7.out).below HB8.out).below HB9.out).below HB10.out).below HB11.out).below HB12.out).below HB13.out).below HB14.out).below HB15.out).below HB16.out).below HB17.out).below HB18.out).below HB19.out).below HB20.out).below HB21.out)
               clear h_v1 n_v1 hb Cx24)
            | (go_at_call 61; (with_reducible refine (Cx25.out _ _ _ (((((((((((((((((H_b.out.below HB5.out).below HB6.out).below HB7.out).below HB8.out).below HB9.out).below HB10.out).below HB11.out).below HB12.out).below HB13.out).below HB14.out).below HB15.out).below HB16.out).below HB17.out).below HB18.out).below HB19.out).below HB20.out).below HB21.out) (((((((((((((((((((H_a.out.below HB3.out).below HB4.out).below HB5.out).below HB6.out).below HB7.out).below HB8.out).below HB9.out).below HB10.out).below HB11.out).below HB12.out).below HB13.out).below HB14.out).below HB15.out).below HB16.out).below HB17.out).below HB18.out).below HB19.out).below HB20.out).below HB21.out)).mono ?_); rintro e W22 ⟨v2, rfl, ⟨h_v2, n_v2⟩, hb⟩
               have H_v2 := Lib.hid h_v2
               have N_v2 := Lib.hid n_v2
               have HB22 := Lib.hid hb
               obtain ⟨d22_xa_0, d22_xa_1⟩ := (((((((((((((((((((M_xa.out.below HB4.out).below HB5.out).below HB6.out).below HB7.out).below HB8.out).below HB9.out).below HB10.out).below HB11.out).below HB12.out).below HB13.out).below HB14.out).below HB15.out).below HB16.out).below HB17.out).below HB18.out).below HB19.out).below HB20.out).below HB21.out).below HB22.out)
               obtain ⟨d22_xb_0, d22_xb_1⟩ := (((((((((((((((((M_xb.out.below HB6.out).below HB7.out).below HB8.out).below HB9.out).below HB10.out).below HB11.out).below HB12.out).below HB13.out).below HB14.out).below HB15.out).below HB16.out).below HB17.out).below HB18.out).below HB19.out).below HB20.out).below HB21.out).below HB22.out)
               clear h_v2 n_v2 hb Cx25)
            | (go_at_call 65; (with_reducible refine (Cx26.out _ _ H_v2.out).mono ?_); rintro e W23 ⟨v3, rfl, ⟨h_v3, n_v3⟩, hb⟩
               have H_v3 := Lib.hid h_v3
               have N_v3 := Lib.hid n_v3
               have HB23 := Lib.hid hb
               obtain ⟨d23_xa_0, d23_xa_1⟩ := ((((((((((((((((((((M_xa.out.below HB4.out).below HB5.out).below HB6.out).below HB7.out).below HB8.out).below HB9.out).below HB10.out).below HB11.out).below HB12.out).below HB13.out).below HB14.out).below HB15.out).below HB16.out).below HB17.out).below HB18.out).below HB19.out).below HB20.out).below HB21.out).below HB22.out).below HB23.out)
               obtain ⟨d23_xb_0, d23_xb_1⟩ := ((((((((((((((((((M_xb.out.below HB6.out).below HB7.out).below HB8.out).below HB9.out).below HB10.out).below HB11.out).below HB12.out).below HB13.out).below HB14.out).below HB15.out).below HB16.out).below HB17.out).below HB18.out).below HB19.out).below HB20.out).below HB21.out).below HB22.out).below HB23.out)
               clear h_v3 n_v3 hb Cx26)
            | (go_at_call 56; (with_reducible refine (Cx27.out _ _ _ ((H_v1.out.below HB22.out).below HB23.out) H_v3.out).mono ?_); rintro e W24 ⟨rfl, hb⟩
               have HB24 := Lib.hid hb
               obtain ⟨d24_xa_0, d24_xa_1⟩ := (((((((((((((((((((((M_xa.out.below HB4.out).below HB5.out).below HB6.out).below HB7.out).below HB8.out).below HB9.out).below HB10.out).below HB11.out).below HB12.out).below HB13.out).below HB14.out).below HB15.out).below HB16.out).below HB17.out).below HB18.out).below HB19.out).below HB20.out).below HB21.out).below HB22.out).below HB23.out).below HB24.out)
               obtain ⟨d24_xb_0, d24_xb_1⟩ := (((((((((((((((((((M_xb.out.below HB6.out).below HB7.out).below HB8.out).below HB9.out).below HB10.out).below HB11.out).below HB12.out).below HB13.out).below HB14.out).below HB15.out).below HB16.out).below HB17.out).below HB18.out).below HB19.out).below HB20.out).below HB21.out).below HB22.out).below HB23.out).below HB24.out)
               clear hb Cx27)
            | (fail "no arm"))
          skip
          all_goals (go_ret; exact ⟨rfl, (nat.below_tr (nat.below_tr (nat.below_tr (nat.below_tr (nat.below_tr (nat.below_tr (nat.below_tr (nat.below_tr (nat.below_tr (nat.below_tr (nat.below_tr (nat.below_tr (nat.below_tr (nat.below_tr (nat.below_tr (nat.below_tr (nat.below_tr (nat.below_tr (nat.below_tr (nat.below_tr (nat.below_tr (nat.below_tr (nat.below_tr HB1.out HB2.out) HB3.out) HB4.out) HB5.out) HB6.out) HB7.out) HB8.out) HB9.out) HB10.out) HB11.out) HB12.out) HB13.out) HB14.out) HB15.out) HB16.out) HB17.out) HB18.out) HB19.out) HB20.out) HB21.out) HB22.out) HB23.out) HB24.out)⟩)
        · have HB0 := Lib.hid hb0
          clear hb0
          have cx20 := fun (W : World) (v0 : Value) (v1 : Value) (hh0 : num.IsZ W v0 zA) (hh1 : num.IsZ W v1 zB)  => num.Mul_any v0 v1 zA zB W hh0 hh1 ((show Bz zA 120 from L_zA.out).nat (by decide)) ((show Bz zB 120 from L_zB.out).nat (by decide))
          have Cx20 := Lib.hid cx20
          clear cx20
          have cx21 := fun (W : World) (v0 : Value) (hh0 : num.IsZ W v0 (zA * zB))  => num.Sign_any v0 (zA * zB) W hh0
          rw [show num.sg (zA * zB) = (-1) from (by rw [num.sg_mul, show num.sg zA = (-1) from (num.sg_neg HA0.out), show num.sg zB = 1 from (num.sg_pos HB0.out)]; rfl)] at cx21
          have Cx21 := Lib.hid cx21
          clear cx21
          have cx22 := fun (W : World) (v0 : Value) (hh0 : num.IsZ W v0 zA)  => num.Sign_any v0 zA W hh0
          rw [show num.sg zA = (-1) from (num.sg_neg HA0.out)] at cx22
          have Cx22 := Lib.hid cx22
          clear cx22
          have cx23 := fun (W : World) (v0 : Value) (hh0 : num.IsZ W v0 zB)  => num.Sign_any v0 zB W hh0
          rw [show num.sg zB = 1 from (num.sg_pos HB0.out)] at cx23
          have Cx23 := Lib.hid cx23
          clear cx23
          have cx24 := fun (W : World) (v0 : Value) (v1 : Value) (hh0 : num.IsZ W v0 zA) (hh1 : num.IsZ W v1 zB)  => num.Sub_any v0 v1 zA zB W hh0 hh1 ((show Bz zA 120 from L_zA.out).nat (by decide)) ((show Bz zB 120 from L_zB.out).nat (by decide))
          have Cx24 := Lib.hid cx24
          clear cx24
          have cx25 := fun (W : World) (v0 : Value) (v1 : Value) (hh0 : num.IsZ W v0 zB) (hh1 : num.IsZ W v1 zA)  => num.Sub_any v0 v1 zB zA W hh0 hh1 ((show Bz zB 120 from L_zB.out).nat (by decide)) ((show Bz zA 120 from L_zA.out).nat (by decide))
          have Cx25 := Lib.hid cx25
          clear cx25
          have cx26 := fun (W : World) (v0 : Value) (hh0 : num.IsZ W v0 (zB - zA))  => num.Neg_any v0 (zB - zA) W hh0
          have Cx26 := Lib.hid cx26
          clear cx26
          have cx27 := fun (W : World) (v0 : Value) (v1 : Value) (hh0 : num.IsZ W v0 (zA - zB)) (hh1 : num.IsZ W v1 (-(zB - zA)))  => num.Cmp_b v0 v1 (zA - zB) (-(zB - zA)) W hh0 hh1 ((Bz_sub (show Bz zA 120 from L_zA.out) (show Bz zB 120 from L_zB.out)).nat (by decide)) ((Bz_neg (Bz_sub (show Bz zB 120 from L_zB.out) (show Bz zA 120 from L_zA.out))).nat (by decide))
          rw [cmp3_eqZ (show (zA - zB) = (-(zB - zA)) from (by omega))] at cx27
          have Cx27 := Lib.hid cx27
          clear cx27
          go_wp2_with (first
            | (go_at_call 54; (with_reducible refine (Cx20.out _ _ _ (((((((((((((((((H_a.out.below HB3.out).below HB4.out).below HB5.out).below HB6.out).below HB7.out).below HB8.out).below HB9.out).below HB10.out).below HB11.out).below HB12.out).below HB13.out).below HB14.out).below HB15.out).below HB16.out).below HB17.out).below HB18.out).below HB19.out) (((((((((((((((H_b.out.below HB5.out).below HB6.out).below HB7.out).below HB8.out).below HB9.out).below HB10.out).below HB11.out).below HB12.out).below HB13.out).below HB14.out).below HB15.out).below HB16.out).below HB17.out).below HB18.out).below HB19.out)).mono ?_); rintro e W20 ⟨u6, rfl, ⟨h_u6, n_u6⟩, hb⟩
               have H_u6 := Lib.hid h_u6
               have N_u6 := Lib.hid n_u6
               have HB20 := Lib.hid hb
               obtain ⟨d20_xa_0, d20_xa_1⟩ := (((((((((((((((((M_xa.out.below HB4.out).below HB5.out).below HB6.out).below HB7.out).below HB8.out).below HB9.out).below HB10.out).below HB11.out).below HB12.out).below HB13.out).below HB14.out).below HB15.out).below HB16.out).below HB17.out).below HB18.out).below HB19.out).below HB20.out)
               obtain ⟨d20_xb_0, d20_xb_1⟩ := (((((((((((((((M_xb.out.below HB6.out).below HB7.out).below HB8.out).below HB9.out).below HB10.out).below HB11.out).below HB12.out).below HB13.out).below HB14.out).below HB15.out).below HB16.out).below HB17.out).below HB18.out).below HB19.out).below HB20.out)
               clear h_u6 n_u6 hb Cx20)
            | (go_at_call 67; (with_reducible refine (Cx21.out _ _ H_u6.out).mono ?_); rintro e w9 ⟨rfl, rfl⟩
               clear Cx21)
            | (go_at_call 67; (with_reducible refine (Cx22.out _ _ ((((((((((((((((((H_a.out.below HB3.out).below HB4.out).below HB5.out).below HB6.out).below HB7.out).below HB8.out).below HB9.out).below HB10.out).below HB11.out).below HB12.out).below HB13.out).below HB14.out).below HB15.out).below HB16.out).below HB17.out).below HB18.out).below HB19.out).below HB20.out)).mono ?_); rintro e w9 ⟨rfl, rfl⟩
               clear Cx22)
            | (go_at_call 67; (with_reducible refine (Cx23.out _ _ ((((((((((((((((H_b.out.below HB5.out).below HB6.out).below HB7.out).below HB8.out).below HB9.out).below HB10.out).below HB11.out).below HB12.out).below HB13.out).below HB14.out).below HB15.out).below HB16.out).below HB17.out).below HB18.out).below HB19.out).below HB20.out)).mono ?_); rintro e w9 ⟨rfl, rfl⟩
               clear Cx23)
            | (go_at_call 61; (with_reducible refine (Cx24.out _ _ _ ((((((((((((((((((H_a.out.below HB3.out).below HB4.out).below HB5.out).below HB6.out).below HB7.out).below HB8.out).below HB9.out).below HB10.out).below HB11.out).below HB12.out).below HB13.out).below HB14.out).below HB15.out).below HB16.out).below HB17.out).below HB18.out).below HB19.out).below HB20.out) ((((((((((((((((H_b.out.below HB5.out).below HB6.out).below HB7.out).below HB8.out).below HB9.out).below HB10.out).below HB11.out).below HB12.out).below HB13.out).below HB14.out).below HB15.out).below HB16.out).below HB17.out).below HB18.out).below HB19.out).below HB20.out)).mono ?_); rintro e W21 ⟨v1, rfl, ⟨h_v1, n_v1⟩, hb⟩
               have H_v1 := Lib.hid h_v1
               have N_v1 := Lib.hid n_v1
               have HB21 := Lib.hid hb
               obtain ⟨d21_xa_0, d21_xa_1⟩ := ((((((((((((((((((M_xa.out.below HB4.out).below HB5.out).below HB6.out).below HB7.out).below HB8.out).below HB9.out).below HB10.out).below HB11.out).below HB12.out).below HB13.out).below HB14.out).below HB15.out).below HB16.out).below HB17.out).below HB18.out).below HB19.out).below HB20.out).below HB21.out)
               obtain ⟨d21_xb_0, d21_xb_1⟩ := ((((((((((((((((M_xb.out.below HB6.out).below HB7.out).below HB8.out).below HB9.out).below HB10.out).below HB11.out).below HB12.out).below HB13.out).below HB14.out).below HB15.out).below HB16.out).below HB17.out).below HB18.out).below HB19.out).below HB20.out).below HB21.out)
               clear h_v1 n_v1 hb Cx24)
            | (go_at_call 61; (with_reducible refine (Cx25.out _ _ _ (((((((((((((((((H_b.out.below HB5.out).below HB6.out).below HB7.out).below HB8.out).below HB9.out).below HB10.out).below HB11.out).below HB12.out).below HB13.out).below HB14.out).below HB15.out).below HB16.out).below HB17.out).below HB18.out).below HB19.out).below HB20.out).below HB21.out) (((((((((((((((((((H_a.out.below HB3.out).below HB4.out).below HB5.out).below HB6.out).below HB7.out).below HB8.out).below HB9.out).below HB10.out).below HB11.out).below HB12.out).below HB13.out).below HB14.out).below HB15.out).below HB16.out).below HB17.out).below HB18.out).below HB19.out).below HB20.out).below HB21.out)).mono ?_); rintro e W22 ⟨v2, rfl, ⟨h_v2, n_v2⟩, hb⟩
               have H_v2 := Lib.hid h_v2
               have N_v2 := Lib.hid n_v2
               have HB22 := Lib.hid hb
               obtain ⟨d22_xa_0, d22_xa_1⟩ := (((((((((((((((((((M_xa.out.below HB4.out).below HB5.out).below HB6.out).below HB7.out).below HB8.out).below HB9.out).below HB10.out).below HB11.out).below HB12.out).below HB13.out).below HB14.out).below HB15.out).below HB16.out).below HB17.out).below HB18.out).below HB19.out).below HB20.out).below HB21.out).below HB22.out)
               obtain ⟨d22_xb_0, d22_xb_1⟩ := (((((((((((((((((M_xb.out.below HB6.out).below HB7.out).below HB8.out).below HB9.out).below HB10.out).below HB11.out).below HB12.out).below HB13.out).below HB14.out).below HB15.out).below HB16.out).below HB17.out).below HB18.out).below HB19.out).below HB20.out).below HB21.out).below HB22.out)
               clear h_v2 n_v2 hb Cx25)
            | (go_at_call 65; (with_reducible refine (Cx26.out _ _ H_v2.out).mono ?_); rintro e W23 ⟨v3, rfl, ⟨h_v3, n_v3⟩, hb⟩
               have H_v3 := Lib.hid h_v3
               have N_v3 := Lib.hid n_v3
               have HB23 := Lib.hid hb
               obtain ⟨d23_xa_0, d23_xa_1⟩ := ((((((((((((((((((((M_xa.out.below HB4.out).below HB5.out).below HB6.out).below HB7.out).below HB8.out).below HB9.out).below HB10.out).below HB11.out).below HB12.out).below HB13.out).below HB14.out).below HB15.out).below HB16.out).below HB17.out).below HB18.out).below HB19.out).below HB20.out).below HB21.out).below HB22.out).below HB23.out)
               obtain ⟨d23_xb_0, d23_xb_1⟩ := ((((((((((((((((((M_xb.out.below HB6.out).below HB7.out).below HB8.out).below HB9.out).below HB10.out).below HB11.out).below HB12.out).below HB13.out).below HB14.out).below HB15.out).below HB16.out).below HB17.out).below HB18.out).below HB19.out).below HB20.out).below HB21.out).below HB22.out).below HB23.out)
               clear h_v3 n_v3 hb Cx26)
            | (go_at_call 56; (with_reducible refine (Cx27.out _ _ _ ((H_v1.out.below HB22.out).below HB23.out) H_v3.out).mono ?_); rintro e W24 ⟨rfl, hb⟩
               have HB24 := Lib.hid hb
               obtain ⟨d24_xa_0, d24_xa_1⟩ := (((((((((((((((((((((M_xa.out.below HB4.out).below HB5.out).below HB6.out).below HB7.out).below HB8.out).below HB9.out).below HB10.out).below HB11.out).below HB12.out).below HB13.out).below HB14.out).below HB15.out).below HB16.out).below HB17.out).below HB18.out).below HB19.out).below HB20.out).below HB21.out).below HB22.out).below HB23.out).below HB24.out)
               obtain ⟨d24_xb_0, d24_xb_1⟩ := (((((((((((((((((((M_xb.out.below HB6.out).below HB7.out).below HB8.out).below HB9.out).below HB10.out).below HB11.out).below HB12.out).below HB13.out).below HB14.out).below HB15.out).below HB16.out).below HB17.out).below HB18.out).below HB19.out).below HB20.out).below HB21.out).below HB22.out).below HB23.out).below HB24.out)
               clear hb Cx27)
            | (fail "no arm"))
          skip
          all_goals (go_ret; exact ⟨rfl, (nat.below_tr (nat.below_tr (nat.below_tr (nat.below_tr (nat.below_tr (nat.below_tr (nat.below_tr (nat.below_tr (nat.below_tr (nat.below_tr (nat.below_tr (nat.below_tr (nat.below_tr (nat.below_tr (nat.below_tr (nat.below_tr (nat.below_tr (nat.below_tr (nat.below_tr (nat.below_tr (nat.below_tr (nat.below_tr (nat.below_tr HB1.out HB2.out) HB3.out) HB4.out) HB5.out) HB6.out) HB7.out) HB8.out) HB9.out) HB10.out) HB11.out) HB12.out) HB13.out) HB14.out) HB15.out) HB16.out) HB17.out) HB18.out) HB19.out) HB20.out) HB21.out) HB22.out) HB23.out) HB24.out)⟩)
      · have HA0 := Lib.hid ha0
        clear ha0
        rcases Int.lt_or_gt_of_ne HBN.out with hb0 | hb0
        · have HB0 := Lib.hid hb0
          clear hb0
          have cx20 := fun (W : World) (v0 : Value) (v1 : Value) (hh0 : num.IsZ W v0 zA) (hh1 : num.IsZ W v1 zB)  => num.Mul_any v0 v1 zA zB W hh0 hh1 ((show Bz zA 120 from L_zA.out).nat (by decide)) ((show Bz zB 120 from L_zB.out).nat (by decide))
          have Cx20 := Lib.hid cx20
          clear cx20
          have cx21 := fun (W : World) (v0 : Value) (hh0 : num.IsZ W v0 (zA * zB))  => num.Sign_any v0 (zA * zB) W hh0
          rw [show num.sg (zA * zB) = (0) from (by rw [num.sg_mul, show num.sg zA = 0 from (num.sg_zero HA0.out), show num.sg zB = (-1) from (num.sg_neg HB0.out)]; rfl)] at cx21
          have Cx21 := Lib.hid cx21
          clear cx21
          have cx22 := fun (W : World) (v0 : Value) (hh0 : num.IsZ W v0 zA)  => num.Sign_any v0 zA W hh0
          rw [show num.sg zA = 0 from (num.sg_zero HA0.out)] at cx22
          have Cx22 := Lib.hid cx22
          clear cx22
          have cx23 := fun (W : World) (v0 : Value) (hh0 : num.IsZ W v0 zB)  => num.Sign_any v0 zB W hh0
          rw [show num.sg zB = (-1) from (num.sg_neg HB0.out)] at cx23
          have Cx23 := Lib.hid cx23
          clear cx23
          have cx24 := fun (W : World) (v0 : Value) (v1 : Value) (hh0 : num.IsZ W v0 zA) (hh1 : num.IsZ W v1 zB)  => num.Sub_any v0 v1 zA zB W hh0 hh1 ((show Bz zA 120 from L_zA.out).nat (by decide)) ((show Bz zB 120 from L_zB.out).nat (by decide))
          have Cx24 := Lib.hid cx24
          clear cx24
          have cx25 := fun (W : World) (v0 : Value) (v1 : Value) (hh0 : num.IsZ W v0 zB) (hh1 : num.IsZ W v1 zA)  => num.Sub_any v0 v1 zB zA W hh0 hh1 ((show Bz zB 120 from L_zB.out).nat (by decide)) ((show Bz zA 120 from L_zA.out).nat (by decide))
          have Cx25 := Lib.hid cx25
          clear cx25
          have cx26 := fun (W : World) (v0 : Value) (hh0 : num.IsZ W v0 (zB - zA))  => num.Neg_any v0 (zB - zA) W hh0
          have Cx26 := Lib.hid cx26
          clear cx26
          have cx27 := fun (W : World) (v0 : Value) (v1 : Value) (hh0 : num.IsZ W v0 (zA - zB)) (hh1 : num.IsZ W v1 (-(zB - zA)))  => num.Cmp_b v0 v1 (zA - zB) (-(zB - zA)) W hh0 hh1 ((Bz_sub (show Bz zA 120 from L_zA.out) (show Bz zB 120 from L_zB.out)).nat (by decide)) ((Bz_neg (Bz_sub (show Bz zB 120 from L_zB.out) (show Bz zA 120 from L_zA.out))).nat (by decide))
          rw [cmp3_eqZ (show (zA - zB) = (-(zB - zA)) from (by omega))] at cx27
          have Cx27 := Lib.hid cx27
          clear cx27
          go_wp2_with (first
            | (go_at_call 54; (with_reducible refine (Cx20.out _ _ _ (((((((((((((((((H_a.out.below HB3.out).below HB4.out).below HB5.out).below HB6.out).below HB7.out).below HB8.out).below HB9.out).below HB10.out).below HB11.out).below HB12.out).below HB13.out).below HB14.out).below HB15.out).below HB16.out).below HB17.out).below HB18.out).below HB19.out) (((((((((((((((H_b.out.below HB5.out).below HB6.out).below HB7.out).below HB8.out).below HB9.out).below HB10.out).below HB11.out).below HB12.out).below HB13.out).below HB14.out).below HB15.out).below HB16.out).below HB17.out).below HB18.out).below HB19.out)).mono ?_); rintro e W20 ⟨u6, rfl, ⟨h_u6, n_u6⟩, hb⟩
               have H_u6 := Lib.hid h_u6
               have N_u6 := Lib.hid n_u6
               have HB20 := Lib.hid hb
               obtain ⟨d20_xa_0, d20_xa_1⟩ := (((((((((((((((((M_xa.out.below HB4.out).below HB5.out).below HB6.out).below HB7.out).below HB8.out).below HB9.out).below HB10.out).below HB11.out).below HB12.out).below HB13.out).below HB14.out).below HB15.out).below HB16.out).below HB17.out).below HB18.out).below HB19.out).below HB20.out)
               obtain ⟨d20_xb_0, d20_xb_1⟩ := (((((((((((((((M_xb.out.below HB6.out).below HB7.out).below HB8.out).below HB9.out).below HB10.out).below HB11.out).below HB12.out).below HB13.out).below HB14.out).below HB15.out).below HB16.out).below HB17.out).below HB18.out).below HB19.out).below HB20.out)
               clear h_u6 n_u6 hb Cx20)
            | (go_at_call 67; (with_reducible refine (Cx21.out _ _ H_u6.out).mono ?_); rintro e w9 ⟨rfl, rfl⟩
               clear Cx21)
            | (go_at_call 67; (with_reducible refine (Cx22.out _ _ ((((((((((((((((((H_a.out.below HB3.out).below HB4.out).below HB5.out).below HB6.out).below HB7.out).below HB8.out).below HB9.out).below HB10.out).below HB11.out).below HB12.out).below HB13.out).below HB14.out).below HB15.out).below HB16.out).below HB17.out).below HB18.out).below HB19.out).below HB20.out)).mono ?_); rintro e w9 ⟨rfl, rfl⟩
               clear Cx22)
            | (go_at_call 67; (with_reducible refine (Cx23.out _ _ ((((((((((((((((H_b.out.below HB5.out).below HB6.out).below HB7.out).below HB8.out).below HB9.out).below HB10.out).below HB11.out).below HB12.out).below HB13.out).below HB14.out).below HB15.out).below HB16.out).below HB17.out).below HB18.out).below HB19.out).below HB20.out)).mono ?_); rintro e w9 ⟨rfl, rfl⟩
               clear Cx23)
            | (go_at_call 61; (with_reducible refine (Cx24.out _ _ _ ((((((((((((((((((H_a.out.below HB3.out).below HB4.out).below HB5.out).below HB6.out).below HB7.out).below HB8.out).below HB9.out).below HB10.out).below HB11.out).below HB12.out).below HB13.out).below HB14.out).below HB15.out).below HB16.out).below HB17.out).below HB18.out).below HB19.out).below HB20.out) ((((((((((((((((H_b.out.below HB5.out).below HB6.out).below HB7.out).below HB8.out).below HB9.out).below HB10.out).below HB11.out).below HB12.out).below HB13.out).below HB14.out).below HB15.out).below HB16.out).below HB17.out).below HB18.out).below HB19.out).below HB20.out)).mono ?_); rintro e W21 ⟨v1, rfl, ⟨h_v1, n_v1⟩, hb⟩
               have H_v1 := Lib.hid h_v1
               have N_v1 := Lib.hid n_v1
               have HB21 := Lib.hid hb
               obtain ⟨d21_xa_0, d21_xa_1⟩ := ((((((((((((((((((M_xa.out.below HB4.out).below HB5.out).below HB6.out).below HB7.out).below HB8.out).below HB9.out).below HB10.out).below HB11.out).below HB12.out).below HB13.out).below HB14.out).below HB15.out).below HB16.out).below HB17.out).below HB18.out).below HB19.out).below HB20.out).below HB21.out)
               obtain ⟨d21_xb_0, d21_xb_1⟩ := ((((((((((((((((M_xb.out.below HB6.out).below HB7.out).below HB8.out).below HB9.out).below HB10.out).below HB11.out).below HB12.out).below HB13.out).below HB14.out).below HB15.out).below HB16.out).below HB17.out).below HB18.out).below HB19.out).below HB20.out).below HB21.out)
               clear h_v1 n_v1 hb Cx24)
            | (go_at_call 61; (with_reducible refine (Cx25.out _ _ _ (((((((((((((((((H_b.out.below HB5.out).below HB6.out).below HB7.out).below HB8.out).below HB9.out).below HB10.out).below HB11.out).below HB12.out).below HB13.out).below HB14.out).below HB15.out).below HB16.out).below HB17.out).below HB18.out).below HB19.out).below HB20.out).below HB21.out) (((((((((((((((((((H_a.out.below HB3.out).below HB4.out).below HB5.out).below HB6.out).below HB7.out).below HB8.out).below HB9.out).below HB10.out).below HB11.out).below HB12.out).below HB13.out).below HB14.out).below HB15.out).below HB16.out).below HB17.out).below HB18.out).below HB19.out).below HB20.out).below HB21.out)).mono ?_); rintro e W22 ⟨v2, rfl, ⟨h_v2, n_v2⟩, hb⟩
               have H_v2 := Lib.hid h_v2
               have N_v2 := Lib.hid n_v2
               have HB22 := Lib.hid hb
               obtain ⟨d22_xa_0, d22_xa_1⟩ := (((((((((((((((((((M_xa.out.below HB4.out).below HB5.out).below HB6.out).below HB7.out).below HB8.out).below HB9.out).below HB10.out).below HB11.out).below HB12.out).below HB13.out).below HB14.out).below HB15.out).below HB16.out).below HB17.out).below HB18.out).below HB19.out).below HB20.out).below HB21.out).below HB22.out)
               obtain ⟨d22_xb_0, d22_xb_1⟩ := (((((((((((((((((M_xb.out.below HB6.out).below HB7.out).below HB8.out).below HB9.out).below HB10.out).below HB11.out).below HB12.out).below HB13.out).below HB14.out).below HB15.out).below HB16.out).below HB17.out).below HB18.out).below HB19.out).below HB20.out).below HB21.out).below HB22.out)
               clear h_v2 n_v2 hb Cx25)
            | (go_at_call 65; (with_reducible refine (Cx26.out _ _ H_v2.out).mono ?_); rintro e W23 ⟨v3, rfl, ⟨h_v3, n_v3⟩, hb⟩
               have H_v3 := Lib.hid h_v3
               have N_v3 := Lib.hid n_v3
               have HB23 := Lib.hid hb
               obtain ⟨d23_xa_0, d23_xa_1⟩ := ((((((((((((((((((((M_xa.out.below HB4.out).below HB5.out).below HB6.out).below HB7.out).below HB8.out).below HB9.out).below HB10.out).below HB11.out).below HB12.out).below HB13.out).below HB14.out).below HB15.out).below HB16.out).below HB17.out).below HB18.out).below HB19.out).below HB20.out).below HB21.out).below HB22.out).below HB23.out)
               obtain ⟨d23_xb_0, d23_xb_1⟩ := ((((((((((((((((((M_xb.out.below HB6.out).below HB7.out).below HB8.out).below HB9.out).below HB10.out).below HB11.out).below HB12.out).below HB13.out).below HB14.out).below HB15.out).below HB16.out).below HB17.out).below HB18.out).below HB19.out).below HB20.out).below HB21.out).below HB22.out).below HB23.out)
               clear h_v3 n_v3 hb Cx26)
            | (go_at_call 56; (with_reducible refine (Cx27.out _ _ _ ((H_v1.out.below HB22.out).below HB23.out) H_v3.out).mono ?_); rintro e W24 ⟨rfl, hb⟩
               have HB24 := Lib.hid hb
               obtain ⟨d24_xa_0, d24_xa_1⟩ := (((((((((((((((((((((M_xa.out.below HB4.out).below HB5.out).below HB6.out).below HB7.out).below HB8.out).below HB9.out).below HB10.out).below HB11.out).below HB12.out).below HB13.out).below HB14.out).below HB15.out).below HB16.out).below HB17.out).below HB18.out).below HB19.out).below HB20.out).below HB21.out).below HB22.out).below HB23.out).below HB24.out)
               obtain ⟨d24_xb_0, d24_xb_1⟩ := (((((((((((((((((((M_xb.out.below HB6.out).below HB7.out).below HB8.out).below HB9.out).below HB10.out).below HB11.out).below HB12.out).below HB13.out).below HB14.out).below HB15.out).below HB16.out).below HB17.out).below HB18.out).below HB19.out).below HB20.out).below HB21.out).below HB22.out).below HB23.out).below HB24.out)
               clear hb Cx27)
            | (fail "no arm"))
          skip
          all_goals (go_ret; exact ⟨rfl, (nat.below_tr (nat.below_tr (nat.below_tr (nat.below_tr (nat.below_tr (nat.below_tr (nat.below_tr (nat.below_tr (nat.below_tr (nat.below_tr (nat.below_tr (nat.below_tr (nat.below_tr (nat.below_tr (nat.below_tr (nat.below_tr (nat.below_tr (nat.below_tr (nat.below_tr (nat.below_tr (nat.below_tr (nat.below_tr (nat.below_tr HB1.out HB2.out) HB3.out) HB4.out) HB5.out) HB6.out) HB7.out) HB8.out) HB9.out) HB10.out) HB11.out) HB12.out) HB13.out) HB14.out) HB15.out) HB16.out) HB17.out) HB18.out) HB19.out) HB20.out) HB21.out) HB22.out) HB23.out) HB24.out)⟩)
        · have HB0 := Lib.hid hb0
          clear hb0
          have cx20 := fun (W : World) (v0 : Value) (v1 : Value) (hh0 : num.IsZ W v0 zA) (hh1 : num.IsZ W v1 zB)  => num.Mul_any v0 v1 zA zB W hh0 hh1 ((show Bz zA 120 from L_zA.out).nat (by decide)) ((show Bz zB 120 from L_zB.out).nat (by decide))
          have Cx20 := Lib.hid cx20
          clear cx20
          have cx21 := fun (W : World) (v0 : Value) (hh0 : num.IsZ W v0 (zA * zB))  => num.Sign_any v0 (zA * zB) W hh0
          rw [show num.sg (zA * zB) = (0) from (by rw [num.sg_mul, show num.sg zA = 0 from (num.sg_zero HA0.out), show num.sg zB = 1 from (num.sg_pos HB0.out)]; rfl)] at cx21
          have Cx21 := Lib.hid cx21
          clear cx21
          have cx22 := fun (W : World) (v0 : Value) (hh0 : num.IsZ W v0 zA)  => num.Sign_any v0 zA W hh0
          rw [show num.sg zA = 0 from (num.sg_zero HA0.out)] at cx22
          have Cx22 := Lib.hid cx22
          clear cx22
          have cx23 := fun (W : World) (v0 : Value) (hh0 : num.IsZ W v0 zB)  => num.Sign_any v0 zB W hh0
          rw [show num.sg zB = 1 from (num.sg_pos HB0.out)] at cx23
          have Cx23 := Lib.hid cx23
          clear cx23
          have cx24 := fun (W : World) (v0 : Value) (v1 : Value) (hh0 : num.IsZ W v0 zA) (hh1 : num.IsZ W v1 zB)  => num.Sub_any v0 v1 zA zB W hh0 hh1 ((show Bz zA 120 from L_zA.out).nat (by decide)) ((show Bz zB 120 from L_zB.out).nat (by decide))
          have Cx24 := Lib.hid cx24
          clear cx24
          have cx25 := fun (W : World) (v0 : Value) (v1 : Value) (hh0 : num.IsZ W v0 zB) (hh1 : num.IsZ W v1 zA)  => num.Sub_any v0 v1 zB zA W hh0 hh1 ((show Bz zB 120 from L_zB.out).nat (by decide)) ((show Bz zA 120 from L_zA.out).nat (by decide))
          have Cx25 := Lib.hid cx25
          clear cx25
          have cx26 := fun (W : World) (v0 : Value) (hh0 : num.IsZ W v0 (zB - zA))  => num.Neg_any v0 (zB - zA) W hh0
          have Cx26 := Lib.hid cx26
          clear cx26
          have cx27 := fun (W : World) (v0 : Value) (v1 : Value) (hh0 : num.IsZ W v0 (zA - zB)) (hh1 : num.IsZ W v1 (-(zB - zA)))  => num.Cmp_b v0 v1 (zA - zB) (-(zB - zA)) W hh0 hh1 ((Bz_sub (show Bz zA 120 from L_zA.out) (show Bz zB 120 from L_zB.out)).nat (by decide)) ((Bz_neg (Bz_sub (show Bz zB 120 from L_zB.out) (show Bz zA 120 from L_zA.out))).nat (by decide))
          rw [cmp3_eqZ (show (zA - zB) = (-(zB - zA)) from (by omega))] at cx27
          have Cx27 := Lib.hid cx27
          clear cx27
          go_wp2_with (first
            | (go_at_call 54; (with_reducible refine (Cx20.out _ _ _ (((((((((((((((((H_a.out.below HB3.out).below HB4.out).below HB5.out).below HB6.out).below HB7.out).below HB8.out).below HB9.out).below HB10.out).below HB11.out).below HB12.out).below HB13.out).below HB14.out).below HB15.out).below HB16.out).below HB17.out).below HB18.out).below HB19.out) (((((((((((((((H_b.out.below HB5.out).below HB6.out).below HB7.out).below HB8.out).below HB9.out).below HB10.out).below HB11.out).below HB12.out).below HB13.out).below HB14.out).below HB15.out).below HB16.out).below HB17.out).below HB18.out).below HB19.out)).mono ?_); rintro e W20 ⟨u6, rfl, ⟨h_u6, n_u6⟩, hb⟩
               have H_u6 := Lib.hid h_u6
               have N_u6 := Lib.hid n_u6
               have HB20 := Lib.hid hb
               obtain ⟨d20_xa_0, d20_xa_1⟩ := (((((((((((((((((M_xa.out.below HB4.out).below HB5.out).below HB6.out).below HB7.out).below HB8.out).below HB9.out).below HB10.out).below HB11.out).below HB12.out).below HB13.out).below HB14.out).below HB15.out).below HB16.out).below HB17.out).below HB18.out).below HB19.out).below HB20.out)
               obtain ⟨d20_xb_0, d20_xb_1⟩ := (((((((((((((((M_xb.out.below HB6.out).below HB7.out).below HB8.out).below HB9.out).below HB10.out).below HB11.out).below HB12.out).below HB13.out).below HB14.out).below HB15.out).below HB16.out).below HB17.out).below HB18.out).below HB19.out).below HB20.out)
               clear h_u6 n_u6 hb Cx20)
            | (go_at_call 67; (with_reducible refine (Cx21.out _ _ H_u6.out).mono ?_); rintro e w9 ⟨rfl, rfl⟩
               clear Cx21)
            | (go_at_call 67; (with_reducible refine (Cx22.out _ _ ((((((((((((((((((H_a.out.below HB3.out).below HB4.out).below HB5.out).below HB6.out).below HB7.out).below HB8.out).below HB9.out).below HB10.out).below HB11.out).below HB12.out).below HB13.out).below HB14.out).below HB15.out).below HB16.out).below HB17.out).below HB18.out).below HB19.out).below HB20.out)).mono ?_); rintro e w9 ⟨rfl, rfl⟩
               clear Cx22)
            | (go_at_call 67; (with_reducible refine (Cx23.out _ _ ((((((((((((((((H_b.out.below HB5.out).below HB6.out).below HB7.out).below HB8.out).below HB9.out).below HB10.out).below HB11.out).below HB12.out).below HB13.out).below HB14.out).below HB15.out).below HB16.out).below HB17.out).below HB18.out).below HB19.out).below HB20.out)).mono ?_); rintro e w9 ⟨rfl, rfl⟩
               clear Cx23)
            | (go_at_call 61; (with_reducible refine (Cx24.out _ _ _ ((((((((((((((((((H_a.out.below HB3.out).below HB4.out).below HB5.out).below HB6.out).below HB7.out).below HB8.out).below HB9.out).below HB10.out).below HB11.out).below HB12.out).below HB13.out).below HB14.out).below HB15.out).below HB16.out).below HB17.out).below HB18.out).below HB19.out).below HB20.out) ((((((((((((((((H_b.out.below HB5.out).below HB6.out).below HB7.out).below HB8.out).below HB9.out).below HB10.out).below HB11.out).below HB12.out).below HB13.out).below HB14.out).below HB15.out).below HB16.out).below HB17.out).below HB18.out).below HB19.out).below HB20.out)).mono ?_); rintro e W21 ⟨v1, rfl, ⟨h_v1, n_v1⟩, hb⟩
               have H_v1 := Lib.hid h_v1
               have N_v1 := Lib.hid n_v1
               have HB21 := Lib.hid hb
               obtain ⟨d21_xa_0, d21_xa_1⟩ := ((((((((((((((((((M_xa.out.below HB4.out).below HB5.out).below HB6.out).below HB7.out).below HB8.out).below HB9.out).below HB10.out).below HB11.out).below HB12.out).below HB13.out).below HB14.out).below HB15.out).below HB16.out).below HB17.out).below HB18.out).below HB19.out).below HB20.out).below HB21.out)
               obtain ⟨d21_xb_0, d21_xb_1⟩ := ((((((((((((((((M_xb.out.below HB6.out).below HB7.out).below HB8.out).below HB9.out).below HB10.out).below HB11.out).below HB12.out).below HB13.out).below HB14.out).below HB15.out).below HB16.out).below HB17.out).below HB18.out).below HB19.out).below HB20.out).below HB21.out)
               clear h_v1 n_v1 hb Cx24)
            | (go_at_call 61; (with_reducible refine (Cx25.out _ _ _ (((((((((((((((((H_b.out.below HB5.out).below HB6.out).below HB7.out).below HB8.out).below HB9.out).below HB10.out).below HB11.out).below HB12.out).below HB13.out).below HB14.out).below HB15.out).below HB16.out).below HB17.out).below HB18.out).below HB19.out).below HB20.out).below HB21.out) (((((((((((((((((((H_a.out.below HB3.out).below HB4.out).below HB5.out).below HB6.out).below HB7.out).below HB8.out).below HB9.out).below HB10.out).below HB11.out).below HB12.out).below HB13.out).below HB14.out).below HB15.out).below HB16.out).below HB17.out).below HB18.out).below HB19.out).below HB20.out).below HB21.out)).mono ?_); rintro e W22 ⟨v2, rfl, ⟨h_v2, n_v2⟩, hb⟩
               have H_v2 := Lib.hid h_v2
               have N_v2 := Lib.hid n_v2
               have HB22 := Lib.hid hb
               obtain ⟨d22_xa_0, d22_xa_1⟩ := (((((((((((((((((((M_xa.out.below HB4.out).below HB5.out).below HB6.out).below HB7.out).below HB8.out).below HB9.out).below HB10.out).below HB11.out).below HB12.out).below HB13.out).below HB14.out).below HB15.out).below HB16.out).below HB17.out).below HB18.out).below HB19.out).below HB20.out).below HB21.out).below HB22.out)
               obtain ⟨d22_xb_0, d22_xb_1⟩ := (((((((((((((((((M_xb.out.below HB6.out).below HB7.out).below HB8.out).below HB9.out).below HB10.out).below HB11.out).below HB12.out).below HB13.out).below HB14.out).below HB15.out).below HB16.out).below HB17.out).below HB18.out).below HB19.out).below HB20.out).below HB21.out).below HB22.out)
               clear h_v2 n_v2 hb Cx25)
            | (go_at_call 65; (with_reducible refine (Cx26.out _ _ H_v2.out).mono ?_); rintro e W23 ⟨v3, rfl, ⟨h_v3, n_v3⟩, hb⟩
               have H_v3 := Lib.hid h_v3
               have N_v3 := Lib.hid n_v3
               have HB23 := Lib.hid hb
               obtain ⟨d23_xa_0, d23_xa_1⟩ := ((((((((((((((((((((M_xa.out.below HB4.out).below HB5.out).below HB6.out).below HB7.out).below HB8.out).below HB9.out).below HB10.out).below HB11.out).below HB12.out).below HB13.out).below HB14.out).below HB15.out).below HB16.out).below HB17.out).below HB18.out).below HB19.out).below HB20.out).below HB21.out).below HB22.out).below HB23.out)
               obtain ⟨d23_xb_0, d23_xb_1⟩ := ((((((((((((((((((M_xb.out.below HB6.out).below HB7.out).below HB8.out).below HB9.out).below HB10.out).below HB11.out).below HB12.out).below HB13.out).below HB14.out).below HB15.out).below HB16.out).below HB17.out).below HB18.out).below HB19.out).below HB20.out).below HB21.out).below HB22.out).below HB23.out)
               clear h_v3 n_v3 hb Cx26)
            | (go_at_call 56; (with_reducible refine (Cx27.out _ _ _ ((H_v1.out.below HB22.out).below HB23.out) H_v3.out).mono ?_); rintro e W24 ⟨rfl, hb⟩
               have HB24 := Lib.hid hb
               obtain ⟨d24_xa_0, d24_xa_1⟩ := (((((((((((((((((((((M_xa.out.below HB4.out).below HB5.out).below HB6.out).below HB7.out).below HB8.out).below HB9.out).below HB10.out).below HB11.out).below HB12.out).below HB13.out).below HB14.out).below HB15.out).below HB16.out).below HB17.out).below HB18.out).below HB19.out).below HB20.out).below HB21.out).below HB22.out).below HB23.out).below HB24.out)
               obtain ⟨d24_xb_0, d24_xb_1⟩ := (((((((((((((((((((M_xb.out.below HB6.out).below HB7.out).below HB8.out).below HB9.out).below HB10.out).below HB11.out).below HB12.out).below HB13.out).below HB14.out).below HB15.out).below HB16.out).below HB17.out).below HB18.out).below HB19.out).below HB20.out).below HB21.out).below HB22.out).below HB23.out).below HB24.out)
               clear hb Cx27)
            | (fail "no arm"))
          skip
          all_goals (go_ret; exact ⟨rfl, (nat.below_tr (nat.below_tr (nat.below_tr (nat.below_tr (nat.below_tr (nat.below_tr (nat.below_tr (nat.below_tr (nat.below_tr (nat.below_tr (nat.below_tr (nat.below_tr (nat.below_tr (nat.below_tr (nat.below_tr (nat.below_tr (nat.below_tr (nat.below_tr (nat.below_tr (nat.below_tr (nat.below_tr (nat.below_tr (nat.below_tr HB1.out HB2.out) HB3.out) HB4.out) HB5.out) HB6.out) HB7.out) HB8.out) HB9.out) HB10.out) HB11.out) HB12.out) HB13.out) HB14.out) HB15.out) HB16.out) HB17.out) HB18.out) HB19.out) HB20.out) HB21.out) HB22.out) HB23.out) HB24.out)⟩)
      · have HA0 := Lib.hid ha0
        clear ha0
        rcases Int.lt_or_gt_of_ne HBN.out with hb0 | hb0
        · have HB0 := Lib.hid hb0
          clear hb0
          have cx20 := fun (W : World) (v0 : Value) (v1 : Value) (hh0 : num.IsZ W v0 zA) (hh1 : num.IsZ W v1 zB)  => num.Mul_any v0 v1 zA zB W hh0 hh1 ((show Bz zA 120 from L_zA.out).nat (by decide)) ((show Bz zB 120 from L_zB.out).nat (by decide))
          have Cx20 := Lib.hid cx20
          clear cx20
          have cx21 := fun (W : World) (v0 : Value) (hh0 : num.IsZ W v0 (zA * zB))  => num.Sign_any v0 (zA * zB) W hh0
          rw [show num.sg (zA * zB) = (-1) from (by rw [num.sg_mul, show num.sg zA = 1 from (num.sg_pos HA0.out), show num.sg zB = (-1) from (num.sg_neg HB0.out)]; rfl)] at cx21
          have Cx21 := Lib.hid cx21
          clear cx21
          have cx22 := fun (W : World) (v0 : Value) (hh0 : num.IsZ W v0 zA)  => num.Sign_any v0 zA W hh0
          rw [show num.sg zA = 1 from (num.sg_pos HA0.out)] at cx22
          have Cx22 := Lib.hid cx22
          clear cx22
          have cx23 := fun (W : World) (v0 : Value) (hh0 : num.IsZ W v0 zB)  => num.Sign_any v0 zB W hh0
          rw [show num.sg zB = (-1) from (num.sg_neg HB0.out)] at cx23
          have Cx23 := Lib.hid cx23
          clear cx23
          have cx24 := fun (W : World) (v0 : Value) (v1 : Value) (hh0 : num.IsZ W v0 zA) (hh1 : num.IsZ W v1 zB)  => num.Sub_any v0 v1 zA zB W hh0 hh1 ((show Bz zA 120 from L_zA.out).nat (by decide)) ((show Bz zB 120 from L_zB.out).nat (by decide))
          have Cx24 := Lib.hid cx24
          clear cx24
          have cx25 := fun (W : World) (v0 : Value) (v1 : Value) (hh0 : num.IsZ W v0 zB) (hh1 : num.IsZ W v1 zA)  => num.Sub_any v0 v1 zB zA W hh0 hh1 ((show Bz zB 120 from L_zB.out).nat (by decide)) ((show Bz zA 120 from L_zA.out).nat (by decide))
          have Cx25 := Lib.hid cx25
          clear cx25
          have cx26 := fun (W : World) (v0 : Value) (hh0 : num.IsZ W v0 (zB - zA))  => num.Neg_any v0 (zB - zA) W hh0
          have Cx26 := Lib.hid cx26
          clear cx26
          have cx27 := fun (W : World) (v0 : Value) (v1 : Value) (hh0 : num.IsZ W v0 (zA - zB)) (hh1 : num.IsZ W v1 (-(zB - zA)))  => num.Cmp_b v0 v1 (zA - zB) (-(zB - zA)) W hh0 hh1 ((Bz_sub (show Bz zA 120 from L_zA.out) (show Bz zB 120 from L_zB.out)).nat (by decide)) ((Bz_neg (Bz_sub (show Bz zB 120 from L_zB.out) (show Bz zA 120 from L_zA.out))).nat (by decide))
          rw [cmp3_eqZ (show (zA - zB) = (-(zB - zA)) from (by omega))] at cx27
          have Cx27 := Lib.hid cx27
          clear cx27
          go_wp2_with (first
            | (go_at_call 54; (with_reducible refine (Cx20.out _ _ _ (((((((((((((((((H_a.out.below HB3.out).below HB4.out).below HB5.out).below HB6.out).below HB7.out).below HB8.out).below HB9.out).below HB10.out).below HB11.out).below HB12.out).below HB13.out).below HB14.out).below HB15.out).below HB16.out).below HB17.out).below HB18.out).below HB19.out) (((((((((((((((H_b.out.below HB5.out).below HB6.out).below HB7.out).below HB8.out).below HB9.out).below HB10.out).below HB11.out).below HB12.out).below HB13.out).below HB14.out).below HB15.out).below HB16.out).below HB17.out).below HB18.out).below HB19.out)).mono ?_); rintro e W20 ⟨u6, rfl, ⟨h_u6, n_u6⟩, hb⟩
               have H_u6 := Lib.hid h_u6
               have N_u6 := Lib.hid n_u6
               have HB20 := Lib.hid hb
               obtain ⟨d20_xa_0, d20_xa_1⟩ := (((((((((((((((((M_xa.out.below HB4.out).below HB5.out).below HB6.out).below HB7.out).below HB8.out).below HB9.out).below HB10.out).below HB11.out).below HB12.out).below HB13.out).below HB14.out).below HB15.out).below HB16.out).below HB17.out).below HB18.out).below HB19.out).below HB20.out)
               obtain ⟨d20_xb_0, d20_xb_1⟩ := (((((((((((((((M_xb.out.below HB6.out).below HB7.out).below HB8.out).below HB9.out).below HB10.out).below HB11.out).below HB12.out).below HB13.out).below HB14.out).below HB15.out).below HB16.out).below HB17.out).below HB18.out).below HB19.out).below HB20.out)
               clear h_u6 n_u6 hb Cx20)
            | (go_at_call 67; (with_reducible refine (Cx21.out _ _ H_u6.out).mono ?_); rintro e w9 ⟨rfl, rfl⟩
               clear Cx21)
            | (go_at_call 67; (with_reducible refine (Cx22.out _ _ ((((((((((((((((((H_a.out.below HB3.out).below HB4.out).below HB5.out).below HB6.out).below HB7.out).below HB8.out).below HB9.out).below HB10.out).below HB11.out).below HB12.out).below HB13.out).below HB14.out).below HB15.out).below HB16.out).below HB17.out).below HB18.out).below HB19.out).below HB20.out)).mono ?_); rintro e w9 ⟨rfl, rfl⟩
               clear Cx22)
            | (go_at_call 67; (with_reducible refine (Cx23.out _ _ ((((((((((((((((H_b.out.below HB5.out).below HB6.out).below HB7.out).below HB8.out).below HB9.out).below HB10.out).below HB11.out).below HB12.out).below HB13.out).below HB14.out).below HB15.out).below HB16.out).below HB17.out).below HB18.out).below HB19.out).below HB20.out)).mono ?_); rintro e w9 ⟨rfl, rfl⟩
               clear Cx23)
            | (go_at_call 61; (with_reducible refine (Cx24.out _ _ _ ((((((((((((((((((H_a.out.below HB3.out).below HB4.out).below HB5.out).below HB6.out).below HB7.out).below HB8.out).below HB9.out).below HB10.out).below HB11.out).below HB12.out).below HB13.out).below HB14.out).below HB15.out).below HB16.out).below HB17.out).below HB18.out).below HB19.out).below HB20.out) ((((((((((((((((H_b.out.below HB5.out).below HB6.out).below HB7.out).below HB8.out).below HB9.out).below HB10.out).below HB11.out).below HB12.out).below HB13.out).below HB14.out).below HB15.out).below HB16.out).below HB17.out).below HB18.out).below HB19.out).below HB20.out)).mono ?_); rintro e W21 ⟨v1, rfl, ⟨h_v1, n_v1⟩, hb⟩
               have H_v1 := Lib.hid h_v1
               have N_v1 := Lib.hid n_v1
               have HB21 := Lib.hid hb
               obtain ⟨d21_xa_0, d21_xa_1⟩ := ((((((((((((((((((M_xa.out.below HB4.out).below HB5.out).below HB6.out).below HB7.out).below HB8.out).below HB9.out).below HB10.out).below HB11.out).below HB12.out).below HB13.out).below HB14.out).below HB15.out).below HB16.out).below HB17.out).below HB18.out).below HB19.out).below HB20.out).below HB21.out)
               obtain ⟨d21_xb_0, d21_xb_1⟩ := ((((((((((((((((M_xb.out.below HB6.out).below HB7.out).below HB8.out).below HB9.out).below HB10.out).below HB11.out).below HB12.out).below HB13.out).below HB14.out).below HB15.out).below HB16.out).below HB17.out).below HB18.out).below HB19.out).below HB20.out).below HB21.out)
               clear h_v1 n_v1 hb Cx24)
            | (go_at_call 61; (with_reducible refine (Cx25.out _ _ _ (((((((((((((((((H_b.out.below HB5.out).below HB6.out).below HB7.out).below HB8.out).below HB9.out).below HB10.out).below HB11.out).below HB12.out).below HB13.out).below HB14.out).below HB15.out).below HB16.out).below HB17.out).below HB18.out).below HB19.out).below HB20.out).below HB21.out) (((((((((((((((((((H_a.out.below HB3.out).below HB4.out).below HB5.out).below HB6.out).below HB7.out).below HB8.out).below HB9.out).below HB10.out).below HB11.out).below HB12.out).below HB13.out).below HB14.out).below HB15.out).below HB16.out).below HB17.out).below HB18.out).below HB19.out).below HB20.out).below HB21.out)).mono ?_); rintro e W22 ⟨v2, rfl, ⟨h_v2, n_v2⟩, hb⟩
               have H_v2 := Lib.hid h_v2
               have N_v2 := Lib.hid n_v2
               have HB22 := Lib.hid hb
               obtain ⟨d22_xa_0, d22_xa_1⟩ := (((((((((((((((((((M_xa.out.below HB4.out).below HB5.out).below HB6.out).below HB7.out).below HB8.out).below HB9.out).below HB10.out).below HB11.out).below HB12.out).below HB13.out).below HB14.out).below HB15.out).below HB16.out).below HB17.out).below HB18.out).below HB19.out).below HB20.out).below HB21.out).below HB22.out)
               obtain ⟨d22_xb_0, d22_xb_1⟩ := (((((((((((((((((M_xb.out.below HB6.out).below HB7.out).below HB8.out).below HB9.out).below HB10.out).below HB11.out).below HB12.out).below HB13.out).below HB14.out).below HB15.out).below HB16.out).below HB17.out).below HB18.out).below HB19.out).below HB20.out).below HB21.out).below HB22.out)
               clear h_v2 n_v2 hb Cx25)
            | (go_at_call 65; (with_reducible refine (Cx26.out _ _ H_v2.out).mono ?_); rintro e W23 ⟨v3, rfl, ⟨h_v3, n_v3⟩, hb⟩
               have H_v3 := Lib.hid h_v3
               have N_v3 := Lib.hid n_v3
               have HB23 := Lib.hid hb
               obtain ⟨d23_xa_0, d23_xa_1⟩ := ((((((((((((((((((((M_xa.out.below HB4.out).below HB5.out).below HB6.out).below HB7.out).below HB8.out).below HB9.out).below HB10.out).below HB11.out).below HB12.out).below HB13.out).below HB14.out).below HB15.out).below HB16.out).below HB17.out).below HB18.out).below HB19.out).below HB20.out).below HB21.out).below HB22.out).below HB23.out)
               obtain ⟨d23_xb_0, d23_xb_1⟩ := ((((((((((((((((((M_xb.out.below HB6.out).below HB7.out).below HB8.out).below HB9.out).below HB10.out).below HB11.out).below HB12.out).below HB13.out).below HB14.out).below HB15.out).below HB16.out).below HB17.out).below HB18.out).below HB19.out).below HB20.out).below HB21.out).below HB22.out).below HB23.out)
               clear h_v3 n_v3 hb Cx26)
            | (go_at_call 56; (with_reducible refine (Cx27.out _ _ _ ((H_v1.out.below HB22.out).below HB23.out) H_v3.out).mono ?_); rintro e W24 ⟨rfl, hb⟩
               have HB24 := Lib.hid hb
               obtain ⟨d24_xa_0, d24_xa_1⟩ := (((((((((((((((((((((M_xa.out.below HB4.out).below HB5.out).below HB6.out).below HB7.out).below HB8.out).below HB9.out).below HB10.out).below HB11.out).below HB12.out).below HB13.out).below HB14.out).below HB15.out).below HB16.out).below HB17.out).below HB18.out).below HB19.out).below HB20.out).below HB21.out).below HB22.out).below HB23.out).below HB24.out)
               obtain ⟨d24_xb_0, d24_xb_1⟩ := (((((((((((((((((((M_xb.out.below HB6.out).below HB7.out).below HB8.out).below HB9.out).below HB10.out).below HB11.out).below HB12.out).below HB13.out).below HB14.out).below HB15.out).below HB16.out).below HB17.out).below HB18.out).below HB19.out).below HB20.out).below HB21.out).below HB22.out).below HB23.out).below HB24.out)
               clear hb Cx27)
            | (fail "no arm"))
          skip
          all_goals (go_ret; exact ⟨rfl, (nat.below_tr (nat.below_tr (nat.below_tr (nat.below_tr (nat.below_tr (nat.below_tr (nat.below_tr (nat.below_tr (nat.below_tr (nat.below_tr (nat.below_tr (nat.below_tr (nat.below_tr (nat.below_tr (nat.below_tr (nat.below_tr (nat.below_tr (nat.below_tr (nat.below_tr (nat.below_tr (nat.below_tr (nat.below_tr (nat.below_tr HB1.out HB2.out) HB3.out) HB4.out) HB5.out) HB6.out) HB7.out) HB8.out) HB9.out) HB10.out) HB11.out) HB12.out) HB13.out) HB14.out) HB15.out) HB16.out) HB17.out) HB18.out) HB19.out) HB20.out) HB21.out) HB22.out) HB23.out) HB24.out)⟩)
        · have HB0 := Lib.hid hb0
          clear hb0
          have cx20 := fun (W : World) (v0 : Value) (v1 : Value) (hh0 : num.IsZ W v0 zA) (hh1 : num.IsZ W v1 zB)  => num.Mul_any v0 v1 zA zB W hh0 hh1 ((show Bz zA 120 from L_zA.out).nat (by decide)) ((show Bz zB 120 from L_zB.out).nat (by decide))
          have Cx20 := Lib.hid cx20
          clear cx20
          have cx21 := fun (W : World) (v0 : Value) (hh0 : num.IsZ W v0 (zA * zB))  => num.Sign_any v0 (zA * zB) W hh0
          rw [show num.sg (zA * zB) = (1) from (by rw [num.sg_mul, show num.sg zA = 1 from (num.sg_pos HA0.out), show num.sg zB = 1 from (num.sg_pos HB0.out)]; rfl)] at cx21
          have Cx21 := Lib.hid cx21
          clear cx21
          have cx22 := fun (W : World) (v0 : Value) (hh0 : num.IsZ W v0 zA)  => num.Sign_any v0 zA W hh0
          rw [show num.sg zA = 1 from (num.sg_pos HA0.out)] at cx22
          have Cx22 := Lib.hid cx22
          clear cx22
          have cx23 := fun (W : World) (v0 : Value) (hh0 : num.IsZ W v0 zB)  => num.Sign_any v0 zB W hh0
          rw [show num.sg zB = 1 from (num.sg_pos HB0.out)] at cx23
          have Cx23 := Lib.hid cx23
          clear cx23
          have cx24 := fun (W : World) (v0 : Value) (v1 : Value) (hh0 : num.IsZ W v0 zA) (hh1 : num.IsZ W v1 zB)  => num.Sub_any v0 v1 zA zB W hh0 hh1 ((show Bz zA 120 from L_zA.out).nat (by decide)) ((show Bz zB 120 from L_zB.out).nat (by decide))
          have Cx24 := Lib.hid cx24
          clear cx24
          have cx25 := fun (W : World) (v0 : Value) (v1 : Value) (hh0 : num.IsZ W v0 zB) (hh1 : num.IsZ W v1 zA)  => num.Sub_any v0 v1 zB zA W hh0 hh1 ((show Bz zB 120 from L_zB.out).nat (by decide)) ((show Bz zA 120 from L_zA.out).nat (by decide))
          have Cx25 := Lib.hid cx25
          clear cx25
          have cx26 := fun (W : World) (v0 : Value) (hh0 : num.IsZ W v0 (zB - zA))  => num.Neg_any v0 (zB - zA) W hh0
          have Cx26 := Lib.hid cx26
          clear cx26
          have cx27 := fun (W : World) (v0 : Value) (v1 : Value) (hh0 : num.IsZ W v0 (zA - zB)) (hh1 : num.IsZ W v1 (-(zB - zA)))  => num.Cmp_b v0 v1 (zA - zB) (-(zB - zA)) W hh0 hh1 ((Bz_sub (show Bz zA 120 from L_zA.out) (show Bz zB 120 from L_zB.out)).nat (by decide)) ((Bz_neg (Bz_sub (show Bz zB 120 from L_zB.out) (show Bz zA 120 from L_zA.out))).nat (by decide))
          rw [cmp3_eqZ (show (zA - zB) = (-(zB - zA)) from (by omega))] at cx27
          have Cx27 := Lib.hid cx27
          clear cx27
          go_wp2_with (first
            | (go_at_call 54; (with_reducible refine (Cx20.out _ _ _ (((((((((((((((((H_a.out.below HB3.out).below HB4.out).below HB5.out).below HB6.out).below HB7.out).below HB8.out).below HB9.out).below HB10.out).below HB11.out).below HB12.out).below HB13.out).below HB14.out).below HB15.out).below HB16.out).below HB17.out).below HB18.out).below HB19.out) (((((((((((((((H_b.out.below HB5.out).below HB6.out).below HB7.out).below HB8.out).below HB9.out).below HB10.out).below HB11.out).below HB12.out).below HB13.out).below HB14.out).below HB15.out).below HB16.out).below HB17.out).below HB18.out).below HB19.out)).mono ?_); rintro e W20 ⟨u6, rfl, ⟨h_u6, n_u6⟩, hb⟩
               have H_u6 := Lib.hid h_u6
               have N_u6 := Lib.hid n_u6
               have HB20 := Lib.hid hb
               obtain ⟨d20_xa_0, d20_xa_1⟩ := (((((((((((((((((M_xa.out.below HB4.out).below HB5.out).below HB6.out).below HB7.out).below HB8.out).below HB9.out).below HB10.out).below HB11.out).below HB12.out).below HB13.out).below HB14.out).below HB15.out).below HB16.out).below HB17.out).below HB18.out).below HB19.out).below HB20.out)
               obtain ⟨d20_xb_0, d20_xb_1⟩ := (((((((((((((((M_xb.out.below HB6.out).below HB7.out).below HB8.out).below HB9.out).below HB10.out).below HB11.out).below HB12.out).below HB13.out).below HB14.out).below HB15.out).below HB16.out).below HB17.out).below HB18.out).below HB19.out).below HB20.out)
               clear h_u6 n_u6 hb Cx20)
            | (go_at_call 67; (with_reducible refine (Cx21.out _ _ H_u6.out).mono ?_); rintro e w9 ⟨rfl, rfl⟩
               clear Cx21)
            | (go_at_call 67; (with_reducible refine (Cx22.out _ _ ((((((((((((((((((H_a.out.below HB3.out).below HB4.out).below HB5.out).below HB6.out).below HB7.out).below HB8.out).below HB9.out).below HB10.out).below HB11.out).below HB12.out).below HB13.out).below HB14.out).below HB15.out).below HB16.out).below HB17.out).below HB18.out).below HB19.out).below HB20.out)).mono ?_); rintro e w9 ⟨rfl, rfl⟩
               clear Cx22)
            | (go_at_call 67; (with_reducible refine (Cx23.out _ _ ((((((((((((((((H_b.out.below HB5.out).below HB6.out).below HB7.out).below HB8.out).below HB9.out).below HB10.out).below HB11.out).below HB12.out).below HB13.out).below HB14.out).below HB15.out).below HB16.out).below HB17.out).below HB18.out).below HB19.out).below HB20.out)).mono ?_); rintro e w9 ⟨rfl, rfl⟩
               clear Cx23)
            | (go_at_call 61; (with_reducible refine (Cx24.out _ _ _ ((((((((((((((((((H_a.out.below HB3.out).below HB4.out).below HB5.out).below HB6.out).below HB7.out).below HB8.out).below HB9.out).below HB10.out).below HB11.out).below HB12.out).below HB13.out).below HB14.out).below HB15.out).below HB16.out).below HB17.out).below HB18.out).below HB19.out).below HB20.out) ((((((((((((((((H_b.out.below HB5.out).below HB6.out).below HB7.out).below HB8.out).below HB9.out).below HB10.out).below HB11.out).below HB12.out).below HB13.out).below HB14.out).below HB15.out).below HB16.out).below HB17.out).below HB18.out).below HB19.out).below HB20.out)).mono ?_); rintro e W21 ⟨v1, rfl, ⟨h_v1, n_v1⟩, hb⟩
               have H_v1 := Lib.hid h_v1
               have N_v1 := Lib.hid n_v1
               have HB21 := Lib.hid hb
               obtain ⟨d21_xa_0, d21_xa_1⟩ := ((((((((((((((((((M_xa.out.below HB4.out).below HB5.out).below HB6.out).below HB7.out).below HB8.out).below HB9.out).below HB10.out).below HB11.out).below HB12.out).below HB13.out).below HB14.out).below HB15.out).below HB16.out).below HB17.out).below HB18.out).below HB19.out).below HB20.out).below HB21.out)
               obtain ⟨d21_xb_0, d21_xb_1⟩ := ((((((((((((((((M_xb.out.below HB6.out).below HB7.out).below HB8.out).below HB9.out).below HB10.out).below HB11.out).below HB12.out).below HB13.out).below HB14.out).below HB15.out).below HB16.out).below HB17.out).below HB18.out).below HB19.out).below HB20.out).below HB21.out)
               clear h_v1 n_v1 hb Cx24)
            | (go_at_call 61; (with_reducible refine (Cx25.out _ _ _ (((((((((((((((((H_b.out.below HB5.out).below HB6.out).below HB7.out).below HB8.out).below HB9.out).below HB10.out).below HB11.out).below HB12.out).below HB13.out).below HB14.out).below HB15.out).below HB16.out).below HB17.out).below HB18.out).below HB19.out).below HB20.out).below HB21.out) (((((((((((((((((((H_a.out.below HB3.out).below HB4.out).below HB5.out).below HB6.out).below HB7.out).below HB8.out).below HB9.out).below HB10.out).below HB11.out).below HB12.out).below HB13.out).below HB14.out).below HB15.out).below HB16.out).below HB17.out).below HB18.out).below HB19.out).below HB20.out).below HB21.out)).mono ?_); rintro e W22 ⟨v2, rfl, ⟨h_v2, n_v2⟩, hb⟩
               have H_v2 := Lib.hid h_v2
               have N_v2 := Lib.hid n_v2
               have HB22 := Lib.hid hb
               obtain ⟨d22_xa_0, d22_xa_1⟩ := (((((((((((((((((((M_xa.out.below HB4.out).below HB5.out).below HB6.out).below HB7.out).below HB8.out).below HB9.out).below HB10.out).below HB11.out).below HB12.out).below HB13.out).below HB14.out).below HB15.out).below HB16.out).below HB17.out).below HB18.out).below HB19.out).below HB20.out).below HB21.out).below HB22.out)
               obtain ⟨d22_xb_0, d22_xb_1⟩ := (((((((((((((((((M_xb.out.below HB6.out).below HB7.out).below HB8.out).below HB9.out).below HB10.out).below HB11.out).below HB12.out).below HB13.out).below HB14.out).below HB15.out).below HB16.out).below HB17.out).below HB18.out).below HB19.out).below HB20.out).below HB21.out).below HB22.out)
               clear h_v2 n_v2 hb Cx25)
            | (go_at_call 65; (with_reducible refine (Cx26.out _ _ H_v2.out).mono ?_); rintro e W23 ⟨v3, rfl, ⟨h_v3, n_v3⟩, hb⟩
               have H_v3 := Lib.hid h_v3
               have N_v3 := Lib.hid n_v3
               have HB23 := Lib.hid hb
               obtain ⟨d23_xa_0, d23_xa_1⟩ := ((((((((((((((((((((M_xa.out.below HB4.out).below HB5.out).below HB6.out).below HB7.out).below HB8.out).below HB9.out).below HB10.out).below HB11.out).below HB12.out).below HB13.out).below HB14.out).below HB15.out).below HB16.out).below HB17.out).below HB18.out).below HB19.out).below HB20.out).below HB21.out).below HB22.out).below HB23.out)
               obtain ⟨d23_xb_0, d23_xb_1⟩ := ((((((((((((((((((M_xb.out.below HB6.out).below HB7.out).below HB8.out).below HB9.out).below HB10.out).below HB11.out).below HB12.out).below HB13.out).below HB14.out).below HB15.out).below HB16.out).below HB17.out).below HB18.out).below HB19.out).below HB20.out).below HB21.out).below HB22.out).below HB23.out)
               clear h_v3 n_v3 hb Cx26)
            | (go_at_call 56; (with_reducible refine (Cx27.out _ _ _ ((H_v1.out.below HB22.out).below HB23.out) H_v3.out).mono ?_); rintro e W24 ⟨rfl, hb⟩
               have HB24 := Lib.hid hb
               obtain ⟨d24_xa_0, d24_xa_1⟩ := (((((((((((((((((((((M_xa.out.below HB4.out).below HB5.out).below HB6.out).below HB7.out).below HB8.out).below HB9.out).below HB10.out).below HB11.out).below HB12.out).below HB13.out).below HB14.out).below HB15.out).below HB16.out).below HB17.out).below HB18.out).below HB19.out).below HB20.out).below HB21.out).below HB22.out).below HB23.out).below HB24.out)
               obtain ⟨d24_xb_0, d24_xb_1⟩ := (((((((((((((((((((M_xb.out.below HB6.out).below HB7.out).below HB8.out).below HB9.out).below HB10.out).below HB11.out).below HB12.out).below HB13.out).below HB14.out).below HB15.out).below HB16.out).below HB17.out).below HB18.out).below HB19.out).below HB20.out).below HB21.out).below HB22.out).below HB23.out).below HB24.out)
               clear hb Cx27)
            | (fail "no arm"))
          skip
          all_goals (go_ret; exact ⟨rfl, (nat.below_tr (nat.below_tr (nat.below_tr (nat.below_tr (nat.below_tr (nat.below_tr (nat.below_tr (nat.below_tr (nat.below_tr (nat.below_tr (nat.below_tr (nat.below_tr (nat.below_tr (nat.below_tr (nat.below_tr (nat.below_tr (nat.below_tr (nat.below_tr (nat.below_tr (nat.below_tr (nat.below_tr (nat.below_tr (nat.below_tr HB1.out HB2.out) HB3.out) HB4.out) HB5.out) HB6.out) HB7.out) HB8.out) HB9.out) HB10.out) HB11.out) HB12.out) HB13.out) HB14.out) HB15.out) HB16.out) HB17.out) HB18.out) HB19.out) HB20.out) HB21.out) HB22.out) HB23.out) HB24.out)⟩)
end Go.Proofs.YtfpooimjjpamoaaGreatDoor.law2
