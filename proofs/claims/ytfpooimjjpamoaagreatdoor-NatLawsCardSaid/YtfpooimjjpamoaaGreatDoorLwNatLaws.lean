/-
  NatLaws answers true for every three texts. Conditions: begun answers true; texts of at most 2^62 bytes.
-/
import Derived.Test.YtfpooimjjpamoaaGreatDoorA38
namespace Go.Proofs.YtfpooimjjpamoaaGreatDoor.law2
open Go.RowKit Go.Proofs.YtfpooimjjpamoaaGreatDoor.nat
open Go.Proofs.YtfpooimjjpamoaaGreatDoor.ref (str)
set_option maxRecDepth 100000 in
set_option maxHeartbeats 4000000 in
theorem LwNatLaws (HBg : BegunC) (s : List UInt8) (hs : s.length ≤ 4611686018427387904) (t : List UInt8) (ht : t.length ≤ 4611686018427387904) (u : List UInt8) (hu : u.length ≤ 4611686018427387904) (w : World) (hd : Hd w) :
    Calls Tryz.prog 4 #[.string (str s), .string (str t), .string (str u)] w fun e w' => e = .returned (.bool true) ∧ Below w.heap.size w w' := by
  unfold BegunC at HBg
  have HBG := Lib.hid HBg
  have HG := Lib.hid hd
  clear HBg hd
  have HNs := Lib.hid (fun W => N_any s W hs)
  have HNt := Lib.hid (fun W => N_any t W ht)
  have HNu := Lib.hid (fun W => N_any u W hu)
  clear hs ht hu
  generalize str s = zs at *
  generalize str t = zt at *
  generalize str u = zu at *
  go_enter Tryz.func4, Tryz.ntmps4
  go_wp2_with (first
    | (go_at_call 25; (with_reducible refine (HBG.out _ HG.out).mono ?_); rintro e W1 ⟨rfl, hb⟩
       have HB1 := Lib.hid hb
       clear hb)
    | (go_at_call 26; (with_reducible refine (HNs.out _).mono ?_); rintro e W2 ⟨a, xa, X, rfl, ⟨hlt, ha, hna, hx⟩, hb⟩
       obtain ⟨p_a, rfl⟩ := ha.some hna
       obtain ⟨o_xa, c_xa, rfl⟩ := IsX_slice hx
       have L_X := Lib.hid hlt
       have H_a := Lib.hid ha
       have N_a := Lib.hid hna
       have H_xa := Lib.hid hx
       have HB2 := Lib.hid hb
       clear hlt ha hna hx hb HNs)
    | (go_at_call 26; (with_reducible refine (HNt.out _).mono ?_); rintro e W3 ⟨b, xb, Y, rfl, ⟨hlt, ha, hna, hx⟩, hb⟩
       obtain ⟨p_b, rfl⟩ := ha.some hna
       obtain ⟨o_xb, c_xb, rfl⟩ := IsX_slice hx
       have L_Y := Lib.hid hlt
       have H_b := Lib.hid ha
       have N_b := Lib.hid hna
       have H_xb := Lib.hid hx
       have HB3 := Lib.hid hb
       clear hlt ha hna hx hb HNt)
    | (go_at_call 26; (with_reducible refine (HNu.out _).mono ?_); rintro e W4 ⟨c, xc, Z, rfl, ⟨hlt, ha, hna, hx⟩, hb⟩
       obtain ⟨p_c, rfl⟩ := ha.some hna
       obtain ⟨o_xc, c_xc, rfl⟩ := IsX_slice hx
       have L_Z := Lib.hid hlt
       have H_c := Lib.hid ha
       have N_c := Lib.hid hna
       have H_xc := Lib.hid hx
       have HB4 := Lib.hid hb
       clear hlt ha hna hx hb HNu)
    | (fail "no arm"))
  have c1 := fun (W : World) (v0 : Value) (v1 : Value) (hh0 : nat.IsN W v0 X) (hh1 : nat.IsN W v1 Y)  => nat.Add_any v0 v1 X Y W hh0 hh1 ((show Bn X 120 from L_X.out).nat (by decide)) ((show Bn Y 120 from L_Y.out).nat (by decide))
  have C1 := Lib.hid c1
  clear c1
  have c2 := fun (W : World) (v0 : Value) (v1 : Value) (hh0 : nat.IsN W v0 Y) (hh1 : nat.IsN W v1 X)  => nat.Add_any v0 v1 Y X W hh0 hh1 ((show Bn Y 120 from L_Y.out).nat (by decide)) ((show Bn X 120 from L_X.out).nat (by decide))
  have C2 := Lib.hid c2
  clear c2
  have c3 := fun (W : World) (v0 : Value) (v1 : Value) (hh0 : nat.IsN W v0 (X + Y)) (hh1 : nat.IsN W v1 (Y + X))  => nat.Cmp_b v0 v1 (X + Y) (Y + X) W hh0 hh1 ((Bn_add (show Bn X 120 from L_X.out) (show Bn Y 120 from L_Y.out)).nat (by decide)) ((Bn_add (show Bn Y 120 from L_Y.out) (show Bn X 120 from L_X.out)).nat (by decide))
  rw [cmp3_eqN (show (X + Y) = (Y + X) from Nat.add_comm _ _)] at c3
  have C3 := Lib.hid c3
  clear c3
  have c4 := fun (W : World) (v0 : Value) (v1 : Value) (hh0 : nat.IsN W v0 X) (hh1 : nat.IsN W v1 Y)  => nat.Mul_any v0 v1 X Y W hh0 hh1 ((show Bn X 120 from L_X.out).nat (by decide)) ((show Bn Y 120 from L_Y.out).nat (by decide))
  have C4 := Lib.hid c4
  clear c4
  have c5 := fun (W : World) (v0 : Value) (v1 : Value) (hh0 : nat.IsN W v0 Y) (hh1 : nat.IsN W v1 X)  => nat.Mul_any v0 v1 Y X W hh0 hh1 ((show Bn Y 120 from L_Y.out).nat (by decide)) ((show Bn X 120 from L_X.out).nat (by decide))
  have C5 := Lib.hid c5
  clear c5
  have c6 := fun (W : World) (v0 : Value) (v1 : Value) (hh0 : nat.IsN W v0 (X * Y)) (hh1 : nat.IsN W v1 (Y * X))  => nat.Cmp_b v0 v1 (X * Y) (Y * X) W hh0 hh1 ((Bn_mul (show Bn X 120 from L_X.out) (show Bn Y 120 from L_Y.out)).nat (by decide)) ((Bn_mul (show Bn Y 120 from L_Y.out) (show Bn X 120 from L_X.out)).nat (by decide))
  rw [cmp3_eqN (show (X * Y) = (Y * X) from Nat.mul_comm _ _)] at c6
  have C6 := Lib.hid c6
  clear c6
  have c7 := fun (W : World) (v0 : Value) (v1 : Value) (hh0 : nat.IsN W v0 Y) (hh1 : nat.IsN W v1 Z)  => nat.Add_any v0 v1 Y Z W hh0 hh1 ((show Bn Y 120 from L_Y.out).nat (by decide)) ((show Bn Z 120 from L_Z.out).nat (by decide))
  have C7 := Lib.hid c7
  clear c7
  have c8 := fun (W : World) (v0 : Value) (v1 : Value) (hh0 : nat.IsN W v0 X) (hh1 : nat.IsN W v1 (Y + Z))  => nat.Mul_any v0 v1 X (Y + Z) W hh0 hh1 ((show Bn X 120 from L_X.out).nat (by decide)) ((Bn_add (show Bn Y 120 from L_Y.out) (show Bn Z 120 from L_Z.out)).nat (by decide))
  have C8 := Lib.hid c8
  clear c8
  have c9 := fun (W : World) (v0 : Value) (v1 : Value) (hh0 : nat.IsN W v0 X) (hh1 : nat.IsN W v1 Y)  => nat.Mul_any v0 v1 X Y W hh0 hh1 ((show Bn X 120 from L_X.out).nat (by decide)) ((show Bn Y 120 from L_Y.out).nat (by decide))
  have C9 := Lib.hid c9
  clear c9
  have c10 := fun (W : World) (v0 : Value) (v1 : Value) (hh0 : nat.IsN W v0 X) (hh1 : nat.IsN W v1 Z)  => nat.Mul_any v0 v1 X Z W hh0 hh1 ((show Bn X 120 from L_X.out).nat (by decide)) ((show Bn Z 120 from L_Z.out).nat (by decide))
  have C10 := Lib.hid c10
  clear c10
  have c11 := fun (W : World) (v0 : Value) (v1 : Value) (hh0 : nat.IsN W v0 (X * Y)) (hh1 : nat.IsN W v1 (X * Z))  => nat.Add_any v0 v1 (X * Y) (X * Z) W hh0 hh1 ((Bn_mul (show Bn X 120 from L_X.out) (show Bn Y 120 from L_Y.out)).nat (by decide)) ((Bn_mul (show Bn X 120 from L_X.out) (show Bn Z 120 from L_Z.out)).nat (by decide))
  have C11 := Lib.hid c11
  clear c11
  have c12 := fun (W : World) (v0 : Value) (v1 : Value) (hh0 : nat.IsN W v0 (X * (Y + Z))) (hh1 : nat.IsN W v1 ((X * Y) + (X * Z)))  => nat.Cmp_b v0 v1 (X * (Y + Z)) ((X * Y) + (X * Z)) W hh0 hh1 ((Bn_mul (show Bn X 120 from L_X.out) (Bn_add (show Bn Y 120 from L_Y.out) (show Bn Z 120 from L_Z.out))).nat (by decide)) ((Bn_add (Bn_mul (show Bn X 120 from L_X.out) (show Bn Y 120 from L_Y.out)) (Bn_mul (show Bn X 120 from L_X.out) (show Bn Z 120 from L_Z.out))).nat (by decide))
  rw [cmp3_eqN (show (X * (Y + Z)) = ((X * Y) + (X * Z)) from Nat.mul_add _ _ _)] at c12
  have C12 := Lib.hid c12
  clear c12
  have c13 := fun (W : World) (v0 : Value) (v1 : Value) (hh0 : nat.IsN W v0 X) (hh1 : nat.IsN W v1 Y)  => nat.Mul_any v0 v1 X Y W hh0 hh1 ((show Bn X 120 from L_X.out).nat (by decide)) ((show Bn Y 120 from L_Y.out).nat (by decide))
  have C13 := Lib.hid c13
  clear c13
  have c14 := fun (W : World) (v0 : Value) (v1 : Value) (hh0 : nat.IsN W v0 (X * Y)) (hh1 : nat.IsN W v1 Z)  => nat.Mul_any v0 v1 (X * Y) Z W hh0 hh1 ((Bn_mul (show Bn X 120 from L_X.out) (show Bn Y 120 from L_Y.out)).nat (by decide)) ((show Bn Z 120 from L_Z.out).nat (by decide))
  have C14 := Lib.hid c14
  clear c14
  have c15 := fun (W : World) (v0 : Value) (v1 : Value) (hh0 : nat.IsN W v0 Y) (hh1 : nat.IsN W v1 Z)  => nat.Mul_any v0 v1 Y Z W hh0 hh1 ((show Bn Y 120 from L_Y.out).nat (by decide)) ((show Bn Z 120 from L_Z.out).nat (by decide))
  have C15 := Lib.hid c15
  clear c15
  have c16 := fun (W : World) (v0 : Value) (v1 : Value) (hh0 : nat.IsN W v0 X) (hh1 : nat.IsN W v1 (Y * Z))  => nat.Mul_any v0 v1 X (Y * Z) W hh0 hh1 ((show Bn X 120 from L_X.out).nat (by decide)) ((Bn_mul (show Bn Y 120 from L_Y.out) (show Bn Z 120 from L_Z.out)).nat (by decide))
  have C16 := Lib.hid c16
  clear c16
  have c17 := fun (W : World) (v0 : Value) (v1 : Value) (hh0 : nat.IsN W v0 ((X * Y) * Z)) (hh1 : nat.IsN W v1 (X * (Y * Z)))  => nat.Cmp_b v0 v1 ((X * Y) * Z) (X * (Y * Z)) W hh0 hh1 ((Bn_mul (Bn_mul (show Bn X 120 from L_X.out) (show Bn Y 120 from L_Y.out)) (show Bn Z 120 from L_Z.out)).nat (by decide)) ((Bn_mul (show Bn X 120 from L_X.out) (Bn_mul (show Bn Y 120 from L_Y.out) (show Bn Z 120 from L_Z.out))).nat (by decide))
  rw [cmp3_eqN (show ((X * Y) * Z) = (X * (Y * Z)) from Nat.mul_assoc _ _ _)] at c17
  have C17 := Lib.hid c17
  clear c17
  go_wp2_with (first
    | (go_at_call 35; (with_reducible refine (C1.out _ _ _ ((H_a.out.below HB3.out).below HB4.out) (H_b.out.below HB4.out)).mono ?_); rintro e W5 ⟨x1, rfl, ⟨h_x1, n_x1⟩, hb⟩
       have H_x1 := Lib.hid h_x1
       have N_x1 := Lib.hid n_x1
       have HB5 := Lib.hid hb
       clear h_x1 n_x1 hb C1)
    | (go_at_call 35; (with_reducible refine (C2.out _ _ _ ((H_b.out.below HB4.out).below HB5.out) (((H_a.out.below HB3.out).below HB4.out).below HB5.out)).mono ?_); rintro e W6 ⟨x2, rfl, ⟨h_x2, n_x2⟩, hb⟩
       have H_x2 := Lib.hid h_x2
       have N_x2 := Lib.hid n_x2
       have HB6 := Lib.hid hb
       clear h_x2 n_x2 hb C2)
    | (go_at_call 39; (with_reducible refine (C3.out _ _ _ (H_x1.out.below HB6.out) H_x2.out).mono ?_); rintro e W7 ⟨rfl, hb⟩
       have HB7 := Lib.hid hb
       clear hb C3)
    | (go_at_call 37; (with_reducible refine (C4.out _ _ _ (((((H_a.out.below HB3.out).below HB4.out).below HB5.out).below HB6.out).below HB7.out) ((((H_b.out.below HB4.out).below HB5.out).below HB6.out).below HB7.out)).mono ?_); rintro e W8 ⟨x3, rfl, ⟨h_x3, n_x3⟩, hb⟩
       have H_x3 := Lib.hid h_x3
       have N_x3 := Lib.hid n_x3
       have HB8 := Lib.hid hb
       clear h_x3 n_x3 hb C4)
    | (go_at_call 37; (with_reducible refine (C5.out _ _ _ (((((H_b.out.below HB4.out).below HB5.out).below HB6.out).below HB7.out).below HB8.out) ((((((H_a.out.below HB3.out).below HB4.out).below HB5.out).below HB6.out).below HB7.out).below HB8.out)).mono ?_); rintro e W9 ⟨x4, rfl, ⟨h_x4, n_x4⟩, hb⟩
       have H_x4 := Lib.hid h_x4
       have N_x4 := Lib.hid n_x4
       have HB9 := Lib.hid hb
       clear h_x4 n_x4 hb C5)
    | (go_at_call 39; (with_reducible refine (C6.out _ _ _ (H_x3.out.below HB9.out) H_x4.out).mono ?_); rintro e W10 ⟨rfl, hb⟩
       have HB10 := Lib.hid hb
       clear hb C6)
    | (go_at_call 35; (with_reducible refine (C7.out _ _ _ (((((((H_b.out.below HB4.out).below HB5.out).below HB6.out).below HB7.out).below HB8.out).below HB9.out).below HB10.out) ((((((H_c.out.below HB5.out).below HB6.out).below HB7.out).below HB8.out).below HB9.out).below HB10.out)).mono ?_); rintro e W11 ⟨x5, rfl, ⟨h_x5, n_x5⟩, hb⟩
       have H_x5 := Lib.hid h_x5
       have N_x5 := Lib.hid n_x5
       have HB11 := Lib.hid hb
       clear h_x5 n_x5 hb C7)
    | (go_at_call 37; (with_reducible refine (C8.out _ _ _ (((((((((H_a.out.below HB3.out).below HB4.out).below HB5.out).below HB6.out).below HB7.out).below HB8.out).below HB9.out).below HB10.out).below HB11.out) H_x5.out).mono ?_); rintro e W12 ⟨x6, rfl, ⟨h_x6, n_x6⟩, hb⟩
       have H_x6 := Lib.hid h_x6
       have N_x6 := Lib.hid n_x6
       have HB12 := Lib.hid hb
       clear h_x6 n_x6 hb C8)
    | (go_at_call 37; (with_reducible refine (C9.out _ _ _ ((((((((((H_a.out.below HB3.out).below HB4.out).below HB5.out).below HB6.out).below HB7.out).below HB8.out).below HB9.out).below HB10.out).below HB11.out).below HB12.out) (((((((((H_b.out.below HB4.out).below HB5.out).below HB6.out).below HB7.out).below HB8.out).below HB9.out).below HB10.out).below HB11.out).below HB12.out)).mono ?_); rintro e W13 ⟨x7, rfl, ⟨h_x7, n_x7⟩, hb⟩
       have H_x7 := Lib.hid h_x7
       have N_x7 := Lib.hid n_x7
       have HB13 := Lib.hid hb
       clear h_x7 n_x7 hb C9)
    | (go_at_call 37; (with_reducible refine (C10.out _ _ _ (((((((((((H_a.out.below HB3.out).below HB4.out).below HB5.out).below HB6.out).below HB7.out).below HB8.out).below HB9.out).below HB10.out).below HB11.out).below HB12.out).below HB13.out) (((((((((H_c.out.below HB5.out).below HB6.out).below HB7.out).below HB8.out).below HB9.out).below HB10.out).below HB11.out).below HB12.out).below HB13.out)).mono ?_); rintro e W14 ⟨x8, rfl, ⟨h_x8, n_x8⟩, hb⟩
       have H_x8 := Lib.hid h_x8
       have N_x8 := Lib.hid n_x8
       have HB14 := Lib.hid hb
       clear h_x8 n_x8 hb C10)
    | (go_at_call 35; (with_reducible refine (C11.out _ _ _ (H_x7.out.below HB14.out) H_x8.out).mono ?_); rintro e W15 ⟨x9, rfl, ⟨h_x9, n_x9⟩, hb⟩
       have H_x9 := Lib.hid h_x9
       have N_x9 := Lib.hid n_x9
       have HB15 := Lib.hid hb
       clear h_x9 n_x9 hb C11)
    | (go_at_call 39; (with_reducible refine (C12.out _ _ _ (((H_x6.out.below HB13.out).below HB14.out).below HB15.out) H_x9.out).mono ?_); rintro e W16 ⟨rfl, hb⟩
       have HB16 := Lib.hid hb
       clear hb C12)
    | (go_at_call 37; (with_reducible refine (C13.out _ _ _ ((((((((((((((H_a.out.below HB3.out).below HB4.out).below HB5.out).below HB6.out).below HB7.out).below HB8.out).below HB9.out).below HB10.out).below HB11.out).below HB12.out).below HB13.out).below HB14.out).below HB15.out).below HB16.out) (((((((((((((H_b.out.below HB4.out).below HB5.out).below HB6.out).below HB7.out).below HB8.out).below HB9.out).below HB10.out).below HB11.out).below HB12.out).below HB13.out).below HB14.out).below HB15.out).below HB16.out)).mono ?_); rintro e W17 ⟨y1, rfl, ⟨h_y1, n_y1⟩, hb⟩
       have H_y1 := Lib.hid h_y1
       have N_y1 := Lib.hid n_y1
       have HB17 := Lib.hid hb
       clear h_y1 n_y1 hb C13)
    | (go_at_call 37; (with_reducible refine (C14.out _ _ _ H_y1.out (((((((((((((H_c.out.below HB5.out).below HB6.out).below HB7.out).below HB8.out).below HB9.out).below HB10.out).below HB11.out).below HB12.out).below HB13.out).below HB14.out).below HB15.out).below HB16.out).below HB17.out)).mono ?_); rintro e W18 ⟨y2, rfl, ⟨h_y2, n_y2⟩, hb⟩
       have H_y2 := Lib.hid h_y2
       have N_y2 := Lib.hid n_y2
       have HB18 := Lib.hid hb
       clear h_y2 n_y2 hb C14)
    | (go_at_call 37; (with_reducible refine (C15.out _ _ _ (((((((((((((((H_b.out.below HB4.out).below HB5.out).below HB6.out).below HB7.out).below HB8.out).below HB9.out).below HB10.out).below HB11.out).below HB12.out).below HB13.out).below HB14.out).below HB15.out).below HB16.out).below HB17.out).below HB18.out) ((((((((((((((H_c.out.below HB5.out).below HB6.out).below HB7.out).below HB8.out).below HB9.out).below HB10.out).below HB11.out).below HB12.out).below HB13.out).below HB14.out).below HB15.out).below HB16.out).below HB17.out).below HB18.out)).mono ?_); rintro e W19 ⟨y3, rfl, ⟨h_y3, n_y3⟩, hb⟩
       have H_y3 := Lib.hid h_y3
       have N_y3 := Lib.hid n_y3
       have HB19 := Lib.hid hb
       clear h_y3 n_y3 hb C15)
    | (go_at_call 37; (with_reducible refine (C16.out _ _ _ (((((((((((((((((H_a.out.below HB3.out).below HB4.out).below HB5.out).below HB6.out).below HB7.out).below HB8.out).below HB9.out).below HB10.out).below HB11.out).below HB12.out).below HB13.out).below HB14.out).below HB15.out).below HB16.out).below HB17.out).below HB18.out).below HB19.out) H_y3.out).mono ?_); rintro e W20 ⟨y4, rfl, ⟨h_y4, n_y4⟩, hb⟩
       have H_y4 := Lib.hid h_y4
       have N_y4 := Lib.hid n_y4
       have HB20 := Lib.hid hb
       clear h_y4 n_y4 hb C16)
    | (go_at_call 39; (with_reducible refine (C17.out _ _ _ ((H_y2.out.below HB19.out).below HB20.out) H_y4.out).mono ?_); rintro e W21 ⟨rfl, hb⟩
       have HB21 := Lib.hid hb
       clear hb C17)
    | (fail "no arm"))
  rcases Nat.eq_zero_or_pos Y with hY | hY
  · have HY := Lib.hid hY
    clear hY
    have cx18 := fun (W : World) (v0 : Value) (hh0 : nat.IsN W v0 Y)  => nat.Zero_any v0 Y W hh0
    rw [decide_eq_true HY.out] at cx18
    have Cx18 := Lib.hid cx18
    clear cx18
    go_wp2_with (first
      | (go_at_call 42; (with_reducible refine (Cx18.out _ _ ((((((((((((((((((H_b.out.below HB4.out).below HB5.out).below HB6.out).below HB7.out).below HB8.out).below HB9.out).below HB10.out).below HB11.out).below HB12.out).below HB13.out).below HB14.out).below HB15.out).below HB16.out).below HB17.out).below HB18.out).below HB19.out).below HB20.out).below HB21.out)).mono ?_); rintro e w9 ⟨rfl, rfl⟩
         clear Cx18)
      | (fail "no arm"))
    skip
    all_goals (go_ret; exact ⟨rfl, (nat.below_tr (nat.below_tr (nat.below_tr (nat.below_tr (nat.below_tr (nat.below_tr (nat.below_tr (nat.below_tr (nat.below_tr (nat.below_tr (nat.below_tr (nat.below_tr (nat.below_tr (nat.below_tr (nat.below_tr (nat.below_tr (nat.below_tr (nat.below_tr (nat.below_tr (nat.below_tr HB1.out HB2.out) HB3.out) HB4.out) HB5.out) HB6.out) HB7.out) HB8.out) HB9.out) HB10.out) HB11.out) HB12.out) HB13.out) HB14.out) HB15.out) HB16.out) HB17.out) HB18.out) HB19.out) HB20.out) HB21.out)⟩)
  · have HY := Lib.hid hY
    have HG0 := Lib.hid (show 0 < Nat.gcd X Y from Nat.gcd_pos_of_pos_right _ hY)
    clear hY
    have cx18 := fun (W : World) (v0 : Value) (hh0 : nat.IsN W v0 Y)  => nat.Zero_any v0 Y W hh0
    rw [decide_eq_false (show ¬ Y = 0 from by have := HY.out; omega)] at cx18
    have Cx18 := Lib.hid cx18
    clear cx18
    have cx19 := fun (W : World) (v0 : Value) (v1 : Value) (hh0 : nat.IsN W v0 X) (hh1 : nat.IsN W v1 Y)  => nat.Mul_any v0 v1 X Y W hh0 hh1 ((show Bn X 120 from L_X.out).nat (by decide)) ((show Bn Y 120 from L_Y.out).nat (by decide))
    have Cx19 := Lib.hid cx19
    clear cx19
    have cx20 := fun (W : World) (v0 : Value) (v1 : Value) (hh0 : nat.IsN W v0 (X * Y)) (hh1 : nat.IsN W v1 Z)  => nat.Add_any v0 v1 (X * Y) Z W hh0 hh1 ((Bn_mul (show Bn X 120 from L_X.out) (show Bn Y 120 from L_Y.out)).nat (by decide)) ((show Bn Z 120 from L_Z.out).nat (by decide))
    have Cx20 := Lib.hid cx20
    clear cx20
    have cx21 := fun (W : World) (v0 : Value) (v1 : Value) (hh0 : nat.IsN W v0 ((X * Y) + Z)) (hh1 : nat.IsN W v1 Y)  => nat.Div_ok v0 v1 ((X * Y) + Z) Y W hh0 hh1 HY.out ((Bn_add (Bn_mul (show Bn X 120 from L_X.out) (show Bn Y 120 from L_Y.out)) (show Bn Z 120 from L_Z.out)).nat (by decide)) ((show Bn Y 120 from L_Y.out).nat (by decide))
    have Cx21 := Lib.hid cx21
    clear cx21
    have cx22 := fun (W : World) (v0 : Value) (v1 : Value) (hh0 : nat.IsN W v0 (((X * Y) + Z) / Y)) (hh1 : nat.IsN W v1 Y)  => nat.Mul_any v0 v1 (((X * Y) + Z) / Y) Y W hh0 hh1 ((Bn_div (Bn_add (Bn_mul (show Bn X 120 from L_X.out) (show Bn Y 120 from L_Y.out)) (show Bn Z 120 from L_Z.out))).nat (by decide)) ((show Bn Y 120 from L_Y.out).nat (by decide))
    have Cx22 := Lib.hid cx22
    clear cx22
    have cx23 := fun (W : World) (v0 : Value) (v1 : Value) (hh0 : nat.IsN W v0 ((((X * Y) + Z) / Y) * Y)) (hh1 : nat.IsN W v1 (((X * Y) + Z) % Y))  => nat.Add_any v0 v1 ((((X * Y) + Z) / Y) * Y) (((X * Y) + Z) % Y) W hh0 hh1 ((Bn_mul (Bn_div (Bn_add (Bn_mul (show Bn X 120 from L_X.out) (show Bn Y 120 from L_Y.out)) (show Bn Z 120 from L_Z.out))) (show Bn Y 120 from L_Y.out)).nat (by decide)) ((Bn_mod (Bn_add (Bn_mul (show Bn X 120 from L_X.out) (show Bn Y 120 from L_Y.out)) (show Bn Z 120 from L_Z.out))).nat (by decide))
    have Cx23 := Lib.hid cx23
    clear cx23
    have cx24 := fun (W : World) (v0 : Value) (v1 : Value) (hh0 : nat.IsN W v0 X) (hh1 : nat.IsN W v1 Y)  => nat.Mul_any v0 v1 X Y W hh0 hh1 ((show Bn X 120 from L_X.out).nat (by decide)) ((show Bn Y 120 from L_Y.out).nat (by decide))
    have Cx24 := Lib.hid cx24
    clear cx24
    have cx25 := fun (W : World) (v0 : Value) (v1 : Value) (hh0 : nat.IsN W v0 (X * Y)) (hh1 : nat.IsN W v1 Z)  => nat.Add_any v0 v1 (X * Y) Z W hh0 hh1 ((Bn_mul (show Bn X 120 from L_X.out) (show Bn Y 120 from L_Y.out)).nat (by decide)) ((show Bn Z 120 from L_Z.out).nat (by decide))
    have Cx25 := Lib.hid cx25
    clear cx25
    have cx26 := fun (W : World) (v0 : Value) (v1 : Value) (hh0 : nat.IsN W v0 (((((X * Y) + Z) / Y) * Y) + (((X * Y) + Z) % Y))) (hh1 : nat.IsN W v1 ((X * Y) + Z))  => nat.Cmp_b v0 v1 (((((X * Y) + Z) / Y) * Y) + (((X * Y) + Z) % Y)) ((X * Y) + Z) W hh0 hh1 ((Bn_add (Bn_mul (Bn_div (Bn_add (Bn_mul (show Bn X 120 from L_X.out) (show Bn Y 120 from L_Y.out)) (show Bn Z 120 from L_Z.out))) (show Bn Y 120 from L_Y.out)) (Bn_mod (Bn_add (Bn_mul (show Bn X 120 from L_X.out) (show Bn Y 120 from L_Y.out)) (show Bn Z 120 from L_Z.out)))).nat (by decide)) ((Bn_add (Bn_mul (show Bn X 120 from L_X.out) (show Bn Y 120 from L_Y.out)) (show Bn Z 120 from L_Z.out)).nat (by decide))
    rw [cmp3_eqN (show (((((X * Y) + Z) / Y) * Y) + (((X * Y) + Z) % Y)) = ((X * Y) + Z) from (by rw [Nat.mul_comm]; exact Nat.div_add_mod _ _))] at cx26
    have Cx26 := Lib.hid cx26
    clear cx26
    have cx27 := fun (W : World) (v0 : Value) (v1 : Value) (hh0 : nat.IsN W v0 (((X * Y) + Z) % Y)) (hh1 : nat.IsN W v1 Y)  => nat.Cmp_b v0 v1 (((X * Y) + Z) % Y) Y W hh0 hh1 ((Bn_mod (Bn_add (Bn_mul (show Bn X 120 from L_X.out) (show Bn Y 120 from L_Y.out)) (show Bn Z 120 from L_Z.out))).nat (by decide)) ((show Bn Y 120 from L_Y.out).nat (by decide))
    rw [cmp3_ltN (show (((X * Y) + Z) % Y) < Y from Nat.mod_lt _ HY.out)] at cx27
    have Cx27 := Lib.hid cx27
    clear cx27
    have cx28 := fun (W : World) (v0 : Value) (v1 : Value) (hh0 : nat.IsN W v0 X) (hh1 : nat.IsN W v1 Y)  => nat.Gcd_any v0 v1 X Y W hh0 hh1 ((show Bn X 120 from L_X.out).nat (by decide)) ((show Bn Y 120 from L_Y.out).nat (by decide))
    have Cx28 := Lib.hid cx28
    clear cx28
    have cx29 := fun (W : World) (v0 : Value) (v1 : Value) (hh0 : nat.IsN W v0 X) (hh1 : nat.IsN W v1 (Nat.gcd X Y))  => nat.Div_ok v0 v1 X (Nat.gcd X Y) W hh0 hh1 HG0.out ((show Bn X 120 from L_X.out).nat (by decide)) ((Bn_gcd (show Bn X 120 from L_X.out) (show Bn Y 120 from L_Y.out)).nat (by decide))
    have Cx29 := Lib.hid cx29
    clear cx29
    have cx30 := fun (W : World) (v0 : Value) (v1 : Value) (hh0 : nat.IsN W v0 Y) (hh1 : nat.IsN W v1 (Nat.gcd X Y))  => nat.Div_ok v0 v1 Y (Nat.gcd X Y) W hh0 hh1 HG0.out ((show Bn Y 120 from L_Y.out).nat (by decide)) ((Bn_gcd (show Bn X 120 from L_X.out) (show Bn Y 120 from L_Y.out)).nat (by decide))
    have Cx30 := Lib.hid cx30
    clear cx30
    have cx31 := fun (W : World) (v0 : Value) (hh0 : nat.IsN W v0 (X % (Nat.gcd X Y)))  => nat.Zero_any v0 (X % (Nat.gcd X Y)) W hh0
    rw [decide_eq_true (show X % Nat.gcd X Y = 0 from Nat.mod_eq_zero_of_dvd (Nat.gcd_dvd_left _ _))] at cx31
    have Cx31 := Lib.hid cx31
    clear cx31
    have cx32 := fun (W : World) (v0 : Value) (hh0 : nat.IsN W v0 (Y % (Nat.gcd X Y)))  => nat.Zero_any v0 (Y % (Nat.gcd X Y)) W hh0
    rw [decide_eq_true (show Y % Nat.gcd X Y = 0 from Nat.mod_eq_zero_of_dvd (Nat.gcd_dvd_right _ _))] at cx32
    have Cx32 := Lib.hid cx32
    clear cx32
    go_wp2_with (first
      | (go_at_call 42; (with_reducible refine (Cx18.out _ _ ((((((((((((((((((H_b.out.below HB4.out).below HB5.out).below HB6.out).below HB7.out).below HB8.out).below HB9.out).below HB10.out).below HB11.out).below HB12.out).below HB13.out).below HB14.out).below HB15.out).below HB16.out).below HB17.out).below HB18.out).below HB19.out).below HB20.out).below HB21.out)).mono ?_); rintro e w9 ⟨rfl, rfl⟩
         clear Cx18)
      | (go_at_call 37; (with_reducible refine (Cx19.out _ _ _ (((((((((((((((((((H_a.out.below HB3.out).below HB4.out).below HB5.out).below HB6.out).below HB7.out).below HB8.out).below HB9.out).below HB10.out).below HB11.out).below HB12.out).below HB13.out).below HB14.out).below HB15.out).below HB16.out).below HB17.out).below HB18.out).below HB19.out).below HB20.out).below HB21.out) ((((((((((((((((((H_b.out.below HB4.out).below HB5.out).below HB6.out).below HB7.out).below HB8.out).below HB9.out).below HB10.out).below HB11.out).below HB12.out).below HB13.out).below HB14.out).below HB15.out).below HB16.out).below HB17.out).below HB18.out).below HB19.out).below HB20.out).below HB21.out)).mono ?_); rintro e W22 ⟨q1, rfl, ⟨h_q1, n_q1⟩, hb⟩
         have H_q1 := Lib.hid h_q1
         have N_q1 := Lib.hid n_q1
         have HB22 := Lib.hid hb
         clear h_q1 n_q1 hb Cx19)
      | (go_at_call 35; (with_reducible refine (Cx20.out _ _ _ H_q1.out ((((((((((((((((((H_c.out.below HB5.out).below HB6.out).below HB7.out).below HB8.out).below HB9.out).below HB10.out).below HB11.out).below HB12.out).below HB13.out).below HB14.out).below HB15.out).below HB16.out).below HB17.out).below HB18.out).below HB19.out).below HB20.out).below HB21.out).below HB22.out)).mono ?_); rintro e W23 ⟨q2, rfl, ⟨h_q2, n_q2⟩, hb⟩
         have H_q2 := Lib.hid h_q2
         have N_q2 := Lib.hid n_q2
         have HB23 := Lib.hid hb
         clear h_q2 n_q2 hb Cx20)
      | (go_at_call 33; (with_reducible refine (Cx21.out _ _ _ H_q2.out ((((((((((((((((((((H_b.out.below HB4.out).below HB5.out).below HB6.out).below HB7.out).below HB8.out).below HB9.out).below HB10.out).below HB11.out).below HB12.out).below HB13.out).below HB14.out).below HB15.out).below HB16.out).below HB17.out).below HB18.out).below HB19.out).below HB20.out).below HB21.out).below HB22.out).below HB23.out)).mono ?_); rintro e W24 ⟨q, r, rfl, ⟨h_q, n_q⟩, ⟨h_r, n_r⟩, hb⟩
         have H_q := Lib.hid h_q
         have N_q := Lib.hid n_q
         have H_r := Lib.hid h_r
         have N_r := Lib.hid n_r
         have HB24 := Lib.hid hb
         clear h_q n_q h_r n_r hb Cx21)
      | (go_at_call 37; (with_reducible refine (Cx22.out _ _ _ H_q.out (((((((((((((((((((((H_b.out.below HB4.out).below HB5.out).below HB6.out).below HB7.out).below HB8.out).below HB9.out).below HB10.out).below HB11.out).below HB12.out).below HB13.out).below HB14.out).below HB15.out).below HB16.out).below HB17.out).below HB18.out).below HB19.out).below HB20.out).below HB21.out).below HB22.out).below HB23.out).below HB24.out)).mono ?_); rintro e W25 ⟨q3, rfl, ⟨h_q3, n_q3⟩, hb⟩
         have H_q3 := Lib.hid h_q3
         have N_q3 := Lib.hid n_q3
         have HB25 := Lib.hid hb
         clear h_q3 n_q3 hb Cx22)
      | (go_at_call 35; (with_reducible refine (Cx23.out _ _ _ H_q3.out (H_r.out.below HB25.out)).mono ?_); rintro e W26 ⟨q4, rfl, ⟨h_q4, n_q4⟩, hb⟩
         have H_q4 := Lib.hid h_q4
         have N_q4 := Lib.hid n_q4
         have HB26 := Lib.hid hb
         clear h_q4 n_q4 hb Cx23)
      | (go_at_call 37; (with_reducible refine (Cx24.out _ _ _ ((((((((((((((((((((((((H_a.out.below HB3.out).below HB4.out).below HB5.out).below HB6.out).below HB7.out).below HB8.out).below HB9.out).below HB10.out).below HB11.out).below HB12.out).below HB13.out).below HB14.out).below HB15.out).below HB16.out).below HB17.out).below HB18.out).below HB19.out).below HB20.out).below HB21.out).below HB22.out).below HB23.out).below HB24.out).below HB25.out).below HB26.out) (((((((((((((((((((((((H_b.out.below HB4.out).below HB5.out).below HB6.out).below HB7.out).below HB8.out).below HB9.out).below HB10.out).below HB11.out).below HB12.out).below HB13.out).below HB14.out).below HB15.out).below HB16.out).below HB17.out).below HB18.out).below HB19.out).below HB20.out).below HB21.out).below HB22.out).below HB23.out).below HB24.out).below HB25.out).below HB26.out)).mono ?_); rintro e W27 ⟨q5, rfl, ⟨h_q5, n_q5⟩, hb⟩
         have H_q5 := Lib.hid h_q5
         have N_q5 := Lib.hid n_q5
         have HB27 := Lib.hid hb
         clear h_q5 n_q5 hb Cx24)
      | (go_at_call 35; (with_reducible refine (Cx25.out _ _ _ H_q5.out (((((((((((((((((((((((H_c.out.below HB5.out).below HB6.out).below HB7.out).below HB8.out).below HB9.out).below HB10.out).below HB11.out).below HB12.out).below HB13.out).below HB14.out).below HB15.out).below HB16.out).below HB17.out).below HB18.out).below HB19.out).below HB20.out).below HB21.out).below HB22.out).below HB23.out).below HB24.out).below HB25.out).below HB26.out).below HB27.out)).mono ?_); rintro e W28 ⟨q6, rfl, ⟨h_q6, n_q6⟩, hb⟩
         have H_q6 := Lib.hid h_q6
         have N_q6 := Lib.hid n_q6
         have HB28 := Lib.hid hb
         clear h_q6 n_q6 hb Cx25)
      | (go_at_call 39; (with_reducible refine (Cx26.out _ _ _ ((H_q4.out.below HB27.out).below HB28.out) H_q6.out).mono ?_); rintro e W29 ⟨rfl, hb⟩
         have HB29 := Lib.hid hb
         clear hb Cx26)
      | (go_at_call 39; (with_reducible refine (Cx27.out _ _ _ (((((H_r.out.below HB25.out).below HB26.out).below HB27.out).below HB28.out).below HB29.out) ((((((((((((((((((((((((((H_b.out.below HB4.out).below HB5.out).below HB6.out).below HB7.out).below HB8.out).below HB9.out).below HB10.out).below HB11.out).below HB12.out).below HB13.out).below HB14.out).below HB15.out).below HB16.out).below HB17.out).below HB18.out).below HB19.out).below HB20.out).below HB21.out).below HB22.out).below HB23.out).below HB24.out).below HB25.out).below HB26.out).below HB27.out).below HB28.out).below HB29.out)).mono ?_); rintro e W30 ⟨rfl, hb⟩
         have HB30 := Lib.hid hb
         clear hb Cx27)
      | (go_at_call 40; (with_reducible refine (Cx28.out _ _ _ ((((((((((((((((((((((((((((H_a.out.below HB3.out).below HB4.out).below HB5.out).below HB6.out).below HB7.out).below HB8.out).below HB9.out).below HB10.out).below HB11.out).below HB12.out).below HB13.out).below HB14.out).below HB15.out).below HB16.out).below HB17.out).below HB18.out).below HB19.out).below HB20.out).below HB21.out).below HB22.out).below HB23.out).below HB24.out).below HB25.out).below HB26.out).below HB27.out).below HB28.out).below HB29.out).below HB30.out) (((((((((((((((((((((((((((H_b.out.below HB4.out).below HB5.out).below HB6.out).below HB7.out).below HB8.out).below HB9.out).below HB10.out).below HB11.out).below HB12.out).below HB13.out).below HB14.out).below HB15.out).below HB16.out).below HB17.out).below HB18.out).below HB19.out).below HB20.out).below HB21.out).below HB22.out).below HB23.out).below HB24.out).below HB25.out).below HB26.out).below HB27.out).below HB28.out).below HB29.out).below HB30.out)).mono ?_); rintro e W31 ⟨g, rfl, ⟨h_g, n_g⟩, hb⟩
         have H_g := Lib.hid h_g
         have N_g := Lib.hid n_g
         have HB31 := Lib.hid hb
         clear h_g n_g hb Cx28)
      | (go_at_call 33; (with_reducible refine (Cx29.out _ _ _ (((((((((((((((((((((((((((((H_a.out.below HB3.out).below HB4.out).below HB5.out).below HB6.out).below HB7.out).below HB8.out).below HB9.out).below HB10.out).below HB11.out).below HB12.out).below HB13.out).below HB14.out).below HB15.out).below HB16.out).below HB17.out).below HB18.out).below HB19.out).below HB20.out).below HB21.out).below HB22.out).below HB23.out).below HB24.out).below HB25.out).below HB26.out).below HB27.out).below HB28.out).below HB29.out).below HB30.out).below HB31.out) H_g.out).mono ?_); rintro e W32 ⟨u1, u2, rfl, ⟨h_u1, n_u1⟩, ⟨h_u2, n_u2⟩, hb⟩
         have H_u1 := Lib.hid h_u1
         have N_u1 := Lib.hid n_u1
         have H_u2 := Lib.hid h_u2
         have N_u2 := Lib.hid n_u2
         have HB32 := Lib.hid hb
         clear h_u1 n_u1 h_u2 n_u2 hb Cx29)
      | (go_at_call 33; (with_reducible refine (Cx30.out _ _ _ (((((((((((((((((((((((((((((H_b.out.below HB4.out).below HB5.out).below HB6.out).below HB7.out).below HB8.out).below HB9.out).below HB10.out).below HB11.out).below HB12.out).below HB13.out).below HB14.out).below HB15.out).below HB16.out).below HB17.out).below HB18.out).below HB19.out).below HB20.out).below HB21.out).below HB22.out).below HB23.out).below HB24.out).below HB25.out).below HB26.out).below HB27.out).below HB28.out).below HB29.out).below HB30.out).below HB31.out).below HB32.out) (H_g.out.below HB32.out)).mono ?_); rintro e W33 ⟨u3, u4, rfl, ⟨h_u3, n_u3⟩, ⟨h_u4, n_u4⟩, hb⟩
         have H_u3 := Lib.hid h_u3
         have N_u3 := Lib.hid n_u3
         have H_u4 := Lib.hid h_u4
         have N_u4 := Lib.hid n_u4
         have HB33 := Lib.hid hb
         clear h_u3 n_u3 h_u4 n_u4 hb Cx30)
      | (go_at_call 42; (with_reducible refine (Cx31.out _ _ (H_u2.out.below HB33.out)).mono ?_); rintro e w9 ⟨rfl, rfl⟩
         clear Cx31)
      | (go_at_call 42; (with_reducible refine (Cx32.out _ _ H_u4.out).mono ?_); rintro e w9 ⟨rfl, rfl⟩
         clear Cx32)
      | (fail "no arm"))
    skip
    all_goals (go_ret; exact ⟨rfl, (nat.below_tr (nat.below_tr (nat.below_tr (nat.below_tr (nat.below_tr (nat.below_tr (nat.below_tr (nat.below_tr (nat.below_tr (nat.below_tr (nat.below_tr (nat.below_tr (nat.below_tr (nat.below_tr (nat.below_tr (nat.below_tr (nat.below_tr (nat.below_tr (nat.below_tr (nat.below_tr (nat.below_tr (nat.below_tr (nat.below_tr (nat.below_tr (nat.below_tr (nat.below_tr (nat.below_tr (nat.below_tr (nat.below_tr (nat.below_tr (nat.below_tr (nat.below_tr HB1.out HB2.out) HB3.out) HB4.out) HB5.out) HB6.out) HB7.out) HB8.out) HB9.out) HB10.out) HB11.out) HB12.out) HB13.out) HB14.out) HB15.out) HB16.out) HB17.out) HB18.out) HB19.out) HB20.out) HB21.out) HB22.out) HB23.out) HB24.out) HB25.out) HB26.out) HB27.out) HB28.out) HB29.out) HB30.out) HB31.out) HB32.out) HB33.out)⟩)
end Go.Proofs.YtfpooimjjpamoaaGreatDoor.law2
