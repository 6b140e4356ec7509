/-
  NatAll answers true for every two texts. Conditions: begun answers true; texts of at most 2^62 bytes.
-/
import Derived.Test.YtfpooimjjpamoaaGreatDoorA38
namespace Go.Proofs.YtfpooimjjpamoaaGreatDoor.law2
open Go.RowKit Go.Proofs.YtfpooimjjpamoaaGreatDoor.nat
open Go.Proofs.YtfpooimjjpamoaaGreatDoor.ref (str)
set_option maxRecDepth 100000 in
set_option maxHeartbeats 4000000 in
theorem LwNatAll (HBg : BegunC) (s : List UInt8) (hs : s.length ≤ 4611686018427387904) (t : List UInt8) (ht : t.length ≤ 4611686018427387904) (w : World) (hd : Hd w) :
    Calls Tryz.prog 3 #[.string (str s), .string (str t)] w fun e w' => e = .returned (.bool true) ∧ Below w.heap.size w w' := by
  unfold BegunC at HBg
  have HBG := Lib.hid HBg
  have HG := Lib.hid hd
  clear HBg hd
  have HNs := Lib.hid (fun W => N_any s W hs)
  have HNt := Lib.hid (fun W => N_any t W ht)
  clear hs ht
  generalize str s = zs at *
  generalize str t = zt at *
  go_enter Tryz.func3, Tryz.ntmps3
  go_wp2_with (first
    | (go_at_call 25; (with_reducible refine (HBG.out _ HG.out).mono ?_); rintro e W1 ⟨rfl, hb⟩
       have HB1 := Lib.hid hb
       clear hb)
    | (go_at_call 26; (with_reducible refine (HNs.out _).mono ?_); rintro e W2 ⟨a, x, X, rfl, ⟨hlt, ha, hna, hx⟩, hb⟩
       obtain ⟨p_a, rfl⟩ := ha.some hna
       obtain ⟨o_x, c_x, rfl⟩ := IsX_slice hx
       have L_X := Lib.hid hlt
       have H_a := Lib.hid ha
       have N_a := Lib.hid hna
       have H_x := Lib.hid hx
       have HB2 := Lib.hid hb
       clear hlt ha hna hx hb HNs)
    | (go_at_call 26; (with_reducible refine (HNt.out _).mono ?_); rintro e W3 ⟨b, y, Y, rfl, ⟨hlt, ha, hna, hx⟩, hb⟩
       obtain ⟨p_b, rfl⟩ := ha.some hna
       obtain ⟨o_y, c_y, rfl⟩ := IsX_slice hx
       have L_Y := Lib.hid hlt
       have H_b := Lib.hid ha
       have N_b := Lib.hid hna
       have H_y := Lib.hid hx
       have HB3 := Lib.hid hb
       clear hlt ha hna hx hb HNt)
    | (fail "no arm"))
  rcases Nat.eq_zero_or_pos X with hX | hX
  · have hxl : (((ref.digs X).length : Nat) : Int) = 0 := by rw [xlen_zero hX]; rfl
    rcases Nat.lt_or_ge X Y with hxy | hxy
    · have hcm : ref.cmpN X Y < 0 := by unfold ref.cmpN; rw [if_pos hxy]; decide
      rcases Nat.eq_zero_or_pos Y with hY | hY
      · omega
      · have hyl : (0 : Int) < ((ref.digs Y).length : Nat) := by have := xlen_pos (x := Y) (by omega); omega
        have HXY := Lib.hid hxy
        have HY := Lib.hid hY
        have HX := Lib.hid hX
        clear hxy hY hX
        have c1 := fun (W : World) (v0 : Value) (v1 : Value) (hh0 : nat.IsN W v0 X) (hh1 : nat.IsN W v1 Y)  => nat.Sub_none_b v0 v1 X Y W hh0 hh1 HXY.out ((show Bn X 120 from L_X.out).nat (by decide)) ((show Bn Y 120 from L_Y.out).nat (by decide))
        have C1 := Lib.hid c1
        clear c1
        have c2 := fun (W : World) (v0 : Value) (v1 : Value) (hh0 : ref.IsN W v0 X) (hh1 : ref.IsN W v1 Y)  => ref.Cmp_any v0 v1 X Y W hh0 hh1
        have C2 := Lib.hid c2
        clear c2
        have c3 := fun (W : World) (v0 : Value) (v1 : Value) (hh0 : nat.IsN W v0 X) (hh1 : nat.IsN W v1 Y)  => nat.Div_ok v0 v1 X Y W hh0 hh1 HY.out ((show Bn X 120 from L_X.out).nat (by decide)) ((show Bn Y 120 from L_Y.out).nat (by decide))
        have C3 := Lib.hid c3
        clear c3
        have c4 := fun (W : World) (v0 : Value) (v1 : Value) (hh0 : ref.IsN W v0 X) (hh1 : ref.IsN W v1 Y)  => ref.Div_any v0 v1 X Y W hh0 hh1 ((show Bn X 120 from L_X.out).ref (by decide)) ((show Bn Y 120 from L_Y.out).ref (by decide)) HY.out
        have C4 := Lib.hid c4
        clear c4
        have c5 := fun (W : World) (v0 : Value) (hh0 : nat.IsN W v0 (X / Y))  => nat.Text_any v0 (X / Y) W hh0 ((Bn_div (show Bn X 120 from L_X.out)).nat (by decide))
        have C5 := Lib.hid c5
        clear c5
        have c6 := fun (W : World) (v0 : Value) (hh0 : ref.IsN W v0 (X / Y))  => ref.Text_any v0 (X / Y) W hh0 ((Bn_div (show Bn X 120 from L_X.out)).ref (by decide))
        have C6 := Lib.hid c6
        clear c6
        have c7 := fun (W : World) (v0 : Value) (hh0 : nat.IsN W v0 (X % Y))  => nat.Text_any v0 (X % Y) W hh0 ((Bn_mod (show Bn X 120 from L_X.out)).nat (by decide))
        have C7 := Lib.hid c7
        clear c7
        have c8 := fun (W : World) (v0 : Value) (hh0 : ref.IsN W v0 (X % Y))  => ref.Text_any v0 (X % Y) W hh0 ((Bn_mod (show Bn X 120 from L_X.out)).ref (by decide))
        have C8 := Lib.hid c8
        clear c8
        have c9 := fun (W : World) (v0 : Value) (hh0 : nat.IsN W v0 X)  => nat.Text_any v0 X W hh0 ((show Bn X 120 from L_X.out).nat (by decide))
        have C9 := Lib.hid c9
        clear c9
        have c10 := fun (W : World) (v0 : Value) (hh0 : ref.IsN W v0 X)  => ref.Text_any v0 X W hh0 ((show Bn X 120 from L_X.out).ref (by decide))
        have C10 := Lib.hid c10
        clear c10
        have c11 := fun (W : World) (v0 : Value) (v1 : Value) (hh0 : nat.IsN W v0 X) (hh1 : nat.IsN W v1 Y)  => nat.Add_any v0 v1 X Y W hh0 hh1 ((show Bn X 120 from L_X.out).nat (by decide)) ((show Bn Y 120 from L_Y.out).nat (by decide))
        have C11 := Lib.hid c11
        clear c11
        have c12 := fun (W : World) (v0 : Value) (hh0 : nat.IsN W v0 (X + Y))  => nat.Text_any v0 (X + Y) W hh0 ((Bn_add (show Bn X 120 from L_X.out) (show Bn Y 120 from L_Y.out)).nat (by decide))
        have C12 := Lib.hid c12
        clear c12
        have c13 := fun (W : World) (v0 : Value) (v1 : Value) (hh0 : ref.IsN W v0 X) (hh1 : ref.IsN W v1 Y)  => ref.Add_any v0 v1 X Y W hh0 hh1 ((show Bn X 120 from L_X.out).ref (by decide)) ((show Bn Y 120 from L_Y.out).ref (by decide))
        have C13 := Lib.hid c13
        clear c13
        have c14 := fun (W : World) (v0 : Value) (hh0 : ref.IsN W v0 (X + Y))  => ref.Text_any v0 (X + Y) W hh0 ((Bn_add (show Bn X 120 from L_X.out) (show Bn Y 120 from L_Y.out)).ref (by decide))
        have C14 := Lib.hid c14
        clear c14
        have c15 := fun (W : World) (v0 : Value) (v1 : Value) (hh0 : nat.IsN W v0 X) (hh1 : nat.IsN W v1 Y)  => nat.Mul_any v0 v1 X Y W hh0 hh1 ((show Bn X 120 from L_X.out).nat (by decide)) ((show Bn Y 120 from L_Y.out).nat (by decide))
        have C15 := Lib.hid c15
        clear c15
        have c16 := fun (W : World) (v0 : Value) (hh0 : nat.IsN W v0 (X * Y))  => nat.Text_any v0 (X * Y) W hh0 ((Bn_mul (show Bn X 120 from L_X.out) (show Bn Y 120 from L_Y.out)).nat (by decide))
        have C16 := Lib.hid c16
        clear c16
        have c17 := fun (W : World) (v0 : Value) (v1 : Value) (hh0 : ref.IsN W v0 X) (hh1 : ref.IsN W v1 Y)  => ref.Mul_any v0 v1 X Y W hh0 hh1 ((show Bn X 120 from L_X.out).ref (by decide)) ((show Bn Y 120 from L_Y.out).ref (by decide))
        have C17 := Lib.hid c17
        clear c17
        have c18 := fun (W : World) (v0 : Value) (hh0 : ref.IsN W v0 (X * Y))  => ref.Text_any v0 (X * Y) W hh0 ((Bn_mul (show Bn X 120 from L_X.out) (show Bn Y 120 from L_Y.out)).ref (by decide))
        have C18 := Lib.hid c18
        clear c18
        have c19 := fun (W : World) (v0 : Value) (v1 : Value) (hh0 : nat.IsN W v0 X) (hh1 : nat.IsN W v1 Y)  => nat.Cmp_b v0 v1 X Y W hh0 hh1 ((show Bn X 120 from L_X.out).nat (by decide)) ((show Bn Y 120 from L_Y.out).nat (by decide))
        rw [cmp_same] at c19
        have C19 := Lib.hid c19
        clear c19
        have c20 := fun (W : World) (v0 : Value) (v1 : Value) (hh0 : ref.IsN W v0 X) (hh1 : ref.IsN W v1 Y)  => ref.Cmp_any v0 v1 X Y W hh0 hh1
        have C20 := Lib.hid c20
        clear c20
        have c21 := fun (W : World) (v0 : Value) (v1 : Value) (hh0 : nat.IsN W v0 X) (hh1 : nat.IsN W v1 Y)  => nat.Gcd_any v0 v1 X Y W hh0 hh1 ((show Bn X 120 from L_X.out).nat (by decide)) ((show Bn Y 120 from L_Y.out).nat (by decide))
        have C21 := Lib.hid c21
        clear c21
        have c22 := fun (W : World) (v0 : Value) (hh0 : nat.IsN W v0 (Nat.gcd X Y))  => nat.Text_any v0 (Nat.gcd X Y) W hh0 ((Bn_gcd (show Bn X 120 from L_X.out) (show Bn Y 120 from L_Y.out)).nat (by decide))
        have C22 := Lib.hid c22
        clear c22
        have c23 := fun (W : World) (v0 : Value) (v1 : Value) (hh0 : ref.IsN W v0 X) (hh1 : ref.IsN W v1 Y)  => ref.Gcd_any v0 v1 X Y W hh0 hh1 ((show Bn X 120 from L_X.out).ref (by decide)) ((show Bn Y 120 from L_Y.out).ref (by decide))
        have C23 := Lib.hid c23
        clear c23
        have c24 := fun (W : World) (v0 : Value) (hh0 : ref.IsN W v0 (Nat.gcd X Y))  => ref.Text_any v0 (Nat.gcd X Y) W hh0 ((Bn_gcd (show Bn X 120 from L_X.out) (show Bn Y 120 from L_Y.out)).ref (by decide))
        have C24 := Lib.hid c24
        clear c24
        have c25 := fun (W : World) (v0 : Value) (hh0 : nat.IsN W v0 X)  => nat.Zero_any v0 X W hh0
        rw [decide_eq_true HX.out] at c25
        have C25 := Lib.hid c25
        clear c25
        generalize str (Lib.decDigits X) = sg0 at *
        generalize str (Lib.decDigits (X + Y)) = sg1 at *
        generalize str (Lib.decDigits (X * Y)) = sg2 at *
        generalize str (Lib.decDigits (Nat.gcd X Y)) = sg3 at *
        generalize str (Lib.decDigits (X / Y)) = sg4 at *
        generalize str (Lib.decDigits (X % Y)) = sg5 at *
        generalize ref.cmpN X Y = cm at *
        generalize (ref.digs X).length = lx at *
        generalize (ref.digs Y).length = ly at *
        go_wp2_with (first
          | (go_at_call 27; (with_reducible refine (C1.out _ _ _ (H_a.out.below HB3.out) H_b.out).mono ?_); rintro e W4 ⟨rfl, hb⟩
             have HB4 := Lib.hid hb
             clear hb C1)
          | (go_at_call 28; (with_reducible refine (C2.out _ _ _ ((H_x.out.below HB3.out).below HB4.out) (H_y.out.below HB4.out)).mono ?_); rintro e W5 ⟨rfl, hb⟩
             have HB5 := Lib.hid hb
             clear hb C2)
          | (go_at_call 29; (with_reducible refine (Same_any 2 _ (((((HG.out.below HB1.out).below HB2.out).below HB3.out).below HB4.out).below HB5.out)).mono ?_); rintro e W6 ⟨rfl, hb⟩
             have HB6 := Lib.hid hb
             clear hb)
          | (go_at_call 33; (with_reducible refine (C3.out _ _ _ ((((H_a.out.below HB3.out).below HB4.out).below HB5.out).below HB6.out) (((H_b.out.below HB4.out).below HB5.out).below HB6.out)).mono ?_); rintro e W7 ⟨q, r, rfl, ⟨h_q, n_q⟩, ⟨h_r, n_r⟩, hb⟩
             have H_q := Lib.hid h_q
             have N_q := Lib.hid n_q
             have H_r := Lib.hid h_r
             have N_r := Lib.hid n_r
             have HB7 := Lib.hid hb
             clear h_q n_q h_r n_r hb C3)
          | (go_at_call 34; (with_reducible refine (C4.out _ _ _ (((((H_x.out.below HB3.out).below HB4.out).below HB5.out).below HB6.out).below HB7.out) ((((H_y.out.below HB4.out).below HB5.out).below HB6.out).below HB7.out)).mono ?_); rintro e W8 ⟨p, m, rfl, h_p, h_m, hb⟩
             have H_p := Lib.hid h_p
             have H_m := Lib.hid h_m
             have HB8 := Lib.hid hb
             clear h_p h_m hb C4)
          | (go_at_call 30; (with_reducible refine (C5.out _ _ (H_q.out.below HB8.out)).mono ?_); rintro e W9 ⟨rfl, hb⟩
             have HB9 := Lib.hid hb
             clear hb C5)
          | (go_at_call 32; (with_reducible refine (C6.out _ _ (H_p.out.below HB9.out)).mono ?_); rintro e W10 ⟨rfl, hb⟩
             have HB10 := Lib.hid hb
             clear hb C6)
          | (go_at_call 30; (with_reducible refine (C7.out _ _ (((H_r.out.below HB8.out).below HB9.out).below HB10.out)).mono ?_); rintro e W11 ⟨rfl, hb⟩
             have HB11 := Lib.hid hb
             clear hb C7)
          | (go_at_call 32; (with_reducible refine (C8.out _ _ (((H_m.out.below HB9.out).below HB10.out).below HB11.out)).mono ?_); rintro e W12 ⟨rfl, hb⟩
             have HB12 := Lib.hid hb
             clear hb C8)
          | (go_at_call 30; (with_reducible refine (C9.out _ _ ((((((((((H_a.out.below HB3.out).below HB4.out).below HB5.out).below HB6.out).below HB7.out).below HB8.out).below HB9.out).below HB10.out).below HB11.out).below HB12.out)).mono ?_); rintro e W13 ⟨rfl, hb⟩
             have HB13 := Lib.hid hb
             clear hb C9)
          | (go_at_call 32; (with_reducible refine (C10.out _ _ (((((((((((H_x.out.below HB3.out).below HB4.out).below HB5.out).below HB6.out).below HB7.out).below HB8.out).below HB9.out).below HB10.out).below HB11.out).below HB12.out).below HB13.out)).mono ?_); rintro e W14 ⟨rfl, hb⟩
             have HB14 := Lib.hid hb
             clear hb C10)
          | (go_at_call 35; (with_reducible refine (C11.out _ _ _ ((((((((((((H_a.out.below HB3.out).below HB4.out).below HB5.out).below HB6.out).below HB7.out).below HB8.out).below HB9.out).below HB10.out).below HB11.out).below HB12.out).below HB13.out).below HB14.out) (((((((((((H_b.out.below HB4.out).below HB5.out).below HB6.out).below HB7.out).below HB8.out).below HB9.out).below HB10.out).below HB11.out).below HB12.out).below HB13.out).below HB14.out)).mono ?_); rintro e W15 ⟨ad, rfl, ⟨h_ad, n_ad⟩, hb⟩
             have H_ad := Lib.hid h_ad
             have N_ad := Lib.hid n_ad
             have HB15 := Lib.hid hb
             clear h_ad n_ad hb C11)
          | (go_at_call 30; (with_reducible refine (C12.out _ _ H_ad.out).mono ?_); rintro e W16 ⟨rfl, hb⟩
             have HB16 := Lib.hid hb
             clear hb C12)
          | (go_at_call 36; (with_reducible refine (C13.out _ _ _ ((((((((((((((H_x.out.below HB3.out).below HB4.out).below HB5.out).below HB6.out).below HB7.out).below HB8.out).below HB9.out).below HB10.out).below HB11.out).below HB12.out).below HB13.out).below HB14.out).below HB15.out).below HB16.out) (((((((((((((H_y.out.below HB4.out).below HB5.out).below HB6.out).below HB7.out).below HB8.out).below HB9.out).below HB10.out).below HB11.out).below HB12.out).below HB13.out).below HB14.out).below HB15.out).below HB16.out)).mono ?_); rintro e W17 ⟨xd, rfl, h_xd, hb⟩
             have H_xd := Lib.hid h_xd
             have HB17 := Lib.hid hb
             clear h_xd hb C13)
          | (go_at_call 32; (with_reducible refine (C14.out _ _ H_xd.out).mono ?_); rintro e W18 ⟨rfl, hb⟩
             have HB18 := Lib.hid hb
             clear hb C14)
          | (go_at_call 37; (with_reducible refine (C15.out _ _ _ ((((((((((((((((H_a.out.below HB3.out).below HB4.out).below HB5.out).below HB6.out).below HB7.out).below HB8.out).below HB9.out).below HB10.out).below HB11.out).below HB12.out).below HB13.out).below HB14.out).below HB15.out).below HB16.out).below HB17.out).below HB18.out) (((((((((((((((H_b.out.below HB4.out).below HB5.out).below HB6.out).below HB7.out).below HB8.out).below HB9.out).below HB10.out).below HB11.out).below HB12.out).below HB13.out).below HB14.out).below HB15.out).below HB16.out).below HB17.out).below HB18.out)).mono ?_); rintro e W19 ⟨am, rfl, ⟨h_am, n_am⟩, hb⟩
             have H_am := Lib.hid h_am
             have N_am := Lib.hid n_am
             have HB19 := Lib.hid hb
             clear h_am n_am hb C15)
          | (go_at_call 30; (with_reducible refine (C16.out _ _ H_am.out).mono ?_); rintro e W20 ⟨rfl, hb⟩
             have HB20 := Lib.hid hb
             clear hb C16)
          | (go_at_call 38; (with_reducible refine (C17.out _ _ _ ((((((((((((((((((H_x.out.below HB3.out).below HB4.out).below HB5.out).below HB6.out).below HB7.out).below HB8.out).below HB9.out).below HB10.out).below HB11.out).below HB12.out).below HB13.out).below HB14.out).below HB15.out).below HB16.out).below HB17.out).below HB18.out).below HB19.out).below HB20.out) (((((((((((((((((H_y.out.below HB4.out).below HB5.out).below HB6.out).below HB7.out).below HB8.out).below HB9.out).below HB10.out).below HB11.out).below HB12.out).below HB13.out).below HB14.out).below HB15.out).below HB16.out).below HB17.out).below HB18.out).below HB19.out).below HB20.out)).mono ?_); rintro e W21 ⟨xm, rfl, h_xm, hb⟩
             have H_xm := Lib.hid h_xm
             have HB21 := Lib.hid hb
             clear h_xm hb C17)
          | (go_at_call 32; (with_reducible refine (C18.out _ _ H_xm.out).mono ?_); rintro e W22 ⟨rfl, hb⟩
             have HB22 := Lib.hid hb
             clear hb C18)
          | (go_at_call 39; (with_reducible refine (C19.out _ _ _ ((((((((((((((((((((H_a.out.below HB3.out).below HB4.out).below HB5.out).below HB6.out).below HB7.out).below HB8.out).below HB9.out).below HB10.out).below HB11.out).below HB12.out).below HB13.out).below HB14.out).below HB15.out).below HB16.out).below HB17.out).below HB18.out).below HB19.out).below HB20.out).below HB21.out).below HB22.out) (((((((((((((((((((H_b.out.below HB4.out).below HB5.out).below HB6.out).below HB7.out).below HB8.out).below HB9.out).below HB10.out).below HB11.out).below HB12.out).below HB13.out).below HB14.out).below HB15.out).below HB16.out).below HB17.out).below HB18.out).below HB19.out).below HB20.out).below HB21.out).below HB22.out)).mono ?_); rintro e W23 ⟨rfl, hb⟩
             have HB23 := Lib.hid hb
             clear hb C19)
          | (go_at_call 28; (with_reducible refine (C20.out _ _ _ (((((((((((((((((((((H_x.out.below HB3.out).below HB4.out).below HB5.out).below HB6.out).below HB7.out).below HB8.out).below HB9.out).below HB10.out).below HB11.out).below HB12.out).below HB13.out).below HB14.out).below HB15.out).below HB16.out).below HB17.out).below HB18.out).below HB19.out).below HB20.out).below HB21.out).below HB22.out).below HB23.out) ((((((((((((((((((((H_y.out.below HB4.out).below HB5.out).below HB6.out).below HB7.out).below HB8.out).below HB9.out).below HB10.out).below HB11.out).below HB12.out).below HB13.out).below HB14.out).below HB15.out).below HB16.out).below HB17.out).below HB18.out).below HB19.out).below HB20.out).below HB21.out).below HB22.out).below HB23.out)).mono ?_); rintro e W24 ⟨rfl, hb⟩
             have HB24 := Lib.hid hb
             clear hb C20)
          | (go_at_call 40; (with_reducible refine (C21.out _ _ _ ((((((((((((((((((((((H_a.out.below HB3.out).below HB4.out).below HB5.out).below HB6.out).below HB7.out).below HB8.out).below HB9.out).below HB10.out).below HB11.out).below HB12.out).below HB13.out).below HB14.out).below HB15.out).below HB16.out).below HB17.out).below HB18.out).below HB19.out).below HB20.out).below HB21.out).below HB22.out).below HB23.out).below HB24.out) (((((((((((((((((((((H_b.out.below HB4.out).below HB5.out).below HB6.out).below HB7.out).below HB8.out).below HB9.out).below HB10.out).below HB11.out).below HB12.out).below HB13.out).below HB14.out).below HB15.out).below HB16.out).below HB17.out).below HB18.out).below HB19.out).below HB20.out).below HB21.out).below HB22.out).below HB23.out).below HB24.out)).mono ?_); rintro e W25 ⟨ag, rfl, ⟨h_ag, n_ag⟩, hb⟩
             have H_ag := Lib.hid h_ag
             have N_ag := Lib.hid n_ag
             have HB25 := Lib.hid hb
             clear h_ag n_ag hb C21)
          | (go_at_call 30; (with_reducible refine (C22.out _ _ H_ag.out).mono ?_); rintro e W26 ⟨rfl, hb⟩
             have HB26 := Lib.hid hb
             clear hb C22)
          | (go_at_call 41; (with_reducible refine (C23.out _ _ _ ((((((((((((((((((((((((H_x.out.below HB3.out).below HB4.out).below HB5.out).below HB6.out).below HB7.out).below HB8.out).below HB9.out).below HB10.out).below HB11.out).below HB12.out).below HB13.out).below HB14.out).below HB15.out).below HB16.out).below HB17.out).below HB18.out).below HB19.out).below HB20.out).below HB21.out).below HB22.out).below HB23.out).below HB24.out).below HB25.out).below HB26.out) (((((((((((((((((((((((H_y.out.below HB4.out).below HB5.out).below HB6.out).below HB7.out).below HB8.out).below HB9.out).below HB10.out).below HB11.out).below HB12.out).below HB13.out).below HB14.out).below HB15.out).below HB16.out).below HB17.out).below HB18.out).below HB19.out).below HB20.out).below HB21.out).below HB22.out).below HB23.out).below HB24.out).below HB25.out).below HB26.out)).mono ?_); rintro e W27 ⟨xg, rfl, h_xg, hb⟩
             have H_xg := Lib.hid h_xg
             have HB27 := Lib.hid hb
             clear h_xg hb C23)
          | (go_at_call 32; (with_reducible refine (C24.out _ _ H_xg.out).mono ?_); rintro e W28 ⟨rfl, hb⟩
             have HB28 := Lib.hid hb
             clear hb C24)
          | (go_at_call 42; (with_reducible refine (C25.out _ _ ((((((((((((((((((((((((((H_a.out.below HB3.out).below HB4.out).below HB5.out).below HB6.out).below HB7.out).below HB8.out).below HB9.out).below HB10.out).below HB11.out).below HB12.out).below HB13.out).below HB14.out).below HB15.out).below HB16.out).below HB17.out).below HB18.out).below HB19.out).below HB20.out).below HB21.out).below HB22.out).below HB23.out).below HB24.out).below HB25.out).below HB26.out).below HB27.out).below HB28.out)).mono ?_); rintro e w9 ⟨rfl, rfl⟩
             clear C25)
          | (fail "no arm"))
        skip
        all_goals (go_ret; exact ⟨rfl, (nat.below_tr (nat.below_tr (nat.below_tr (nat.below_tr (nat.below_tr (nat.below_tr (nat.below_tr (nat.below_tr (nat.below_tr (nat.below_tr (nat.below_tr (nat.below_tr (nat.below_tr (nat.below_tr (nat.below_tr (nat.below_tr (nat.below_tr (nat.below_tr (nat.below_tr (nat.below_tr (nat.below_tr (nat.below_tr (nat.below_tr (nat.below_tr (nat.below_tr (nat.below_tr (nat.below_tr HB1.out HB2.out) HB3.out) HB4.out) HB5.out) HB6.out) HB7.out) HB8.out) HB9.out) HB10.out) HB11.out) HB12.out) HB13.out) HB14.out) HB15.out) HB16.out) HB17.out) HB18.out) HB19.out) HB20.out) HB21.out) HB22.out) HB23.out) HB24.out) HB25.out) HB26.out) HB27.out) HB28.out)⟩)
    · have hcm : ¬ ref.cmpN X Y < 0 := by unfold ref.cmpN; rw [if_neg (by omega)]; split <;> omega
      rcases Nat.eq_zero_or_pos Y with hY | hY
      · have hyl : (((ref.digs Y).length : Nat) : Int) = 0 := by rw [xlen_zero hY]; rfl
        have HXY := Lib.hid hxy
        have HY := Lib.hid hY
        have HX := Lib.hid hX
        clear hxy hY hX
        have c1 := fun (W : World) (v0 : Value) (v1 : Value) (hh0 : nat.IsN W v0 X) (hh1 : nat.IsN W v1 Y)  => nat.Sub_ok v0 v1 X Y W hh0 hh1 HXY.out ((show Bn X 120 from L_X.out).nat (by decide))
        have C1 := Lib.hid c1
        clear c1
        have c2 := fun (W : World) (v0 : Value) (v1 : Value) (hh0 : ref.IsN W v0 X) (hh1 : ref.IsN W v1 Y)  => ref.Cmp_any v0 v1 X Y W hh0 hh1
        have C2 := Lib.hid c2
        clear c2
        have c3 := fun (W : World) (v0 : Value) (hh0 : nat.IsN W v0 (X - Y))  => nat.Text_any v0 (X - Y) W hh0 ((Bn_sub (show Bn X 120 from L_X.out)).nat (by decide))
        have C3 := Lib.hid c3
        clear c3
        have c4 := fun (W : World) (v0 : Value) (v1 : Value) (hh0 : ref.IsN W v0 X) (hh1 : ref.IsN W v1 Y)  => ref.Sub_any v0 v1 X Y W hh0 hh1 HXY.out ((show Bn X 120 from L_X.out).ref (by decide))
        have C4 := Lib.hid c4
        clear c4
        have c5 := fun (W : World) (v0 : Value) (hh0 : ref.IsN W v0 (X - Y))  => ref.Text_any v0 (X - Y) W hh0 ((Bn_sub (show Bn X 120 from L_X.out)).ref (by decide))
        have C5 := Lib.hid c5
        clear c5
        have c6 := fun (W : World) (v9 v0 : Value) (hh0 : nat.IsN W v0 Y)  => nat.Div_none_b v9 v0 W (HY.out ▸ hh0)
        have C6 := Lib.hid c6
        clear c6
        have c7 := fun (W : World) (v0 : Value) (hh0 : nat.IsN W v0 X)  => nat.Text_any v0 X W hh0 ((show Bn X 120 from L_X.out).nat (by decide))
        have C7 := Lib.hid c7
        clear c7
        have c8 := fun (W : World) (v0 : Value) (hh0 : ref.IsN W v0 X)  => ref.Text_any v0 X W hh0 ((show Bn X 120 from L_X.out).ref (by decide))
        have C8 := Lib.hid c8
        clear c8
        have c9 := fun (W : World) (v0 : Value) (v1 : Value) (hh0 : nat.IsN W v0 X) (hh1 : nat.IsN W v1 Y)  => nat.Add_any v0 v1 X Y W hh0 hh1 ((show Bn X 120 from L_X.out).nat (by decide)) ((show Bn Y 120 from L_Y.out).nat (by decide))
        have C9 := Lib.hid c9
        clear c9
        have c10 := fun (W : World) (v0 : Value) (hh0 : nat.IsN W v0 (X + Y))  => nat.Text_any v0 (X + Y) W hh0 ((Bn_add (show Bn X 120 from L_X.out) (show Bn Y 120 from L_Y.out)).nat (by decide))
        have C10 := Lib.hid c10
        clear c10
        have c11 := fun (W : World) (v0 : Value) (v1 : Value) (hh0 : ref.IsN W v0 X) (hh1 : ref.IsN W v1 Y)  => ref.Add_any v0 v1 X Y W hh0 hh1 ((show Bn X 120 from L_X.out).ref (by decide)) ((show Bn Y 120 from L_Y.out).ref (by decide))
        have C11 := Lib.hid c11
        clear c11
        have c12 := fun (W : World) (v0 : Value) (hh0 : ref.IsN W v0 (X + Y))  => ref.Text_any v0 (X + Y) W hh0 ((Bn_add (show Bn X 120 from L_X.out) (show Bn Y 120 from L_Y.out)).ref (by decide))
        have C12 := Lib.hid c12
        clear c12
        have c13 := fun (W : World) (v0 : Value) (v1 : Value) (hh0 : nat.IsN W v0 X) (hh1 : nat.IsN W v1 Y)  => nat.Mul_any v0 v1 X Y W hh0 hh1 ((show Bn X 120 from L_X.out).nat (by decide)) ((show Bn Y 120 from L_Y.out).nat (by decide))
        have C13 := Lib.hid c13
        clear c13
        have c14 := fun (W : World) (v0 : Value) (hh0 : nat.IsN W v0 (X * Y))  => nat.Text_any v0 (X * Y) W hh0 ((Bn_mul (show Bn X 120 from L_X.out) (show Bn Y 120 from L_Y.out)).nat (by decide))
        have C14 := Lib.hid c14
        clear c14
        have c15 := fun (W : World) (v0 : Value) (v1 : Value) (hh0 : ref.IsN W v0 X) (hh1 : ref.IsN W v1 Y)  => ref.Mul_any v0 v1 X Y W hh0 hh1 ((show Bn X 120 from L_X.out).ref (by decide)) ((show Bn Y 120 from L_Y.out).ref (by decide))
        have C15 := Lib.hid c15
        clear c15
        have c16 := fun (W : World) (v0 : Value) (hh0 : ref.IsN W v0 (X * Y))  => ref.Text_any v0 (X * Y) W hh0 ((Bn_mul (show Bn X 120 from L_X.out) (show Bn Y 120 from L_Y.out)).ref (by decide))
        have C16 := Lib.hid c16
        clear c16
        have c17 := fun (W : World) (v0 : Value) (v1 : Value) (hh0 : nat.IsN W v0 X) (hh1 : nat.IsN W v1 Y)  => nat.Cmp_b v0 v1 X Y W hh0 hh1 ((show Bn X 120 from L_X.out).nat (by decide)) ((show Bn Y 120 from L_Y.out).nat (by decide))
        rw [cmp_same] at c17
        have C17 := Lib.hid c17
        clear c17
        have c18 := fun (W : World) (v0 : Value) (v1 : Value) (hh0 : ref.IsN W v0 X) (hh1 : ref.IsN W v1 Y)  => ref.Cmp_any v0 v1 X Y W hh0 hh1
        have C18 := Lib.hid c18
        clear c18
        have c19 := fun (W : World) (v0 : Value) (v1 : Value) (hh0 : nat.IsN W v0 X) (hh1 : nat.IsN W v1 Y)  => nat.Gcd_any v0 v1 X Y W hh0 hh1 ((show Bn X 120 from L_X.out).nat (by decide)) ((show Bn Y 120 from L_Y.out).nat (by decide))
        have C19 := Lib.hid c19
        clear c19
        have c20 := fun (W : World) (v0 : Value) (hh0 : nat.IsN W v0 (Nat.gcd X Y))  => nat.Text_any v0 (Nat.gcd X Y) W hh0 ((Bn_gcd (show Bn X 120 from L_X.out) (show Bn Y 120 from L_Y.out)).nat (by decide))
        have C20 := Lib.hid c20
        clear c20
        have c21 := fun (W : World) (v0 : Value) (v1 : Value) (hh0 : ref.IsN W v0 X) (hh1 : ref.IsN W v1 Y)  => ref.Gcd_any v0 v1 X Y W hh0 hh1 ((show Bn X 120 from L_X.out).ref (by decide)) ((show Bn Y 120 from L_Y.out).ref (by decide))
        have C21 := Lib.hid c21
        clear c21
        have c22 := fun (W : World) (v0 : Value) (hh0 : ref.IsN W v0 (Nat.gcd X Y))  => ref.Text_any v0 (Nat.gcd X Y) W hh0 ((Bn_gcd (show Bn X 120 from L_X.out) (show Bn Y 120 from L_Y.out)).ref (by decide))
        have C22 := Lib.hid c22
        clear c22
        have c23 := fun (W : World) (v0 : Value) (hh0 : nat.IsN W v0 X)  => nat.Zero_any v0 X W hh0
        rw [decide_eq_true HX.out] at c23
        have C23 := Lib.hid c23
        clear c23
        generalize str (Lib.decDigits X) = sg0 at *
        generalize str (Lib.decDigits (X + Y)) = sg1 at *
        generalize str (Lib.decDigits (X * Y)) = sg2 at *
        generalize str (Lib.decDigits (Nat.gcd X Y)) = sg3 at *
        generalize str (Lib.decDigits (X - Y)) = sg4 at *
        generalize ref.cmpN X Y = cm at *
        generalize (ref.digs X).length = lx at *
        generalize (ref.digs Y).length = ly at *
        go_wp2_with (first
          | (go_at_call 27; (with_reducible refine (C1.out _ _ _ (H_a.out.below HB3.out) H_b.out).mono ?_); rintro e W4 ⟨d, rfl, ⟨h_d, n_d⟩, hb⟩
             have H_d := Lib.hid h_d
             have N_d := Lib.hid n_d
             have HB4 := Lib.hid hb
             clear h_d n_d hb C1)
          | (go_at_call 28; (with_reducible refine (C2.out _ _ _ ((H_x.out.below HB3.out).below HB4.out) (H_y.out.below HB4.out)).mono ?_); rintro e W5 ⟨rfl, hb⟩
             have HB5 := Lib.hid hb
             clear hb C2)
          | (go_at_call 30; (with_reducible refine (C3.out _ _ (H_d.out.below HB5.out)).mono ?_); rintro e W6 ⟨rfl, hb⟩
             have HB6 := Lib.hid hb
             clear hb C3)
          | (go_at_call 31; (with_reducible refine (C4.out _ _ _ ((((H_x.out.below HB3.out).below HB4.out).below HB5.out).below HB6.out) (((H_y.out.below HB4.out).below HB5.out).below HB6.out)).mono ?_); rintro e W7 ⟨e, rfl, h_e, hb⟩
             have H_e := Lib.hid h_e
             have HB7 := Lib.hid hb
             clear h_e hb C4)
          | (go_at_call 32; (with_reducible refine (C5.out _ _ H_e.out).mono ?_); rintro e W8 ⟨rfl, hb⟩
             have HB8 := Lib.hid hb
             clear hb C5)
          | (go_at_call 33; (with_reducible refine (C6.out _ _ _ (((((H_b.out.below HB4.out).below HB5.out).below HB6.out).below HB7.out).below HB8.out)).mono ?_); rintro e W9 ⟨rfl, hb⟩
             have HB9 := Lib.hid hb
             clear hb C6)
          | (go_at_call 29; (with_reducible refine (Same_any 3 _ (((((((((HG.out.below HB1.out).below HB2.out).below HB3.out).below HB4.out).below HB5.out).below HB6.out).below HB7.out).below HB8.out).below HB9.out)).mono ?_); rintro e W10 ⟨rfl, hb⟩
             have HB10 := Lib.hid hb
             clear hb)
          | (go_at_call 30; (with_reducible refine (C7.out _ _ ((((((((H_a.out.below HB3.out).below HB4.out).below HB5.out).below HB6.out).below HB7.out).below HB8.out).below HB9.out).below HB10.out)).mono ?_); rintro e W11 ⟨rfl, hb⟩
             have HB11 := Lib.hid hb
             clear hb C7)
          | (go_at_call 32; (with_reducible refine (C8.out _ _ (((((((((H_x.out.below HB3.out).below HB4.out).below HB5.out).below HB6.out).below HB7.out).below HB8.out).below HB9.out).below HB10.out).below HB11.out)).mono ?_); rintro e W12 ⟨rfl, hb⟩
             have HB12 := Lib.hid hb
             clear hb C8)
          | (go_at_call 35; (with_reducible refine (C9.out _ _ _ ((((((((((H_a.out.below HB3.out).below HB4.out).below HB5.out).below HB6.out).below HB7.out).below HB8.out).below HB9.out).below HB10.out).below HB11.out).below HB12.out) (((((((((H_b.out.below HB4.out).below HB5.out).below HB6.out).below HB7.out).below HB8.out).below HB9.out).below HB10.out).below HB11.out).below HB12.out)).mono ?_); rintro e W13 ⟨ad, rfl, ⟨h_ad, n_ad⟩, hb⟩
             have H_ad := Lib.hid h_ad
             have N_ad := Lib.hid n_ad
             have HB13 := Lib.hid hb
             clear h_ad n_ad hb C9)
          | (go_at_call 30; (with_reducible refine (C10.out _ _ H_ad.out).mono ?_); rintro e W14 ⟨rfl, hb⟩
             have HB14 := Lib.hid hb
             clear hb C10)
          | (go_at_call 36; (with_reducible refine (C11.out _ _ _ ((((((((((((H_x.out.below HB3.out).below HB4.out).below HB5.out).below HB6.out).below HB7.out).below HB8.out).below HB9.out).below HB10.out).below HB11.out).below HB12.out).below HB13.out).below HB14.out) (((((((((((H_y.out.below HB4.out).below HB5.out).below HB6.out).below HB7.out).below HB8.out).below HB9.out).below HB10.out).below HB11.out).below HB12.out).below HB13.out).below HB14.out)).mono ?_); rintro e W15 ⟨xd, rfl, h_xd, hb⟩
             have H_xd := Lib.hid h_xd
             have HB15 := Lib.hid hb
             clear h_xd hb C11)
          | (go_at_call 32; (with_reducible refine (C12.out _ _ H_xd.out).mono ?_); rintro e W16 ⟨rfl, hb⟩
             have HB16 := Lib.hid hb
             clear hb C12)
          | (go_at_call 37; (with_reducible refine (C13.out _ _ _ ((((((((((((((H_a.out.below HB3.out).below HB4.out).below HB5.out).below HB6.out).below HB7.out).below HB8.out).below HB9.out).below HB10.out).below HB11.out).below HB12.out).below HB13.out).below HB14.out).below HB15.out).below HB16.out) (((((((((((((H_b.out.below HB4.out).below HB5.out).below HB6.out).below HB7.out).below HB8.out).below HB9.out).below HB10.out).below HB11.out).below HB12.out).below HB13.out).below HB14.out).below HB15.out).below HB16.out)).mono ?_); rintro e W17 ⟨am, rfl, ⟨h_am, n_am⟩, hb⟩
             have H_am := Lib.hid h_am
             have N_am := Lib.hid n_am
             have HB17 := Lib.hid hb
             clear h_am n_am hb C13)
          | (go_at_call 30; (with_reducible refine (C14.out _ _ H_am.out).mono ?_); rintro e W18 ⟨rfl, hb⟩
             have HB18 := Lib.hid hb
             clear hb C14)
          | (go_at_call 38; (with_reducible refine (C15.out _ _ _ ((((((((((((((((H_x.out.below HB3.out).below HB4.out).below HB5.out).below HB6.out).below HB7.out).below HB8.out).below HB9.out).below HB10.out).below HB11.out).below HB12.out).below HB13.out).below HB14.out).below HB15.out).below HB16.out).below HB17.out).below HB18.out) (((((((((((((((H_y.out.below HB4.out).below HB5.out).below HB6.out).below HB7.out).below HB8.out).below HB9.out).below HB10.out).below HB11.out).below HB12.out).below HB13.out).below HB14.out).below HB15.out).below HB16.out).below HB17.out).below HB18.out)).mono ?_); rintro e W19 ⟨xm, rfl, h_xm, hb⟩
             have H_xm := Lib.hid h_xm
             have HB19 := Lib.hid hb
             clear h_xm hb C15)
          | (go_at_call 32; (with_reducible refine (C16.out _ _ H_xm.out).mono ?_); rintro e W20 ⟨rfl, hb⟩
             have HB20 := Lib.hid hb
             clear hb C16)
          | (go_at_call 39; (with_reducible refine (C17.out _ _ _ ((((((((((((((((((H_a.out.below HB3.out).below HB4.out).below HB5.out).below HB6.out).below HB7.out).below HB8.out).below HB9.out).below HB10.out).below HB11.out).below HB12.out).below HB13.out).below HB14.out).below HB15.out).below HB16.out).below HB17.out).below HB18.out).below HB19.out).below HB20.out) (((((((((((((((((H_b.out.below HB4.out).below HB5.out).below HB6.out).below HB7.out).below HB8.out).below HB9.out).below HB10.out).below HB11.out).below HB12.out).below HB13.out).below HB14.out).below HB15.out).below HB16.out).below HB17.out).below HB18.out).below HB19.out).below HB20.out)).mono ?_); rintro e W21 ⟨rfl, hb⟩
             have HB21 := Lib.hid hb
             clear hb C17)
          | (go_at_call 28; (with_reducible refine (C18.out _ _ _ (((((((((((((((((((H_x.out.below HB3.out).below HB4.out).below HB5.out).below HB6.out).below HB7.out).below HB8.out).below HB9.out).below HB10.out).below HB11.out).below HB12.out).below HB13.out).below HB14.out).below HB15.out).below HB16.out).below HB17.out).below HB18.out).below HB19.out).below HB20.out).below HB21.out) ((((((((((((((((((H_y.out.below HB4.out).below HB5.out).below HB6.out).below HB7.out).below HB8.out).below HB9.out).below HB10.out).below HB11.out).below HB12.out).below HB13.out).below HB14.out).below HB15.out).below HB16.out).below HB17.out).below HB18.out).below HB19.out).below HB20.out).below HB21.out)).mono ?_); rintro e W22 ⟨rfl, hb⟩
             have HB22 := Lib.hid hb
             clear hb C18)
          | (go_at_call 40; (with_reducible refine (C19.out _ _ _ ((((((((((((((((((((H_a.out.below HB3.out).below HB4.out).below HB5.out).below HB6.out).below HB7.out).below HB8.out).below HB9.out).below HB10.out).below HB11.out).below HB12.out).below HB13.out).below HB14.out).below HB15.out).below HB16.out).below HB17.out).below HB18.out).below HB19.out).below HB20.out).below HB21.out).below HB22.out) (((((((((((((((((((H_b.out.below HB4.out).below HB5.out).below HB6.out).below HB7.out).below HB8.out).below HB9.out).below HB10.out).below HB11.out).below HB12.out).below HB13.out).below HB14.out).below HB15.out).below HB16.out).below HB17.out).below HB18.out).below HB19.out).below HB20.out).below HB21.out).below HB22.out)).mono ?_); rintro e W23 ⟨ag, rfl, ⟨h_ag, n_ag⟩, hb⟩
             have H_ag := Lib.hid h_ag
             have N_ag := Lib.hid n_ag
             have HB23 := Lib.hid hb
             clear h_ag n_ag hb C19)
          | (go_at_call 30; (with_reducible refine (C20.out _ _ H_ag.out).mono ?_); rintro e W24 ⟨rfl, hb⟩
             have HB24 := Lib.hid hb
             clear hb C20)
          | (go_at_call 41; (with_reducible refine (C21.out _ _ _ ((((((((((((((((((((((H_x.out.below HB3.out).below HB4.out).below HB5.out).below HB6.out).below HB7.out).below HB8.out).below HB9.out).below HB10.out).below HB11.out).below HB12.out).below HB13.out).below HB14.out).below HB15.out).below HB16.out).below HB17.out).below HB18.out).below HB19.out).below HB20.out).below HB21.out).below HB22.out).below HB23.out).below HB24.out) (((((((((((((((((((((H_y.out.below HB4.out).below HB5.out).below HB6.out).below HB7.out).below HB8.out).below HB9.out).below HB10.out).below HB11.out).below HB12.out).below HB13.out).below HB14.out).below HB15.out).below HB16.out).below HB17.out).below HB18.out).below HB19.out).below HB20.out).below HB21.out).below HB22.out).below HB23.out).below HB24.out)).mono ?_); rintro e W25 ⟨xg, rfl, h_xg, hb⟩
             have H_xg := Lib.hid h_xg
             have HB25 := Lib.hid hb
             clear h_xg hb C21)
          | (go_at_call 32; (with_reducible refine (C22.out _ _ H_xg.out).mono ?_); rintro e W26 ⟨rfl, hb⟩
             have HB26 := Lib.hid hb
             clear hb C22)
          | (go_at_call 42; (with_reducible refine (C23.out _ _ ((((((((((((((((((((((((H_a.out.below HB3.out).below HB4.out).below HB5.out).below HB6.out).below HB7.out).below HB8.out).below HB9.out).below HB10.out).below HB11.out).below HB12.out).below HB13.out).below HB14.out).below HB15.out).below HB16.out).below HB17.out).below HB18.out).below HB19.out).below HB20.out).below HB21.out).below HB22.out).below HB23.out).below HB24.out).below HB25.out).below HB26.out)).mono ?_); rintro e w9 ⟨rfl, rfl⟩
             clear C23)
          | (fail "no arm"))
        skip
        all_goals (go_ret; exact ⟨rfl, (nat.below_tr (nat.below_tr (nat.below_tr (nat.below_tr (nat.below_tr (nat.below_tr (nat.below_tr (nat.below_tr (nat.below_tr (nat.below_tr (nat.below_tr (nat.below_tr (nat.below_tr (nat.below_tr (nat.below_tr (nat.below_tr (nat.below_tr (nat.below_tr (nat.below_tr (nat.below_tr (nat.below_tr (nat.below_tr (nat.below_tr (nat.below_tr (nat.below_tr HB1.out HB2.out) HB3.out) HB4.out) HB5.out) HB6.out) HB7.out) HB8.out) HB9.out) HB10.out) HB11.out) HB12.out) HB13.out) HB14.out) HB15.out) HB16.out) HB17.out) HB18.out) HB19.out) HB20.out) HB21.out) HB22.out) HB23.out) HB24.out) HB25.out) HB26.out)⟩)
      · omega
  · have hxl : (0 : Int) < ((ref.digs X).length : Nat) := by have := xlen_pos (x := X) (by omega); omega
    have hxz : ((((ref.digs X).length : Nat) : Int) == 0) = false := by simp only [beq_eq_false_iff_ne, ne_eq]; omega
    rcases Nat.lt_or_ge X Y with hxy | hxy
    · have hcm : ref.cmpN X Y < 0 := by unfold ref.cmpN; rw [if_pos hxy]; decide
      rcases Nat.eq_zero_or_pos Y with hY | hY
      · omega
      · have hyl : (0 : Int) < ((ref.digs Y).length : Nat) := by have := xlen_pos (x := Y) (by omega); omega
        have HXY := Lib.hid hxy
        have HY := Lib.hid hY
        have HX := Lib.hid hX
        clear hxy hY hX
        have c1 := fun (W : World) (v0 : Value) (v1 : Value) (hh0 : nat.IsN W v0 X) (hh1 : nat.IsN W v1 Y)  => nat.Sub_none_b v0 v1 X Y W hh0 hh1 HXY.out ((show Bn X 120 from L_X.out).nat (by decide)) ((show Bn Y 120 from L_Y.out).nat (by decide))
        have C1 := Lib.hid c1
        clear c1
        have c2 := fun (W : World) (v0 : Value) (v1 : Value) (hh0 : ref.IsN W v0 X) (hh1 : ref.IsN W v1 Y)  => ref.Cmp_any v0 v1 X Y W hh0 hh1
        have C2 := Lib.hid c2
        clear c2
        have c3 := fun (W : World) (v0 : Value) (v1 : Value) (hh0 : nat.IsN W v0 X) (hh1 : nat.IsN W v1 Y)  => nat.Div_ok v0 v1 X Y W hh0 hh1 HY.out ((show Bn X 120 from L_X.out).nat (by decide)) ((show Bn Y 120 from L_Y.out).nat (by decide))
        have C3 := Lib.hid c3
        clear c3
        have c4 := fun (W : World) (v0 : Value) (v1 : Value) (hh0 : ref.IsN W v0 X) (hh1 : ref.IsN W v1 Y)  => ref.Div_any v0 v1 X Y W hh0 hh1 ((show Bn X 120 from L_X.out).ref (by decide)) ((show Bn Y 120 from L_Y.out).ref (by decide)) HY.out
        have C4 := Lib.hid c4
        clear c4
        have c5 := fun (W : World) (v0 : Value) (hh0 : nat.IsN W v0 (X / Y))  => nat.Text_any v0 (X / Y) W hh0 ((Bn_div (show Bn X 120 from L_X.out)).nat (by decide))
        have C5 := Lib.hid c5
        clear c5
        have c6 := fun (W : World) (v0 : Value) (hh0 : ref.IsN W v0 (X / Y))  => ref.Text_any v0 (X / Y) W hh0 ((Bn_div (show Bn X 120 from L_X.out)).ref (by decide))
        have C6 := Lib.hid c6
        clear c6
        have c7 := fun (W : World) (v0 : Value) (hh0 : nat.IsN W v0 (X % Y))  => nat.Text_any v0 (X % Y) W hh0 ((Bn_mod (show Bn X 120 from L_X.out)).nat (by decide))
        have C7 := Lib.hid c7
        clear c7
        have c8 := fun (W : World) (v0 : Value) (hh0 : ref.IsN W v0 (X % Y))  => ref.Text_any v0 (X % Y) W hh0 ((Bn_mod (show Bn X 120 from L_X.out)).ref (by decide))
        have C8 := Lib.hid c8
        clear c8
        have c9 := fun (W : World) (v0 : Value) (hh0 : nat.IsN W v0 X)  => nat.Text_any v0 X W hh0 ((show Bn X 120 from L_X.out).nat (by decide))
        have C9 := Lib.hid c9
        clear c9
        have c10 := fun (W : World) (v0 : Value) (hh0 : ref.IsN W v0 X)  => ref.Text_any v0 X W hh0 ((show Bn X 120 from L_X.out).ref (by decide))
        have C10 := Lib.hid c10
        clear c10
        have c11 := fun (W : World) (v0 : Value) (v1 : Value) (hh0 : nat.IsN W v0 X) (hh1 : nat.IsN W v1 Y)  => nat.Add_any v0 v1 X Y W hh0 hh1 ((show Bn X 120 from L_X.out).nat (by decide)) ((show Bn Y 120 from L_Y.out).nat (by decide))
        have C11 := Lib.hid c11
        clear c11
        have c12 := fun (W : World) (v0 : Value) (hh0 : nat.IsN W v0 (X + Y))  => nat.Text_any v0 (X + Y) W hh0 ((Bn_add (show Bn X 120 from L_X.out) (show Bn Y 120 from L_Y.out)).nat (by decide))
        have C12 := Lib.hid c12
        clear c12
        have c13 := fun (W : World) (v0 : Value) (v1 : Value) (hh0 : ref.IsN W v0 X) (hh1 : ref.IsN W v1 Y)  => ref.Add_any v0 v1 X Y W hh0 hh1 ((show Bn X 120 from L_X.out).ref (by decide)) ((show Bn Y 120 from L_Y.out).ref (by decide))
        have C13 := Lib.hid c13
        clear c13
        have c14 := fun (W : World) (v0 : Value) (hh0 : ref.IsN W v0 (X + Y))  => ref.Text_any v0 (X + Y) W hh0 ((Bn_add (show Bn X 120 from L_X.out) (show Bn Y 120 from L_Y.out)).ref (by decide))
        have C14 := Lib.hid c14
        clear c14
        have c15 := fun (W : World) (v0 : Value) (v1 : Value) (hh0 : nat.IsN W v0 X) (hh1 : nat.IsN W v1 Y)  => nat.Mul_any v0 v1 X Y W hh0 hh1 ((show Bn X 120 from L_X.out).nat (by decide)) ((show Bn Y 120 from L_Y.out).nat (by decide))
        have C15 := Lib.hid c15
        clear c15
        have c16 := fun (W : World) (v0 : Value) (hh0 : nat.IsN W v0 (X * Y))  => nat.Text_any v0 (X * Y) W hh0 ((Bn_mul (show Bn X 120 from L_X.out) (show Bn Y 120 from L_Y.out)).nat (by decide))
        have C16 := Lib.hid c16
        clear c16
        have c17 := fun (W : World) (v0 : Value) (v1 : Value) (hh0 : ref.IsN W v0 X) (hh1 : ref.IsN W v1 Y)  => ref.Mul_any v0 v1 X Y W hh0 hh1 ((show Bn X 120 from L_X.out).ref (by decide)) ((show Bn Y 120 from L_Y.out).ref (by decide))
        have C17 := Lib.hid c17
        clear c17
        have c18 := fun (W : World) (v0 : Value) (hh0 : ref.IsN W v0 (X * Y))  => ref.Text_any v0 (X * Y) W hh0 ((Bn_mul (show Bn X 120 from L_X.out) (show Bn Y 120 from L_Y.out)).ref (by decide))
        have C18 := Lib.hid c18
        clear c18
        have c19 := fun (W : World) (v0 : Value) (v1 : Value) (hh0 : nat.IsN W v0 X) (hh1 : nat.IsN W v1 Y)  => nat.Cmp_b v0 v1 X Y W hh0 hh1 ((show Bn X 120 from L_X.out).nat (by decide)) ((show Bn Y 120 from L_Y.out).nat (by decide))
        rw [cmp_same] at c19
        have C19 := Lib.hid c19
        clear c19
        have c20 := fun (W : World) (v0 : Value) (v1 : Value) (hh0 : ref.IsN W v0 X) (hh1 : ref.IsN W v1 Y)  => ref.Cmp_any v0 v1 X Y W hh0 hh1
        have C20 := Lib.hid c20
        clear c20
        have c21 := fun (W : World) (v0 : Value) (v1 : Value) (hh0 : nat.IsN W v0 X) (hh1 : nat.IsN W v1 Y)  => nat.Gcd_any v0 v1 X Y W hh0 hh1 ((show Bn X 120 from L_X.out).nat (by decide)) ((show Bn Y 120 from L_Y.out).nat (by decide))
        have C21 := Lib.hid c21
        clear c21
        have c22 := fun (W : World) (v0 : Value) (hh0 : nat.IsN W v0 (Nat.gcd X Y))  => nat.Text_any v0 (Nat.gcd X Y) W hh0 ((Bn_gcd (show Bn X 120 from L_X.out) (show Bn Y 120 from L_Y.out)).nat (by decide))
        have C22 := Lib.hid c22
        clear c22
        have c23 := fun (W : World) (v0 : Value) (v1 : Value) (hh0 : ref.IsN W v0 X) (hh1 : ref.IsN W v1 Y)  => ref.Gcd_any v0 v1 X Y W hh0 hh1 ((show Bn X 120 from L_X.out).ref (by decide)) ((show Bn Y 120 from L_Y.out).ref (by decide))
        have C23 := Lib.hid c23
        clear c23
        have c24 := fun (W : World) (v0 : Value) (hh0 : ref.IsN W v0 (Nat.gcd X Y))  => ref.Text_any v0 (Nat.gcd X Y) W hh0 ((Bn_gcd (show Bn X 120 from L_X.out) (show Bn Y 120 from L_Y.out)).ref (by decide))
        have C24 := Lib.hid c24
        clear c24
        have c25 := fun (W : World) (v0 : Value) (hh0 : nat.IsN W v0 X)  => nat.Zero_any v0 X W hh0
        rw [decide_eq_false (show ¬ X = 0 from by have := HX.out; omega)] at c25
        have C25 := Lib.hid c25
        clear c25
        generalize str (Lib.decDigits X) = sg0 at *
        generalize str (Lib.decDigits (X + Y)) = sg1 at *
        generalize str (Lib.decDigits (X * Y)) = sg2 at *
        generalize str (Lib.decDigits (Nat.gcd X Y)) = sg3 at *
        generalize str (Lib.decDigits (X / Y)) = sg4 at *
        generalize str (Lib.decDigits (X % Y)) = sg5 at *
        generalize ref.cmpN X Y = cm at *
        generalize (ref.digs X).length = lx at *
        generalize (ref.digs Y).length = ly at *
        go_wp2_with (first
          | (go_at_call 27; (with_reducible refine (C1.out _ _ _ (H_a.out.below HB3.out) H_b.out).mono ?_); rintro e W4 ⟨rfl, hb⟩
             have HB4 := Lib.hid hb
             clear hb C1)
          | (go_at_call 28; (with_reducible refine (C2.out _ _ _ ((H_x.out.below HB3.out).below HB4.out) (H_y.out.below HB4.out)).mono ?_); rintro e W5 ⟨rfl, hb⟩
             have HB5 := Lib.hid hb
             clear hb C2)
          | (go_at_call 29; (with_reducible refine (Same_any 2 _ (((((HG.out.below HB1.out).below HB2.out).below HB3.out).below HB4.out).below HB5.out)).mono ?_); rintro e W6 ⟨rfl, hb⟩
             have HB6 := Lib.hid hb
             clear hb)
          | (go_at_call 33; (with_reducible refine (C3.out _ _ _ ((((H_a.out.below HB3.out).below HB4.out).below HB5.out).below HB6.out) (((H_b.out.below HB4.out).below HB5.out).below HB6.out)).mono ?_); rintro e W7 ⟨q, r, rfl, ⟨h_q, n_q⟩, ⟨h_r, n_r⟩, hb⟩
             have H_q := Lib.hid h_q
             have N_q := Lib.hid n_q
             have H_r := Lib.hid h_r
             have N_r := Lib.hid n_r
             have HB7 := Lib.hid hb
             clear h_q n_q h_r n_r hb C3)
          | (go_at_call 34; (with_reducible refine (C4.out _ _ _ (((((H_x.out.below HB3.out).below HB4.out).below HB5.out).below HB6.out).below HB7.out) ((((H_y.out.below HB4.out).below HB5.out).below HB6.out).below HB7.out)).mono ?_); rintro e W8 ⟨p, m, rfl, h_p, h_m, hb⟩
             have H_p := Lib.hid h_p
             have H_m := Lib.hid h_m
             have HB8 := Lib.hid hb
             clear h_p h_m hb C4)
          | (go_at_call 30; (with_reducible refine (C5.out _ _ (H_q.out.below HB8.out)).mono ?_); rintro e W9 ⟨rfl, hb⟩
             have HB9 := Lib.hid hb
             clear hb C5)
          | (go_at_call 32; (with_reducible refine (C6.out _ _ (H_p.out.below HB9.out)).mono ?_); rintro e W10 ⟨rfl, hb⟩
             have HB10 := Lib.hid hb
             clear hb C6)
          | (go_at_call 30; (with_reducible refine (C7.out _ _ (((H_r.out.below HB8.out).below HB9.out).below HB10.out)).mono ?_); rintro e W11 ⟨rfl, hb⟩
             have HB11 := Lib.hid hb
             clear hb C7)
          | (go_at_call 32; (with_reducible refine (C8.out _ _ (((H_m.out.below HB9.out).below HB10.out).below HB11.out)).mono ?_); rintro e W12 ⟨rfl, hb⟩
             have HB12 := Lib.hid hb
             clear hb C8)
          | (go_at_call 30; (with_reducible refine (C9.out _ _ ((((((((((H_a.out.below HB3.out).below HB4.out).below HB5.out).below HB6.out).below HB7.out).below HB8.out).below HB9.out).below HB10.out).below HB11.out).below HB12.out)).mono ?_); rintro e W13 ⟨rfl, hb⟩
             have HB13 := Lib.hid hb
             clear hb C9)
          | (go_at_call 32; (with_reducible refine (C10.out _ _ (((((((((((H_x.out.below HB3.out).below HB4.out).below HB5.out).below HB6.out).below HB7.out).below HB8.out).below HB9.out).below HB10.out).below HB11.out).below HB12.out).below HB13.out)).mono ?_); rintro e W14 ⟨rfl, hb⟩
             have HB14 := Lib.hid hb
             clear hb C10)
          | (go_at_call 35; (with_reducible refine (C11.out _ _ _ ((((((((((((H_a.out.below HB3.out).below HB4.out).below HB5.out).below HB6.out).below HB7.out).below HB8.out).below HB9.out).below HB10.out).below HB11.out).below HB12.out).below HB13.out).below HB14.out) (((((((((((H_b.out.below HB4.out).below HB5.out).below HB6.out).below HB7.out).below HB8.out).below HB9.out).below HB10.out).below HB11.out).below HB12.out).below HB13.out).below HB14.out)).mono ?_); rintro e W15 ⟨ad, rfl, ⟨h_ad, n_ad⟩, hb⟩
             have H_ad := Lib.hid h_ad
             have N_ad := Lib.hid n_ad
             have HB15 := Lib.hid hb
             clear h_ad n_ad hb C11)
          | (go_at_call 30; (with_reducible refine (C12.out _ _ H_ad.out).mono ?_); rintro e W16 ⟨rfl, hb⟩
             have HB16 := Lib.hid hb
             clear hb C12)
          | (go_at_call 36; (with_reducible refine (C13.out _ _ _ ((((((((((((((H_x.out.below HB3.out).below HB4.out).below HB5.out).below HB6.out).below HB7.out).below HB8.out).below HB9.out).below HB10.out).below HB11.out).below HB12.out).below HB13.out).below HB14.out).below HB15.out).below HB16.out) (((((((((((((H_y.out.below HB4.out).below HB5.out).below HB6.out).below HB7.out).below HB8.out).below HB9.out).below HB10.out).below HB11.out).below HB12.out).below HB13.out).below HB14.out).below HB15.out).below HB16.out)).mono ?_); rintro e W17 ⟨xd, rfl, h_xd, hb⟩
             have H_xd := Lib.hid h_xd
             have HB17 := Lib.hid hb
             clear h_xd hb C13)
          | (go_at_call 32; (with_reducible refine (C14.out _ _ H_xd.out).mono ?_); rintro e W18 ⟨rfl, hb⟩
             have HB18 := Lib.hid hb
             clear hb C14)
          | (go_at_call 37; (with_reducible refine (C15.out _ _ _ ((((((((((((((((H_a.out.below HB3.out).below HB4.out).below HB5.out).below HB6.out).below HB7.out).below HB8.out).below HB9.out).below HB10.out).below HB11.out).below HB12.out).below HB13.out).below HB14.out).below HB15.out).below HB16.out).below HB17.out).below HB18.out) (((((((((((((((H_b.out.below HB4.out).below HB5.out).below HB6.out).below HB7.out).below HB8.out).below HB9.out).below HB10.out).below HB11.out).below HB12.out).below HB13.out).below HB14.out).below HB15.out).below HB16.out).below HB17.out).below HB18.out)).mono ?_); rintro e W19 ⟨am, rfl, ⟨h_am, n_am⟩, hb⟩
             have H_am := Lib.hid h_am
             have N_am := Lib.hid n_am
             have HB19 := Lib.hid hb
             clear h_am n_am hb C15)
          | (go_at_call 30; (with_reducible refine (C16.out _ _ H_am.out).mono ?_); rintro e W20 ⟨rfl, hb⟩
             have HB20 := Lib.hid hb
             clear hb C16)
          | (go_at_call 38; (with_reducible refine (C17.out _ _ _ ((((((((((((((((((H_x.out.below HB3.out).below HB4.out).below HB5.out).below HB6.out).below HB7.out).below HB8.out).below HB9.out).below HB10.out).below HB11.out).below HB12.out).below HB13.out).below HB14.out).below HB15.out).below HB16.out).below HB17.out).below HB18.out).below HB19.out).below HB20.out) (((((((((((((((((H_y.out.below HB4.out).below HB5.out).below HB6.out).below HB7.out).below HB8.out).below HB9.out).below HB10.out).below HB11.out).below HB12.out).below HB13.out).below HB14.out).below HB15.out).below HB16.out).below HB17.out).below HB18.out).below HB19.out).below HB20.out)).mono ?_); rintro e W21 ⟨xm, rfl, h_xm, hb⟩
             have H_xm := Lib.hid h_xm
             have HB21 := Lib.hid hb
             clear h_xm hb C17)
          | (go_at_call 32; (with_reducible refine (C18.out _ _ H_xm.out).mono ?_); rintro e W22 ⟨rfl, hb⟩
             have HB22 := Lib.hid hb
             clear hb C18)
          | (go_at_call 39; (with_reducible refine (C19.out _ _ _ ((((((((((((((((((((H_a.out.below HB3.out).below HB4.out).below HB5.out).below HB6.out).below HB7.out).below HB8.out).below HB9.out).below HB10.out).below HB11.out).below HB12.out).below HB13.out).below HB14.out).below HB15.out).below HB16.out).below HB17.out).below HB18.out).below HB19.out).below HB20.out).below HB21.out).below HB22.out) (((((((((((((((((((H_b.out.below HB4.out).below HB5.out).below HB6.out).below HB7.out).below HB8.out).below HB9.out).below HB10.out).below HB11.out).below HB12.out).below HB13.out).below HB14.out).below HB15.out).below HB16.out).below HB17.out).below HB18.out).below HB19.out).below HB20.out).below HB21.out).below HB22.out)).mono ?_); rintro e W23 ⟨rfl, hb⟩
             have HB23 := Lib.hid hb
             clear hb C19)
          | (go_at_call 28; (with_reducible refine (C20.out _ _ _ (((((((((((((((((((((H_x.out.below HB3.out).below HB4.out).below HB5.out).below HB6.out).below HB7.out).below HB8.out).below HB9.out).below HB10.out).below HB11.out).below HB12.out).below HB13.out).below HB14.out).below HB15.out).below HB16.out).below HB17.out).below HB18.out).below HB19.out).below HB20.out).below HB21.out).below HB22.out).below HB23.out) ((((((((((((((((((((H_y.out.below HB4.out).below HB5.out).below HB6.out).below HB7.out).below HB8.out).below HB9.out).below HB10.out).below HB11.out).below HB12.out).below HB13.out).below HB14.out).below HB15.out).below HB16.out).below HB17.out).below HB18.out).below HB19.out).below HB20.out).below HB21.out).below HB22.out).below HB23.out)).mono ?_); rintro e W24 ⟨rfl, hb⟩
             have HB24 := Lib.hid hb
             clear hb C20)
          | (go_at_call 40; (with_reducible refine (C21.out _ _ _ ((((((((((((((((((((((H_a.out.below HB3.out).below HB4.out).below HB5.out).below HB6.out).below HB7.out).below HB8.out).below HB9.out).below HB10.out).below HB11.out).below HB12.out).below HB13.out).below HB14.out).below HB15.out).below HB16.out).below HB17.out).below HB18.out).below HB19.out).below HB20.out).below HB21.out).below HB22.out).below HB23.out).below HB24.out) (((((((((((((((((((((H_b.out.below HB4.out).below HB5.out).below HB6.out).below HB7.out).below HB8.out).below HB9.out).below HB10.out).below HB11.out).below HB12.out).below HB13.out).below HB14.out).below HB15.out).below HB16.out).below HB17.out).below HB18.out).below HB19.out).below HB20.out).below HB21.out).below HB22.out).below HB23.out).below HB24.out)).mono ?_); rintro e W25 ⟨ag, rfl, ⟨h_ag, n_ag⟩, hb⟩
             have H_ag := Lib.hid h_ag
             have N_ag := Lib.hid n_ag
             have HB25 := Lib.hid hb
             clear h_ag n_ag hb C21)
          | (go_at_call 30; (with_reducible refine (C22.out _ _ H_ag.out).mono ?_); rintro e W26 ⟨rfl, hb⟩
             have HB26 := Lib.hid hb
             clear hb C22)
          | (go_at_call 41; (with_reducible refine (C23.out _ _ _ ((((((((((((((((((((((((H_x.out.below HB3.out).below HB4.out).below HB5.out).below HB6.out).below HB7.out).below HB8.out).below HB9.out).below HB10.out).below HB11.out).below HB12.out).below HB13.out).below HB14.out).below HB15.out).below HB16.out).below HB17.out).below HB18.out).below HB19.out).below HB20.out).below HB21.out).below HB22.out).below HB23.out).below HB24.out).below HB25.out).below HB26.out) (((((((((((((((((((((((H_y.out.below HB4.out).below HB5.out).below HB6.out).below HB7.out).below HB8.out).below HB9.out).below HB10.out).below HB11.out).below HB12.out).below HB13.out).below HB14.out).below HB15.out).below HB16.out).below HB17.out).below HB18.out).below HB19.out).below HB20.out).below HB21.out).below HB22.out).below HB23.out).below HB24.out).below HB25.out).below HB26.out)).mono ?_); rintro e W27 ⟨xg, rfl, h_xg, hb⟩
             have H_xg := Lib.hid h_xg
             have HB27 := Lib.hid hb
             clear h_xg hb C23)
          | (go_at_call 32; (with_reducible refine (C24.out _ _ H_xg.out).mono ?_); rintro e W28 ⟨rfl, hb⟩
             have HB28 := Lib.hid hb
             clear hb C24)
          | (go_at_call 42; (with_reducible refine (C25.out _ _ ((((((((((((((((((((((((((H_a.out.below HB3.out).below HB4.out).below HB5.out).below HB6.out).below HB7.out).below HB8.out).below HB9.out).below HB10.out).below HB11.out).below HB12.out).below HB13.out).below HB14.out).below HB15.out).below HB16.out).below HB17.out).below HB18.out).below HB19.out).below HB20.out).below HB21.out).below HB22.out).below HB23.out).below HB24.out).below HB25.out).below HB26.out).below HB27.out).below HB28.out)).mono ?_); rintro e w9 ⟨rfl, rfl⟩
             clear C25)
          | (fail "no arm"))
        skip
        all_goals (go_ret; exact ⟨rfl, (nat.below_tr (nat.below_tr (nat.below_tr (nat.below_tr (nat.below_tr (nat.below_tr (nat.below_tr (nat.below_tr (nat.below_tr (nat.below_tr (nat.below_tr (nat.below_tr (nat.below_tr (nat.below_tr (nat.below_tr (nat.below_tr (nat.below_tr (nat.below_tr (nat.below_tr (nat.below_tr (nat.below_tr (nat.below_tr (nat.below_tr (nat.below_tr (nat.below_tr (nat.below_tr (nat.below_tr HB1.out HB2.out) HB3.out) HB4.out) HB5.out) HB6.out) HB7.out) HB8.out) HB9.out) HB10.out) HB11.out) HB12.out) HB13.out) HB14.out) HB15.out) HB16.out) HB17.out) HB18.out) HB19.out) HB20.out) HB21.out) HB22.out) HB23.out) HB24.out) HB25.out) HB26.out) HB27.out) HB28.out)⟩)
    · have hcm : ¬ ref.cmpN X Y < 0 := by unfold ref.cmpN; rw [if_neg (by omega)]; split <;> omega
      rcases Nat.eq_zero_or_pos Y with hY | hY
      · have hyl : (((ref.digs Y).length : Nat) : Int) = 0 := by rw [xlen_zero hY]; rfl
        have HXY := Lib.hid hxy
        have HY := Lib.hid hY
        have HX := Lib.hid hX
        clear hxy hY hX
        have c1 := fun (W : World) (v0 : Value) (v1 : Value) (hh0 : nat.IsN W v0 X) (hh1 : nat.IsN W v1 Y)  => nat.Sub_ok v0 v1 X Y W hh0 hh1 HXY.out ((show Bn X 120 from L_X.out).nat (by decide))
        have C1 := Lib.hid c1
        clear c1
        have c2 := fun (W : World) (v0 : Value) (v1 : Value) (hh0 : ref.IsN W v0 X) (hh1 : ref.IsN W v1 Y)  => ref.Cmp_any v0 v1 X Y W hh0 hh1
        have C2 := Lib.hid c2
        clear c2
        have c3 := fun (W : World) (v0 : Value) (hh0 : nat.IsN W v0 (X - Y))  => nat.Text_any v0 (X - Y) W hh0 ((Bn_sub (show Bn X 120 from L_X.out)).nat (by decide))
        have C3 := Lib.hid c3
        clear c3
        have c4 := fun (W : World) (v0 : Value) (v1 : Value) (hh0 : ref.IsN W v0 X) (hh1 : ref.IsN W v1 Y)  => ref.Sub_any v0 v1 X Y W hh0 hh1 HXY.out ((show Bn X 120 from L_X.out).ref (by decide))
        have C4 := Lib.hid c4
        clear c4
        have c5 := fun (W : World) (v0 : Value) (hh0 : ref.IsN W v0 (X - Y))  => ref.Text_any v0 (X - Y) W hh0 ((Bn_sub (show Bn X 120 from L_X.out)).ref (by decide))
        have C5 := Lib.hid c5
        clear c5
        have c6 := fun (W : World) (v9 v0 : Value) (hh0 : nat.IsN W v0 Y)  => nat.Div_none_b v9 v0 W (HY.out ▸ hh0)
        have C6 := Lib.hid c6
        clear c6
        have c7 := fun (W : World) (v0 : Value) (hh0 : nat.IsN W v0 X)  => nat.Text_any v0 X W hh0 ((show Bn X 120 from L_X.out).nat (by decide))
        have C7 := Lib.hid c7
        clear c7
        have c8 := fun (W : World) (v0 : Value) (hh0 : ref.IsN W v0 X)  => ref.Text_any v0 X W hh0 ((show Bn X 120 from L_X.out).ref (by decide))
        have C8 := Lib.hid c8
        clear c8
        have c9 := fun (W : World) (v0 : Value) (v1 : Value) (hh0 : nat.IsN W v0 X) (hh1 : nat.IsN W v1 Y)  => nat.Add_any v0 v1 X Y W hh0 hh1 ((show Bn X 120 from L_X.out).nat (by decide)) ((show Bn Y 120 from L_Y.out).nat (by decide))
        have C9 := Lib.hid c9
        clear c9
        have c10 := fun (W : World) (v0 : Value) (hh0 : nat.IsN W v0 (X + Y))  => nat.Text_any v0 (X + Y) W hh0 ((Bn_add (show Bn X 120 from L_X.out) (show Bn Y 120 from L_Y.out)).nat (by decide))
        have C10 := Lib.hid c10
        clear c10
        have c11 := fun (W : World) (v0 : Value) (v1 : Value) (hh0 : ref.IsN W v0 X) (hh1 : ref.IsN W v1 Y)  => ref.Add_any v0 v1 X Y W hh0 hh1 ((show Bn X 120 from L_X.out).ref (by decide)) ((show Bn Y 120 from L_Y.out).ref (by decide))
        have C11 := Lib.hid c11
        clear c11
        have c12 := fun (W : World) (v0 : Value) (hh0 : ref.IsN W v0 (X + Y))  => ref.Text_any v0 (X + Y) W hh0 ((Bn_add (show Bn X 120 from L_X.out) (show Bn Y 120 from L_Y.out)).ref (by decide))
        have C12 := Lib.hid c12
        clear c12
        have c13 := fun (W : World) (v0 : Value) (v1 : Value) (hh0 : nat.IsN W v0 X) (hh1 : nat.IsN W v1 Y)  => nat.Mul_any v0 v1 X Y W hh0 hh1 ((show Bn X 120 from L_X.out).nat (by decide)) ((show Bn Y 120 from L_Y.out).nat (by decide))
        have C13 := Lib.hid c13
        clear c13
        have c14 := fun (W : World) (v0 : Value) (hh0 : nat.IsN W v0 (X * Y))  => nat.Text_any v0 (X * Y) W hh0 ((Bn_mul (show Bn X 120 from L_X.out) (show Bn Y 120 from L_Y.out)).nat (by decide))
        have C14 := Lib.hid c14
        clear c14
        have c15 := fun (W : World) (v0 : Value) (v1 : Value) (hh0 : ref.IsN W v0 X) (hh1 : ref.IsN W v1 Y)  => ref.Mul_any v0 v1 X Y W hh0 hh1 ((show Bn X 120 from L_X.out).ref (by decide)) ((show Bn Y 120 from L_Y.out).ref (by decide))
        have C15 := Lib.hid c15
        clear c15
        have c16 := fun (W : World) (v0 : Value) (hh0 : ref.IsN W v0 (X * Y))  => ref.Text_any v0 (X * Y) W hh0 ((Bn_mul (show Bn X 120 from L_X.out) (show Bn Y 120 from L_Y.out)).ref (by decide))
        have C16 := Lib.hid c16
        clear c16
        have c17 := fun (W : World) (v0 : Value) (v1 : Value) (hh0 : nat.IsN W v0 X) (hh1 : nat.IsN W v1 Y)  => nat.Cmp_b v0 v1 X Y W hh0 hh1 ((show Bn X 120 from L_X.out).nat (by decide)) ((show Bn Y 120 from L_Y.out).nat (by decide))
        rw [cmp_same] at c17
        have C17 := Lib.hid c17
        clear c17
        have c18 := fun (W : World) (v0 : Value) (v1 : Value) (hh0 : ref.IsN W v0 X) (hh1 : ref.IsN W v1 Y)  => ref.Cmp_any v0 v1 X Y W hh0 hh1
        have C18 := Lib.hid c18
        clear c18
        have c19 := fun (W : World) (v0 : Value) (v1 : Value) (hh0 : nat.IsN W v0 X) (hh1 : nat.IsN W v1 Y)  => nat.Gcd_any v0 v1 X Y W hh0 hh1 ((show Bn X 120 from L_X.out).nat (by decide)) ((show Bn Y 120 from L_Y.out).nat (by decide))
        have C19 := Lib.hid c19
        clear c19
        have c20 := fun (W : World) (v0 : Value) (hh0 : nat.IsN W v0 (Nat.gcd X Y))  => nat.Text_any v0 (Nat.gcd X Y) W hh0 ((Bn_gcd (show Bn X 120 from L_X.out) (show Bn Y 120 from L_Y.out)).nat (by decide))
        have C20 := Lib.hid c20
        clear c20
        have c21 := fun (W : World) (v0 : Value) (v1 : Value) (hh0 : ref.IsN W v0 X) (hh1 : ref.IsN W v1 Y)  => ref.Gcd_any v0 v1 X Y W hh0 hh1 ((show Bn X 120 from L_X.out).ref (by decide)) ((show Bn Y 120 from L_Y.out).ref (by decide))
        have C21 := Lib.hid c21
        clear c21
        have c22 := fun (W : World) (v0 : Value) (hh0 : ref.IsN W v0 (Nat.gcd X Y))  => ref.Text_any v0 (Nat.gcd X Y) W hh0 ((Bn_gcd (show Bn X 120 from L_X.out) (show Bn Y 120 from L_Y.out)).ref (by decide))
        have C22 := Lib.hid c22
        clear c22
        have c23 := fun (W : World) (v0 : Value) (hh0 : nat.IsN W v0 X)  => nat.Zero_any v0 X W hh0
        rw [decide_eq_false (show ¬ X = 0 from by have := HX.out; omega)] at c23
        have C23 := Lib.hid c23
        clear c23
        generalize str (Lib.decDigits X) = sg0 at *
        generalize str (Lib.decDigits (X + Y)) = sg1 at *
        generalize str (Lib.decDigits (X * Y)) = sg2 at *
        generalize str (Lib.decDigits (Nat.gcd X Y)) = sg3 at *
        generalize str (Lib.decDigits (X - Y)) = sg4 at *
        generalize ref.cmpN X Y = cm at *
        generalize (ref.digs X).length = lx at *
        generalize (ref.digs Y).length = ly at *
        go_wp2_with (first
          | (go_at_call 27; (with_reducible refine (C1.out _ _ _ (H_a.out.below HB3.out) H_b.out).mono ?_); rintro e W4 ⟨d, rfl, ⟨h_d, n_d⟩, hb⟩
             have H_d := Lib.hid h_d
             have N_d := Lib.hid n_d
             have HB4 := Lib.hid hb
             clear h_d n_d hb C1)
          | (go_at_call 28; (with_reducible refine (C2.out _ _ _ ((H_x.out.below HB3.out).below HB4.out) (H_y.out.below HB4.out)).mono ?_); rintro e W5 ⟨rfl, hb⟩
             have HB5 := Lib.hid hb
             clear hb C2)
          | (go_at_call 30; (with_reducible refine (C3.out _ _ (H_d.out.below HB5.out)).mono ?_); rintro e W6 ⟨rfl, hb⟩
             have HB6 := Lib.hid hb
             clear hb C3)
          | (go_at_call 31; (with_reducible refine (C4.out _ _ _ ((((H_x.out.below HB3.out).below HB4.out).below HB5.out).below HB6.out) (((H_y.out.below HB4.out).below HB5.out).below HB6.out)).mono ?_); rintro e W7 ⟨e, rfl, h_e, hb⟩
             have H_e := Lib.hid h_e
             have HB7 := Lib.hid hb
             clear h_e hb C4)
          | (go_at_call 32; (with_reducible refine (C5.out _ _ H_e.out).mono ?_); rintro e W8 ⟨rfl, hb⟩
             have HB8 := Lib.hid hb
             clear hb C5)
          | (go_at_call 33; (with_reducible refine (C6.out _ _ _ (((((H_b.out.below HB4.out).below HB5.out).below HB6.out).below HB7.out).below HB8.out)).mono ?_); rintro e W9 ⟨rfl, hb⟩
             have HB9 := Lib.hid hb
             clear hb C6)
          | (go_at_call 29; (with_reducible refine (Same_any 3 _ (((((((((HG.out.below HB1.out).below HB2.out).below HB3.out).below HB4.out).below HB5.out).below HB6.out).below HB7.out).below HB8.out).below HB9.out)).mono ?_); rintro e W10 ⟨rfl, hb⟩
             have HB10 := Lib.hid hb
             clear hb)
          | (go_at_call 30; (with_reducible refine (C7.out _ _ ((((((((H_a.out.below HB3.out).below HB4.out).below HB5.out).below HB6.out).below HB7.out).below HB8.out).below HB9.out).below HB10.out)).mono ?_); rintro e W11 ⟨rfl, hb⟩
             have HB11 := Lib.hid hb
             clear hb C7)
          | (go_at_call 32; (with_reducible refine (C8.out _ _ (((((((((H_x.out.below HB3.out).below HB4.out).below HB5.out).below HB6.out).below HB7.out).below HB8.out).below HB9.out).below HB10.out).below HB11.out)).mono ?_); rintro e W12 ⟨rfl, hb⟩
             have HB12 := Lib.hid hb
             clear hb C8)
          | (go_at_call 35; (with_reducible refine (C9.out _ _ _ ((((((((((H_a.out.below HB3.out).below HB4.out).below HB5.out).below HB6.out).below HB7.out).below HB8.out).below HB9.out).below HB10.out).below HB11.out).below HB12.out) (((((((((H_b.out.below HB4.out).below HB5.out).below HB6.out).below HB7.out).below HB8.out).below HB9.out).below HB10.out).below HB11.out).below HB12.out)).mono ?_); rintro e W13 ⟨ad, rfl, ⟨h_ad, n_ad⟩, hb⟩
             have H_ad := Lib.hid h_ad
             have N_ad := Lib.hid n_ad
             have HB13 := Lib.hid hb
             clear h_ad n_ad hb C9)
          | (go_at_call 30; (with_reducible refine (C10.out _ _ H_ad.out).mono ?_); rintro e W14 ⟨rfl, hb⟩
             have HB14 := Lib.hid hb
             clear hb C10)
          | (go_at_call 36; (with_reducible refine (C11.out _ _ _ ((((((((((((H_x.out.below HB3.out).below HB4.out).below HB5.out).below HB6.out).below HB7.out).below HB8.out).below HB9.out).below HB10.out).below HB11.out).below HB12.out).below HB13.out).below HB14.out) (((((((((((H_y.out.below HB4.out).below HB5.out).below HB6.out).below HB7.out).below HB8.out).below HB9.out).below HB10.out).below HB11.out).below HB12.out).below HB13.out).below HB14.out)).mono ?_); rintro e W15 ⟨xd, rfl, h_xd, hb⟩
             have H_xd := Lib.hid h_xd
             have HB15 := Lib.hid hb
             clear h_xd hb C11)
          | (go_at_call 32; (with_reducible refine (C12.out _ _ H_xd.out).mono ?_); rintro e W16 ⟨rfl, hb⟩
             have HB16 := Lib.hid hb
             clear hb C12)
          | (go_at_call 37; (with_reducible refine (C13.out _ _ _ ((((((((((((((H_a.out.below HB3.out).below HB4.out).below HB5.out).below HB6.out).below HB7.out).below HB8.out).below HB9.out).below HB10.out).below HB11.out).below HB12.out).below HB13.out).below HB14.out).below HB15.out).below HB16.out) (((((((((((((H_b.out.below HB4.out).below HB5.out).below HB6.out).below HB7.out).below HB8.out).below HB9.out).below HB10.out).below HB11.out).below HB12.out).below HB13.out).below HB14.out).below HB15.out).below HB16.out)).mono ?_); rintro e W17 ⟨am, rfl, ⟨h_am, n_am⟩, hb⟩
             have H_am := Lib.hid h_am
             have N_am := Lib.hid n_am
             have HB17 := Lib.hid hb
             clear h_am n_am hb C13)
          | (go_at_call 30; (with_reducible refine (C14.out _ _ H_am.out).mono ?_); rintro e W18 ⟨rfl, hb⟩
             have HB18 := Lib.hid hb
             clear hb C14)
          | (go_at_call 38; (with_reducible refine (C15.out _ _ _ ((((((((((((((((H_x.out.below HB3.out).below HB4.out).below HB5.out).below HB6.out).below HB7.out).below HB8.out).below HB9.out).below HB10.out).below HB11.out).below HB12.out).below HB13.out).below HB14.out).below HB15.out).below HB16.out).below HB17.out).below HB18.out) (((((((((((((((H_y.out.below HB4.out).below HB5.out).below HB6.out).below HB7.out).below HB8.out).below HB9.out).below HB10.out).below HB11.out).below HB12.out).below HB13.out).below HB14.out).below HB15.out).below HB16.out).below HB17.out).below HB18.out)).mono ?_); rintro e W19 ⟨xm, rfl, h_xm, hb⟩
             have H_xm := Lib.hid h_xm
             have HB19 := Lib.hid hb
             clear h_xm hb C15)
          | (go_at_call 32; (with_reducible refine (C16.out _ _ H_xm.out).mono ?_); rintro e W20 ⟨rfl, hb⟩
             have HB20 := Lib.hid hb
             clear hb C16)
          | (go_at_call 39; (with_reducible refine (C17.out _ _ _ ((((((((((((((((((H_a.out.below HB3.out).below HB4.out).below HB5.out).below HB6.out).below HB7.out).below HB8.out).below HB9.out).below HB10.out).below HB11.out).below HB12.out).below HB13.out).below HB14.out).below HB15.out).below HB16.out).below HB17.out).below HB18.out).below HB19.out).below HB20.out) (((((((((((((((((H_b.out.below HB4.out).below HB5.out).below HB6.out).below HB7.out).below HB8.out).below HB9.out).below HB10.out).below HB11.out).below HB12.out).below HB13.out).below HB14.out).below HB15.out).below HB16.out).below HB17.out).below HB18.out).below HB19.out).below HB20.out)).mono ?_); rintro e W21 ⟨rfl, hb⟩
             have HB21 := Lib.hid hb
             clear hb C17)
          | (go_at_call 28; (with_reducible refine (C18.out _ _ _ (((((((((((((((((((H_x.out.below HB3.out).below HB4.out).below HB5.out).below HB6.out).below HB7.out).below HB8.out).below HB9.out).below HB10.out).below HB11.out).below HB12.out).below HB13.out).below HB14.out).below HB15.out).below HB16.out).below HB17.out).below HB18.out).below HB19.out).below HB20.out).below HB21.out) ((((((((((((((((((H_y.out.below HB4.out).below HB5.out).below HB6.out).below HB7.out).below HB8.out).below HB9.out).below HB10.out).below HB11.out).below HB12.out).below HB13.out).below HB14.out).below HB15.out).below HB16.out).below HB17.out).below HB18.out).below HB19.out).below HB20.out).below HB21.out)).mono ?_); rintro e W22 ⟨rfl, hb⟩
             have HB22 := Lib.hid hb
             clear hb C18)
          | (go_at_call 40; (with_reducible refine (C19.out _ _ _ ((((((((((((((((((((H_a.out.below HB3.out).below HB4.out).below HB5.out).below HB6.out).below HB7.out).below HB8.out).below HB9.out).below HB10.out).below HB11.out).below HB12.out).below HB13.out).below HB14.out).below HB15.out).below HB16.out).below HB17.out).below HB18.out).below HB19.out).below HB20.out).below HB21.out).below HB22.out) (((((((((((((((((((H_b.out.below HB4.out).below HB5.out).below HB6.out).below HB7.out).below HB8.out).below HB9.out).below HB10.out).below HB11.out).below HB12.out).below HB13.out).below HB14.out).below HB15.out).below HB16.out).below HB17.out).below HB18.out).below HB19.out).below HB20.out).below HB21.out).below HB22.out)).mono ?_); rintro e W23 ⟨ag, rfl, ⟨h_ag, n_ag⟩, hb⟩
             have H_ag := Lib.hid h_ag
             have N_ag := Lib.hid n_ag
             have HB23 := Lib.hid hb
             clear h_ag n_ag hb C19)
          | (go_at_call 30; (with_reducible refine (C20.out _ _ H_ag.out).mono ?_); rintro e W24 ⟨rfl, hb⟩
             have HB24 := Lib.hid hb
             clear hb C20)
          | (go_at_call 41; (with_reducible refine (C21.out _ _ _ ((((((((((((((((((((((H_x.out.below HB3.out).below HB4.out).below HB5.out).below HB6.out).below HB7.out).below HB8.out).below HB9.out).below HB10.out).below HB11.out).below HB12.out).below HB13.out).below HB14.out).below HB15.out).below HB16.out).below HB17.out).below HB18.out).below HB19.out).below HB20.out).below HB21.out).below HB22.out).below HB23.out).below HB24.out) (((((((((((((((((((((H_y.out.below HB4.out).below HB5.out).below HB6.out).below HB7.out).below HB8.out).below HB9.out).below HB10.out).below HB11.out).below HB12.out).below HB13.out).below HB14.out).below HB15.out).below HB16.out).below HB17.out).below HB18.out).below HB19.out).below HB20.out).below HB21.out).below HB22.out).below HB23.out).below HB24.out)).mono ?_); rintro e W25 ⟨xg, rfl, h_xg, hb⟩
             have H_xg := Lib.hid h_xg
             have HB25 := Lib.hid hb
             clear h_xg hb C21)
          | (go_at_call 32; (with_reducible refine (C22.out _ _ H_xg.out).mono ?_); rintro e W26 ⟨rfl, hb⟩
             have HB26 := Lib.hid hb
             clear hb C22)
          | (go_at_call 42; (with_reducible refine (C23.out _ _ ((((((((((((((((((((((((H_a.out.below HB3.out).below HB4.out).below HB5.out).below HB6.out).below HB7.out).below HB8.out).below HB9.out).below HB10.out).below HB11.out).below HB12.out).below HB13.out).below HB14.out).below HB15.out).below HB16.out).below HB17.out).below HB18.out).below HB19.out).below HB20.out).below HB21.out).below HB22.out).below HB23.out).below HB24.out).below HB25.out).below HB26.out)).mono ?_); rintro e w9 ⟨rfl, rfl⟩
             clear C23)
          | (fail "no arm"))
        skip
        all_goals (go_ret; exact ⟨rfl, (nat.below_tr (nat.below_tr (nat.below_tr (nat.below_tr (nat.below_tr (nat.below_tr (nat.below_tr (nat.below_tr (nat.below_tr (nat.below_tr (nat.below_tr (nat.below_tr (nat.below_tr (nat.below_tr (nat.below_tr (nat.below_tr (nat.below_tr (nat.below_tr (nat.below_tr (nat.below_tr (nat.below_tr (nat.below_tr (nat.below_tr (nat.below_tr (nat.below_tr HB1.out HB2.out) HB3.out) HB4.out) HB5.out) HB6.out) HB7.out) HB8.out) HB9.out) HB10.out) HB11.out) HB12.out) HB13.out) HB14.out) HB15.out) HB16.out) HB17.out) HB18.out) HB19.out) HB20.out) HB21.out) HB22.out) HB23.out) HB24.out) HB25.out) HB26.out)⟩)
      · have hyl : (0 : Int) < ((ref.digs Y).length : Nat) := by have := xlen_pos (x := Y) (by omega); omega
        have HXY := Lib.hid hxy
        have HY := Lib.hid hY
        have HX := Lib.hid hX
        clear hxy hY hX
        have c1 := fun (W : World) (v0 : Value) (v1 : Value) (hh0 : nat.IsN W v0 X) (hh1 : nat.IsN W v1 Y)  => nat.Sub_ok v0 v1 X Y W hh0 hh1 HXY.out ((show Bn X 120 from L_X.out).nat (by decide))
        have C1 := Lib.hid c1
        clear c1
        have c2 := fun (W : World) (v0 : Value) (v1 : Value) (hh0 : ref.IsN W v0 X) (hh1 : ref.IsN W v1 Y)  => ref.Cmp_any v0 v1 X Y W hh0 hh1
        have C2 := Lib.hid c2
        clear c2
        have c3 := fun (W : World) (v0 : Value) (hh0 : nat.IsN W v0 (X - Y))  => nat.Text_any v0 (X - Y) W hh0 ((Bn_sub (show Bn X 120 from L_X.out)).nat (by decide))
        have C3 := Lib.hid c3
        clear c3
        have c4 := fun (W : World) (v0 : Value) (v1 : Value) (hh0 : ref.IsN W v0 X) (hh1 : ref.IsN W v1 Y)  => ref.Sub_any v0 v1 X Y W hh0 hh1 HXY.out ((show Bn X 120 from L_X.out).ref (by decide))
        have C4 := Lib.hid c4
        clear c4
        have c5 := fun (W : World) (v0 : Value) (hh0 : ref.IsN W v0 (X - Y))  => ref.Text_any v0 (X - Y) W hh0 ((Bn_sub (show Bn X 120 from L_X.out)).ref (by decide))
        have C5 := Lib.hid c5
        clear c5
        have c6 := fun (W : World) (v0 : Value) (v1 : Value) (hh0 : nat.IsN W v0 X) (hh1 : nat.IsN W v1 Y)  => nat.Div_ok v0 v1 X Y W hh0 hh1 HY.out ((show Bn X 120 from L_X.out).nat (by decide)) ((show Bn Y 120 from L_Y.out).nat (by decide))
        have C6 := Lib.hid c6
        clear c6
        have c7 := fun (W : World) (v0 : Value) (v1 : Value) (hh0 : ref.IsN W v0 X) (hh1 : ref.IsN W v1 Y)  => ref.Div_any v0 v1 X Y W hh0 hh1 ((show Bn X 120 from L_X.out).ref (by decide)) ((show Bn Y 120 from L_Y.out).ref (by decide)) HY.out
        have C7 := Lib.hid c7
        clear c7
        have c8 := fun (W : World) (v0 : Value) (hh0 : nat.IsN W v0 (X / Y))  => nat.Text_any v0 (X / Y) W hh0 ((Bn_div (show Bn X 120 from L_X.out)).nat (by decide))
        have C8 := Lib.hid c8
        clear c8
        have c9 := fun (W : World) (v0 : Value) (hh0 : ref.IsN W v0 (X / Y))  => ref.Text_any v0 (X / Y) W hh0 ((Bn_div (show Bn X 120 from L_X.out)).ref (by decide))
        have C9 := Lib.hid c9
        clear c9
        have c10 := fun (W : World) (v0 : Value) (hh0 : nat.IsN W v0 (X % Y))  => nat.Text_any v0 (X % Y) W hh0 ((Bn_mod (show Bn X 120 from L_X.out)).nat (by decide))
        have C10 := Lib.hid c10
        clear c10
        have c11 := fun (W : World) (v0 : Value) (hh0 : ref.IsN W v0 (X % Y))  => ref.Text_any v0 (X % Y) W hh0 ((Bn_mod (show Bn X 120 from L_X.out)).ref (by decide))
        have C11 := Lib.hid c11
        clear c11
        have c12 := fun (W : World) (v0 : Value) (hh0 : nat.IsN W v0 X)  => nat.Text_any v0 X W hh0 ((show Bn X 120 from L_X.out).nat (by decide))
        have C12 := Lib.hid c12
        clear c12
        have c13 := fun (W : World) (v0 : Value) (hh0 : ref.IsN W v0 X)  => ref.Text_any v0 X W hh0 ((show Bn X 120 from L_X.out).ref (by decide))
        have C13 := Lib.hid c13
        clear c13
        have c14 := fun (W : World) (v0 : Value) (v1 : Value) (hh0 : nat.IsN W v0 X) (hh1 : nat.IsN W v1 Y)  => nat.Add_any v0 v1 X Y W hh0 hh1 ((show Bn X 120 from L_X.out).nat (by decide)) ((show Bn Y 120 from L_Y.out).nat (by decide))
        have C14 := Lib.hid c14
        clear c14
        have c15 := fun (W : World) (v0 : Value) (hh0 : nat.IsN W v0 (X + Y))  => nat.Text_any v0 (X + Y) W hh0 ((Bn_add (show Bn X 120 from L_X.out) (show Bn Y 120 from L_Y.out)).nat (by decide))
        have C15 := Lib.hid c15
        clear c15
        have c16 := fun (W : World) (v0 : Value) (v1 : Value) (hh0 : ref.IsN W v0 X) (hh1 : ref.IsN W v1 Y)  => ref.Add_any v0 v1 X Y W hh0 hh1 ((show Bn X 120 from L_X.out).ref (by decide)) ((show Bn Y 120 from L_Y.out).ref (by decide))
        have C16 := Lib.hid c16
        clear c16
        have c17 := fun (W : World) (v0 : Value) (hh0 : ref.IsN W v0 (X + Y))  => ref.Text_any v0 (X + Y) W hh0 ((Bn_add (show Bn X 120 from L_X.out) (show Bn Y 120 from L_Y.out)).ref (by decide))
        have C17 := Lib.hid c17
        clear c17
        have c18 := fun (W : World) (v0 : Value) (v1 : Value) (hh0 : nat.IsN W v0 X) (hh1 : nat.IsN W v1 Y)  => nat.Mul_any v0 v1 X Y W hh0 hh1 ((show Bn X 120 from L_X.out).nat (by decide)) ((show Bn Y 120 from L_Y.out).nat (by decide))
        have C18 := Lib.hid c18
        clear c18
        have c19 := fun (W : World) (v0 : Value) (hh0 : nat.IsN W v0 (X * Y))  => nat.Text_any v0 (X * Y) W hh0 ((Bn_mul (show Bn X 120 from L_X.out) (show Bn Y 120 from L_Y.out)).nat (by decide))
        have C19 := Lib.hid c19
        clear c19
        have c20 := fun (W : World) (v0 : Value) (v1 : Value) (hh0 : ref.IsN W v0 X) (hh1 : ref.IsN W v1 Y)  => ref.Mul_any v0 v1 X Y W hh0 hh1 ((show Bn X 120 from L_X.out).ref (by decide)) ((show Bn Y 120 from L_Y.out).ref (by decide))
        have C20 := Lib.hid c20
        clear c20
        have c21 := fun (W : World) (v0 : Value) (hh0 : ref.IsN W v0 (X * Y))  => ref.Text_any v0 (X * Y) W hh0 ((Bn_mul (show Bn X 120 from L_X.out) (show Bn Y 120 from L_Y.out)).ref (by decide))
        have C21 := Lib.hid c21
        clear c21
        have c22 := fun (W : World) (v0 : Value) (v1 : Value) (hh0 : nat.IsN W v0 X) (hh1 : nat.IsN W v1 Y)  => nat.Cmp_b v0 v1 X Y W hh0 hh1 ((show Bn X 120 from L_X.out).nat (by decide)) ((show Bn Y 120 from L_Y.out).nat (by decide))
        rw [cmp_same] at c22
        have C22 := Lib.hid c22
        clear c22
        have c23 := fun (W : World) (v0 : Value) (v1 : Value) (hh0 : ref.IsN W v0 X) (hh1 : ref.IsN W v1 Y)  => ref.Cmp_any v0 v1 X Y W hh0 hh1
        have C23 := Lib.hid c23
        clear c23
        have c24 := fun (W : World) (v0 : Value) (v1 : Value) (hh0 : nat.IsN W v0 X) (hh1 : nat.IsN W v1 Y)  => nat.Gcd_any v0 v1 X Y W hh0 hh1 ((show Bn X 120 from L_X.out).nat (by decide)) ((show Bn Y 120 from L_Y.out).nat (by decide))
        have C24 := Lib.hid c24
        clear c24
        have c25 := fun (W : World) (v0 : Value) (hh0 : nat.IsN W v0 (Nat.gcd X Y))  => nat.Text_any v0 (Nat.gcd X Y) W hh0 ((Bn_gcd (show Bn X 120 from L_X.out) (show Bn Y 120 from L_Y.out)).nat (by decide))
        have C25 := Lib.hid c25
        clear c25
        have c26 := fun (W : World) (v0 : Value) (v1 : Value) (hh0 : ref.IsN W v0 X) (hh1 : ref.IsN W v1 Y)  => ref.Gcd_any v0 v1 X Y W hh0 hh1 ((show Bn X 120 from L_X.out).ref (by decide)) ((show Bn Y 120 from L_Y.out).ref (by decide))
        have C26 := Lib.hid c26
        clear c26
        have c27 := fun (W : World) (v0 : Value) (hh0 : ref.IsN W v0 (Nat.gcd X Y))  => ref.Text_any v0 (Nat.gcd X Y) W hh0 ((Bn_gcd (show Bn X 120 from L_X.out) (show Bn Y 120 from L_Y.out)).ref (by decide))
        have C27 := Lib.hid c27
        clear c27
        have c28 := fun (W : World) (v0 : Value) (hh0 : nat.IsN W v0 X)  => nat.Zero_any v0 X W hh0
        rw [decide_eq_false (show ¬ X = 0 from by have := HX.out; omega)] at c28
        have C28 := Lib.hid c28
        clear c28
        generalize str (Lib.decDigits X) = sg0 at *
        generalize str (Lib.decDigits (X + Y)) = sg1 at *
        generalize str (Lib.decDigits (X * Y)) = sg2 at *
        generalize str (Lib.decDigits (Nat.gcd X Y)) = sg3 at *
        generalize str (Lib.decDigits (X - Y)) = sg4 at *
        generalize str (Lib.decDigits (X / Y)) = sg5 at *
        generalize str (Lib.decDigits (X % Y)) = sg6 at *
        generalize ref.cmpN X Y = cm at *
        generalize (ref.digs X).length = lx at *
        generalize (ref.digs Y).length = ly at *
        go_wp2_with (first
          | (go_at_call 27; (with_reducible refine (C1.out _ _ _ (H_a.out.below HB3.out) H_b.out).mono ?_); rintro e W4 ⟨d, rfl, ⟨h_d, n_d⟩, hb⟩
             have H_d := Lib.hid h_d
             have N_d := Lib.hid n_d
             have HB4 := Lib.hid hb
             clear h_d n_d hb C1)
          | (go_at_call 28; (with_reducible refine (C2.out _ _ _ ((H_x.out.below HB3.out).below HB4.out) (H_y.out.below HB4.out)).mono ?_); rintro e W5 ⟨rfl, hb⟩
             have HB5 := Lib.hid hb
             clear hb C2)
          | (go_at_call 30; (with_reducible refine (C3.out _ _ (H_d.out.below HB5.out)).mono ?_); rintro e W6 ⟨rfl, hb⟩
             have HB6 := Lib.hid hb
             clear hb C3)
          | (go_at_call 31; (with_reducible refine (C4.out _ _ _ ((((H_x.out.below HB3.out).below HB4.out).below HB5.out).below HB6.out) (((H_y.out.below HB4.out).below HB5.out).below HB6.out)).mono ?_); rintro e W7 ⟨e, rfl, h_e, hb⟩
             have H_e := Lib.hid h_e
             have HB7 := Lib.hid hb
             clear h_e hb C4)
          | (go_at_call 32; (with_reducible refine (C5.out _ _ H_e.out).mono ?_); rintro e W8 ⟨rfl, hb⟩
             have HB8 := Lib.hid hb
             clear hb C5)
          | (go_at_call 33; (with_reducible refine (C6.out _ _ _ ((((((H_a.out.below HB3.out).below HB4.out).below HB5.out).below HB6.out).below HB7.out).below HB8.out) (((((H_b.out.below HB4.out).below HB5.out).below HB6.out).below HB7.out).below HB8.out)).mono ?_); rintro e W9 ⟨q, r, rfl, ⟨h_q, n_q⟩, ⟨h_r, n_r⟩, hb⟩
             have H_q := Lib.hid h_q
             have N_q := Lib.hid n_q
             have H_r := Lib.hid h_r
             have N_r := Lib.hid n_r
             have HB9 := Lib.hid hb
             clear h_q n_q h_r n_r hb C6)
          | (go_at_call 34; (with_reducible refine (C7.out _ _ _ (((((((H_x.out.below HB3.out).below HB4.out).below HB5.out).below HB6.out).below HB7.out).below HB8.out).below HB9.out) ((((((H_y.out.below HB4.out).below HB5.out).below HB6.out).below HB7.out).below HB8.out).below HB9.out)).mono ?_); rintro e W10 ⟨p, m, rfl, h_p, h_m, hb⟩
             have H_p := Lib.hid h_p
             have H_m := Lib.hid h_m
             have HB10 := Lib.hid hb
             clear h_p h_m hb C7)
          | (go_at_call 30; (with_reducible refine (C8.out _ _ (H_q.out.below HB10.out)).mono ?_); rintro e W11 ⟨rfl, hb⟩
             have HB11 := Lib.hid hb
             clear hb C8)
          | (go_at_call 32; (with_reducible refine (C9.out _ _ (H_p.out.below HB11.out)).mono ?_); rintro e W12 ⟨rfl, hb⟩
             have HB12 := Lib.hid hb
             clear hb C9)
          | (go_at_call 30; (with_reducible refine (C10.out _ _ (((H_r.out.below HB10.out).below HB11.out).below HB12.out)).mono ?_); rintro e W13 ⟨rfl, hb⟩
             have HB13 := Lib.hid hb
             clear hb C10)
          | (go_at_call 32; (with_reducible refine (C11.out _ _ (((H_m.out.below HB11.out).below HB12.out).below HB13.out)).mono ?_); rintro e W14 ⟨rfl, hb⟩
             have HB14 := Lib.hid hb
             clear hb C11)
          | (go_at_call 30; (with_reducible refine (C12.out _ _ ((((((((((((H_a.out.below HB3.out).below HB4.out).below HB5.out).below HB6.out).below HB7.out).below HB8.out).below HB9.out).below HB10.out).below HB11.out).below HB12.out).below HB13.out).below HB14.out)).mono ?_); rintro e W15 ⟨rfl, hb⟩
             have HB15 := Lib.hid hb
             clear hb C12)
          | (go_at_call 32; (with_reducible refine (C13.out _ _ (((((((((((((H_x.out.below HB3.out).below HB4.out).below HB5.out).below HB6.out).below HB7.out).below HB8.out).below HB9.out).below HB10.out).below HB11.out).below HB12.out).below HB13.out).below HB14.out).below HB15.out)).mono ?_); rintro e W16 ⟨rfl, hb⟩
             have HB16 := Lib.hid hb
             clear hb C13)
          | (go_at_call 35; (with_reducible refine (C14.out _ _ _ ((((((((((((((H_a.out.below HB3.out).below HB4.out).below HB5.out).below HB6.out).below HB7.out).below HB8.out).below HB9.out).below HB10.out).below HB11.out).below HB12.out).below HB13.out).below HB14.out).below HB15.out).below HB16.out) (((((((((((((H_b.out.below HB4.out).below HB5.out).below HB6.out).below HB7.out).below HB8.out).below HB9.out).below HB10.out).below HB11.out).below HB12.out).below HB13.out).below HB14.out).below HB15.out).below HB16.out)).mono ?_); rintro e W17 ⟨ad, rfl, ⟨h_ad, n_ad⟩, hb⟩
             have H_ad := Lib.hid h_ad
             have N_ad := Lib.hid n_ad
             have HB17 := Lib.hid hb
             clear h_ad n_ad hb C14)
          | (go_at_call 30; (with_reducible refine (C15.out _ _ H_ad.out).mono ?_); rintro e W18 ⟨rfl, hb⟩
             have HB18 := Lib.hid hb
             clear hb C15)
          | (go_at_call 36; (with_reducible refine (C16.out _ _ _ ((((((((((((((((H_x.out.below HB3.out).below HB4.out).below HB5.out).below HB6.out).below HB7.out).below HB8.out).below HB9.out).below HB10.out).below HB11.out).below HB12.out).below HB13.out).below HB14.out).below HB15.out).below HB16.out).below HB17.out).below HB18.out) (((((((((((((((H_y.out.below HB4.out).below HB5.out).below HB6.out).below HB7.out).below HB8.out).below HB9.out).below HB10.out).below HB11.out).below HB12.out).below HB13.out).below HB14.out).below HB15.out).below HB16.out).below HB17.out).below HB18.out)).mono ?_); rintro e W19 ⟨xd, rfl, h_xd, hb⟩
             have H_xd := Lib.hid h_xd
             have HB19 := Lib.hid hb
             clear h_xd hb C16)
          | (go_at_call 32; (with_reducible refine (C17.out _ _ H_xd.out).mono ?_); rintro e W20 ⟨rfl, hb⟩
             have HB20 := Lib.hid hb
             clear hb C17)
          | (go_at_call 37; (with_reducible refine (C18.out _ _ _ ((((((((((((((((((H_a.out.below HB3.out).below HB4.out).below HB5.out).below HB6.out).below HB7.out).below HB8.out).below HB9.out).below HB10.out).below HB11.out).below HB12.out).below HB13.out).below HB14.out).below HB15.out).below HB16.out).below HB17.out).below HB18.out).below HB19.out).below HB20.out) (((((((((((((((((H_b.out.below HB4.out).below HB5.out).below HB6.out).below HB7.out).below HB8.out).below HB9.out).below HB10.out).below HB11.out).below HB12.out).below HB13.out).below HB14.out).below HB15.out).below HB16.out).below HB17.out).below HB18.out).below HB19.out).below HB20.out)).mono ?_); rintro e W21 ⟨am, rfl, ⟨h_am, n_am⟩, hb⟩
             have H_am := Lib.hid h_am
             have N_am := Lib.hid n_am
             have HB21 := Lib.hid hb
             clear h_am n_am hb C18)
          | (go_at_call 30; (with_reducible refine (C19.out _ _ H_am.out).mono ?_); rintro e W22 ⟨rfl, hb⟩
             have HB22 := Lib.hid hb
             clear hb C19)
          | (go_at_call 38; (with_reducible refine (C20.out _ _ _ ((((((((((((((((((((H_x.out.below HB3.out).below HB4.out).below HB5.out).below HB6.out).below HB7.out).below HB8.out).below HB9.out).below HB10.out).below HB11.out).below HB12.out).below HB13.out).below HB14.out).below HB15.out).below HB16.out).below HB17.out).below HB18.out).below HB19.out).below HB20.out).below HB21.out).below HB22.out) (((((((((((((((((((H_y.out.below HB4.out).below HB5.out).below HB6.out).below HB7.out).below HB8.out).below HB9.out).below HB10.out).below HB11.out).below HB12.out).below HB13.out).below HB14.out).below HB15.out).below HB16.out).below HB17.out).below HB18.out).below HB19.out).below HB20.out).below HB21.out).below HB22.out)).mono ?_); rintro e W23 ⟨xm, rfl, h_xm, hb⟩
             have H_xm := Lib.hid h_xm
             have HB23 := Lib.hid hb
             clear h_xm hb C20)
          | (go_at_call 32; (with_reducible refine (C21.out _ _ H_xm.out).mono ?_); rintro e W24 ⟨rfl, hb⟩
             have HB24 := Lib.hid hb
             clear hb C21)
          | (go_at_call 39; (with_reducible refine (C22.out _ _ _ ((((((((((((((((((((((H_a.out.below HB3.out).below HB4.out).below HB5.out).below HB6.out).below HB7.out).below HB8.out).below HB9.out).below HB10.out).below HB11.out).below HB12.out).below HB13.out).below HB14.out).below HB15.out).below HB16.out).below HB17.out).below HB18.out).below HB19.out).below HB20.out).below HB21.out).below HB22.out).below HB23.out).below HB24.out) (((((((((((((((((((((H_b.out.below HB4.out).below HB5.out).below HB6.out).below HB7.out).below HB8.out).below HB9.out).below HB10.out).below HB11.out).below HB12.out).below HB13.out).below HB14.out).below HB15.out).below HB16.out).below HB17.out).below HB18.out).below HB19.out).below HB20.out).below HB21.out).below HB22.out).below HB23.out).below HB24.out)).mono ?_); rintro e W25 ⟨rfl, hb⟩
             have HB25 := Lib.hid hb
             clear hb C22)
          | (go_at_call 28; (with_reducible refine (C23.out _ _ _ (((((((((((((((((((((((H_x.out.below HB3.out).below HB4.out).below HB5.out).below HB6.out).below HB7.out).below HB8.out).below HB9.out).below HB10.out).below HB11.out).below HB12.out).below HB13.out).below HB14.out).below HB15.out).below HB16.out).below HB17.out).below HB18.out).below HB19.out).below HB20.out).below HB21.out).below HB22.out).below HB23.out).below HB24.out).below HB25.out) ((((((((((((((((((((((H_y.out.below HB4.out).below HB5.out).below HB6.out).below HB7.out).below HB8.out).below HB9.out).below HB10.out).below HB11.out).below HB12.out).below HB13.out).below HB14.out).below HB15.out).below HB16.out).below HB17.out).below HB18.out).below HB19.out).below HB20.out).below HB21.out).below HB22.out).below HB23.out).below HB24.out).below HB25.out)).mono ?_); rintro e W26 ⟨rfl, hb⟩
             have HB26 := Lib.hid hb
             clear hb C23)
          | (go_at_call 40; (with_reducible refine (C24.out _ _ _ ((((((((((((((((((((((((H_a.out.below HB3.out).below HB4.out).below HB5.out).below HB6.out).below HB7.out).below HB8.out).below HB9.out).below HB10.out).below HB11.out).below HB12.out).below HB13.out).below HB14.out).below HB15.out).below HB16.out).below HB17.out).below HB18.out).below HB19.out).below HB20.out).below HB21.out).below HB22.out).below HB23.out).below HB24.out).below HB25.out).below HB26.out) (((((((((((((((((((((((H_b.out.below HB4.out).below HB5.out).below HB6.out).below HB7.out).below HB8.out).below HB9.out).below HB10.out).below HB11.out).below HB12.out).below HB13.out).below HB14.out).below HB15.out).below HB16.out).below HB17.out).below HB18.out).below HB19.out).below HB20.out).below HB21.out).below HB22.out).below HB23.out).below HB24.out).below HB25.out).below HB26.out)).mono ?_); rintro e W27 ⟨ag, rfl, ⟨h_ag, n_ag⟩, hb⟩
             have H_ag := Lib.hid h_ag
             have N_ag := Lib.hid n_ag
             have HB27 := Lib.hid hb
             clear h_ag n_ag hb C24)
          | (go_at_call 30; (with_reducible refine (C25.out _ _ H_ag.out).mono ?_); rintro e W28 ⟨rfl, hb⟩
             have HB28 := Lib.hid hb
             clear hb C25)
          | (go_at_call 41; (with_reducible refine (C26.out _ _ _ ((((((((((((((((((((((((((H_x.out.below HB3.out).below HB4.out).below HB5.out).below HB6.out).below HB7.out).below HB8.out).below HB9.out).below HB10.out).below HB11.out).below HB12.out).below HB13.out).below HB14.out).below HB15.out).below HB16.out).below HB17.out).below HB18.out).below HB19.out).below HB20.out).below HB21.out).below HB22.out).below HB23.out).below HB24.out).below HB25.out).below HB26.out).below HB27.out).below HB28.out) (((((((((((((((((((((((((H_y.out.below HB4.out).below HB5.out).below HB6.out).below HB7.out).below HB8.out).below HB9.out).below HB10.out).below HB11.out).below HB12.out).below HB13.out).below HB14.out).below HB15.out).below HB16.out).below HB17.out).below HB18.out).below HB19.out).below HB20.out).below HB21.out).below HB22.out).below HB23.out).below HB24.out).below HB25.out).below HB26.out).below HB27.out).below HB28.out)).mono ?_); rintro e W29 ⟨xg, rfl, h_xg, hb⟩
             have H_xg := Lib.hid h_xg
             have HB29 := Lib.hid hb
             clear h_xg hb C26)
          | (go_at_call 32; (with_reducible refine (C27.out _ _ H_xg.out).mono ?_); rintro e W30 ⟨rfl, hb⟩
             have HB30 := Lib.hid hb
             clear hb C27)
          | (go_at_call 42; (with_reducible refine (C28.out _ _ ((((((((((((((((((((((((((((H_a.out.below HB3.out).below HB4.out).below HB5.out).below HB6.out).below HB7.out).below HB8.out).below HB9.out).below HB10.out).below HB11.out).below HB12.out).below HB13.out).below HB14.out).below HB15.out).below HB16.out).below HB17.out).below HB18.out).below HB19.out).below HB20.out).below HB21.out).below HB22.out).below HB23.out).below HB24.out).below HB25.out).below HB26.out).below HB27.out).below HB28.out).below HB29.out).below HB30.out)).mono ?_); rintro e w9 ⟨rfl, rfl⟩
             clear C28)
          | (fail "no arm"))
        skip
        all_goals (go_ret; exact ⟨rfl, (nat.below_tr (nat.below_tr (nat.below_tr (nat.below_tr (nat.below_tr (nat.below_tr (nat.below_tr (nat.below_tr (nat.below_tr (nat.below_tr (nat.below_tr (nat.below_tr (nat.below_tr (nat.below_tr (nat.below_tr (nat.below_tr (nat.below_tr (nat.below_tr (nat.below_tr (nat.below_tr (nat.below_tr (nat.below_tr (nat.below_tr (nat.below_tr (nat.below_tr (nat.below_tr (nat.below_tr (nat.below_tr (nat.below_tr HB1.out HB2.out) HB3.out) HB4.out) HB5.out) HB6.out) HB7.out) HB8.out) HB9.out) HB10.out) HB11.out) HB12.out) HB13.out) HB14.out) HB15.out) HB16.out) HB17.out) HB18.out) HB19.out) HB20.out) HB21.out) HB22.out) HB23.out) HB24.out) HB25.out) HB26.out) HB27.out) HB28.out) HB29.out) HB30.out)⟩)
end Go.Proofs.YtfpooimjjpamoaaGreatDoor.law2
