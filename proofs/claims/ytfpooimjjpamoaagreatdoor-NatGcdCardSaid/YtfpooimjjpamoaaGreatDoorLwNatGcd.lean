/-
  NatGcd answers true for every three texts. Conditions: begun answers true; texts of at most 2^62 bytes.
-/
import Derived.Test.YtfpooimjjpamoaaGreatDoorA38
namespace Go.Proofs.YtfpooimjjpamoaaGreatDoor.law2
open Go.RowKit Go.Proofs.YtfpooimjjpamoaaGreatDoor.nat
open Go.Proofs.YtfpooimjjpamoaaGreatDoor.ref (str)
set_option maxRecDepth 100000 in
set_option maxHeartbeats 4000000 in
theorem LwNatGcd (HBg : BegunC) (s : List UInt8) (hs : s.length ≤ 4611686018427387904) (t : List UInt8) (ht : t.length ≤ 4611686018427387904) (u : List UInt8) (hu : u.length ≤ 4611686018427387904) (w : World) (hd : Hd w) :
    Calls Tryz.prog 15 #[.string (str s), .string (str t), .string (str u)] w fun e w' => e = .returned (.bool true) ∧ Below w.heap.size w w' := by
  unfold BegunC at HBg
  have HBG := Lib.hid HBg
  have HG := Lib.hid hd
  clear HBg hd
  have HNs := Lib.hid (fun W => N_any s W hs)
  have HNt := Lib.hid (fun W => N_any t W ht)
  have HNu := Lib.hid (fun W => N_any u W hu)
  clear hs ht hu
  generalize str s = zs at *
  generalize str t = zt at *
  generalize str u = zu at *
  go_enter Tryz.func15, Tryz.ntmps15
  go_wp2_with (first
    | (go_at_call 25; (with_reducible refine (HBG.out _ HG.out).mono ?_); rintro e W1 ⟨rfl, hb⟩
       have HB1 := Lib.hid hb
       clear hb)
    | (go_at_call 26; (with_reducible refine (HNs.out _).mono ?_); rintro e W2 ⟨a, xa, X, rfl, ⟨hlt, ha, hna, hx⟩, hb⟩
       obtain ⟨p_a, rfl⟩ := ha.some hna
       obtain ⟨o_xa, c_xa, rfl⟩ := IsX_slice hx
       have L_X := Lib.hid hlt
       have H_a := Lib.hid ha
       have N_a := Lib.hid hna
       have H_xa := Lib.hid hx
       have HB2 := Lib.hid hb
       clear hlt ha hna hx hb HNs)
    | (go_at_call 26; (with_reducible refine (HNt.out _).mono ?_); rintro e W3 ⟨b, xb, Y, rfl, ⟨hlt, ha, hna, hx⟩, hb⟩
       obtain ⟨p_b, rfl⟩ := ha.some hna
       obtain ⟨o_xb, c_xb, rfl⟩ := IsX_slice hx
       have L_Y := Lib.hid hlt
       have H_b := Lib.hid ha
       have N_b := Lib.hid hna
       have H_xb := Lib.hid hx
       have HB3 := Lib.hid hb
       clear hlt ha hna hx hb HNt)
    | (go_at_call 26; (with_reducible refine (HNu.out _).mono ?_); rintro e W4 ⟨c, xc, Z, rfl, ⟨hlt, ha, hna, hx⟩, hb⟩
       obtain ⟨p_c, rfl⟩ := ha.some hna
       obtain ⟨o_xc, c_xc, rfl⟩ := IsX_slice hx
       have L_Z := Lib.hid hlt
       have H_c := Lib.hid ha
       have N_c := Lib.hid hna
       have H_xc := Lib.hid hx
       have HB4 := Lib.hid hb
       clear hlt ha hna hx hb HNu)
    | (fail "no arm"))
  have c1 := fun (W : World) (v0 : Value) (v1 : Value) (hh0 : nat.IsN W v0 X) (hh1 : nat.IsN W v1 Y)  => nat.Gcd_any v0 v1 X Y W hh0 hh1 ((show Bn X 120 from L_X.out).nat (by decide)) ((show Bn Y 120 from L_Y.out).nat (by decide))
  have C1 := Lib.hid c1
  clear c1
  have c2 := fun (W : World) (v0 : Value) (v1 : Value) (hh0 : nat.IsN W v0 X) (hh1 : nat.IsN W v1 Z)  => nat.Mul_any v0 v1 X Z W hh0 hh1 ((show Bn X 120 from L_X.out).nat (by decide)) ((show Bn Z 120 from L_Z.out).nat (by decide))
  have C2 := Lib.hid c2
  clear c2
  have c3 := fun (W : World) (v0 : Value) (v1 : Value) (hh0 : nat.IsN W v0 Y) (hh1 : nat.IsN W v1 Z)  => nat.Mul_any v0 v1 Y Z W hh0 hh1 ((show Bn Y 120 from L_Y.out).nat (by decide)) ((show Bn Z 120 from L_Z.out).nat (by decide))
  have C3 := Lib.hid c3
  clear c3
  have c4 := fun (W : World) (v0 : Value) (v1 : Value) (hh0 : nat.IsN W v0 (X * Z)) (hh1 : nat.IsN W v1 (Y * Z))  => nat.Gcd_any v0 v1 (X * Z) (Y * Z) W hh0 hh1 ((Bn_mul (show Bn X 120 from L_X.out) (show Bn Z 120 from L_Z.out)).nat (by decide)) ((Bn_mul (show Bn Y 120 from L_Y.out) (show Bn Z 120 from L_Z.out)).nat (by decide))
  have C4 := Lib.hid c4
  clear c4
  have c5 := fun (W : World) (v0 : Value) (v1 : Value) (hh0 : nat.IsN W v0 (Nat.gcd X Y)) (hh1 : nat.IsN W v1 Z)  => nat.Mul_any v0 v1 (Nat.gcd X Y) Z W hh0 hh1 ((Bn_gcd (show Bn X 120 from L_X.out) (show Bn Y 120 from L_Y.out)).nat (by decide)) ((show Bn Z 120 from L_Z.out).nat (by decide))
  have C5 := Lib.hid c5
  clear c5
  have c6 := fun (W : World) (v0 : Value) (v1 : Value) (hh0 : nat.IsN W v0 (Nat.gcd (X * Z) (Y * Z))) (hh1 : nat.IsN W v1 ((Nat.gcd X Y) * Z))  => nat.Cmp_b v0 v1 (Nat.gcd (X * Z) (Y * Z)) ((Nat.gcd X Y) * Z) W hh0 hh1 ((Bn_gcd (Bn_mul (show Bn X 120 from L_X.out) (show Bn Z 120 from L_Z.out)) (Bn_mul (show Bn Y 120 from L_Y.out) (show Bn Z 120 from L_Z.out))).nat (by decide)) ((Bn_mul (Bn_gcd (show Bn X 120 from L_X.out) (show Bn Y 120 from L_Y.out)) (show Bn Z 120 from L_Z.out)).nat (by decide))
  rw [cmp3_eqN (show (Nat.gcd (X * Z) (Y * Z)) = ((Nat.gcd X Y) * Z) from Nat.gcd_mul_right _ _ _)] at c6
  have C6 := Lib.hid c6
  clear c6
  have c7 := fun (W : World) (v0 : Value) (v1 : Value) (hh0 : nat.IsN W v0 Y) (hh1 : nat.IsN W v1 X)  => nat.Gcd_any v0 v1 Y X W hh0 hh1 ((show Bn Y 120 from L_Y.out).nat (by decide)) ((show Bn X 120 from L_X.out).nat (by decide))
  have C7 := Lib.hid c7
  clear c7
  have c8 := fun (W : World) (v0 : Value) (v1 : Value) (hh0 : nat.IsN W v0 (Nat.gcd X Y)) (hh1 : nat.IsN W v1 (Nat.gcd Y X))  => nat.Cmp_b v0 v1 (Nat.gcd X Y) (Nat.gcd Y X) W hh0 hh1 ((Bn_gcd (show Bn X 120 from L_X.out) (show Bn Y 120 from L_Y.out)).nat (by decide)) ((Bn_gcd (show Bn Y 120 from L_Y.out) (show Bn X 120 from L_X.out)).nat (by decide))
  rw [cmp3_eqN (show (Nat.gcd X Y) = (Nat.gcd Y X) from Nat.gcd_comm _ _)] at c8
  have C8 := Lib.hid c8
  clear c8
  have c9 := fun (W : World)    => nat.Of_int 0 0 rfl (by decide) W
  have C9 := Lib.hid c9
  clear c9
  have c10 := fun (W : World) (v0 : Value) (v1 : Value) (hh0 : nat.IsN W v0 X) (hh1 : nat.IsN W v1 (0 : Nat))  => nat.Gcd_any v0 v1 X (0 : Nat) W hh0 hh1 ((show Bn X 120 from L_X.out).nat (by decide)) ((Bn_small (by decide)).nat (by decide))
  have C10 := Lib.hid c10
  clear c10
  have c11 := fun (W : World) (v0 : Value) (v1 : Value) (hh0 : nat.IsN W v0 (Nat.gcd X (0 : Nat))) (hh1 : nat.IsN W v1 X)  => nat.Cmp_b v0 v1 (Nat.gcd X (0 : Nat)) X W hh0 hh1 ((Bn_gcd (show Bn X 120 from L_X.out) (Bn_small (by decide))).nat (by decide)) ((show Bn X 120 from L_X.out).nat (by decide))
  rw [cmp3_eqN (show (Nat.gcd X (0 : Nat)) = X from Nat.gcd_zero_right _)] at c11
  have C11 := Lib.hid c11
  clear c11
  have c12 := fun (W : World) (v0 : Value) (v1 : Value) (hh0 : nat.IsN W v0 X) (hh1 : nat.IsN W v1 X)  => nat.Gcd_any v0 v1 X X W hh0 hh1 ((show Bn X 120 from L_X.out).nat (by decide)) ((show Bn X 120 from L_X.out).nat (by decide))
  have C12 := Lib.hid c12
  clear c12
  have c13 := fun (W : World) (v0 : Value) (v1 : Value) (hh0 : nat.IsN W v0 (Nat.gcd X X)) (hh1 : nat.IsN W v1 X)  => nat.Cmp_b v0 v1 (Nat.gcd X X) X W hh0 hh1 ((Bn_gcd (show Bn X 120 from L_X.out) (show Bn X 120 from L_X.out)).nat (by decide)) ((show Bn X 120 from L_X.out).nat (by decide))
  rw [cmp3_eqN (show (Nat.gcd X X) = X from Nat.gcd_self _)] at c13
  have C13 := Lib.hid c13
  clear c13
  have c14 := fun (W : World)    => nat.Of_int 1 1 rfl (by decide) W
  have C14 := Lib.hid c14
  clear c14
  have c15 := fun (W : World) (v0 : Value) (v1 : Value) (hh0 : nat.IsN W v0 (1 : Nat)) (hh1 : nat.IsN W v1 X)  => nat.Gcd_any v0 v1 (1 : Nat) X W hh0 hh1 ((Bn_small (by decide)).nat (by decide)) ((show Bn X 120 from L_X.out).nat (by decide))
  have C15 := Lib.hid c15
  clear c15
  have c16 := fun (W : World) (v0 : Value) (hh0 : nat.IsN W v0 (Nat.gcd (1 : Nat) X))  => nat.Text_any v0 (Nat.gcd (1 : Nat) X) W hh0 ((Bn_gcd (Bn_small (by decide)) (show Bn X 120 from L_X.out)).nat (by decide))
  rw [show str (Lib.decDigits (Nat.gcd (1 : Nat) X)) = ⟨#[49]⟩ by rw [Nat.gcd_one_left, dec_one]] at c16
  have C16 := Lib.hid c16
  clear c16
  go_wp2_with (first
    | (go_at_call 40; (with_reducible refine (C1.out _ _ _ ((H_a.out.below HB3.out).below HB4.out) (H_b.out.below HB4.out)).mono ?_); rintro e W5 ⟨g, rfl, ⟨h_g, n_g⟩, hb⟩
       have H_g := Lib.hid h_g
       have N_g := Lib.hid n_g
       have HB5 := Lib.hid hb
       clear h_g n_g hb C1)
    | (go_at_call 37; (with_reducible refine (C2.out _ _ _ (((H_a.out.below HB3.out).below HB4.out).below HB5.out) (H_c.out.below HB5.out)).mono ?_); rintro e W6 ⟨ac, rfl, ⟨h_ac, n_ac⟩, hb⟩
       have H_ac := Lib.hid h_ac
       have N_ac := Lib.hid n_ac
       have HB6 := Lib.hid hb
       clear h_ac n_ac hb C2)
    | (go_at_call 37; (with_reducible refine (C3.out _ _ _ (((H_b.out.below HB4.out).below HB5.out).below HB6.out) ((H_c.out.below HB5.out).below HB6.out)).mono ?_); rintro e W7 ⟨bc, rfl, ⟨h_bc, n_bc⟩, hb⟩
       have H_bc := Lib.hid h_bc
       have N_bc := Lib.hid n_bc
       have HB7 := Lib.hid hb
       clear h_bc n_bc hb C3)
    | (go_at_call 40; (with_reducible refine (C4.out _ _ _ (H_ac.out.below HB7.out) H_bc.out).mono ?_); rintro e W8 ⟨k, rfl, ⟨h_k, n_k⟩, hb⟩
       have H_k := Lib.hid h_k
       have N_k := Lib.hid n_k
       have HB8 := Lib.hid hb
       clear h_k n_k hb C4)
    | (go_at_call 37; (with_reducible refine (C5.out _ _ _ (((H_g.out.below HB6.out).below HB7.out).below HB8.out) ((((H_c.out.below HB5.out).below HB6.out).below HB7.out).below HB8.out)).mono ?_); rintro e W9 ⟨gc, rfl, ⟨h_gc, n_gc⟩, hb⟩
       have H_gc := Lib.hid h_gc
       have N_gc := Lib.hid n_gc
       have HB9 := Lib.hid hb
       clear h_gc n_gc hb C5)
    | (go_at_call 39; (with_reducible refine (C6.out _ _ _ (H_k.out.below HB9.out) H_gc.out).mono ?_); rintro e W10 ⟨rfl, hb⟩
       have HB10 := Lib.hid hb
       clear hb C6)
    | (go_at_call 40; (with_reducible refine (C7.out _ _ _ (((((((H_b.out.below HB4.out).below HB5.out).below HB6.out).below HB7.out).below HB8.out).below HB9.out).below HB10.out) ((((((((H_a.out.below HB3.out).below HB4.out).below HB5.out).below HB6.out).below HB7.out).below HB8.out).below HB9.out).below HB10.out)).mono ?_); rintro e W11 ⟨ba, rfl, ⟨h_ba, n_ba⟩, hb⟩
       have H_ba := Lib.hid h_ba
       have N_ba := Lib.hid n_ba
       have HB11 := Lib.hid hb
       clear h_ba n_ba hb C7)
    | (go_at_call 39; (with_reducible refine (C8.out _ _ _ ((((((H_g.out.below HB6.out).below HB7.out).below HB8.out).below HB9.out).below HB10.out).below HB11.out) H_ba.out).mono ?_); rintro e W12 ⟨rfl, hb⟩
       have HB12 := Lib.hid hb
       clear hb C8)
    | (go_at_call 46; (with_reducible refine (C9.out _ ).mono ?_); rintro e W13 ⟨o, rfl, ⟨h_o, n_o⟩, hb⟩
       have H_o := Lib.hid h_o
       have N_o := Lib.hid n_o
       have HB13 := Lib.hid hb
       clear h_o n_o hb C9)
    | (go_at_call 40; (with_reducible refine (C10.out _ _ _ (((((((((((H_a.out.below HB3.out).below HB4.out).below HB5.out).below HB6.out).below HB7.out).below HB8.out).below HB9.out).below HB10.out).below HB11.out).below HB12.out).below HB13.out) H_o.out).mono ?_); rintro e W14 ⟨ao, rfl, ⟨h_ao, n_ao⟩, hb⟩
       have H_ao := Lib.hid h_ao
       have N_ao := Lib.hid n_ao
       have HB14 := Lib.hid hb
       clear h_ao n_ao hb C10)
    | (go_at_call 39; (with_reducible refine (C11.out _ _ _ H_ao.out ((((((((((((H_a.out.below HB3.out).below HB4.out).below HB5.out).below HB6.out).below HB7.out).below HB8.out).below HB9.out).below HB10.out).below HB11.out).below HB12.out).below HB13.out).below HB14.out)).mono ?_); rintro e W15 ⟨rfl, hb⟩
       have HB15 := Lib.hid hb
       clear hb C11)
    | (go_at_call 40; (with_reducible refine (C12.out _ _ _ (((((((((((((H_a.out.below HB3.out).below HB4.out).below HB5.out).below HB6.out).below HB7.out).below HB8.out).below HB9.out).below HB10.out).below HB11.out).below HB12.out).below HB13.out).below HB14.out).below HB15.out) (((((((((((((H_a.out.below HB3.out).below HB4.out).below HB5.out).below HB6.out).below HB7.out).below HB8.out).below HB9.out).below HB10.out).below HB11.out).below HB12.out).below HB13.out).below HB14.out).below HB15.out)).mono ?_); rintro e W16 ⟨aa, rfl, ⟨h_aa, n_aa⟩, hb⟩
       have H_aa := Lib.hid h_aa
       have N_aa := Lib.hid n_aa
       have HB16 := Lib.hid hb
       clear h_aa n_aa hb C12)
    | (go_at_call 39; (with_reducible refine (C13.out _ _ _ H_aa.out ((((((((((((((H_a.out.below HB3.out).below HB4.out).below HB5.out).below HB6.out).below HB7.out).below HB8.out).below HB9.out).below HB10.out).below HB11.out).below HB12.out).below HB13.out).below HB14.out).below HB15.out).below HB16.out)).mono ?_); rintro e W17 ⟨rfl, hb⟩
       have HB17 := Lib.hid hb
       clear hb C13)
    | (go_at_call 46; (with_reducible refine (C14.out _ ).mono ?_); rintro e W18 ⟨ee, rfl, ⟨h_ee, n_ee⟩, hb⟩
       have H_ee := Lib.hid h_ee
       have N_ee := Lib.hid n_ee
       have HB18 := Lib.hid hb
       clear h_ee n_ee hb C14)
    | (go_at_call 40; (with_reducible refine (C15.out _ _ _ H_ee.out ((((((((((((((((H_a.out.below HB3.out).below HB4.out).below HB5.out).below HB6.out).below HB7.out).below HB8.out).below HB9.out).below HB10.out).below HB11.out).below HB12.out).below HB13.out).below HB14.out).below HB15.out).below HB16.out).below HB17.out).below HB18.out)).mono ?_); rintro e W19 ⟨ea, rfl, ⟨h_ea, n_ea⟩, hb⟩
       have H_ea := Lib.hid h_ea
       have N_ea := Lib.hid n_ea
       have HB19 := Lib.hid hb
       clear h_ea n_ea hb C15)
    | (go_at_call 30; (with_reducible refine (C16.out _ _ H_ea.out).mono ?_); rintro e W20 ⟨rfl, hb⟩
       have HB20 := Lib.hid hb
       clear hb C16)
    | (fail "no arm"))
  skip
  all_goals (go_ret; exact ⟨rfl, (nat.below_tr (nat.below_tr (nat.below_tr (nat.below_tr (nat.below_tr (nat.below_tr (nat.below_tr (nat.below_tr (nat.below_tr (nat.below_tr (nat.below_tr (nat.below_tr (nat.below_tr (nat.below_tr (nat.below_tr (nat.below_tr (nat.below_tr (nat.below_tr (nat.below_tr HB1.out HB2.out) HB3.out) HB4.out) HB5.out) HB6.out) HB7.out) HB8.out) HB9.out) HB10.out) HB11.out) HB12.out) HB13.out) HB14.out) HB15.out) HB16.out) HB17.out) HB18.out) HB19.out) HB20.out)⟩)
end Go.Proofs.YtfpooimjjpamoaaGreatDoor.law2
