/-
  NatOwn answers true for every two texts. Conditions: begun answers true; texts of at most 2^62 bytes.
-/
import Derived.Test.YtfpooimjjpamoaaGreatDoorA38
namespace Go.Proofs.YtfpooimjjpamoaaGreatDoor.law2
open Go.RowKit Go.Proofs.YtfpooimjjpamoaaGreatDoor.nat
open Go.Proofs.YtfpooimjjpamoaaGreatDoor.ref (str)
set_option maxRecDepth 100000 in
set_option maxHeartbeats 4000000 in
theorem LwNatOwn (HBg : BegunC) (s : List UInt8) (hs : s.length ≤ 4611686018427387904) (t : List UInt8) (ht : t.length ≤ 4611686018427387904) (w : World) (hd : Hd w) :
    Calls Tryz.prog 17 #[.string (str s), .string (str t)] w fun e w' => e = .returned (.bool true) ∧ Below w.heap.size w w' := by
  unfold BegunC at HBg
  have HBG := Lib.hid HBg
  have HG := Lib.hid hd
  clear HBg hd
  have HNs := Lib.hid (fun W => N_any s W hs)
  have HNt := Lib.hid (fun W => N_any t W ht)
  clear hs ht
  generalize str s = zs at *
  generalize str t = zt at *
  go_enter Tryz.func17, Tryz.ntmps17
  go_wp2_with (first
    | (go_at_call 25; (with_reducible refine (HBG.out _ HG.out).mono ?_); rintro e W1 ⟨rfl, hb⟩
       have HB1 := Lib.hid hb
       clear hb)
    | (go_at_call 26; (with_reducible refine (HNs.out _).mono ?_); rintro e W2 ⟨a, xa, X, rfl, ⟨hlt, ha, hna, hx⟩, hb⟩
       obtain ⟨p_a, rfl⟩ := ha.some hna
       obtain ⟨o_xa, c_xa, rfl⟩ := IsX_slice hx
       have L_X := Lib.hid hlt
       have H_a := Lib.hid ha
       have N_a := Lib.hid hna
       have H_xa := Lib.hid hx
       have HB2 := Lib.hid hb
       clear hlt ha hna hx hb HNs)
    | (go_at_call 26; (with_reducible refine (HNt.out _).mono ?_); rintro e W3 ⟨b, xb, Y, rfl, ⟨hlt, ha, hna, hx⟩, hb⟩
       obtain ⟨p_b, rfl⟩ := ha.some hna
       obtain ⟨o_xb, c_xb, rfl⟩ := IsX_slice hx
       have L_Y := Lib.hid hlt
       have H_b := Lib.hid ha
       have N_b := Lib.hid hna
       have H_xb := Lib.hid hx
       have HB3 := Lib.hid hb
       clear hlt ha hna hx hb HNt)
    | (fail "no arm"))
  have c1 := fun (W : World) (v0 : Value) (hh0 : nat.IsN W v0 X)  => nat.Text_any v0 X W hh0 ((show Bn X 120 from L_X.out).nat (by decide))
  have C1 := Lib.hid c1
  clear c1
  have c2 := fun (W : World) (v0 : Value) (hh0 : nat.IsN W v0 Y)  => nat.Text_any v0 Y W hh0 ((show Bn Y 120 from L_Y.out).nat (by decide))
  have C2 := Lib.hid c2
  clear c2
  have c3 := fun (W : World) (v0 : Value) (v1 : Value) (hh0 : nat.IsN W v0 X) (hh1 : nat.IsN W v1 Y)  => nat.Add_any v0 v1 X Y W hh0 hh1 ((show Bn X 120 from L_X.out).nat (by decide)) ((show Bn Y 120 from L_Y.out).nat (by decide))
  have C3 := Lib.hid c3
  clear c3
  have c4 := fun (W : World) (v0 : Value) (v1 : Value) (hh0 : nat.IsN W v0 X) (hh1 : nat.IsN W v1 Y)  => nat.Mul_any v0 v1 X Y W hh0 hh1 ((show Bn X 120 from L_X.out).nat (by decide)) ((show Bn Y 120 from L_Y.out).nat (by decide))
  have C4 := Lib.hid c4
  clear c4
  have c5 := fun (W : World) (v0 : Value) (v1 : Value) (hh0 : nat.IsN W v0 X) (hh1 : nat.IsN W v1 Y)  => nat.Sub_some v0 v1 X Y W hh0 hh1 ((show Bn X 120 from L_X.out).nat (by decide)) ((show Bn Y 120 from L_Y.out).nat (by decide))
  have C5 := Lib.hid c5
  clear c5
  have c6 := fun (W : World) (v0 : Value) (v1 : Value) (hh0 : nat.IsN W v0 Y) (hh1 : nat.IsN W v1 X)  => nat.Sub_some v0 v1 Y X W hh0 hh1 ((show Bn Y 120 from L_Y.out).nat (by decide)) ((show Bn X 120 from L_X.out).nat (by decide))
  have C6 := Lib.hid c6
  clear c6
  have c7 := fun (W : World) (v0 : Value) (v1 : Value) (hh0 : nat.IsN W v0 X) (hh1 : nat.IsN W v1 Y)  => nat.Div_some v0 v1 X Y W hh0 hh1 ((show Bn X 120 from L_X.out).nat (by decide)) ((show Bn Y 120 from L_Y.out).nat (by decide))
  have C7 := Lib.hid c7
  clear c7
  have c8 := fun (W : World) (v0 : Value) (v1 : Value) (hh0 : nat.IsN W v0 X) (hh1 : nat.IsN W v1 Y)  => nat.Gcd_any v0 v1 X Y W hh0 hh1 ((show Bn X 120 from L_X.out).nat (by decide)) ((show Bn Y 120 from L_Y.out).nat (by decide))
  have C8 := Lib.hid c8
  clear c8
  have c9 := fun (W : World) (v0 : Value) (hh0 : nat.IsN W v0 X)  => nat.Pow_any v0 X 3 W hh0 ((show Bn X 120 from L_X.out).nat (by decide)) (by decide) ((Bn_pow 3 (show Bn X 120 from L_X.out)).nat (by decide))
  have C9 := Lib.hid c9
  clear c9
  have c10 := fun (W : World) (v0 : Value) (hh0 : nat.IsN W v0 X)  => nat.Root_high v0 X 2 W hh0 ((show Bn X 120 from L_X.out).nat (by decide)) (by decide) (by decide)
  have C10 := Lib.hid c10
  clear c10
  have c11 := fun (W : World) (v0 : Value) (hh0 : nat.IsN W v0 X)  => nat.Text_any v0 X W hh0 ((show Bn X 120 from L_X.out).nat (by decide))
  have C11 := Lib.hid c11
  clear c11
  have c12 := fun (W : World) (v0 : Value) (hh0 : nat.IsN W v0 Y)  => nat.Text_any v0 Y W hh0 ((show Bn Y 120 from L_Y.out).nat (by decide))
  have C12 := Lib.hid c12
  clear c12
  generalize str (Lib.decDigits X) = sg0 at *
  generalize str (Lib.decDigits Y) = sg1 at *
  go_wp2_with (first
    | (go_at_call 30; (with_reducible refine (C1.out _ _ (H_a.out.below HB3.out)).mono ?_); rintro e W4 ⟨rfl, hb⟩
       have HB4 := Lib.hid hb
       clear hb C1)
    | (go_at_call 30; (with_reducible refine (C2.out _ _ (H_b.out.below HB4.out)).mono ?_); rintro e W5 ⟨rfl, hb⟩
       have HB5 := Lib.hid hb
       clear hb C2)
    | (go_at_call 35; (with_reducible refine (C3.out _ _ _ (((H_a.out.below HB3.out).below HB4.out).below HB5.out) ((H_b.out.below HB4.out).below HB5.out)).mono ?_); rintro e W6 ⟨x1, rfl, ⟨h_x1, n_x1⟩, hb⟩
       have H_x1 := Lib.hid h_x1
       have N_x1 := Lib.hid n_x1
       have HB6 := Lib.hid hb
       clear h_x1 n_x1 hb C3)
    | (go_at_call 37; (with_reducible refine (C4.out _ _ _ ((((H_a.out.below HB3.out).below HB4.out).below HB5.out).below HB6.out) (((H_b.out.below HB4.out).below HB5.out).below HB6.out)).mono ?_); rintro e W7 ⟨x2, rfl, ⟨h_x2, n_x2⟩, hb⟩
       have H_x2 := Lib.hid h_x2
       have N_x2 := Lib.hid n_x2
       have HB7 := Lib.hid hb
       clear h_x2 n_x2 hb C4)
    | (go_at_call 27; (with_reducible refine (C5.out _ _ _ (((((H_a.out.below HB3.out).below HB4.out).below HB5.out).below HB6.out).below HB7.out) ((((H_b.out.below HB4.out).below HB5.out).below HB6.out).below HB7.out)).mono ?_); rintro e W8 ⟨_, _, rfl, hb⟩
       have HB8 := Lib.hid hb
       clear hb C5)
    | (go_at_call 27; (with_reducible refine (C6.out _ _ _ (((((H_b.out.below HB4.out).below HB5.out).below HB6.out).below HB7.out).below HB8.out) ((((((H_a.out.below HB3.out).below HB4.out).below HB5.out).below HB6.out).below HB7.out).below HB8.out)).mono ?_); rintro e W9 ⟨_, _, rfl, hb⟩
       have HB9 := Lib.hid hb
       clear hb C6)
    | (go_at_call 33; (with_reducible refine (C7.out _ _ _ (((((((H_a.out.below HB3.out).below HB4.out).below HB5.out).below HB6.out).below HB7.out).below HB8.out).below HB9.out) ((((((H_b.out.below HB4.out).below HB5.out).below HB6.out).below HB7.out).below HB8.out).below HB9.out)).mono ?_); rintro e W10 ⟨_, _, _, rfl, hb⟩
       have HB10 := Lib.hid hb
       clear hb C7)
    | (go_at_call 40; (with_reducible refine (C8.out _ _ _ ((((((((H_a.out.below HB3.out).below HB4.out).below HB5.out).below HB6.out).below HB7.out).below HB8.out).below HB9.out).below HB10.out) (((((((H_b.out.below HB4.out).below HB5.out).below HB6.out).below HB7.out).below HB8.out).below HB9.out).below HB10.out)).mono ?_); rintro e W11 ⟨x3, rfl, ⟨h_x3, n_x3⟩, hb⟩
       have H_x3 := Lib.hid h_x3
       have N_x3 := Lib.hid n_x3
       have HB11 := Lib.hid hb
       clear h_x3 n_x3 hb C8)
    | (go_at_call 94; (with_reducible refine (C9.out _ _ (((((((((H_a.out.below HB3.out).below HB4.out).below HB5.out).below HB6.out).below HB7.out).below HB8.out).below HB9.out).below HB10.out).below HB11.out)).mono ?_); rintro e W12 ⟨x4, rfl, ⟨h_x4, n_x4⟩, hb⟩
       have H_x4 := Lib.hid h_x4
       have N_x4 := Lib.hid n_x4
       have HB12 := Lib.hid hb
       clear h_x4 n_x4 hb C9)
    | (go_at_call 96; (with_reducible refine (C10.out _ _ ((((((((((H_a.out.below HB3.out).below HB4.out).below HB5.out).below HB6.out).below HB7.out).below HB8.out).below HB9.out).below HB10.out).below HB11.out).below HB12.out)).mono ?_); rintro e W13 ⟨_, rfl, -, hb⟩
       have HB13 := Lib.hid hb
       clear hb C10)
    | (go_at_call 30; (with_reducible refine (C11.out _ _ (((((((((((H_a.out.below HB3.out).below HB4.out).below HB5.out).below HB6.out).below HB7.out).below HB8.out).below HB9.out).below HB10.out).below HB11.out).below HB12.out).below HB13.out)).mono ?_); rintro e W14 ⟨rfl, hb⟩
       have HB14 := Lib.hid hb
       clear hb C11)
    | (go_at_call 30; (with_reducible refine (C12.out _ _ (((((((((((H_b.out.below HB4.out).below HB5.out).below HB6.out).below HB7.out).below HB8.out).below HB9.out).below HB10.out).below HB11.out).below HB12.out).below HB13.out).below HB14.out)).mono ?_); rintro e W15 ⟨rfl, hb⟩
       have HB15 := Lib.hid hb
       clear hb C12)
    | (fail "no arm"))
  skip
  all_goals (go_ret; exact ⟨rfl, (nat.below_tr (nat.below_tr (nat.below_tr (nat.below_tr (nat.below_tr (nat.below_tr (nat.below_tr (nat.below_tr (nat.below_tr (nat.below_tr (nat.below_tr (nat.below_tr (nat.below_tr (nat.below_tr HB1.out HB2.out) HB3.out) HB4.out) HB5.out) HB6.out) HB7.out) HB8.out) HB9.out) HB10.out) HB11.out) HB12.out) HB13.out) HB14.out) HB15.out)⟩)
end Go.Proofs.YtfpooimjjpamoaaGreatDoor.law2
