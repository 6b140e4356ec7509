/-
  NatCarry answers true for every two numbers and a truth value. Condition: begun answers true.
-/
import Derived.Test.YtfpooimjjpamoaaGreatDoorA38
namespace Go.Proofs.YtfpooimjjpamoaaGreatDoor.law2
open Go.RowKit Go.Proofs.YtfpooimjjpamoaaGreatDoor.nat
open Go.Proofs.YtfpooimjjpamoaaGreatDoor.ref (str)
set_option maxRecDepth 100000 in
set_option maxHeartbeats 4000000 in
theorem LwNatCarry (HBg : BegunC) (k : Int) (_k1 : -9223372036854775808 ≤ k) (_k2 : k < 9223372036854775808) (m : Int) (_m1 : -9223372036854775808 ≤ m) (_m2 : m < 9223372036854775808) (ten : Bool) (w : World) (hd : Hd w) :
    Calls Tryz.prog 13 #[.int .i64 k, .int .i64 m, .bool ten] w fun e w' => e = .returned (.bool true) ∧ Below w.heap.size w w' := by
  unfold BegunC at HBg
  have HBG := Lib.hid HBg
  have HG := Lib.hid hd
  clear HBg hd
  have t1 : -300 < k.tmod 300 := Int.lt_tmod_of_pos k (by decide)
  have t2 : k.tmod 300 < 300 := Int.tmod_lt_of_pos k (by decide)
  have t3 : -300 < m.tmod 300 := Int.lt_tmod_of_pos m (by decide)
  have t4 : m.tmod 300 < 300 := Int.tmod_lt_of_pos m (by decide)
  obtain ⟨K, hK⟩ : ∃ K : Nat, (k.tmod 300 + 300) % 300 = (K : Int) := ⟨((k.tmod 300 + 300) % 300).toNat, by omega⟩
  obtain ⟨M, hM⟩ : ∃ M : Nat, (m.tmod 300 + 300) % 300 = (M : Int) := ⟨((m.tmod 300 + 300) % 300).toNat, by omega⟩
  have hK2 : K < 300 := by omega
  have hM2 : M < 300 := by omega
  cases ten
  · have L_K := Lib.hid (show Bn (2 ^ K) 6100 from (Bn_pow K (show Bn 2 20 from Bn_small (by decide))).le (by omega))
    have L_M := Lib.hid (show Bn (2 ^ M) 6100 from (Bn_pow M (show Bn 2 20 from Bn_small (by decide))).le (by omega))
    have L_S := Lib.hid (show Bn (2 ^ (K + M)) 12100 from (Bn_pow _ (show Bn 2 20 from Bn_small (by decide))).le (by omega))
    have HP1 := Lib.hid (show 1 ≤ 2 ^ K from Nat.one_le_pow _ _ (by decide))
    have HA := Lib.hid hK2
    have HB := Lib.hid hM2
    have c1 := fun (W : World)    => nat.Of_int 2 2 rfl (by decide) W
    have C1 := Lib.hid c1
    clear c1
    have c2 := fun (W : World) (v0 : Value) (hh0 : nat.IsN W v0 (2 : Nat))  => NPow_at v0 2 (K) ((K : Nat) : Int) rfl (by have := HA.out; omega) W hh0 ((Bn_small (x := 2) (by decide)).nat (by decide)) (L_K.out.nat (by decide))
    have C2 := Lib.hid c2
    clear c2
    have c3 := fun (W : World)    => nat.Of_int 2 2 rfl (by decide) W
    have C3 := Lib.hid c3
    clear c3
    have c4 := fun (W : World) (v0 : Value) (hh0 : nat.IsN W v0 (2 : Nat))  => NPow_at v0 2 (M) ((M : Nat) : Int) rfl (by have := HB.out; omega) W hh0 ((Bn_small (x := 2) (by decide)).nat (by decide)) (L_M.out.nat (by decide))
    have C4 := Lib.hid c4
    clear c4
    have c5 := fun (W : World)    => ref.OfU_int 2 2 rfl (by decide) W
    have C5 := Lib.hid c5
    clear c5
    have c6 := fun (W : World) (v0 : Value) (hh0 : ref.IsN W v0 (2 : Nat))  => XPow_at v0 2 K 20 ((K : Nat) : Int) rfl (by have := HA.out; omega) W hh0 (Bn_small (by decide)) (by have := HA.out; omega) (by decide)
    have C6 := Lib.hid c6
    clear c6
    have c7 := fun (W : World)    => ref.OfU_int 2 2 rfl (by decide) W
    have C7 := Lib.hid c7
    clear c7
    have c8 := fun (W : World) (v0 : Value) (hh0 : ref.IsN W v0 (2 : Nat))  => XPow_at v0 2 M 20 ((M : Nat) : Int) rfl (by have := HB.out; omega) W hh0 (Bn_small (by decide)) (by have := HB.out; omega) (by decide)
    have C8 := Lib.hid c8
    clear c8
    have c9 := fun (W : World)    => nat.Of_int 1 1 rfl (by decide) W
    have C9 := Lib.hid c9
    clear c9
    have c10 := fun (W : World) (v0 : Value) (v1 : Value) (hh0 : nat.IsN W v0 (2 ^ (K))) (hh1 : nat.IsN W v1 (1 : Nat))  => nat.Sub_ok v0 v1 (2 ^ (K)) (1 : Nat) W hh0 hh1 HP1.out (L_K.out.nat (by decide))
    have C10 := Lib.hid c10
    clear c10
    have c11 := fun (W : World) (v0 : Value) (hh0 : nat.IsN W v0 (2 ^ (K)))  => nat.Text_any v0 (2 ^ (K)) W hh0 (L_K.out.nat (by decide))
    have C11 := Lib.hid c11
    clear c11
    have c12 := fun (W : World) (v0 : Value) (hh0 : ref.IsN W v0 (2 ^ (K)))  => ref.Text_any v0 (2 ^ (K)) W hh0 (L_K.out.ref (by decide))
    have C12 := Lib.hid c12
    clear c12
    have c13 := fun (W : World) (v0 : Value) (v1 : Value) (hh0 : nat.IsN W v0 (2 ^ (K))) (hh1 : nat.IsN W v1 (2 ^ (M)))  => nat.Mul_any v0 v1 (2 ^ (K)) (2 ^ (M)) W hh0 hh1 (L_K.out.nat (by decide)) (L_M.out.nat (by decide))
    have C13 := Lib.hid c13
    clear c13
    have c14 := fun (W : World) (v0 : Value) (hh0 : nat.IsN W v0 ((2 ^ (K)) * (2 ^ (M))))  => nat.Text_any v0 ((2 ^ (K)) * (2 ^ (M))) W hh0 ((Bn_mul L_K.out L_M.out).nat (by decide))
    have C14 := Lib.hid c14
    clear c14
    have c15 := fun (W : World) (v0 : Value) (v1 : Value) (hh0 : ref.IsN W v0 (2 ^ (K))) (hh1 : ref.IsN W v1 (2 ^ (M)))  => ref.Mul_any v0 v1 (2 ^ (K)) (2 ^ (M)) W hh0 hh1 (L_K.out.ref (by decide)) (L_M.out.ref (by decide))
    have C15 := Lib.hid c15
    clear c15
    have c16 := fun (W : World) (v0 : Value) (hh0 : ref.IsN W v0 ((2 ^ (K)) * (2 ^ (M))))  => ref.Text_any v0 ((2 ^ (K)) * (2 ^ (M))) W hh0 ((Bn_mul L_K.out L_M.out).ref (by decide))
    have C16 := Lib.hid c16
    clear c16
    have c17 := fun (W : World) (v0 : Value) (hh0 : nat.IsN W v0 ((2 ^ (K)) - (1 : Nat)))  => nat.Text_any v0 ((2 ^ (K)) - (1 : Nat)) W hh0 ((Bn_sub L_K.out).nat (by decide))
    have C17 := Lib.hid c17
    clear c17
    have c18 := fun (W : World)    => ref.OfU_int 1 1 rfl (by decide) W
    have C18 := Lib.hid c18
    clear c18
    have c19 := fun (W : World) (v0 : Value) (v1 : Value) (hh0 : ref.IsN W v0 (2 ^ (K))) (hh1 : ref.IsN W v1 (1 : Nat))  => ref.Sub_any v0 v1 (2 ^ (K)) (1 : Nat) W hh0 hh1 HP1.out (L_K.out.ref (by decide))
    have C19 := Lib.hid c19
    clear c19
    have c20 := fun (W : World) (v0 : Value) (hh0 : ref.IsN W v0 ((2 ^ (K)) - (1 : Nat)))  => ref.Text_any v0 ((2 ^ (K)) - (1 : Nat)) W hh0 ((Bn_sub L_K.out).ref (by decide))
    have C20 := Lib.hid c20
    clear c20
    have c21 := fun (W : World)    => nat.Of_int 1 1 rfl (by decide) W
    have C21 := Lib.hid c21
    clear c21
    have c22 := fun (W : World) (v0 : Value) (v1 : Value) (hh0 : nat.IsN W v0 ((2 ^ (K)) - (1 : Nat))) (hh1 : nat.IsN W v1 (1 : Nat))  => nat.Add_any v0 v1 ((2 ^ (K)) - (1 : Nat)) (1 : Nat) W hh0 hh1 ((Bn_sub L_K.out).nat (by decide)) ((Bn_small (by decide)).nat (by decide))
    have C22 := Lib.hid c22
    clear c22
    have c23 := fun (W : World) (v0 : Value) (v1 : Value) (hh0 : nat.IsN W v0 (((2 ^ (K)) - (1 : Nat)) + (1 : Nat))) (hh1 : nat.IsN W v1 (2 ^ (K)))  => nat.Cmp_b v0 v1 (((2 ^ (K)) - (1 : Nat)) + (1 : Nat)) (2 ^ (K)) W hh0 hh1 ((Bn_add (Bn_sub L_K.out) (Bn_small (by decide))).nat (by decide)) (L_K.out.nat (by decide))
    rw [cmp3_eqN (show (((2 ^ (K)) - (1 : Nat)) + (1 : Nat)) = (2 ^ (K)) from (Nat.sub_add_cancel HP1.out))] at c23
    have C23 := Lib.hid c23
    clear c23
    have c24 := fun (W : World) (v0 : Value) (v1 : Value) (hh0 : nat.IsN W v0 (2 ^ (K))) (hh1 : nat.IsN W v1 (2 ^ (M)))  => nat.Mul_any v0 v1 (2 ^ (K)) (2 ^ (M)) W hh0 hh1 (L_K.out.nat (by decide)) (L_M.out.nat (by decide))
    have C24 := Lib.hid c24
    clear c24
    have c25 := fun (W : World)    => nat.Of_int 2 2 rfl (by decide) W
    have C25 := Lib.hid c25
    clear c25
    have c26 := fun (W : World) (v0 : Value) (hh0 : nat.IsN W v0 (2 : Nat))  => NPow_at v0 2 (K + M) (((K : Nat) : Int) + ((M : Nat) : Int)) (by omega) (by have := HA.out; have := HB.out; omega) W hh0 ((Bn_small (x := 2) (by decide)).nat (by decide)) (L_S.out.nat (by decide))
    have C26 := Lib.hid c26
    clear c26
    have c27 := fun (W : World) (v0 : Value) (v1 : Value) (hh0 : nat.IsN W v0 ((2 ^ (K)) * (2 ^ (M)))) (hh1 : nat.IsN W v1 (2 ^ (K + M)))  => nat.Cmp_b v0 v1 ((2 ^ (K)) * (2 ^ (M))) (2 ^ (K + M)) W hh0 hh1 ((Bn_mul L_K.out L_M.out).nat (by decide)) (L_S.out.nat (by decide))
    rw [cmp3_eqN (show ((2 ^ (K)) * (2 ^ (M))) = (2 ^ (K + M)) from (Nat.pow_add _ _ _).symm)] at c27
    have C27 := Lib.hid c27
    clear c27
    generalize str (Lib.decDigits (2 ^ (K))) = sg0 at *
    generalize str (Lib.decDigits ((2 ^ (K)) * (2 ^ (M)))) = sg1 at *
    generalize str (Lib.decDigits ((2 ^ (K)) - (1 : Nat))) = sg2 at *
    go_enter Tryz.func13, Tryz.ntmps13
    go_wp2_with (first
      | (go_at_call 25; (with_reducible refine (HBG.out _ HG.out).mono ?_); rintro e W1 ⟨rfl, hb⟩
         have HB1 := Lib.hid hb
         clear hb)
      | (go_at_call 46; (with_reducible refine (C1.out _ ).mono ?_); rintro e W2 ⟨u1, rfl, ⟨h_u1, n_u1⟩, hb⟩
         have H_u1 := Lib.hid h_u1
         have N_u1 := Lib.hid n_u1
         have HB2 := Lib.hid hb
         clear h_u1 n_u1 hb C1)
      | (go_at_call 94; (with_reducible refine (C2.out _ _ H_u1.out).mono ?_); rintro e W3 ⟨a, rfl, ⟨h_a, n_a⟩, hb⟩
         have H_a := Lib.hid h_a
         have N_a := Lib.hid n_a
         have HB3 := Lib.hid hb
         clear h_a n_a hb C2)
      | (go_at_call 46; (with_reducible refine (C3.out _ ).mono ?_); rintro e W4 ⟨u2, rfl, ⟨h_u2, n_u2⟩, hb⟩
         have H_u2 := Lib.hid h_u2
         have N_u2 := Lib.hid n_u2
         have HB4 := Lib.hid hb
         clear h_u2 n_u2 hb C3)
      | (go_at_call 94; (with_reducible refine (C4.out _ _ H_u2.out).mono ?_); rintro e W5 ⟨b, rfl, ⟨h_b, n_b⟩, hb⟩
         have H_b := Lib.hid h_b
         have N_b := Lib.hid n_b
         have HB5 := Lib.hid hb
         clear h_b n_b hb C4)
      | (go_at_call 48; (with_reducible refine (C5.out _ ).mono ?_); rintro e W6 ⟨v1, rfl, h_v1, hb⟩
         have H_v1 := Lib.hid h_v1
         have HB6 := Lib.hid hb
         clear h_v1 hb C5)
      | (go_at_call 87; (with_reducible refine (C6.out _ _ H_v1.out).mono ?_); rintro e W7 ⟨x, rfl, h_x, hb⟩
         have H_x := Lib.hid h_x
         have HB7 := Lib.hid hb
         clear h_x hb C6)
      | (go_at_call 48; (with_reducible refine (C7.out _ ).mono ?_); rintro e W8 ⟨v2, rfl, h_v2, hb⟩
         have H_v2 := Lib.hid h_v2
         have HB8 := Lib.hid hb
         clear h_v2 hb C7)
      | (go_at_call 87; (with_reducible refine (C8.out _ _ H_v2.out).mono ?_); rintro e W9 ⟨y, rfl, h_y, hb⟩
         have H_y := Lib.hid h_y
         have HB9 := Lib.hid hb
         clear h_y hb C8)
      | (go_at_call 46; (with_reducible refine (C9.out _ ).mono ?_); rintro e W10 ⟨o1, rfl, ⟨h_o1, n_o1⟩, hb⟩
         have H_o1 := Lib.hid h_o1
         have N_o1 := Lib.hid n_o1
         have HB10 := Lib.hid hb
         clear h_o1 n_o1 hb C9)
      | (go_at_call 27; (with_reducible refine (C10.out _ _ _ (((((((H_a.out.below HB4.out).below HB5.out).below HB6.out).below HB7.out).below HB8.out).below HB9.out).below HB10.out) H_o1.out).mono ?_); rintro e W11 ⟨one, rfl, ⟨h_one, n_one⟩, hb⟩
         obtain ⟨p_one, rfl⟩ := h_one.some n_one
         have H_one := Lib.hid h_one
         have N_one := Lib.hid n_one
         have HB11 := Lib.hid hb
         clear h_one n_one hb C10)
      | (go_at_call 30; (with_reducible refine (C11.out _ _ ((((((((H_a.out.below HB4.out).below HB5.out).below HB6.out).below HB7.out).below HB8.out).below HB9.out).below HB10.out).below HB11.out)).mono ?_); rintro e W12 ⟨rfl, hb⟩
         have HB12 := Lib.hid hb
         clear hb C11)
      | (go_at_call 32; (with_reducible refine (C12.out _ _ (((((H_x.out.below HB8.out).below HB9.out).below HB10.out).below HB11.out).below HB12.out)).mono ?_); rintro e W13 ⟨rfl, hb⟩
         have HB13 := Lib.hid hb
         clear hb C12)
      | (go_at_call 37; (with_reducible refine (C13.out _ _ _ ((((((((((H_a.out.below HB4.out).below HB5.out).below HB6.out).below HB7.out).below HB8.out).below HB9.out).below HB10.out).below HB11.out).below HB12.out).below HB13.out) ((((((((H_b.out.below HB6.out).below HB7.out).below HB8.out).below HB9.out).below HB10.out).below HB11.out).below HB12.out).below HB13.out)).mono ?_); rintro e W14 ⟨ab, rfl, ⟨h_ab, n_ab⟩, hb⟩
         have H_ab := Lib.hid h_ab
         have N_ab := Lib.hid n_ab
         have HB14 := Lib.hid hb
         clear h_ab n_ab hb C13)
      | (go_at_call 30; (with_reducible refine (C14.out _ _ H_ab.out).mono ?_); rintro e W15 ⟨rfl, hb⟩
         have HB15 := Lib.hid hb
         clear hb C14)
      | (go_at_call 38; (with_reducible refine (C15.out _ _ _ ((((((((H_x.out.below HB8.out).below HB9.out).below HB10.out).below HB11.out).below HB12.out).below HB13.out).below HB14.out).below HB15.out) ((((((H_y.out.below HB10.out).below HB11.out).below HB12.out).below HB13.out).below HB14.out).below HB15.out)).mono ?_); rintro e W16 ⟨xy, rfl, h_xy, hb⟩
         have H_xy := Lib.hid h_xy
         have HB16 := Lib.hid hb
         clear h_xy hb C15)
      | (go_at_call 32; (with_reducible refine (C16.out _ _ H_xy.out).mono ?_); rintro e W17 ⟨rfl, hb⟩
         have HB17 := Lib.hid hb
         clear hb C16)
      | (go_at_call 30; (with_reducible refine (C17.out _ _ ((((((H_one.out.below HB12.out).below HB13.out).below HB14.out).below HB15.out).below HB16.out).below HB17.out)).mono ?_); rintro e W18 ⟨rfl, hb⟩
         have HB18 := Lib.hid hb
         clear hb C17)
      | (go_at_call 48; (with_reducible refine (C18.out _ ).mono ?_); rintro e W19 ⟨v3, rfl, h_v3, hb⟩
         have H_v3 := Lib.hid h_v3
         have HB19 := Lib.hid hb
         clear h_v3 hb C18)
      | (go_at_call 31; (with_reducible refine (C19.out _ _ _ ((((((((((((H_x.out.below HB8.out).below HB9.out).below HB10.out).below HB11.out).below HB12.out).below HB13.out).below HB14.out).below HB15.out).below HB16.out).below HB17.out).below HB18.out).below HB19.out) H_v3.out).mono ?_); rintro e W20 ⟨xs, rfl, h_xs, hb⟩
         have H_xs := Lib.hid h_xs
         have HB20 := Lib.hid hb
         clear h_xs hb C19)
      | (go_at_call 32; (with_reducible refine (C20.out _ _ H_xs.out).mono ?_); rintro e W21 ⟨rfl, hb⟩
         have HB21 := Lib.hid hb
         clear hb C20)
      | (go_at_call 46; (with_reducible refine (C21.out _ ).mono ?_); rintro e W22 ⟨o2, rfl, ⟨h_o2, n_o2⟩, hb⟩
         have H_o2 := Lib.hid h_o2
         have N_o2 := Lib.hid n_o2
         have HB22 := Lib.hid hb
         clear h_o2 n_o2 hb C21)
      | (go_at_call 35; (with_reducible refine (C22.out _ _ _ (((((((((((H_one.out.below HB12.out).below HB13.out).below HB14.out).below HB15.out).below HB16.out).below HB17.out).below HB18.out).below HB19.out).below HB20.out).below HB21.out).below HB22.out) H_o2.out).mono ?_); rintro e W23 ⟨w1, rfl, ⟨h_w1, n_w1⟩, hb⟩
         have H_w1 := Lib.hid h_w1
         have N_w1 := Lib.hid n_w1
         have HB23 := Lib.hid hb
         clear h_w1 n_w1 hb C22)
      | (go_at_call 39; (with_reducible refine (C23.out _ _ _ H_w1.out ((((((((((((((((((((H_a.out.below HB4.out).below HB5.out).below HB6.out).below HB7.out).below HB8.out).below HB9.out).below HB10.out).below HB11.out).below HB12.out).below HB13.out).below HB14.out).below HB15.out).below HB16.out).below HB17.out).below HB18.out).below HB19.out).below HB20.out).below HB21.out).below HB22.out).below HB23.out)).mono ?_); rintro e W24 ⟨rfl, hb⟩
         have HB24 := Lib.hid hb
         clear hb C23)
      | (go_at_call 37; (with_reducible refine (C24.out _ _ _ (((((((((((((((((((((H_a.out.below HB4.out).below HB5.out).below HB6.out).below HB7.out).below HB8.out).below HB9.out).below HB10.out).below HB11.out).below HB12.out).below HB13.out).below HB14.out).below HB15.out).below HB16.out).below HB17.out).below HB18.out).below HB19.out).below HB20.out).below HB21.out).below HB22.out).below HB23.out).below HB24.out) (((((((((((((((((((H_b.out.below HB6.out).below HB7.out).below HB8.out).below HB9.out).below HB10.out).below HB11.out).below HB12.out).below HB13.out).below HB14.out).below HB15.out).below HB16.out).below HB17.out).below HB18.out).below HB19.out).below HB20.out).below HB21.out).below HB22.out).below HB23.out).below HB24.out)).mono ?_); rintro e W25 ⟨ab2, rfl, ⟨h_ab2, n_ab2⟩, hb⟩
         have H_ab2 := Lib.hid h_ab2
         have N_ab2 := Lib.hid n_ab2
         have HB25 := Lib.hid hb
         clear h_ab2 n_ab2 hb C24)
      | (go_at_call 46; (with_reducible refine (C25.out _ ).mono ?_); rintro e W26 ⟨u3, rfl, ⟨h_u3, n_u3⟩, hb⟩
         have H_u3 := Lib.hid h_u3
         have N_u3 := Lib.hid n_u3
         have HB26 := Lib.hid hb
         clear h_u3 n_u3 hb C25)
      | (go_at_call 94; (with_reducible refine (C26.out _ _ H_u3.out).mono ?_); rintro e W27 ⟨s, rfl, ⟨h_s, n_s⟩, hb⟩
         have H_s := Lib.hid h_s
         have N_s := Lib.hid n_s
         have HB27 := Lib.hid hb
         clear h_s n_s hb C26)
      | (go_at_call 39; (with_reducible refine (C27.out _ _ _ ((H_ab2.out.below HB26.out).below HB27.out) H_s.out).mono ?_); rintro e W28 ⟨rfl, hb⟩
         have HB28 := Lib.hid hb
         clear hb C27)
      | (fail "no arm"))
    skip
    all_goals (go_ret; exact ⟨rfl, (nat.below_tr (nat.below_tr (nat.below_tr (nat.below_tr (nat.below_tr (nat.below_tr (nat.below_tr (nat.below_tr (nat.below_tr (nat.below_tr (nat.below_tr (nat.below_tr (nat.below_tr (nat.below_tr (nat.below_tr (nat.below_tr (nat.below_tr (nat.below_tr (nat.below_tr (nat.below_tr (nat.below_tr (nat.below_tr (nat.below_tr (nat.below_tr (nat.below_tr (nat.below_tr (nat.below_tr HB1.out HB2.out) HB3.out) HB4.out) HB5.out) HB6.out) HB7.out) HB8.out) HB9.out) HB10.out) HB11.out) HB12.out) HB13.out) HB14.out) HB15.out) HB16.out) HB17.out) HB18.out) HB19.out) HB20.out) HB21.out) HB22.out) HB23.out) HB24.out) HB25.out) HB26.out) HB27.out) HB28.out)⟩)
  · obtain ⟨K3, hK3⟩ : ∃ K3 : Nat, (K : Int) % 80 = (K3 : Int) := ⟨K % 80, by omega⟩
    obtain ⟨M3, hM3⟩ : ∃ M3 : Nat, (M : Int) % 80 = (M3 : Int) := ⟨M % 80, by omega⟩
    have hK4 : K3 < 80 := by omega
    have hM4 : M3 < 80 := by omega
    have L_K3 := Lib.hid (show Bn (10 ^ K3) 6100 from (Bn_pow K3 (show Bn 10 20 from Bn_small (by decide))).le (by omega))
    have L_M3 := Lib.hid (show Bn (10 ^ M3) 6100 from (Bn_pow M3 (show Bn 10 20 from Bn_small (by decide))).le (by omega))
    have L_S := Lib.hid (show Bn (10 ^ (K3 + M3)) 12100 from (Bn_pow _ (show Bn 10 20 from Bn_small (by decide))).le (by omega))
    have HP1 := Lib.hid (show 1 ≤ 10 ^ K3 from Nat.one_le_pow _ _ (by decide))
    have HA := Lib.hid hK4
    have HB := Lib.hid hM4
    have c1 := fun (W : World)    => nat.Of_int 10 10 rfl (by decide) W
    have C1 := Lib.hid c1
    clear c1
    have c2 := fun (W : World) (v0 : Value) (hh0 : nat.IsN W v0 (10 : Nat))  => NPow_at v0 10 (K3) ((K3 : Nat) : Int) rfl (by have := HA.out; omega) W hh0 ((Bn_small (x := 10) (by decide)).nat (by decide)) (L_K3.out.nat (by decide))
    have C2 := Lib.hid c2
    clear c2
    have c3 := fun (W : World)    => nat.Of_int 10 10 rfl (by decide) W
    have C3 := Lib.hid c3
    clear c3
    have c4 := fun (W : World) (v0 : Value) (hh0 : nat.IsN W v0 (10 : Nat))  => NPow_at v0 10 (M3) ((M3 : Nat) : Int) rfl (by have := HB.out; omega) W hh0 ((Bn_small (x := 10) (by decide)).nat (by decide)) (L_M3.out.nat (by decide))
    have C4 := Lib.hid c4
    clear c4
    have c5 := fun (W : World)    => ref.OfU_int 10 10 rfl (by decide) W
    have C5 := Lib.hid c5
    clear c5
    have c6 := fun (W : World) (v0 : Value) (hh0 : ref.IsN W v0 (10 : Nat))  => XPow_at v0 10 K3 20 ((K3 : Nat) : Int) rfl (by have := HA.out; omega) W hh0 (Bn_small (by decide)) (by have := HA.out; omega) (by decide)
    have C6 := Lib.hid c6
    clear c6
    have c7 := fun (W : World)    => ref.OfU_int 10 10 rfl (by decide) W
    have C7 := Lib.hid c7
    clear c7
    have c8 := fun (W : World) (v0 : Value) (hh0 : ref.IsN W v0 (10 : Nat))  => XPow_at v0 10 M3 20 ((M3 : Nat) : Int) rfl (by have := HB.out; omega) W hh0 (Bn_small (by decide)) (by have := HB.out; omega) (by decide)
    have C8 := Lib.hid c8
    clear c8
    have c9 := fun (W : World)    => nat.Of_int 1 1 rfl (by decide) W
    have C9 := Lib.hid c9
    clear c9
    have c10 := fun (W : World) (v0 : Value) (v1 : Value) (hh0 : nat.IsN W v0 (10 ^ (K3))) (hh1 : nat.IsN W v1 (1 : Nat))  => nat.Sub_ok v0 v1 (10 ^ (K3)) (1 : Nat) W hh0 hh1 HP1.out (L_K3.out.nat (by decide))
    have C10 := Lib.hid c10
    clear c10
    have c11 := fun (W : World) (v0 : Value) (hh0 : nat.IsN W v0 (10 ^ (K3)))  => nat.Text_any v0 (10 ^ (K3)) W hh0 (L_K3.out.nat (by decide))
    have C11 := Lib.hid c11
    clear c11
    have c12 := fun (W : World) (v0 : Value) (hh0 : ref.IsN W v0 (10 ^ (K3)))  => ref.Text_any v0 (10 ^ (K3)) W hh0 (L_K3.out.ref (by decide))
    have C12 := Lib.hid c12
    clear c12
    have c13 := fun (W : World) (v0 : Value) (v1 : Value) (hh0 : nat.IsN W v0 (10 ^ (K3))) (hh1 : nat.IsN W v1 (10 ^ (M3)))  => nat.Mul_any v0 v1 (10 ^ (K3)) (10 ^ (M3)) W hh0 hh1 (L_K3.out.nat (by decide)) (L_M3.out.nat (by decide))
    have C13 := Lib.hid c13
    clear c13
    have c14 := fun (W : World) (v0 : Value) (hh0 : nat.IsN W v0 ((10 ^ (K3)) * (10 ^ (M3))))  => nat.Text_any v0 ((10 ^ (K3)) * (10 ^ (M3))) W hh0 ((Bn_mul L_K3.out L_M3.out).nat (by decide))
    have C14 := Lib.hid c14
    clear c14
    have c15 := fun (W : World) (v0 : Value) (v1 : Value) (hh0 : ref.IsN W v0 (10 ^ (K3))) (hh1 : ref.IsN W v1 (10 ^ (M3)))  => ref.Mul_any v0 v1 (10 ^ (K3)) (10 ^ (M3)) W hh0 hh1 (L_K3.out.ref (by decide)) (L_M3.out.ref (by decide))
    have C15 := Lib.hid c15
    clear c15
    have c16 := fun (W : World) (v0 : Value) (hh0 : ref.IsN W v0 ((10 ^ (K3)) * (10 ^ (M3))))  => ref.Text_any v0 ((10 ^ (K3)) * (10 ^ (M3))) W hh0 ((Bn_mul L_K3.out L_M3.out).ref (by decide))
    have C16 := Lib.hid c16
    clear c16
    have c17 := fun (W : World) (v0 : Value) (hh0 : nat.IsN W v0 ((10 ^ (K3)) - (1 : Nat)))  => nat.Text_any v0 ((10 ^ (K3)) - (1 : Nat)) W hh0 ((Bn_sub L_K3.out).nat (by decide))
    have C17 := Lib.hid c17
    clear c17
    have c18 := fun (W : World)    => ref.OfU_int 1 1 rfl (by decide) W
    have C18 := Lib.hid c18
    clear c18
    have c19 := fun (W : World) (v0 : Value) (v1 : Value) (hh0 : ref.IsN W v0 (10 ^ (K3))) (hh1 : ref.IsN W v1 (1 : Nat))  => ref.Sub_any v0 v1 (10 ^ (K3)) (1 : Nat) W hh0 hh1 HP1.out (L_K3.out.ref (by decide))
    have C19 := Lib.hid c19
    clear c19
    have c20 := fun (W : World) (v0 : Value) (hh0 : ref.IsN W v0 ((10 ^ (K3)) - (1 : Nat)))  => ref.Text_any v0 ((10 ^ (K3)) - (1 : Nat)) W hh0 ((Bn_sub L_K3.out).ref (by decide))
    have C20 := Lib.hid c20
    clear c20
    have c21 := fun (W : World)    => nat.Of_int 1 1 rfl (by decide) W
    have C21 := Lib.hid c21
    clear c21
    have c22 := fun (W : World) (v0 : Value) (v1 : Value) (hh0 : nat.IsN W v0 ((10 ^ (K3)) - (1 : Nat))) (hh1 : nat.IsN W v1 (1 : Nat))  => nat.Add_any v0 v1 ((10 ^ (K3)) - (1 : Nat)) (1 : Nat) W hh0 hh1 ((Bn_sub L_K3.out).nat (by decide)) ((Bn_small (by decide)).nat (by decide))
    have C22 := Lib.hid c22
    clear c22
    have c23 := fun (W : World) (v0 : Value) (v1 : Value) (hh0 : nat.IsN W v0 (((10 ^ (K3)) - (1 : Nat)) + (1 : Nat))) (hh1 : nat.IsN W v1 (10 ^ (K3)))  => nat.Cmp_b v0 v1 (((10 ^ (K3)) - (1 : Nat)) + (1 : Nat)) (10 ^ (K3)) W hh0 hh1 ((Bn_add (Bn_sub L_K3.out) (Bn_small (by decide))).nat (by decide)) (L_K3.out.nat (by decide))
    rw [cmp3_eqN (show (((10 ^ (K3)) - (1 : Nat)) + (1 : Nat)) = (10 ^ (K3)) from (Nat.sub_add_cancel HP1.out))] at c23
    have C23 := Lib.hid c23
    clear c23
    have c24 := fun (W : World) (v0 : Value) (v1 : Value) (hh0 : nat.IsN W v0 (10 ^ (K3))) (hh1 : nat.IsN W v1 (10 ^ (M3)))  => nat.Mul_any v0 v1 (10 ^ (K3)) (10 ^ (M3)) W hh0 hh1 (L_K3.out.nat (by decide)) (L_M3.out.nat (by decide))
    have C24 := Lib.hid c24
    clear c24
    have c25 := fun (W : World)    => nat.Of_int 10 10 rfl (by decide) W
    have C25 := Lib.hid c25
    clear c25
    have c26 := fun (W : World) (v0 : Value) (hh0 : nat.IsN W v0 (10 : Nat))  => NPow_at v0 10 (K3 + M3) (((K3 : Nat) : Int) + ((M3 : Nat) : Int)) (by omega) (by have := HA.out; have := HB.out; omega) W hh0 ((Bn_small (x := 10) (by decide)).nat (by decide)) (L_S.out.nat (by decide))
    have C26 := Lib.hid c26
    clear c26
    have c27 := fun (W : World) (v0 : Value) (v1 : Value) (hh0 : nat.IsN W v0 ((10 ^ (K3)) * (10 ^ (M3)))) (hh1 : nat.IsN W v1 (10 ^ (K3 + M3)))  => nat.Cmp_b v0 v1 ((10 ^ (K3)) * (10 ^ (M3))) (10 ^ (K3 + M3)) W hh0 hh1 ((Bn_mul L_K3.out L_M3.out).nat (by decide)) (L_S.out.nat (by decide))
    rw [cmp3_eqN (show ((10 ^ (K3)) * (10 ^ (M3))) = (10 ^ (K3 + M3)) from (Nat.pow_add _ _ _).symm)] at c27
    have C27 := Lib.hid c27
    clear c27
    generalize str (Lib.decDigits (10 ^ (K3))) = sg0 at *
    generalize str (Lib.decDigits ((10 ^ (K3)) * (10 ^ (M3)))) = sg1 at *
    generalize str (Lib.decDigits ((10 ^ (K3)) - (1 : Nat))) = sg2 at *
    go_enter Tryz.func13, Tryz.ntmps13
    go_wp2_with (first
      | (go_at_call 25; (with_reducible refine (HBG.out _ HG.out).mono ?_); rintro e W1 ⟨rfl, hb⟩
         have HB1 := Lib.hid hb
         clear hb)
      | (go_at_call 46; (with_reducible refine (C1.out _ ).mono ?_); rintro e W2 ⟨u1, rfl, ⟨h_u1, n_u1⟩, hb⟩
         have H_u1 := Lib.hid h_u1
         have N_u1 := Lib.hid n_u1
         have HB2 := Lib.hid hb
         clear h_u1 n_u1 hb C1)
      | (go_at_call 94; (with_reducible refine (C2.out _ _ H_u1.out).mono ?_); rintro e W3 ⟨a, rfl, ⟨h_a, n_a⟩, hb⟩
         have H_a := Lib.hid h_a
         have N_a := Lib.hid n_a
         have HB3 := Lib.hid hb
         clear h_a n_a hb C2)
      | (go_at_call 46; (with_reducible refine (C3.out _ ).mono ?_); rintro e W4 ⟨u2, rfl, ⟨h_u2, n_u2⟩, hb⟩
         have H_u2 := Lib.hid h_u2
         have N_u2 := Lib.hid n_u2
         have HB4 := Lib.hid hb
         clear h_u2 n_u2 hb C3)
      | (go_at_call 94; (with_reducible refine (C4.out _ _ H_u2.out).mono ?_); rintro e W5 ⟨b, rfl, ⟨h_b, n_b⟩, hb⟩
         have H_b := Lib.hid h_b
         have N_b := Lib.hid n_b
         have HB5 := Lib.hid hb
         clear h_b n_b hb C4)
      | (go_at_call 48; (with_reducible refine (C5.out _ ).mono ?_); rintro e W6 ⟨v1, rfl, h_v1, hb⟩
         have H_v1 := Lib.hid h_v1
         have HB6 := Lib.hid hb
         clear h_v1 hb C5)
      | (go_at_call 87; (with_reducible refine (C6.out _ _ H_v1.out).mono ?_); rintro e W7 ⟨x, rfl, h_x, hb⟩
         have H_x := Lib.hid h_x
         have HB7 := Lib.hid hb
         clear h_x hb C6)
      | (go_at_call 48; (with_reducible refine (C7.out _ ).mono ?_); rintro e W8 ⟨v2, rfl, h_v2, hb⟩
         have H_v2 := Lib.hid h_v2
         have HB8 := Lib.hid hb
         clear h_v2 hb C7)
      | (go_at_call 87; (with_reducible refine (C8.out _ _ H_v2.out).mono ?_); rintro e W9 ⟨y, rfl, h_y, hb⟩
         have H_y := Lib.hid h_y
         have HB9 := Lib.hid hb
         clear h_y hb C8)
      | (go_at_call 46; (with_reducible refine (C9.out _ ).mono ?_); rintro e W10 ⟨o1, rfl, ⟨h_o1, n_o1⟩, hb⟩
         have H_o1 := Lib.hid h_o1
         have N_o1 := Lib.hid n_o1
         have HB10 := Lib.hid hb
         clear h_o1 n_o1 hb C9)
      | (go_at_call 27; (with_reducible refine (C10.out _ _ _ (((((((H_a.out.below HB4.out).below HB5.out).below HB6.out).below HB7.out).below HB8.out).below HB9.out).below HB10.out) H_o1.out).mono ?_); rintro e W11 ⟨one, rfl, ⟨h_one, n_one⟩, hb⟩
         obtain ⟨p_one, rfl⟩ := h_one.some n_one
         have H_one := Lib.hid h_one
         have N_one := Lib.hid n_one
         have HB11 := Lib.hid hb
         clear h_one n_one hb C10)
      | (go_at_call 30; (with_reducible refine (C11.out _ _ ((((((((H_a.out.below HB4.out).below HB5.out).below HB6.out).below HB7.out).below HB8.out).below HB9.out).below HB10.out).below HB11.out)).mono ?_); rintro e W12 ⟨rfl, hb⟩
         have HB12 := Lib.hid hb
         clear hb C11)
      | (go_at_call 32; (with_reducible refine (C12.out _ _ (((((H_x.out.below HB8.out).below HB9.out).below HB10.out).below HB11.out).below HB12.out)).mono ?_); rintro e W13 ⟨rfl, hb⟩
         have HB13 := Lib.hid hb
         clear hb C12)
      | (go_at_call 37; (with_reducible refine (C13.out _ _ _ ((((((((((H_a.out.below HB4.out).below HB5.out).below HB6.out).below HB7.out).below HB8.out).below HB9.out).below HB10.out).below HB11.out).below HB12.out).below HB13.out) ((((((((H_b.out.below HB6.out).below HB7.out).below HB8.out).below HB9.out).below HB10.out).below HB11.out).below HB12.out).below HB13.out)).mono ?_); rintro e W14 ⟨ab, rfl, ⟨h_ab, n_ab⟩, hb⟩
         have H_ab := Lib.hid h_ab
         have N_ab := Lib.hid n_ab
         have HB14 := Lib.hid hb
         clear h_ab n_ab hb C13)
      | (go_at_call 30; (with_reducible refine (C14.out _ _ H_ab.out).mono ?_); rintro e W15 ⟨rfl, hb⟩
         have HB15 := Lib.hid hb
         clear hb C14)
      | (go_at_call 38; (with_reducible refine (C15.out _ _ _ ((((((((H_x.out.below HB8.out).below HB9.out).below HB10.out).below HB11.out).below HB12.out).below HB13.out).below HB14.out).below HB15.out) ((((((H_y.out.below HB10.out).below HB11.out).below HB12.out).below HB13.out).below HB14.out).below HB15.out)).mono ?_); rintro e W16 ⟨xy, rfl, h_xy, hb⟩
         have H_xy := Lib.hid h_xy
         have HB16 := Lib.hid hb
         clear h_xy hb C15)
      | (go_at_call 32; (with_reducible refine (C16.out _ _ H_xy.out).mono ?_); rintro e W17 ⟨rfl, hb⟩
         have HB17 := Lib.hid hb
         clear hb C16)
      | (go_at_call 30; (with_reducible refine (C17.out _ _ ((((((H_one.out.below HB12.out).below HB13.out).below HB14.out).below HB15.out).below HB16.out).below HB17.out)).mono ?_); rintro e W18 ⟨rfl, hb⟩
         have HB18 := Lib.hid hb
         clear hb C17)
      | (go_at_call 48; (with_reducible refine (C18.out _ ).mono ?_); rintro e W19 ⟨v3, rfl, h_v3, hb⟩
         have H_v3 := Lib.hid h_v3
         have HB19 := Lib.hid hb
         clear h_v3 hb C18)
      | (go_at_call 31; (with_reducible refine (C19.out _ _ _ ((((((((((((H_x.out.below HB8.out).below HB9.out).below HB10.out).below HB11.out).below HB12.out).below HB13.out).below HB14.out).below HB15.out).below HB16.out).below HB17.out).below HB18.out).below HB19.out) H_v3.out).mono ?_); rintro e W20 ⟨xs, rfl, h_xs, hb⟩
         have H_xs := Lib.hid h_xs
         have HB20 := Lib.hid hb
         clear h_xs hb C19)
      | (go_at_call 32; (with_reducible refine (C20.out _ _ H_xs.out).mono ?_); rintro e W21 ⟨rfl, hb⟩
         have HB21 := Lib.hid hb
         clear hb C20)
      | (go_at_call 46; (with_reducible refine (C21.out _ ).mono ?_); rintro e W22 ⟨o2, rfl, ⟨h_o2, n_o2⟩, hb⟩
         have H_o2 := Lib.hid h_o2
         have N_o2 := Lib.hid n_o2
         have HB22 := Lib.hid hb
         clear h_o2 n_o2 hb C21)
      | (go_at_call 35; (with_reducible refine (C22.out _ _ _ (((((((((((H_one.out.below HB12.out).below HB13.out).below HB14.out).below HB15.out).below HB16.out).below HB17.out).below HB18.out).below HB19.out).below HB20.out).below HB21.out).below HB22.out) H_o2.out).mono ?_); rintro e W23 ⟨w1, rfl, ⟨h_w1, n_w1⟩, hb⟩
         have H_w1 := Lib.hid h_w1
         have N_w1 := Lib.hid n_w1
         have HB23 := Lib.hid hb
         clear h_w1 n_w1 hb C22)
      | (go_at_call 39; (with_reducible refine (C23.out _ _ _ H_w1.out ((((((((((((((((((((H_a.out.below HB4.out).below HB5.out).below HB6.out).below HB7.out).below HB8.out).below HB9.out).below HB10.out).below HB11.out).below HB12.out).below HB13.out).below HB14.out).below HB15.out).below HB16.out).below HB17.out).below HB18.out).below HB19.out).below HB20.out).below HB21.out).below HB22.out).below HB23.out)).mono ?_); rintro e W24 ⟨rfl, hb⟩
         have HB24 := Lib.hid hb
         clear hb C23)
      | (go_at_call 37; (with_reducible refine (C24.out _ _ _ (((((((((((((((((((((H_a.out.below HB4.out).below HB5.out).below HB6.out).below HB7.out).below HB8.out).below HB9.out).below HB10.out).below HB11.out).below HB12.out).below HB13.out).below HB14.out).below HB15.out).below HB16.out).below HB17.out).below HB18.out).below HB19.out).below HB20.out).below HB21.out).below HB22.out).below HB23.out).below HB24.out) (((((((((((((((((((H_b.out.below HB6.out).below HB7.out).below HB8.out).below HB9.out).below HB10.out).below HB11.out).below HB12.out).below HB13.out).below HB14.out).below HB15.out).below HB16.out).below HB17.out).below HB18.out).below HB19.out).below HB20.out).below HB21.out).below HB22.out).below HB23.out).below HB24.out)).mono ?_); rintro e W25 ⟨ab2, rfl, ⟨h_ab2, n_ab2⟩, hb⟩
         have H_ab2 := Lib.hid h_ab2
         have N_ab2 := Lib.hid n_ab2
         have HB25 := Lib.hid hb
         clear h_ab2 n_ab2 hb C24)
      | (go_at_call 46; (with_reducible refine (C25.out _ ).mono ?_); rintro e W26 ⟨u3, rfl, ⟨h_u3, n_u3⟩, hb⟩
         have H_u3 := Lib.hid h_u3
         have N_u3 := Lib.hid n_u3
         have HB26 := Lib.hid hb
         clear h_u3 n_u3 hb C25)
      | (go_at_call 94; (with_reducible refine (C26.out _ _ H_u3.out).mono ?_); rintro e W27 ⟨s, rfl, ⟨h_s, n_s⟩, hb⟩
         have H_s := Lib.hid h_s
         have N_s := Lib.hid n_s
         have HB27 := Lib.hid hb
         clear h_s n_s hb C26)
      | (go_at_call 39; (with_reducible refine (C27.out _ _ _ ((H_ab2.out.below HB26.out).below HB27.out) H_s.out).mono ?_); rintro e W28 ⟨rfl, hb⟩
         have HB28 := Lib.hid hb
         clear hb C27)
      | (fail "no arm"))
    skip
    all_goals (go_ret; exact ⟨rfl, (nat.below_tr (nat.below_tr (nat.below_tr (nat.below_tr (nat.below_tr (nat.below_tr (nat.below_tr (nat.below_tr (nat.below_tr (nat.below_tr (nat.below_tr (nat.below_tr (nat.below_tr (nat.below_tr (nat.below_tr (nat.below_tr (nat.below_tr (nat.below_tr (nat.below_tr (nat.below_tr (nat.below_tr (nat.below_tr (nat.below_tr (nat.below_tr (nat.below_tr (nat.below_tr (nat.below_tr HB1.out HB2.out) HB3.out) HB4.out) HB5.out) HB6.out) HB7.out) HB8.out) HB9.out) HB10.out) HB11.out) HB12.out) HB13.out) HB14.out) HB15.out) HB16.out) HB17.out) HB18.out) HB19.out) HB20.out) HB21.out) HB22.out) HB23.out) HB24.out) HB25.out) HB26.out) HB27.out) HB28.out)⟩)
end Go.Proofs.YtfpooimjjpamoaaGreatDoor.law2
