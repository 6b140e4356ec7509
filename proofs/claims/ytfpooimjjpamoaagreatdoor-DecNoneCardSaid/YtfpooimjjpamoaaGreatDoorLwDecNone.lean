/-
  DecNone answers true. Condition: begun answers true.
-/
import Derived.Test.YtfpooimjjpamoaaGreatDoorB22
namespace Go.Proofs.YtfpooimjjpamoaaGreatDoor.law2
open Go.RowKit Go.Proofs.YtfpooimjjpamoaaGreatDoor.nat
open Go.Proofs.YtfpooimjjpamoaaGreatDoor.ref (str signed decText)
theorem none_get (w : World) : Calls Tryz.prog 78 #[.string ⟨#[]⟩] w fun e w' => e = .returned (.tuple #[.pointer none, .int .i64 0, .iface 171 (.int .i64 1)]) ∧ Below w.heap.size w w' := by
  refine dec.Get_bad [] w (by decide) fun neg n k h => ?_
  obtain ⟨-, t, he, -, hb⟩ := h
  obtain ⟨c, u, rfl, -⟩ := hb.head
  cases neg <;> simp at he
theorem none_round : str (dec.putText 0 2 1) = ⟨#[48, 46, 48, 48]⟩ := by decide +kernel
theorem none_units : signed (decide ((0 : Rat).num < 0)) (ref.nearN (0 : Rat).num.natAbs (0 : Rat).den 3) = 0 := by decide +kernel
theorem none_br : Br (0 : Rat) 20 := ⟨by unfold Bz; decide +kernel, by unfold Bn; decide +kernel⟩
theorem none_two : str (Lib.itoa (0 - 2)) = ⟨#[45, 50]⟩ := by decide +kernel
theorem none_text : str (rat.rtxt 0) = ⟨#[48]⟩ := by decide +kernel
theorem none_den : str (Lib.itoa (((0 : Rat).den : Nat) : Int)) = ⟨#[49]⟩ := by decide +kernel
set_option maxRecDepth 100000 in
set_option maxHeartbeats 4000000 in
theorem LwDecNone (HBg : BegunC) (w : World) (hd : Hd w) :
    Calls Tryz.prog 12 #[] w fun e w' => e = .returned (.bool true) ∧ Below w.heap.size w w' := by
  unfold BegunC at HBg
  have HBG := Lib.hid HBg
  have HG := Lib.hid hd
  have H_n := Lib.hid (show nat.IsN w (.pointer none) 0 from Or.inl ⟨rfl, rfl⟩)
  have H_i := Lib.hid (show num.IsZ w (.pointer none) 0 from Or.inl ⟨rfl, rfl⟩)
  have H_r := Lib.hid (show rat.IsR w (.pointer none) 0 from Or.inl ⟨rfl, rfl⟩)
  have RD := fun W v (h : rat.IsR W v 0) => dec.Round_ok v 0 2 1 W h (none_br.rat (by decide)) (by decide) (Or.inl rfl)
  rw [none_round, show ((2 : Nat) : Int) = 2 from rfl] at RD
  have RD := Lib.hid RD
  have UN := fun W v (h : rat.IsR W v 0) => dec.Units_in v 0 3 W h (none_br.rat (by decide)) (Or.inr (Or.inr rfl)) (by rw [none_units]; decide) (by rw [none_units]; decide)
  rw [none_units] at UN
  have UN := Lib.hid UN
  clear HBg hd
  have c1 := fun (W : World) (v9 v0 : Value) (hh0 : nat.IsN W v0 (0 : Nat))  => nat.Div_none_b v9 v0 W hh0
  have C1 := Lib.hid c1
  clear c1
  have c2 := fun (W : World) (v0 : Value) (hh0 : nat.IsN W v0 (0 : Nat))  => nat.Text_any v0 (0 : Nat) W hh0 ((Bn_small (by decide)).nat (by decide))
  rw [dec_nought] at c2
  have C2 := Lib.hid c2
  clear c2
  have c3 := fun (W : World) (v0 : Value) (hh0 : nat.IsN W v0 (0 : Nat))  => nat.Zero_any v0 (0 : Nat) W hh0
  rw [decide_eq_true (by decide)] at c3
  have C3 := Lib.hid c3
  clear c3
  have c4 := fun (W : World) (v0 : Value) (v1 : Value) (hh0 : nat.IsN W v0 (0 : Nat)) (hh1 : nat.IsN W v1 (0 : Nat))  => nat.Add_any v0 v1 (0 : Nat) (0 : Nat) W hh0 hh1 ((Bn_small (by decide)).nat (by decide)) ((Bn_small (by decide)).nat (by decide))
  have C4 := Lib.hid c4
  clear c4
  have c5 := fun (W : World) (v0 : Value) (hh0 : nat.IsN W v0 ((0 : Nat) + (0 : Nat)))  => nat.Zero_any v0 ((0 : Nat) + (0 : Nat)) W hh0
  rw [decide_eq_true (by decide)] at c5
  have C5 := Lib.hid c5
  clear c5
  have c6 := fun (W : World)    => nat.Of_int 5 5 rfl (by decide) W
  have C6 := Lib.hid c6
  clear c6
  have c7 := fun (W : World) (v0 : Value) (v1 : Value) (hh0 : nat.IsN W v0 (0 : Nat)) (hh1 : nat.IsN W v1 (5 : Nat))  => nat.Mul_any v0 v1 (0 : Nat) (5 : Nat) W hh0 hh1 ((Bn_small (by decide)).nat (by decide)) ((Bn_small (by decide)).nat (by decide))
  have C7 := Lib.hid c7
  clear c7
  have c8 := fun (W : World) (v0 : Value) (hh0 : nat.IsN W v0 ((0 : Nat) * (5 : Nat)))  => nat.Zero_any v0 ((0 : Nat) * (5 : Nat)) W hh0
  rw [decide_eq_true (by decide)] at c8
  have C8 := Lib.hid c8
  clear c8
  have c9 := fun (W : World) (v0 : Value) (hh0 : nat.IsN W v0 (0 : Nat))  => NPow_at v0 0 0 0 rfl (by decide) W hh0 ((Bn_small (x := 0) (by decide)).nat (by decide)) ((show Bn (0 ^ 0) 20 from Bn_small (by decide)).nat (by decide))
  have C9 := Lib.hid c9
  clear c9
  have c10 := fun (W : World) (v0 : Value) (hh0 : nat.IsN W v0 (0 ^ 0))  => nat.Text_any v0 (0 ^ 0) W hh0 ((show Bn (0 ^ 0) 20 from Bn_small (by decide)).nat (by decide))
  rw [show str (Lib.decDigits (0 ^ 0)) = ⟨#[49]⟩ from dec_one] at c10
  have C10 := Lib.hid c10
  clear c10
  have c11 := fun (W : World)    => nat.Of_int 4 4 rfl (by decide) W
  have C11 := Lib.hid c11
  clear c11
  have c12 := fun (W : World) (v0 : Value) (v1 : Value) (hh0 : nat.IsN W v0 (0 : Nat)) (hh1 : nat.IsN W v1 (4 : Nat))  => nat.Gcd_any v0 v1 (0 : Nat) (4 : Nat) W hh0 hh1 ((Bn_small (by decide)).nat (by decide)) ((Bn_small (by decide)).nat (by decide))
  have C12 := Lib.hid c12
  clear c12
  have c13 := fun (W : World) (v0 : Value) (hh0 : nat.IsN W v0 (Nat.gcd (0 : Nat) (4 : Nat)))  => nat.Text_any v0 (Nat.gcd (0 : Nat) (4 : Nat)) W hh0 ((Bn_gcd (Bn_small (by decide)) (Bn_small (by decide))).nat (by decide))
  rw [show str (Lib.decDigits (Nat.gcd (0 : Nat) (4 : Nat))) = ⟨#[52]⟩ by rw [Nat.gcd_zero_left, dec_four]] at c13
  have C13 := Lib.hid c13
  clear c13
  have c14 := fun (W : World) (v0 : Value) (hh0 : num.IsZ W v0 (0 : Int))  => num.Text_any v0 (0 : Int) W hh0 ((Bz_small (by decide) (by decide)).nat (by decide))
  rw [nought_text] at c14
  have C14 := Lib.hid c14
  clear c14
  have c15 := fun (W : World) (v0 : Value) (hh0 : num.IsZ W v0 (0 : Int))  => num.Sign_any v0 (0 : Int) W hh0
  rw [show num.sg (0 : Int) = 0 from (num.sg_zero rfl)] at c15
  have C15 := Lib.hid c15
  clear c15
  have c16 := fun (W : World)    => num.Of_any 2 W (by decide) (by decide)
  have C16 := Lib.hid c16
  clear c16
  have c17 := fun (W : World) (v0 : Value) (v1 : Value) (hh0 : num.IsZ W v0 (0 : Int)) (hh1 : num.IsZ W v1 (2 : Int))  => num.Sub_any v0 v1 (0 : Int) (2 : Int) W hh0 hh1 ((Bz_small (by decide) (by decide)).nat (by decide)) ((Bz_small (by decide) (by decide)).nat (by decide))
  have C17 := Lib.hid c17
  clear c17
  have c18 := fun (W : World) (v0 : Value) (hh0 : num.IsZ W v0 ((0 : Int) - (2 : Int)))  => num.Text_any v0 ((0 : Int) - (2 : Int)) W hh0 ((Bz_sub (Bz_small (by decide) (by decide)) (Bz_small (by decide) (by decide))).nat (by decide))
  rw [show str (Lib.itoa ((0 : Int) - (2 : Int))) = ⟨#[45, 50]⟩ from none_two] at c18
  have C18 := Lib.hid c18
  clear c18
  have c19 := fun (W : World) (v0 : Value) (hh0 : rat.IsR W v0 ((0 : Rat)))  => rat.Text_any v0 ((0 : Rat)) W hh0 (none_br.rat (by decide))
  rw [none_text] at c19
  have C19 := Lib.hid c19
  clear c19
  have c20 := fun (W : World) (v0 : Value) (hh0 : rat.IsR W v0 ((0 : Rat)))  => rat.Sign_any v0 ((0 : Rat)) W hh0
  rw [show num.sg (0 : Rat).num = 0 by decide +kernel] at c20
  have C20 := Lib.hid c20
  clear c20
  have c21 := fun (W : World) (v0 : Value) (hh0 : rat.IsR W v0 ((0 : Rat)))  => rat.Den_any v0 (0 : Rat) W hh0
  have C21 := Lib.hid c21
  clear c21
  have c22 := fun (W : World) (v0 : Value) (hh0 : num.IsZ W v0 (((0 : Rat).den : Nat) : Int))  => num.Text_any v0 (((0 : Rat).den : Nat) : Int) W hh0 ((Bz_nat none_br.2).nat (by decide))
  rw [none_den] at c22
  have C22 := Lib.hid c22
  clear c22
  go_enter Tryz.func12, Tryz.ntmps12
  go_wp2_with (first
    | (go_at_call 78; (with_reducible refine (none_get _).mono ?_); rintro e W1 ⟨rfl, hb⟩
       have HB1 := Lib.hid hb
       clear hb)
    | (go_at_call 82; (with_reducible refine (RD.out _ _ (H_r.out.below HB1.out)).mono ?_); rintro e W2 ⟨rfl, hb⟩
       have HB2 := Lib.hid hb
       clear hb)
    | (go_at_call 84; (with_reducible refine (UN.out _ _ ((H_r.out.below HB1.out).below HB2.out)).mono ?_); rintro e W3 ⟨rfl, hb⟩
       have HB3 := Lib.hid hb
       clear hb)
    | (go_at_call 33; (with_reducible refine (C1.out _ _ _ (((H_n.out.below HB1.out).below HB2.out).below HB3.out)).mono ?_); rintro e W4 ⟨rfl, hb⟩
       have HB4 := Lib.hid hb
       clear hb C1)
    | (go_at_call 25; (with_reducible refine (HBG.out _ ((((HG.out.below HB1.out).below HB2.out).below HB3.out).below HB4.out)).mono ?_); rintro e W5 ⟨rfl, hb⟩
       have HB5 := Lib.hid hb
       clear hb)
    | (go_at_call 30; (with_reducible refine (C2.out _ _ (((((H_n.out.below HB1.out).below HB2.out).below HB3.out).below HB4.out).below HB5.out)).mono ?_); rintro e W6 ⟨rfl, hb⟩
       have HB6 := Lib.hid hb
       clear hb C2)
    | (go_at_call 42; (with_reducible refine (C3.out _ _ ((((((H_n.out.below HB1.out).below HB2.out).below HB3.out).below HB4.out).below HB5.out).below HB6.out)).mono ?_); rintro e w9 ⟨rfl, rfl⟩
       clear C3)
    | (go_at_call 35; (with_reducible refine (C4.out _ _ _ ((((((H_n.out.below HB1.out).below HB2.out).below HB3.out).below HB4.out).below HB5.out).below HB6.out) ((((((H_n.out.below HB1.out).below HB2.out).below HB3.out).below HB4.out).below HB5.out).below HB6.out)).mono ?_); rintro e W7 ⟨n2, rfl, ⟨h_n2, n_n2⟩, hb⟩
       have H_n2 := Lib.hid h_n2
       have N_n2 := Lib.hid n_n2
       have HB7 := Lib.hid hb
       clear h_n2 n_n2 hb C4)
    | (go_at_call 42; (with_reducible refine (C5.out _ _ H_n2.out).mono ?_); rintro e w9 ⟨rfl, rfl⟩
       clear C5)
    | (go_at_call 46; (with_reducible refine (C6.out _ ).mono ?_); rintro e W8 ⟨f, rfl, ⟨h_f, n_f⟩, hb⟩
       have H_f := Lib.hid h_f
       have N_f := Lib.hid n_f
       have HB8 := Lib.hid hb
       clear h_f n_f hb C6)
    | (go_at_call 37; (with_reducible refine (C7.out _ _ _ ((((((((H_n.out.below HB1.out).below HB2.out).below HB3.out).below HB4.out).below HB5.out).below HB6.out).below HB7.out).below HB8.out) H_f.out).mono ?_); rintro e W9 ⟨m, rfl, ⟨h_m, n_m⟩, hb⟩
       have H_m := Lib.hid h_m
       have N_m := Lib.hid n_m
       have HB9 := Lib.hid hb
       clear h_m n_m hb C7)
    | (go_at_call 42; (with_reducible refine (C8.out _ _ H_m.out).mono ?_); rintro e w9 ⟨rfl, rfl⟩
       clear C8)
    | (go_at_call 94; (with_reducible refine (C9.out _ _ (((((((((H_n.out.below HB1.out).below HB2.out).below HB3.out).below HB4.out).below HB5.out).below HB6.out).below HB7.out).below HB8.out).below HB9.out)).mono ?_); rintro e W10 ⟨p, rfl, ⟨h_p, n_p⟩, hb⟩
       have H_p := Lib.hid h_p
       have N_p := Lib.hid n_p
       have HB10 := Lib.hid hb
       clear h_p n_p hb C9)
    | (go_at_call 30; (with_reducible refine (C10.out _ _ H_p.out).mono ?_); rintro e W11 ⟨rfl, hb⟩
       have HB11 := Lib.hid hb
       clear hb C10)
    | (go_at_call 46; (with_reducible refine (C11.out _ ).mono ?_); rintro e W12 ⟨g, rfl, ⟨h_g, n_g⟩, hb⟩
       have H_g := Lib.hid h_g
       have N_g := Lib.hid n_g
       have HB12 := Lib.hid hb
       clear h_g n_g hb C11)
    | (go_at_call 40; (with_reducible refine (C12.out _ _ _ ((((((((((((H_n.out.below HB1.out).below HB2.out).below HB3.out).below HB4.out).below HB5.out).below HB6.out).below HB7.out).below HB8.out).below HB9.out).below HB10.out).below HB11.out).below HB12.out) H_g.out).mono ?_); rintro e W13 ⟨d, rfl, ⟨h_d, n_d⟩, hb⟩
       have H_d := Lib.hid h_d
       have N_d := Lib.hid n_d
       have HB13 := Lib.hid hb
       clear h_d n_d hb C12)
    | (go_at_call 30; (with_reducible refine (C13.out _ _ H_d.out).mono ?_); rintro e W14 ⟨rfl, hb⟩
       have HB14 := Lib.hid hb
       clear hb C13)
    | (go_at_call 52; (with_reducible refine (C14.out _ _ ((((((((((((((H_i.out.below HB1.out).below HB2.out).below HB3.out).below HB4.out).below HB5.out).below HB6.out).below HB7.out).below HB8.out).below HB9.out).below HB10.out).below HB11.out).below HB12.out).below HB13.out).below HB14.out)).mono ?_); rintro e W15 ⟨rfl, hb⟩
       have HB15 := Lib.hid hb
       clear hb C14)
    | (go_at_call 67; (with_reducible refine (C15.out _ _ (((((((((((((((H_i.out.below HB1.out).below HB2.out).below HB3.out).below HB4.out).below HB5.out).below HB6.out).below HB7.out).below HB8.out).below HB9.out).below HB10.out).below HB11.out).below HB12.out).below HB13.out).below HB14.out).below HB15.out)).mono ?_); rintro e w9 ⟨rfl, rfl⟩
       clear C15)
    | (go_at_call 57; (with_reducible refine (C16.out _ ).mono ?_); rintro e W16 ⟨t, rfl, ⟨h_t, n_t⟩, hb⟩
       have H_t := Lib.hid h_t
       have N_t := Lib.hid n_t
       have HB16 := Lib.hid hb
       clear h_t n_t hb C16)
    | (go_at_call 61; (with_reducible refine (C17.out _ _ _ ((((((((((((((((H_i.out.below HB1.out).below HB2.out).below HB3.out).below HB4.out).below HB5.out).below HB6.out).below HB7.out).below HB8.out).below HB9.out).below HB10.out).below HB11.out).below HB12.out).below HB13.out).below HB14.out).below HB15.out).below HB16.out) H_t.out).mono ?_); rintro e W17 ⟨s, rfl, ⟨h_s, n_s⟩, hb⟩
       have H_s := Lib.hid h_s
       have N_s := Lib.hid n_s
       have HB17 := Lib.hid hb
       clear h_s n_s hb C17)
    | (go_at_call 52; (with_reducible refine (C18.out _ _ H_s.out).mono ?_); rintro e W18 ⟨rfl, hb⟩
       have HB18 := Lib.hid hb
       clear hb C18)
    | (go_at_call 73; (with_reducible refine (C19.out _ _ ((((((((((((((((((H_r.out.below HB1.out).below HB2.out).below HB3.out).below HB4.out).below HB5.out).below HB6.out).below HB7.out).below HB8.out).below HB9.out).below HB10.out).below HB11.out).below HB12.out).below HB13.out).below HB14.out).below HB15.out).below HB16.out).below HB17.out).below HB18.out)).mono ?_); rintro e W19 ⟨rfl, hb⟩
       have HB19 := Lib.hid hb
       clear hb C19)
    | (go_at_call 90; (with_reducible refine (C20.out _ _ (((((((((((((((((((H_r.out.below HB1.out).below HB2.out).below HB3.out).below HB4.out).below HB5.out).below HB6.out).below HB7.out).below HB8.out).below HB9.out).below HB10.out).below HB11.out).below HB12.out).below HB13.out).below HB14.out).below HB15.out).below HB16.out).below HB17.out).below HB18.out).below HB19.out)).mono ?_); rintro e W20 ⟨rfl, hb⟩
       have HB20 := Lib.hid hb
       clear hb C20)
    | (go_at_call 95; (with_reducible refine (C21.out _ _ ((((((((((((((((((((H_r.out.below HB1.out).below HB2.out).below HB3.out).below HB4.out).below HB5.out).below HB6.out).below HB7.out).below HB8.out).below HB9.out).below HB10.out).below HB11.out).below HB12.out).below HB13.out).below HB14.out).below HB15.out).below HB16.out).below HB17.out).below HB18.out).below HB19.out).below HB20.out)).mono ?_); rintro e W21 ⟨d2, rfl, ⟨h_d2, n_d2⟩, hb⟩
       have H_d2 := Lib.hid h_d2
       have N_d2 := Lib.hid n_d2
       have HB21 := Lib.hid hb
       clear h_d2 n_d2 hb C21)
    | (go_at_call 52; (with_reducible refine (C22.out _ _ H_d2.out).mono ?_); rintro e W22 ⟨rfl, hb⟩
       have HB22 := Lib.hid hb
       clear hb C22)
    | (go_at_call 29; (with_reducible refine (Same_any 1 _ ((((((((((((((((((((((HG.out.below HB1.out).below HB2.out).below HB3.out).below HB4.out).below HB5.out).below HB6.out).below HB7.out).below HB8.out).below HB9.out).below HB10.out).below HB11.out).below HB12.out).below HB13.out).below HB14.out).below HB15.out).below HB16.out).below HB17.out).below HB18.out).below HB19.out).below HB20.out).below HB21.out).below HB22.out)).mono ?_); rintro e W23 ⟨rfl, hb⟩
       have HB23 := Lib.hid hb
       clear hb)
    | (go_at_call 29; (with_reducible refine (Same_any 3 _ (((((((((((((((((((((((HG.out.below HB1.out).below HB2.out).below HB3.out).below HB4.out).below HB5.out).below HB6.out).below HB7.out).below HB8.out).below HB9.out).below HB10.out).below HB11.out).below HB12.out).below HB13.out).below HB14.out).below HB15.out).below HB16.out).below HB17.out).below HB18.out).below HB19.out).below HB20.out).below HB21.out).below HB22.out).below HB23.out)).mono ?_); rintro e W24 ⟨rfl, hb⟩
       have HB24 := Lib.hid hb
       clear hb)
    | (fail "no arm"))
  skip
  all_goals (go_ret; exact ⟨rfl, (nat.below_tr (nat.below_tr (nat.below_tr (nat.below_tr (nat.below_tr (nat.below_tr (nat.below_tr (nat.below_tr (nat.below_tr (nat.below_tr (nat.below_tr (nat.below_tr (nat.below_tr (nat.below_tr (nat.below_tr (nat.below_tr (nat.below_tr (nat.below_tr (nat.below_tr (nat.below_tr (nat.below_tr (nat.below_tr (nat.below_tr HB1.out HB2.out) HB3.out) HB4.out) HB5.out) HB6.out) HB7.out) HB8.out) HB9.out) HB10.out) HB11.out) HB12.out) HB13.out) HB14.out) HB15.out) HB16.out) HB17.out) HB18.out) HB19.out) HB20.out) HB21.out) HB22.out) HB23.out) HB24.out)⟩)
end Go.Proofs.YtfpooimjjpamoaaGreatDoor.law2
