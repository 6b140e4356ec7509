/-
  NumEdge answers true for every number. Condition: begun answers true.
-/
import Derived.Test.YtfpooimjjpamoaaGreatDoorA38
namespace Go.Proofs.YtfpooimjjpamoaaGreatDoor.law2
open Go.RowKit Go.Proofs.YtfpooimjjpamoaaGreatDoor.nat
open Go.Proofs.YtfpooimjjpamoaaGreatDoor.ref (str)
set_option maxRecDepth 100000 in
set_option maxHeartbeats 4000000 in
theorem LwNumEdge (HBg : BegunC) (k : Int) (k1 : -9223372036854775808 ≤ k) (k2 : k < 9223372036854775808) (w : World) (hd : Hd w) :
    Calls Tryz.prog 19 #[.int .i64 k] w fun e w' => e = .returned (.bool true) ∧ Below w.heap.size w w' := by
  unfold BegunC at HBg
  have HBG := Lib.hid HBg
  have HG := Lib.hid hd
  clear HBg hd
  have K1 := Lib.hid k1
  have K2 := Lib.hid k2
  have c1 := fun (W : World)    => num.Of_any (-9223372036854775808) W (by decide) (by decide)
  have C1 := Lib.hid c1
  clear c1
  have c2 := fun (W : World)    => num.Of_any 9223372036854775807 W (by decide) (by decide)
  have C2 := Lib.hid c2
  clear c2
  have c3 := fun (W : World) (v0 : Value) (hh0 : num.IsZ W v0 (-9223372036854775808 : Int))  => num.Small_in v0 (-9223372036854775808 : Int) W hh0 (by decide) (by decide)
  have C3 := Lib.hid c3
  clear c3
  have c4 := fun (W : World) (v0 : Value) (hh0 : num.IsZ W v0 (9223372036854775807 : Int))  => num.Small_in v0 (9223372036854775807 : Int) W hh0 (by decide) (by decide)
  have C4 := Lib.hid c4
  clear c4
  have c5 := fun (W : World)    => num.Of_any 1 W (by decide) (by decide)
  have C5 := Lib.hid c5
  clear c5
  have c6 := fun (W : World) (v0 : Value) (v1 : Value) (hh0 : num.IsZ W v0 (-9223372036854775808 : Int)) (hh1 : num.IsZ W v1 (1 : Int))  => num.Sub_any v0 v1 (-9223372036854775808 : Int) (1 : Int) W hh0 hh1 ((Bz_small (by decide) (by decide)).nat (by decide)) ((Bz_small (by decide) (by decide)).nat (by decide))
  have C6 := Lib.hid c6
  clear c6
  have c7 := fun (W : World) (v0 : Value) (hh0 : num.IsZ W v0 ((-9223372036854775808 : Int) - (1 : Int)))  => num.Small_out v0 ((-9223372036854775808 : Int) - (1 : Int)) W hh0 (by decide)
  have C7 := Lib.hid c7
  clear c7
  have c8 := fun (W : World)    => num.Of_any 1 W (by decide) (by decide)
  have C8 := Lib.hid c8
  clear c8
  have c9 := fun (W : World) (v0 : Value) (v1 : Value) (hh0 : num.IsZ W v0 (9223372036854775807 : Int)) (hh1 : num.IsZ W v1 (1 : Int))  => num.Add_any v0 v1 (9223372036854775807 : Int) (1 : Int) W hh0 hh1 ((Bz_small (by decide) (by decide)).nat (by decide)) ((Bz_small (by decide) (by decide)).nat (by decide))
  have C9 := Lib.hid c9
  clear c9
  have c10 := fun (W : World) (v0 : Value) (hh0 : num.IsZ W v0 ((9223372036854775807 : Int) + (1 : Int)))  => num.Small_out v0 ((9223372036854775807 : Int) + (1 : Int)) W hh0 (by decide)
  have C10 := Lib.hid c10
  clear c10
  have c11 := fun (W : World) (v0 : Value) (hh0 : num.IsZ W v0 (-9223372036854775808 : Int))  => num.Neg_any v0 (-9223372036854775808 : Int) W hh0
  have C11 := Lib.hid c11
  clear c11
  have c12 := fun (W : World) (v0 : Value) (hh0 : num.IsZ W v0 (-(-9223372036854775808 : Int)))  => num.Small_out v0 (-(-9223372036854775808 : Int)) W hh0 (by decide)
  have C12 := Lib.hid c12
  clear c12
  have c13 := fun (W : World)    => num.Of_any k W K1.out K2.out
  have C13 := Lib.hid c13
  clear c13
  have c14 := fun (W : World) (v0 : Value) (v1 : Value) (hh0 : num.IsZ W v0 k) (hh1 : num.IsZ W v1 (-9223372036854775808 : Int))  => num.Add_any v0 v1 k (-9223372036854775808 : Int) W hh0 hh1 ((show Bz k 20 from Bz_small (by have := K1.out; omega) (by have := K2.out; omega)).nat (by decide)) ((Bz_small (by decide) (by decide)).nat (by decide))
  have C14 := Lib.hid c14
  clear c14
  have c15 := fun (W : World) (v0 : Value) (v1 : Value) (hh0 : num.IsZ W v0 (k + (-9223372036854775808 : Int))) (hh1 : num.IsZ W v1 (-9223372036854775808 : Int))  => num.Sub_any v0 v1 (k + (-9223372036854775808 : Int)) (-9223372036854775808 : Int) W hh0 hh1 ((Bz_add (show Bz k 20 from Bz_small (by have := K1.out; omega) (by have := K2.out; omega)) (Bz_small (by decide) (by decide))).nat (by decide)) ((Bz_small (by decide) (by decide)).nat (by decide))
  have C15 := Lib.hid c15
  clear c15
  have c16 := fun (W : World) (v0 : Value) (hh0 : num.IsZ W v0 k)  => num.Small_in v0 k W hh0 K1.out K2.out
  have C16 := Lib.hid c16
  clear c16
  have c17 := fun (W : World) (v0 : Value) (hh0 : num.IsZ W v0 (-9223372036854775808 : Int))  => num.Text_any v0 (-9223372036854775808 : Int) W hh0 ((Bz_small (by decide) (by decide)).nat (by decide))
  rw [low_text] at c17
  have C17 := Lib.hid c17
  clear c17
  have c18 := fun (W : World)    => num.New_any true (.pointer none) 0 W (Or.inl ⟨rfl, rfl⟩)
  have C18 := Lib.hid c18
  clear c18
  have c19 := fun (W : World) (v0 : Value) (hh0 : num.IsZ W v0 (0 : Int))  => num.Text_any v0 (0 : Int) W hh0 ((Bz_small (by decide) (by decide)).nat (by decide))
  rw [nought_text] at c19
  have C19 := Lib.hid c19
  clear c19
  go_enter Tryz.func19, Tryz.ntmps19
  go_wp2_with (first
    | (go_at_call 25; (with_reducible refine (HBG.out _ HG.out).mono ?_); rintro e W1 ⟨rfl, hb⟩
       have HB1 := Lib.hid hb
       clear hb)
    | (go_at_call 57; (with_reducible refine (C1.out _ ).mono ?_); rintro e W2 ⟨low, rfl, ⟨h_low, n_low⟩, hb⟩
       have H_low := Lib.hid h_low
       have N_low := Lib.hid n_low
       have HB2 := Lib.hid hb
       clear h_low n_low hb C1)
    | (go_at_call 57; (with_reducible refine (C2.out _ ).mono ?_); rintro e W3 ⟨high, rfl, ⟨h_high, n_high⟩, hb⟩
       have H_high := Lib.hid h_high
       have N_high := Lib.hid n_high
       have HB3 := Lib.hid hb
       clear h_high n_high hb C2)
    | (go_at_call 58; (with_reducible refine (C3.out _ _ (H_low.out.below HB3.out)).mono ?_); rintro e w9 ⟨rfl, rfl⟩
       clear C3)
    | (go_at_call 58; (with_reducible refine (C4.out _ _ H_high.out).mono ?_); rintro e w9 ⟨rfl, rfl⟩
       clear C4)
    | (go_at_call 57; (with_reducible refine (C5.out _ ).mono ?_); rintro e W4 ⟨o, rfl, ⟨h_o, n_o⟩, hb⟩
       have H_o := Lib.hid h_o
       have N_o := Lib.hid n_o
       have HB4 := Lib.hid hb
       clear h_o n_o hb C5)
    | (go_at_call 61; (with_reducible refine (C6.out _ _ _ ((H_low.out.below HB3.out).below HB4.out) H_o.out).mono ?_); rintro e W5 ⟨u, rfl, ⟨h_u, n_u⟩, hb⟩
       have H_u := Lib.hid h_u
       have N_u := Lib.hid n_u
       have HB5 := Lib.hid hb
       clear h_u n_u hb C6)
    | (go_at_call 58; (with_reducible refine (C7.out _ _ H_u.out).mono ?_); rintro e w9 ⟨rfl, rfl⟩
       clear C7)
    | (go_at_call 57; (with_reducible refine (C8.out _ ).mono ?_); rintro e W6 ⟨o2, rfl, ⟨h_o2, n_o2⟩, hb⟩
       have H_o2 := Lib.hid h_o2
       have N_o2 := Lib.hid n_o2
       have HB6 := Lib.hid hb
       clear h_o2 n_o2 hb C8)
    | (go_at_call 55; (with_reducible refine (C9.out _ _ _ (((H_high.out.below HB4.out).below HB5.out).below HB6.out) H_o2.out).mono ?_); rintro e W7 ⟨v, rfl, ⟨h_v, n_v⟩, hb⟩
       have H_v := Lib.hid h_v
       have N_v := Lib.hid n_v
       have HB7 := Lib.hid hb
       clear h_v n_v hb C9)
    | (go_at_call 58; (with_reducible refine (C10.out _ _ H_v.out).mono ?_); rintro e w9 ⟨rfl, rfl⟩
       clear C10)
    | (go_at_call 65; (with_reducible refine (C11.out _ _ (((((H_low.out.below HB3.out).below HB4.out).below HB5.out).below HB6.out).below HB7.out)).mono ?_); rintro e W8 ⟨m, rfl, ⟨h_m, n_m⟩, hb⟩
       have H_m := Lib.hid h_m
       have N_m := Lib.hid n_m
       have HB8 := Lib.hid hb
       clear h_m n_m hb C11)
    | (go_at_call 58; (with_reducible refine (C12.out _ _ H_m.out).mono ?_); rintro e w9 ⟨rfl, rfl⟩
       clear C12)
    | (go_at_call 57; (with_reducible refine (C13.out _ ).mono ?_); rintro e W9 ⟨kk, rfl, ⟨h_kk, n_kk⟩, hb⟩
       have H_kk := Lib.hid h_kk
       have N_kk := Lib.hid n_kk
       have HB9 := Lib.hid hb
       clear h_kk n_kk hb C13)
    | (go_at_call 55; (with_reducible refine (C14.out _ _ _ H_kk.out (((((((H_low.out.below HB3.out).below HB4.out).below HB5.out).below HB6.out).below HB7.out).below HB8.out).below HB9.out)).mono ?_); rintro e W10 ⟨x1, rfl, ⟨h_x1, n_x1⟩, hb⟩
       have H_x1 := Lib.hid h_x1
       have N_x1 := Lib.hid n_x1
       have HB10 := Lib.hid hb
       clear h_x1 n_x1 hb C14)
    | (go_at_call 61; (with_reducible refine (C15.out _ _ _ H_x1.out ((((((((H_low.out.below HB3.out).below HB4.out).below HB5.out).below HB6.out).below HB7.out).below HB8.out).below HB9.out).below HB10.out)).mono ?_); rintro e W11 ⟨x2, rfl, ⟨h_x2, n_x2⟩, hb⟩
       have H_x2 := Lib.hid h_x2
       have N_x2 := Lib.hid n_x2
       have HB11 := Lib.hid hb
       clear h_x2 n_x2 hb C15)
    | (go_at_call 58; (with_reducible refine (C16.out _ _ (show num.IsZ _ _ k from by have hz := H_x2.out; rwa [show ((k + (-9223372036854775808 : Int)) - (-9223372036854775808 : Int)) = k by omega] at hz)).mono ?_); rintro e w9 ⟨rfl, rfl⟩
       clear C16)
    | (go_at_call 52; (with_reducible refine (C17.out _ _ (((((((((H_low.out.below HB3.out).below HB4.out).below HB5.out).below HB6.out).below HB7.out).below HB8.out).below HB9.out).below HB10.out).below HB11.out)).mono ?_); rintro e W12 ⟨rfl, hb⟩
       have HB12 := Lib.hid hb
       clear hb C17)
    | (go_at_call 97; (with_reducible refine (C18.out _ ).mono ?_); rintro e W13 ⟨n, rfl, ⟨h_n, n_n⟩, hb⟩
       have H_n := Lib.hid h_n
       have N_n := Lib.hid n_n
       have HB13 := Lib.hid hb
       clear h_n n_n hb C18)
    | (go_at_call 52; (with_reducible refine (C19.out _ _ H_n.out).mono ?_); rintro e W14 ⟨rfl, hb⟩
       have HB14 := Lib.hid hb
       clear hb C19)
    | (fail "no arm"))
  skip
  all_goals (go_ret; exact ⟨rfl, (nat.below_tr (nat.below_tr (nat.below_tr (nat.below_tr (nat.below_tr (nat.below_tr (nat.below_tr (nat.below_tr (nat.below_tr (nat.below_tr (nat.below_tr (nat.below_tr (nat.below_tr HB1.out HB2.out) HB3.out) HB4.out) HB5.out) HB6.out) HB7.out) HB8.out) HB9.out) HB10.out) HB11.out) HB12.out) HB13.out) HB14.out)⟩)
end Go.Proofs.YtfpooimjjpamoaaGreatDoor.law2
