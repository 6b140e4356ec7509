/-
  RatLaws answers true for every four texts and two signs. Conditions: begun answers true; texts of at most 2^62 bytes.
-/
import Derived.Test.YtfpooimjjpamoaaGreatDoorB15
namespace Go.Proofs.YtfpooimjjpamoaaGreatDoor.law2
open Go.RowKit Go.Proofs.YtfpooimjjpamoaaGreatDoor.nat
open Go.Proofs.YtfpooimjjpamoaaGreatDoor.ref (str)
set_option maxRecDepth 100000 in
set_option maxHeartbeats 4000000 in
theorem LwRatLaws (HBg : BegunC) (s : List UInt8) (hs : s.length ≤ 4611686018427387904) (t : List UInt8) (ht : t.length ≤ 4611686018427387904) (u : List UInt8) (hu : u.length ≤ 4611686018427387904) (v : List UInt8) (hv : v.length ≤ 4611686018427387904) (m n : Bool) (w : World) (hd : Hd w) :
    Calls Tryz.prog 20 #[.string (str s), .string (str t), .string (str u), .string (str v), .bool m, .bool n] w fun e w' => e = .returned (.bool true) ∧ Below w.heap.size w w' := by
  unfold BegunC at HBg
  have HBG := Lib.hid HBg
  have HG := Lib.hid hd
  clear HBg hd
  have HR1 := Lib.hid (fun W => R_any s t m W hs ht)
  have HR2 := Lib.hid (fun W => R_any u v n W hu hv)
  have HR3 := Lib.hid (fun W => R_any s v n W hs hv)
  clear hs ht hu hv
  generalize str s = zs at *
  generalize str t = zt at *
  generalize str u = zu at *
  generalize str v = zv at *
  go_enter Tryz.func20, Tryz.ntmps20
  go_wp2_with (first
    | (go_at_call 25; (with_reducible refine (HBG.out _ HG.out).mono ?_); rintro e W1 ⟨rfl, hb⟩
       have HB1 := Lib.hid hb
       clear hb)
    | (go_at_call 81; (with_reducible refine (HR1.out _).mono ?_); rintro e W2 ⟨a, xa, za, da, rfl, ⟨hz, hd, h0⟩, ⟨ha, hna, hx⟩, hb⟩
       obtain ⟨p_a, rfl⟩ := ha.some hna
       obtain ⟨s_xa, t_xa, rfl, h3, h4⟩ := id hx
       obtain ⟨o_xa, c_xa, rfl⟩ := IsX_slice h3
       obtain ⟨u_xa, e_xa, rfl⟩ := IsX_slice h4
       obtain ⟨qa, hqa⟩ : ∃ q, q = ((za : Rat) / (da : Rat)) := ⟨_, rfl⟩
       rw [← hqa] at ha
       have H_a := Lib.hid ha
       have N_a := Lib.hid hna
       have H_xa := Lib.hid hx
       have L_qa := Lib.hid (Br_low h0 hqa hz hd)
       have E_qa := Lib.hid hqa
       have LZ_a := Lib.hid hz
       have LD_a := Lib.hid hd
       have P_a := Lib.hid h0
       have HB2 := Lib.hid hb
       have HB3 := Lib.hid (show Below W2.heap.size W2 (W2.alloc (.cells #[.bool (decide (za < 0)), .slice o_xa (ref.digs (Int.natAbs za)).length c_xa, .slice u_xa (ref.digs da).length e_xa] 86)) from (Below.refl _ _).alloc (Nat.le_refl _) _)
       clear ha hna hx hqa hz hd h0 hb h3 h4 HR1)
    | (go_at_call 81; (with_reducible refine (HR2.out _).mono ?_); rintro e W4 ⟨b, xb, zb, db, rfl, ⟨hz, hd, h0⟩, ⟨ha, hna, hx⟩, hb⟩
       obtain ⟨p_b, rfl⟩ := ha.some hna
       obtain ⟨s_xb, t_xb, rfl, h3, h4⟩ := id hx
       obtain ⟨o_xb, c_xb, rfl⟩ := IsX_slice h3
       obtain ⟨u_xb, e_xb, rfl⟩ := IsX_slice h4
       obtain ⟨qb, hqb⟩ : ∃ q, q = ((zb : Rat) / (db : Rat)) := ⟨_, rfl⟩
       rw [← hqb] at ha
       have H_b := Lib.hid ha
       have N_b := Lib.hid hna
       have H_xb := Lib.hid hx
       have L_qb := Lib.hid (Br_low h0 hqb hz hd)
       have E_qb := Lib.hid hqb
       have LZ_b := Lib.hid hz
       have LD_b := Lib.hid hd
       have P_b := Lib.hid h0
       have HB4 := Lib.hid hb
       have HB5 := Lib.hid (show Below W4.heap.size W4 (W4.alloc (.cells #[.bool (decide (zb < 0)), .slice o_xb (ref.digs (Int.natAbs zb)).length c_xb, .slice u_xb (ref.digs db).length e_xb] 86)) from (Below.refl _ _).alloc (Nat.le_refl _) _)
       clear ha hna hx hqb hz hd h0 hb h3 h4 HR2)
    | (go_at_call 81; (with_reducible refine (HR3.out _).mono ?_); rintro e W6 ⟨c, xc, zc, dc, rfl, ⟨hz, hd, h0⟩, ⟨ha, hna, hx⟩, hb⟩
       obtain ⟨p_c, rfl⟩ := ha.some hna
       obtain ⟨s_xc, t_xc, rfl, h3, h4⟩ := id hx
       obtain ⟨o_xc, c_xc, rfl⟩ := IsX_slice h3
       obtain ⟨u_xc, e_xc, rfl⟩ := IsX_slice h4
       obtain ⟨qc, hqc⟩ : ∃ q, q = ((zc : Rat) / (dc : Rat)) := ⟨_, rfl⟩
       rw [← hqc] at ha
       have H_c := Lib.hid ha
       have N_c := Lib.hid hna
       have H_xc := Lib.hid hx
       have L_qc := Lib.hid (Br_low h0 hqc hz hd)
       have E_qc := Lib.hid hqc
       have LZ_c := Lib.hid hz
       have LD_c := Lib.hid hd
       have P_c := Lib.hid h0
       have HB6 := Lib.hid hb
       have HB7 := Lib.hid (show Below W6.heap.size W6 (W6.alloc (.cells #[.bool (decide (zc < 0)), .slice o_xc (ref.digs (Int.natAbs zc)).length c_xc, .slice u_xc (ref.digs dc).length e_xc] 86)) from (Below.refl _ _).alloc (Nat.le_refl _) _)
       clear ha hna hx hqc hz hd h0 hb h3 h4 HR3)
    | (fail "no arm"))
  have c1 := fun (W : World)    => rat.Of_ok 1 1 W (by decide) (by decide) (by decide) (by decide) (by decide)
  rw [show (((1 : Int) : Rat) / ((1 : Int) : Rat)) = (1 : Rat) from by decide +kernel] at c1
  have C1 := Lib.hid c1
  clear c1
  have c2 := fun (W : World) (v0 : Value) (v1 : Value) (hh0 : rat.IsR W v0 qa) (hh1 : rat.IsR W v1 qb)  => rat.Add_any v0 v1 qa qb W hh0 hh1 (L_qa.out.rat (by decide)) (L_qb.out.rat (by decide))
  have C2 := Lib.hid c2
  clear c2
  have c3 := fun (W : World) (v0 : Value) (v1 : Value) (hh0 : rat.IsR W v0 qb) (hh1 : rat.IsR W v1 qa)  => rat.Add_any v0 v1 qb qa W hh0 hh1 (L_qb.out.rat (by decide)) (L_qa.out.rat (by decide))
  have C3 := Lib.hid c3
  clear c3
  have c4 := fun (W : World) (v0 : Value) (v1 : Value) (hh0 : rat.IsR W v0 (qa + qb)) (hh1 : rat.IsR W v1 (qb + qa))  => rat.Cmp_any v0 v1 (qa + qb) (qb + qa) W hh0 hh1 ((Br_add L_qa.out L_qb.out).rat (by decide)) ((Br_add L_qb.out L_qa.out).rat (by decide))
  rw [cmpR_eq (show (qa + qb) = (qb + qa) from Rat.add_comm _ _)] at c4
  have C4 := Lib.hid c4
  clear c4
  have c5 := fun (W : World) (v0 : Value) (v1 : Value) (hh0 : rat.IsR W v0 qb) (hh1 : rat.IsR W v1 qc)  => rat.Add_any v0 v1 qb qc W hh0 hh1 (L_qb.out.rat (by decide)) (L_qc.out.rat (by decide))
  have C5 := Lib.hid c5
  clear c5
  have c6 := fun (W : World) (v0 : Value) (v1 : Value) (hh0 : rat.IsR W v0 qa) (hh1 : rat.IsR W v1 (qb + qc))  => rat.Mul_any v0 v1 qa (qb + qc) W hh0 hh1 (L_qa.out.rat (by decide)) ((Br_add L_qb.out L_qc.out).rat (by decide))
  have C6 := Lib.hid c6
  clear c6
  have c7 := fun (W : World) (v0 : Value) (v1 : Value) (hh0 : rat.IsR W v0 qa) (hh1 : rat.IsR W v1 qb)  => rat.Mul_any v0 v1 qa qb W hh0 hh1 (L_qa.out.rat (by decide)) (L_qb.out.rat (by decide))
  have C7 := Lib.hid c7
  clear c7
  have c8 := fun (W : World) (v0 : Value) (v1 : Value) (hh0 : rat.IsR W v0 qa) (hh1 : rat.IsR W v1 qc)  => rat.Mul_any v0 v1 qa qc W hh0 hh1 (L_qa.out.rat (by decide)) (L_qc.out.rat (by decide))
  have C8 := Lib.hid c8
  clear c8
  have c9 := fun (W : World) (v0 : Value) (v1 : Value) (hh0 : rat.IsR W v0 (qa * qb)) (hh1 : rat.IsR W v1 (qa * qc))  => rat.Add_any v0 v1 (qa * qb) (qa * qc) W hh0 hh1 ((Br_mul L_qa.out L_qb.out).rat (by decide)) ((Br_mul L_qa.out L_qc.out).rat (by decide))
  have C9 := Lib.hid c9
  clear c9
  have c10 := fun (W : World) (v0 : Value) (v1 : Value) (hh0 : rat.IsR W v0 (qa * (qb + qc))) (hh1 : rat.IsR W v1 ((qa * qb) + (qa * qc)))  => rat.Cmp_any v0 v1 (qa * (qb + qc)) ((qa * qb) + (qa * qc)) W hh0 hh1 ((Br_mul L_qa.out (Br_add L_qb.out L_qc.out)).rat (by decide)) ((Br_add (Br_mul L_qa.out L_qb.out) (Br_mul L_qa.out L_qc.out)).rat (by decide))
  rw [cmpR_eq (show (qa * (qb + qc)) = ((qa * qb) + (qa * qc)) from Rat.mul_add _ _ _)] at c10
  have C10 := Lib.hid c10
  clear c10
  have c11 := fun (W : World) (v0 : Value) (v1 : Value) (hh0 : rat.IsR W v0 qa) (hh1 : rat.IsR W v1 qa)  => rat.Sub_any v0 v1 qa qa W hh0 hh1 (L_qa.out.rat (by decide)) (L_qa.out.rat (by decide))
  have C11 := Lib.hid c11
  clear c11
  have c12 := fun (W : World) (v0 : Value) (hh0 : rat.IsR W v0 (qa - qa))  => rat.Sign_any v0 (qa - qa) W hh0
  rw [show num.sg (qa - qa).num = 0 from by rw [Rat.sub_self]; rfl] at c12
  have C12 := Lib.hid c12
  clear c12
  have c13 := fun (W : World) (v0 : Value) (v1 : Value) (hh0 : rat.IsR W v0 qa) (hh1 : rat.IsR W v1 qb)  => rat.Sub_any v0 v1 qa qb W hh0 hh1 (L_qa.out.rat (by decide)) (L_qb.out.rat (by decide))
  have C13 := Lib.hid c13
  clear c13
  have c14 := fun (W : World) (v0 : Value) (hh0 : rat.IsR W v0 (qa - qb))  => rat.Sign_any v0 (qa - qb) W hh0
  rw [sg_sub] at c14
  have C14 := Lib.hid c14
  clear c14
  have c15 := fun (W : World) (v0 : Value) (v1 : Value) (hh0 : rat.IsR W v0 qa) (hh1 : rat.IsR W v1 qb)  => rat.Cmp_any v0 v1 qa qb W hh0 hh1 (L_qa.out.rat (by decide)) (L_qb.out.rat (by decide))
  have C15 := Lib.hid c15
  clear c15
  have c16 := fun (W : World) (v0 : Value) (hh0 : rat.IsR W v0 qa)  => rat.Num_any v0 qa W hh0
  have C16 := Lib.hid c16
  clear c16
  have c17 := fun (W : World) (v0 : Value) (hh0 : num.IsZ W v0 qa.num)  => num.Abs_any v0 qa.num W hh0
  have C17 := Lib.hid c17
  clear c17
  have c18 := fun (W : World) (v0 : Value) (hh0 : rat.IsR W v0 qa)  => rat.Den_any v0 qa W hh0
  have C18 := Lib.hid c18
  clear c18
  have c19 := fun (W : World) (v0 : Value) (hh0 : num.IsZ W v0 ((qa.den : Nat) : Int))  => num.Abs_any v0 ((qa.den : Nat) : Int) W hh0
  have C19 := Lib.hid c19
  clear c19
  have c20 := fun (W : World) (v0 : Value) (v1 : Value) (hh0 : nat.IsN W v0 (Int.natAbs qa.num)) (hh1 : nat.IsN W v1 (Int.natAbs ((qa.den : Nat) : Int)))  => nat.Gcd_any v0 v1 (Int.natAbs qa.num) (Int.natAbs ((qa.den : Nat) : Int)) W hh0 hh1 ((Bn_abs L_qa.out.1).nat (by decide)) ((Bn_abs (Bz_nat L_qa.out.2)).nat (by decide))
  have C20 := Lib.hid c20
  clear c20
  have c21 := fun (W : World) (v0 : Value) (hh0 : nat.IsN W v0 (Nat.gcd (Int.natAbs qa.num) (Int.natAbs ((qa.den : Nat) : Int))))  => nat.Text_any v0 (Nat.gcd (Int.natAbs qa.num) (Int.natAbs ((qa.den : Nat) : Int))) W hh0 ((Bn_gcd (Bn_abs L_qa.out.1) (Bn_abs (Bz_nat L_qa.out.2))).nat (by decide))
  rw [show str (Lib.decDigits (Nat.gcd (Int.natAbs qa.num) (Int.natAbs ((qa.den : Nat) : Int)))) = ⟨#[49]⟩ by rw [Int.natAbs_natCast, rat.cop, dec_one]] at c21
  have C21 := Lib.hid c21
  clear c21
  have c22 := fun (W : World) (v0 : Value) (hh0 : rat.IsR W v0 qa)  => rat.Den_any v0 qa W hh0
  have C22 := Lib.hid c22
  clear c22
  have c23 := fun (W : World) (v0 : Value) (hh0 : num.IsZ W v0 ((qa.den : Nat) : Int))  => num.Sign_any v0 ((qa.den : Nat) : Int) W hh0
  rw [show num.sg ((qa.den : Nat) : Int) = 1 from (num.sg_pos (by have := qa.den_pos; omega))] at c23
  have C23 := Lib.hid c23
  clear c23
  generalize rat.cmpR qa qb = cab at *
  go_wp2_with (first
    | (go_at_call 74; (with_reducible refine (C1.out _ ).mono ?_); rintro e W8 ⟨one, rfl, ⟨h_one, n_one⟩, hb⟩
       have H_one := Lib.hid h_one
       have N_one := Lib.hid n_one
       have HB8 := Lib.hid hb
       clear h_one n_one hb C1)
    | (go_at_call 98; (with_reducible refine (C2.out _ _ _ ((((((H_a.out.below HB3.out).below HB4.out).below HB5.out).below HB6.out).below HB7.out).below HB8.out) ((((H_b.out.below HB5.out).below HB6.out).below HB7.out).below HB8.out)).mono ?_); rintro e W9 ⟨x1, rfl, ⟨h_x1, n_x1⟩, hb⟩
       have H_x1 := Lib.hid h_x1
       have N_x1 := Lib.hid n_x1
       have HB9 := Lib.hid hb
       clear h_x1 n_x1 hb C2)
    | (go_at_call 98; (with_reducible refine (C3.out _ _ _ (((((H_b.out.below HB5.out).below HB6.out).below HB7.out).below HB8.out).below HB9.out) (((((((H_a.out.below HB3.out).below HB4.out).below HB5.out).below HB6.out).below HB7.out).below HB8.out).below HB9.out)).mono ?_); rintro e W10 ⟨x2, rfl, ⟨h_x2, n_x2⟩, hb⟩
       have H_x2 := Lib.hid h_x2
       have N_x2 := Lib.hid n_x2
       have HB10 := Lib.hid hb
       clear h_x2 n_x2 hb C3)
    | (go_at_call 77; (with_reducible refine (C4.out _ _ _ (H_x1.out.below HB10.out) H_x2.out).mono ?_); rintro e W11 ⟨rfl, hb⟩
       have HB11 := Lib.hid hb
       clear hb C4)
    | (go_at_call 98; (with_reducible refine (C5.out _ _ _ (((((((H_b.out.below HB5.out).below HB6.out).below HB7.out).below HB8.out).below HB9.out).below HB10.out).below HB11.out) (((((H_c.out.below HB7.out).below HB8.out).below HB9.out).below HB10.out).below HB11.out)).mono ?_); rintro e W12 ⟨x3, rfl, ⟨h_x3, n_x3⟩, hb⟩
       have H_x3 := Lib.hid h_x3
       have N_x3 := Lib.hid n_x3
       have HB12 := Lib.hid hb
       clear h_x3 n_x3 hb C5)
    | (go_at_call 91; (with_reducible refine (C6.out _ _ _ ((((((((((H_a.out.below HB3.out).below HB4.out).below HB5.out).below HB6.out).below HB7.out).below HB8.out).below HB9.out).below HB10.out).below HB11.out).below HB12.out) H_x3.out).mono ?_); rintro e W13 ⟨x4, rfl, ⟨h_x4, n_x4⟩, hb⟩
       have H_x4 := Lib.hid h_x4
       have N_x4 := Lib.hid n_x4
       have HB13 := Lib.hid hb
       clear h_x4 n_x4 hb C6)
    | (go_at_call 91; (with_reducible refine (C7.out _ _ _ (((((((((((H_a.out.below HB3.out).below HB4.out).below HB5.out).below HB6.out).below HB7.out).below HB8.out).below HB9.out).below HB10.out).below HB11.out).below HB12.out).below HB13.out) (((((((((H_b.out.below HB5.out).below HB6.out).below HB7.out).below HB8.out).below HB9.out).below HB10.out).below HB11.out).below HB12.out).below HB13.out)).mono ?_); rintro e W14 ⟨x5, rfl, ⟨h_x5, n_x5⟩, hb⟩
       have H_x5 := Lib.hid h_x5
       have N_x5 := Lib.hid n_x5
       have HB14 := Lib.hid hb
       clear h_x5 n_x5 hb C7)
    | (go_at_call 91; (with_reducible refine (C8.out _ _ _ ((((((((((((H_a.out.below HB3.out).below HB4.out).below HB5.out).below HB6.out).below HB7.out).below HB8.out).below HB9.out).below HB10.out).below HB11.out).below HB12.out).below HB13.out).below HB14.out) ((((((((H_c.out.below HB7.out).below HB8.out).below HB9.out).below HB10.out).below HB11.out).below HB12.out).below HB13.out).below HB14.out)).mono ?_); rintro e W15 ⟨x6, rfl, ⟨h_x6, n_x6⟩, hb⟩
       have H_x6 := Lib.hid h_x6
       have N_x6 := Lib.hid n_x6
       have HB15 := Lib.hid hb
       clear h_x6 n_x6 hb C8)
    | (go_at_call 98; (with_reducible refine (C9.out _ _ _ (H_x5.out.below HB15.out) H_x6.out).mono ?_); rintro e W16 ⟨x7, rfl, ⟨h_x7, n_x7⟩, hb⟩
       have H_x7 := Lib.hid h_x7
       have N_x7 := Lib.hid n_x7
       have HB16 := Lib.hid hb
       clear h_x7 n_x7 hb C9)
    | (go_at_call 77; (with_reducible refine (C10.out _ _ _ (((H_x4.out.below HB14.out).below HB15.out).below HB16.out) H_x7.out).mono ?_); rintro e W17 ⟨rfl, hb⟩
       have HB17 := Lib.hid hb
       clear hb C10)
    | (go_at_call 89; (with_reducible refine (C11.out _ _ _ (((((((((((((((H_a.out.below HB3.out).below HB4.out).below HB5.out).below HB6.out).below HB7.out).below HB8.out).below HB9.out).below HB10.out).below HB11.out).below HB12.out).below HB13.out).below HB14.out).below HB15.out).below HB16.out).below HB17.out) (((((((((((((((H_a.out.below HB3.out).below HB4.out).below HB5.out).below HB6.out).below HB7.out).below HB8.out).below HB9.out).below HB10.out).below HB11.out).below HB12.out).below HB13.out).below HB14.out).below HB15.out).below HB16.out).below HB17.out)).mono ?_); rintro e W18 ⟨y1, rfl, ⟨h_y1, n_y1⟩, hb⟩
       have H_y1 := Lib.hid h_y1
       have N_y1 := Lib.hid n_y1
       have HB18 := Lib.hid hb
       clear h_y1 n_y1 hb C11)
    | (go_at_call 90; (with_reducible refine (C12.out _ _ H_y1.out).mono ?_); rintro e W19 ⟨rfl, hb⟩
       have HB19 := Lib.hid hb
       clear hb C12)
    | (go_at_call 89; (with_reducible refine (C13.out _ _ _ (((((((((((((((((H_a.out.below HB3.out).below HB4.out).below HB5.out).below HB6.out).below HB7.out).below HB8.out).below HB9.out).below HB10.out).below HB11.out).below HB12.out).below HB13.out).below HB14.out).below HB15.out).below HB16.out).below HB17.out).below HB18.out).below HB19.out) (((((((((((((((H_b.out.below HB5.out).below HB6.out).below HB7.out).below HB8.out).below HB9.out).below HB10.out).below HB11.out).below HB12.out).below HB13.out).below HB14.out).below HB15.out).below HB16.out).below HB17.out).below HB18.out).below HB19.out)).mono ?_); rintro e W20 ⟨y2, rfl, ⟨h_y2, n_y2⟩, hb⟩
       have H_y2 := Lib.hid h_y2
       have N_y2 := Lib.hid n_y2
       have HB20 := Lib.hid hb
       clear h_y2 n_y2 hb C13)
    | (go_at_call 90; (with_reducible refine (C14.out _ _ H_y2.out).mono ?_); rintro e W21 ⟨rfl, hb⟩
       have HB21 := Lib.hid hb
       clear hb C14)
    | (go_at_call 77; (with_reducible refine (C15.out _ _ _ (((((((((((((((((((H_a.out.below HB3.out).below HB4.out).below HB5.out).below HB6.out).below HB7.out).below HB8.out).below HB9.out).below HB10.out).below HB11.out).below HB12.out).below HB13.out).below HB14.out).below HB15.out).below HB16.out).below HB17.out).below HB18.out).below HB19.out).below HB20.out).below HB21.out) (((((((((((((((((H_b.out.below HB5.out).below HB6.out).below HB7.out).below HB8.out).below HB9.out).below HB10.out).below HB11.out).below HB12.out).below HB13.out).below HB14.out).below HB15.out).below HB16.out).below HB17.out).below HB18.out).below HB19.out).below HB20.out).below HB21.out)).mono ?_); rintro e W22 ⟨rfl, hb⟩
       have HB22 := Lib.hid hb
       clear hb C15)
    | (go_at_call 99; (with_reducible refine (C16.out _ _ ((((((((((((((((((((H_a.out.below HB3.out).below HB4.out).below HB5.out).below HB6.out).below HB7.out).below HB8.out).below HB9.out).below HB10.out).below HB11.out).below HB12.out).below HB13.out).below HB14.out).below HB15.out).below HB16.out).below HB17.out).below HB18.out).below HB19.out).below HB20.out).below HB21.out).below HB22.out)).mono ?_); rintro e W23 ⟨n1, rfl, ⟨h_n1, n_n1⟩, hb⟩
       have H_n1 := Lib.hid h_n1
       have N_n1 := Lib.hid n_n1
       have HB23 := Lib.hid hb
       clear h_n1 n_n1 hb C16)
    | (go_at_call 66; (with_reducible refine (C17.out _ _ H_n1.out).mono ?_); rintro e W24 ⟨n2, rfl, ⟨h_n2, n_n2⟩, hb⟩
       have H_n2 := Lib.hid h_n2
       have N_n2 := Lib.hid n_n2
       have HB24 := Lib.hid hb
       clear h_n2 n_n2 hb C17)
    | (go_at_call 95; (with_reducible refine (C18.out _ _ ((((((((((((((((((((((H_a.out.below HB3.out).below HB4.out).below HB5.out).below HB6.out).below HB7.out).below HB8.out).below HB9.out).below HB10.out).below HB11.out).below HB12.out).below HB13.out).below HB14.out).below HB15.out).below HB16.out).below HB17.out).below HB18.out).below HB19.out).below HB20.out).below HB21.out).below HB22.out).below HB23.out).below HB24.out)).mono ?_); rintro e W25 ⟨n3, rfl, ⟨h_n3, n_n3⟩, hb⟩
       have H_n3 := Lib.hid h_n3
       have N_n3 := Lib.hid n_n3
       have HB25 := Lib.hid hb
       clear h_n3 n_n3 hb C18)
    | (go_at_call 66; (with_reducible refine (C19.out _ _ H_n3.out).mono ?_); rintro e W26 ⟨n4, rfl, ⟨h_n4, n_n4⟩, hb⟩
       have H_n4 := Lib.hid h_n4
       have N_n4 := Lib.hid n_n4
       have HB26 := Lib.hid hb
       clear h_n4 n_n4 hb C19)
    | (go_at_call 40; (with_reducible refine (C20.out _ _ _ ((H_n2.out.below HB25.out).below HB26.out) H_n4.out).mono ?_); rintro e W27 ⟨n5, rfl, ⟨h_n5, n_n5⟩, hb⟩
       have H_n5 := Lib.hid h_n5
       have N_n5 := Lib.hid n_n5
       have HB27 := Lib.hid hb
       clear h_n5 n_n5 hb C20)
    | (go_at_call 30; (with_reducible refine (C21.out _ _ H_n5.out).mono ?_); rintro e W28 ⟨rfl, hb⟩
       have HB28 := Lib.hid hb
       clear hb C21)
    | (go_at_call 95; (with_reducible refine (C22.out _ _ ((((((((((((((((((((((((((H_a.out.below HB3.out).below HB4.out).below HB5.out).below HB6.out).below HB7.out).below HB8.out).below HB9.out).below HB10.out).below HB11.out).below HB12.out).below HB13.out).below HB14.out).below HB15.out).below HB16.out).below HB17.out).below HB18.out).below HB19.out).below HB20.out).below HB21.out).below HB22.out).below HB23.out).below HB24.out).below HB25.out).below HB26.out).below HB27.out).below HB28.out)).mono ?_); rintro e W29 ⟨n6, rfl, ⟨h_n6, n_n6⟩, hb⟩
       have H_n6 := Lib.hid h_n6
       have N_n6 := Lib.hid n_n6
       have HB29 := Lib.hid hb
       clear h_n6 n_n6 hb C22)
    | (go_at_call 67; (with_reducible refine (C23.out _ _ H_n6.out).mono ?_); rintro e w9 ⟨rfl, rfl⟩
       clear C23)
    | (fail "no arm"))
  by_cases hb0 : qb = 0
  · have HB0 := Lib.hid hb0
    clear hb0
    have cx24 := fun (W : World) (v0 : Value) (hh0 : rat.IsR W v0 qb)  => rat.Sign_any v0 qb W hh0
    rw [show num.sg qb.num = 0 from by rw [HB0.out]; rfl] at cx24
    have Cx24 := Lib.hid cx24
    clear cx24
    go_wp2_with (first
      | (go_at_call 90; (with_reducible refine (Cx24.out _ _ (((((((((((((((((((((((((H_b.out.below HB5.out).below HB6.out).below HB7.out).below HB8.out).below HB9.out).below HB10.out).below HB11.out).below HB12.out).below HB13.out).below HB14.out).below HB15.out).below HB16.out).below HB17.out).below HB18.out).below HB19.out).below HB20.out).below HB21.out).below HB22.out).below HB23.out).below HB24.out).below HB25.out).below HB26.out).below HB27.out).below HB28.out).below HB29.out)).mono ?_); rintro e W30 ⟨rfl, hb⟩
         have HB30 := Lib.hid hb
         clear hb Cx24)
      | (fail "no arm"))
    skip
    all_goals (go_ret; exact ⟨rfl, (nat.below_tr (nat.below_tr (nat.below_tr (nat.below_tr (nat.below_tr (nat.below_tr (nat.below_tr (nat.below_tr (nat.below_tr (nat.below_tr (nat.below_tr (nat.below_tr (nat.below_tr (nat.below_tr (nat.below_tr (nat.below_tr (nat.below_tr (nat.below_tr (nat.below_tr (nat.below_tr (nat.below_tr (nat.below_tr (nat.below_tr (nat.below_tr (nat.below_tr (nat.below_tr (nat.below_tr (nat.below_tr (nat.below_tr HB1.out HB2.out) HB3.out) HB4.out) HB5.out) HB6.out) HB7.out) HB8.out) HB9.out) HB10.out) HB11.out) HB12.out) HB13.out) HB14.out) HB15.out) HB16.out) HB17.out) HB18.out) HB19.out) HB20.out) HB21.out) HB22.out) HB23.out) HB24.out) HB25.out) HB26.out) HB27.out) HB28.out) HB29.out) HB30.out)⟩)
  · have HB0 := Lib.hid hb0
    have hsg := rat.sg_ne (rat.num_ne hb0)
    clear hb0
    have cx24 := fun (W : World) (v0 : Value) (hh0 : rat.IsR W v0 qb)  => rat.Sign_any v0 qb W hh0
    have Cx24 := Lib.hid cx24
    clear cx24
    have cx25 := fun (W : World) (v0 : Value) (v1 : Value) (hh0 : rat.IsR W v0 qa) (hh1 : rat.IsR W v1 qb)  => rat.Div_ok v0 v1 qa qb W hh0 hh1 (L_qa.out.rat (by decide)) (L_qb.out.rat (by decide)) HB0.out
    have Cx25 := Lib.hid cx25
    clear cx25
    have cx26 := fun (W : World) (v0 : Value) (hh0 : rat.IsR W v0 qb)  => rat.Pow_down v0 qb (-1) W hh0 (L_qb.out.rat (by decide)) (by decide) (by decide) ((show rat.Lr (qb⁻¹ ^ (Int.natAbs (-1))) 800000 from by rw [show Int.natAbs (-1) = 1 from rfl, Rat.pow_one]; exact (Br_inv L_qb.out).rat (by decide))) (by decide) HB0.out
    rw [show qb⁻¹ ^ (Int.natAbs (-1)) = qb⁻¹ from Rat.pow_one _] at cx26
    have Cx26 := Lib.hid cx26
    clear cx26
    have cx27 := fun (W : World) (v0 : Value) (v1 : Value) (hh0 : rat.IsR W v0 (qa / qb)) (hh1 : rat.IsR W v1 qb)  => rat.Mul_any v0 v1 (qa / qb) qb W hh0 hh1 ((Br_div L_qa.out L_qb.out).rat (by decide)) (L_qb.out.rat (by decide))
    have Cx27 := Lib.hid cx27
    clear cx27
    have cx28 := fun (W : World) (v0 : Value) (v1 : Value) (hh0 : rat.IsR W v0 ((qa / qb) * qb)) (hh1 : rat.IsR W v1 qa)  => rat.Cmp_any v0 v1 ((qa / qb) * qb) qa W hh0 hh1 ((Br_mul (Br_div L_qa.out L_qb.out) L_qb.out).rat (by decide)) (L_qa.out.rat (by decide))
    rw [cmpR_eq (show ((qa / qb) * qb) = qa from (Rat.div_mul_cancel HB0.out))] at cx28
    have Cx28 := Lib.hid cx28
    clear cx28
    have cx29 := fun (W : World) (v0 : Value) (v1 : Value) (hh0 : rat.IsR W v0 (qb⁻¹)) (hh1 : rat.IsR W v1 qb)  => rat.Mul_any v0 v1 (qb⁻¹) qb W hh0 hh1 ((Br_inv L_qb.out).rat (by decide)) (L_qb.out.rat (by decide))
    have Cx29 := Lib.hid cx29
    clear cx29
    have cx30 := fun (W : World) (v0 : Value) (v1 : Value) (hh0 : rat.IsR W v0 ((qb⁻¹) * qb)) (hh1 : rat.IsR W v1 ((1 : Rat)))  => rat.Cmp_any v0 v1 ((qb⁻¹) * qb) ((1 : Rat)) W hh0 hh1 ((Br_mul (Br_inv L_qb.out) L_qb.out).rat (by decide)) ((show Br (1 : Rat) 20 from Br_lowz (z := 1) (y := 1) (by decide) (by decide +kernel) (Bz_small (by decide) (by decide)) (Bz_small (by decide) (by decide))).rat (by decide))
    rw [cmpR_eq (show ((qb⁻¹) * qb) = ((1 : Rat)) from (Rat.inv_mul_cancel _ HB0.out))] at cx30
    have Cx30 := Lib.hid cx30
    clear cx30
    have cx31 := fun (W : World) (v0 : Value) (v1 : Value) (hh0 : rat.IsR W v0 qa) (hh1 : rat.IsR W v1 (qb⁻¹))  => rat.Mul_any v0 v1 qa (qb⁻¹) W hh0 hh1 (L_qa.out.rat (by decide)) ((Br_inv L_qb.out).rat (by decide))
    have Cx31 := Lib.hid cx31
    clear cx31
    have cx32 := fun (W : World) (v0 : Value) (v1 : Value) (hh0 : rat.IsR W v0 (qa * (qb⁻¹))) (hh1 : rat.IsR W v1 (qa / qb))  => rat.Cmp_any v0 v1 (qa * (qb⁻¹)) (qa / qb) W hh0 hh1 ((Br_mul L_qa.out (Br_inv L_qb.out)).rat (by decide)) ((Br_div L_qa.out L_qb.out).rat (by decide))
    rw [cmpR_eq (show (qa * (qb⁻¹)) = (qa / qb) from (Rat.div_def _ _).symm)] at cx32
    have Cx32 := Lib.hid cx32
    clear cx32
    generalize num.sg qb.num = sb at *
    go_wp2_with (first
      | (go_at_call 90; (with_reducible refine (Cx24.out _ _ (((((((((((((((((((((((((H_b.out.below HB5.out).below HB6.out).below HB7.out).below HB8.out).below HB9.out).below HB10.out).below HB11.out).below HB12.out).below HB13.out).below HB14.out).below HB15.out).below HB16.out).below HB17.out).below HB18.out).below HB19.out).below HB20.out).below HB21.out).below HB22.out).below HB23.out).below HB24.out).below HB25.out).below HB26.out).below HB27.out).below HB28.out).below HB29.out)).mono ?_); rintro e W30 ⟨rfl, hb⟩
         have HB30 := Lib.hid hb
         clear hb Cx24)
      | (go_at_call 88; (with_reducible refine (Cx25.out _ _ _ ((((((((((((((((((((((((((((H_a.out.below HB3.out).below HB4.out).below HB5.out).below HB6.out).below HB7.out).below HB8.out).below HB9.out).below HB10.out).below HB11.out).below HB12.out).below HB13.out).below HB14.out).below HB15.out).below HB16.out).below HB17.out).below HB18.out).below HB19.out).below HB20.out).below HB21.out).below HB22.out).below HB23.out).below HB24.out).below HB25.out).below HB26.out).below HB27.out).below HB28.out).below HB29.out).below HB30.out) ((((((((((((((((((((((((((H_b.out.below HB5.out).below HB6.out).below HB7.out).below HB8.out).below HB9.out).below HB10.out).below HB11.out).below HB12.out).below HB13.out).below HB14.out).below HB15.out).below HB16.out).below HB17.out).below HB18.out).below HB19.out).below HB20.out).below HB21.out).below HB22.out).below HB23.out).below HB24.out).below HB25.out).below HB26.out).below HB27.out).below HB28.out).below HB29.out).below HB30.out)).mono ?_); rintro e W31 ⟨q, rfl, ⟨h_q, n_q⟩, hb⟩
         have H_q := Lib.hid h_q
         have N_q := Lib.hid n_q
         have HB31 := Lib.hid hb
         clear h_q n_q hb Cx25)
      | (go_at_call 100; (with_reducible refine (Cx26.out _ _ (((((((((((((((((((((((((((H_b.out.below HB5.out).below HB6.out).below HB7.out).below HB8.out).below HB9.out).below HB10.out).below HB11.out).below HB12.out).below HB13.out).below HB14.out).below HB15.out).below HB16.out).below HB17.out).below HB18.out).below HB19.out).below HB20.out).below HB21.out).below HB22.out).below HB23.out).below HB24.out).below HB25.out).below HB26.out).below HB27.out).below HB28.out).below HB29.out).below HB30.out).below HB31.out)).mono ?_); rintro e W32 ⟨i, rfl, ⟨h_i, n_i⟩, hb⟩
         have H_i := Lib.hid h_i
         have N_i := Lib.hid n_i
         have HB32 := Lib.hid hb
         clear h_i n_i hb Cx26)
      | (go_at_call 91; (with_reducible refine (Cx27.out _ _ _ (H_q.out.below HB32.out) ((((((((((((((((((((((((((((H_b.out.below HB5.out).below HB6.out).below HB7.out).below HB8.out).below HB9.out).below HB10.out).below HB11.out).below HB12.out).below HB13.out).below HB14.out).below HB15.out).below HB16.out).below HB17.out).below HB18.out).below HB19.out).below HB20.out).below HB21.out).below HB22.out).below HB23.out).below HB24.out).below HB25.out).below HB26.out).below HB27.out).below HB28.out).below HB29.out).below HB30.out).below HB31.out).below HB32.out)).mono ?_); rintro e W33 ⟨u1, rfl, ⟨h_u1, n_u1⟩, hb⟩
         have H_u1 := Lib.hid h_u1
         have N_u1 := Lib.hid n_u1
         have HB33 := Lib.hid hb
         clear h_u1 n_u1 hb Cx27)
      | (go_at_call 77; (with_reducible refine (Cx28.out _ _ _ H_u1.out (((((((((((((((((((((((((((((((H_a.out.below HB3.out).below HB4.out).below HB5.out).below HB6.out).below HB7.out).below HB8.out).below HB9.out).below HB10.out).below HB11.out).below HB12.out).below HB13.out).below HB14.out).below HB15.out).below HB16.out).below HB17.out).below HB18.out).below HB19.out).below HB20.out).below HB21.out).below HB22.out).below HB23.out).below HB24.out).below HB25.out).below HB26.out).below HB27.out).below HB28.out).below HB29.out).below HB30.out).below HB31.out).below HB32.out).below HB33.out)).mono ?_); rintro e W34 ⟨rfl, hb⟩
         have HB34 := Lib.hid hb
         clear hb Cx28)
      | (go_at_call 91; (with_reducible refine (Cx29.out _ _ _ ((H_i.out.below HB33.out).below HB34.out) ((((((((((((((((((((((((((((((H_b.out.below HB5.out).below HB6.out).below HB7.out).below HB8.out).below HB9.out).below HB10.out).below HB11.out).below HB12.out).below HB13.out).below HB14.out).below HB15.out).below HB16.out).below HB17.out).below HB18.out).below HB19.out).below HB20.out).below HB21.out).below HB22.out).below HB23.out).below HB24.out).below HB25.out).below HB26.out).below HB27.out).below HB28.out).below HB29.out).below HB30.out).below HB31.out).below HB32.out).below HB33.out).below HB34.out)).mono ?_); rintro e W35 ⟨u2, rfl, ⟨h_u2, n_u2⟩, hb⟩
         have H_u2 := Lib.hid h_u2
         have N_u2 := Lib.hid n_u2
         have HB35 := Lib.hid hb
         clear h_u2 n_u2 hb Cx29)
      | (go_at_call 77; (with_reducible refine (Cx30.out _ _ _ H_u2.out (((((((((((((((((((((((((((H_one.out.below HB9.out).below HB10.out).below HB11.out).below HB12.out).below HB13.out).below HB14.out).below HB15.out).below HB16.out).below HB17.out).below HB18.out).below HB19.out).below HB20.out).below HB21.out).below HB22.out).below HB23.out).below HB24.out).below HB25.out).below HB26.out).below HB27.out).below HB28.out).below HB29.out).below HB30.out).below HB31.out).below HB32.out).below HB33.out).below HB34.out).below HB35.out)).mono ?_); rintro e W36 ⟨rfl, hb⟩
         have HB36 := Lib.hid hb
         clear hb Cx30)
      | (go_at_call 91; (with_reducible refine (Cx31.out _ _ _ ((((((((((((((((((((((((((((((((((H_a.out.below HB3.out).below HB4.out).below HB5.out).below HB6.out).below HB7.out).below HB8.out).below HB9.out).below HB10.out).below HB11.out).below HB12.out).below HB13.out).below HB14.out).below HB15.out).below HB16.out).below HB17.out).below HB18.out).below HB19.out).below HB20.out).below HB21.out).below HB22.out).below HB23.out).below HB24.out).below HB25.out).below HB26.out).below HB27.out).below HB28.out).below HB29.out).below HB30.out).below HB31.out).below HB32.out).below HB33.out).below HB34.out).below HB35.out).below HB36.out) ((((H_i.out.below HB33.out).below HB34.out).below HB35.out).below HB36.out)).mono ?_); rintro e W37 ⟨u3, rfl, ⟨h_u3, n_u3⟩, hb⟩
         have H_u3 := Lib.hid h_u3
         have N_u3 := Lib.hid n_u3
         have HB37 := Lib.hid hb
         clear h_u3 n_u3 hb Cx31)
      | (go_at_call 77; (with_reducible refine (Cx32.out _ _ _ H_u3.out ((((((H_q.out.below HB32.out).below HB33.out).below HB34.out).below HB35.out).below HB36.out).below HB37.out)).mono ?_); rintro e W38 ⟨rfl, hb⟩
         have HB38 := Lib.hid hb
         clear hb Cx32)
      | (fail "no arm"))
    skip
    all_goals (go_ret; exact ⟨rfl, (nat.below_tr (nat.below_tr (nat.below_tr (nat.below_tr (nat.below_tr (nat.below_tr (nat.below_tr (nat.below_tr (nat.below_tr (nat.below_tr (nat.below_tr (nat.below_tr (nat.below_tr (nat.below_tr (nat.below_tr (nat.below_tr (nat.below_tr (nat.below_tr (nat.below_tr (nat.below_tr (nat.below_tr (nat.below_tr (nat.below_tr (nat.below_tr (nat.below_tr (nat.below_tr (nat.below_tr (nat.below_tr (nat.below_tr (nat.below_tr (nat.below_tr (nat.below_tr (nat.below_tr (nat.below_tr (nat.below_tr (nat.below_tr (nat.below_tr HB1.out HB2.out) HB3.out) HB4.out) HB5.out) HB6.out) HB7.out) HB8.out) HB9.out) HB10.out) HB11.out) HB12.out) HB13.out) HB14.out) HB15.out) HB16.out) HB17.out) HB18.out) HB19.out) HB20.out) HB21.out) HB22.out) HB23.out) HB24.out) HB25.out) HB26.out) HB27.out) HB28.out) HB29.out) HB30.out) HB31.out) HB32.out) HB33.out) HB34.out) HB35.out) HB36.out) HB37.out) HB38.out)⟩)
end Go.Proofs.YtfpooimjjpamoaaGreatDoor.law2
