/-
  NatDigit answers true for every four numbers. Condition: begun answers true.
-/
import Derived.Test.YtfpooimjjpamoaaGreatDoorA38
namespace Go.Proofs.YtfpooimjjpamoaaGreatDoor.law2
open Go.RowKit Go.Proofs.YtfpooimjjpamoaaGreatDoor.nat
open Go.Proofs.YtfpooimjjpamoaaGreatDoor.ref (str)
def DigRel (w : World) (K : Nat) (bv iv : Value) (wr : World) : Prop :=
  ∃ i B : Nat, i ≤ K ∧ iv = .int .i64 i ∧ nat.IsN wr bv B ∧ 0 < B ∧ Bn B (20 + 41 * i) ∧ Below w.heap.size w wr
def DigRel2 (w : World) (K : Nat) (bv iv : Value) (wr : World) : Prop :=
  ∃ i A : Nat, i ≤ K ∧ iv = .int .i64 i ∧ nat.IsN wr bv A ∧ Bn A (300 + 41 * i) ∧ Below w.heap.size w wr
set_option maxRecDepth 100000 in
set_option maxHeartbeats 4000000 in
theorem LwNatDigit (HBg : BegunC) (n : Nat) (hn : n < 18446744073709551616) (m : Nat) (hm : m < 18446744073709551616) (k : Int) (_k1 : -9223372036854775808 ≤ k) (_k2 : k < 9223372036854775808) (j : Int) (_j1 : -9223372036854775808 ≤ j) (_j2 : j < 9223372036854775808) (w : World) (hd : Hd w) :
    Calls Tryz.prog 14 #[.int .u64 (n : Int), .int .u64 (m : Int), .int .i64 k, .int .i64 j] w fun e w' => e = .returned (.bool true) ∧ Below w.heap.size w w' := by
  unfold BegunC at HBg
  have HBG := Lib.hid HBg
  have HG := Lib.hid hd
  clear HBg hd
  have t1 : -5 < k.tmod 5 := Int.lt_tmod_of_pos k (by decide)
  have t2 : k.tmod 5 < 5 := Int.tmod_lt_of_pos k (by decide)
  have t3 : -5 < j.tmod 5 := Int.lt_tmod_of_pos j (by decide)
  have t4 : j.tmod 5 < 5 := Int.tmod_lt_of_pos j (by decide)
  obtain ⟨K, hK⟩ : ∃ K : Nat, (k.tmod 5 + 5) % 5 = (K : Int) := ⟨((k.tmod 5 + 5) % 5).toNat, by omega⟩
  obtain ⟨J, hJ⟩ : ∃ J : Nat, (j.tmod 5 + 5) % 5 = (J : Int) := ⟨((j.tmod 5 + 5) % 5).toNat, by omega⟩
  have hK2 : K < 5 := by omega
  have hJ2 : J < 5 := by omega
  have HH := Lib.hid (fun W => nat.Of_int (9223372036854775808 + (n : Int) / 2) (9223372036854775808 + n / 2) (by omega) (by omega) W)
  have ON := Lib.hid (fun W => nat.Of_int (n : Int) n rfl hn W)
  have OM := Lib.hid (fun W => nat.Of_int (m : Int) m rfl hm W)
  have OF := Lib.hid (fun W => nat.Of_int 18446744073709551615 18446744073709551615 rfl (by decide) W)
  have hbit : bits .and .u64 (m : Int) 7 = ((m % 8 : Nat) : Int) := by
    have h := bits_and_u64_nat m 7 hm (by omega)
    have e : m &&& 7 = m % 8 := Nat.and_two_pow_sub_one_eq_mod m 3
    rw [e] at h
    exact h
  obtain ⟨m8, hm8⟩ : ∃ m8, m8 = m % 8 := ⟨_, rfl⟩
  rw [← hm8] at hbit
  have hm9 : (m8 : Int) < 8 := by omega
  have hmI : (m : Int) < 18446744073709551616 := by omega
  have hmI0 : (0 : Int) ≤ (m : Int) := by omega
  have hnI : (n : Int) < 18446744073709551616 := by omega
  have OC := Lib.hid (fun W => nat.Of_int (18446744073709551615 - (m8 : Int)) (18446744073709551615 - m8) (by omega) (by omega) W)
  have L_n := Lib.hid (show Bn n 20 from Bn_small hn)
  have L_m := Lib.hid (show Bn m 20 from Bn_small hm)
  have L_h := Lib.hid (show Bn (9223372036854775808 + n / 2) 20 from Bn_small (by omega))
  have L_c := Lib.hid (show Bn (18446744073709551615 - m8) 20 from Bn_small (by omega))
  have HC0 := Lib.hid (show 1 ≤ 18446744073709551615 - m8 from by omega)
  clear hn hm hm8
  go_enter Tryz.func14, Tryz.ntmps14
  go_wp2_with (first
    | (go_at_call 25; (with_reducible refine (HBG.out _ HG.out).mono ?_); rintro e W1 ⟨rfl, hb⟩
       have HB1 := Lib.hid hb
       clear hb)
    | (go_at_call 46; (with_reducible refine (HH.out _).mono ?_); rintro e W2 ⟨b, rfl, ⟨h_b, n_b⟩, hb⟩
       have H_b := Lib.hid h_b
       have N_b := Lib.hid n_b
       have HB2 := Lib.hid hb
       clear h_b n_b hb HH)
    | (fail "no arm"))
  go_loopw [11, 12] (fun bv iv wr => DigRel W2 (K + 1) bv iv wr) (fun _ iv _ => K + 1 - (intOf iv).toNat)
  case atStart => exact ⟨0, _, Nat.zero_le _, rfl, H_b.out, by omega, L_h.out.le (by omega), Below.refl _ _⟩
  case round =>
    obtain ⟨i, B, hi, rfl, ho, hpos, hsz, hbe⟩ := hrel
    have HOo := Lib.hid ho
    have HBe := Lib.hid hbe
    have HPos := Lib.hid hpos
    have L_B := Lib.hid hsz
    clear ho hbe hpos hsz
    by_cases h0 : (i : Int) < 1 + (K : Int)
    · have MU := Lib.hid (fun W v0 v1 (h0 : nat.IsN W v0 B) (h1 : nat.IsN W v1 18446744073709551615) => nat.Mul_any v0 v1 B 18446744073709551615 W h0 h1 (L_B.out.nat (by omega)) ((Bn_small (x := 18446744073709551615) (by decide)).nat (by decide)))
      have AD := Lib.hid (fun W v0 v1 (h0 : nat.IsN W v0 (B * 18446744073709551615)) (h1 : nat.IsN W v1 m) => nat.Add_any v0 v1 (B * 18446744073709551615) m W h0 h1 ((Bn_mul L_B.out (Bn_small (x := 18446744073709551615) (by decide))).nat (by omega)) (L_m.out.nat (by decide)))
      go_wp2_with (first
        | (go_at_call 46; (with_reducible refine (OF.out _).mono ?_); rintro e V1 ⟨c1, rfl, ⟨h1, -⟩, hb⟩; have H1 := Lib.hid h1; have G1 := Lib.hid hb; clear h1 hb)
        | (go_at_call 37; (with_reducible refine (MU.out _ _ _ (HOo.out.below G1.out) H1.out).mono ?_); rintro e V2 ⟨c2, rfl, ⟨h2, -⟩, hb⟩; have H2 := Lib.hid h2; have G2 := Lib.hid hb; clear h2 hb)
        | (go_at_call 46; (with_reducible refine (OM.out _).mono ?_); rintro e V3 ⟨c3, rfl, ⟨h3, -⟩, hb⟩; have H3 := Lib.hid h3; have G3 := Lib.hid hb; clear h3 hb)
        | (go_at_call 35; (with_reducible refine (AD.out _ _ _ (H2.out.below G3.out) H3.out).mono ?_); rintro e V4 ⟨c4, rfl, ⟨h4, -⟩, hb⟩; have H4 := Lib.hid h4; have G4 := Lib.hid hb; clear h4 hb)
        | (fail "no arm"))
      go_roundw
      case rel => exact ⟨i + 1, _, by omega, by go_num, H4.out, Nat.lt_of_lt_of_le HPos.out (Nat.le_trans (Nat.le_mul_of_pos_right B (by decide)) (Nat.le_add_right _ _)), (Bn_add (Bn_mul L_B.out (Bn_small (x := 18446744073709551615) (by decide))) L_m.out).le (by omega), nat.below_tr (nat.below_tr (nat.below_tr (nat.below_tr HBe.out G1.out) G2.out) G3.out) G4.out⟩
      case measure => simp [intOf]; omega
    · have hiK : i = K + 1 := by omega
      have L_B2 := Lib.hid (L_B.out.le (m := 300) (by omega))
      clear hiK L_B
      go_wp2
      go_loopw [13, 14] (fun av iv2 wr2 => DigRel2 wr (J + 1) av iv2 wr2) (fun _ iv _ => J + 1 - (intOf iv).toNat)
      case atStart => exact ⟨0, _, Nat.zero_le _, rfl, HOo.out, L_B2.out, Below.refl _ _⟩
      case round =>
        obtain ⟨i2, A, hi2, rfl, ho, hsz, hbe⟩ := hrel
        have HAo := Lib.hid ho
        have HBa := Lib.hid hbe
        have L_A := Lib.hid hsz
        clear ho hbe hsz
        by_cases h0 : (i2 : Int) < (J : Int) + 1
        · have MU := Lib.hid (fun W v0 v1 (h0 : nat.IsN W v0 A) (h1 : nat.IsN W v1 (18446744073709551615 - m8)) => nat.Mul_any v0 v1 A (18446744073709551615 - m8) W h0 h1 (L_A.out.nat (by omega)) (L_c.out.nat (by decide)))
          have AD := Lib.hid (fun W v0 v1 (h0 : nat.IsN W v0 (A * (18446744073709551615 - m8))) (h1 : nat.IsN W v1 n) => nat.Add_any v0 v1 (A * (18446744073709551615 - m8)) n W h0 h1 ((Bn_mul L_A.out L_c.out).nat (by omega)) (L_n.out.nat (by decide)))
          go_wp2_with (first
            | (go_at_call 46; (with_reducible refine (OC.out _).mono ?_); rintro e V1 ⟨c1, rfl, ⟨h1, -⟩, hb⟩; have H1 := Lib.hid h1; have G1 := Lib.hid hb; clear h1 hb)
            | (go_at_call 37; (with_reducible refine (MU.out _ _ _ (HAo.out.below G1.out) H1.out).mono ?_); rintro e V2 ⟨c2, rfl, ⟨h2, -⟩, hb⟩; have H2 := Lib.hid h2; have G2 := Lib.hid hb; clear h2 hb)
            | (go_at_call 46; (with_reducible refine (ON.out _).mono ?_); rintro e V3 ⟨c3, rfl, ⟨h3, -⟩, hb⟩; have H3 := Lib.hid h3; have G3 := Lib.hid hb; clear h3 hb)
            | (go_at_call 35; (with_reducible refine (AD.out _ _ _ (H2.out.below G3.out) H3.out).mono ?_); rintro e V4 ⟨c4, rfl, ⟨h4, -⟩, hb⟩; have H4 := Lib.hid h4; have G4 := Lib.hid hb; clear h4 hb)
            | (fail "no arm"))
          go_roundw
          case rel => exact ⟨i2 + 1, _, by omega, by go_num, H4.out, (Bn_add (Bn_mul L_A.out L_c.out) L_n.out).le (by omega), nat.below_tr (nat.below_tr (nat.below_tr (nat.below_tr HBa.out G1.out) G2.out) G3.out) G4.out⟩
          case measure => simp [intOf]; omega
        · have L_A2 := Lib.hid (L_A.out.le (m := 600) (by omega))
          clear L_A
          have HBw := Lib.hid (HOo.out.below HBa.out)
          have HBX := Lib.hid HB1.out
          have HBY := Lib.hid HB2.out
          have hda := dec_bn L_A2.out (by decide) (by decide)
          have hdb := dec_bn L_B2.out (by decide) (by decide)
          have GA := fun W => ref.GetN_yes (Lib.decDigits A) W hda.1
          have GB := fun W => ref.GetN_yes (Lib.decDigits B) W hdb.1
          rw [hda.2.1] at GA
          rw [hdb.2.1] at GB
          have GA := Lib.hid GA
          have GB := Lib.hid GB
          clear hda hdb
          have c1 := fun (W : World) (v0 : Value) (v1 : Value) (hh0 : nat.IsN W v0 A) (hh1 : nat.IsN W v1 B)  => nat.Div_ok v0 v1 A B W hh0 hh1 HPos.out (L_A2.out.nat (by decide)) (L_B2.out.nat (by decide))
          have C1 := Lib.hid c1
          clear c1
          have c2 := fun (W : World) (v0 : Value) (hh0 : nat.IsN W v0 A)  => nat.Text_any v0 A W hh0 (L_A2.out.nat (by decide))
          have C2 := Lib.hid c2
          clear c2
          have c3 := fun (W : World) (v0 : Value) (hh0 : nat.IsN W v0 B)  => nat.Text_any v0 B W hh0 (L_B2.out.nat (by decide))
          have C3 := Lib.hid c3
          clear c3
          have c4 := fun (W : World) (v0 : Value) (v1 : Value) (hh0 : ref.IsN W v0 A) (hh1 : ref.IsN W v1 B)  => ref.Div_any v0 v1 A B W hh0 hh1 (L_A2.out.ref (by decide)) (L_B2.out.ref (by decide)) HPos.out
          have C4 := Lib.hid c4
          clear c4
          have c5 := fun (W : World) (v0 : Value) (hh0 : nat.IsN W v0 (A / B))  => nat.Text_any v0 (A / B) W hh0 ((Bn_div L_A2.out).nat (by decide))
          have C5 := Lib.hid c5
          clear c5
          have c6 := fun (W : World) (v0 : Value) (hh0 : ref.IsN W v0 (A / B))  => ref.Text_any v0 (A / B) W hh0 ((Bn_div L_A2.out).ref (by decide))
          have C6 := Lib.hid c6
          clear c6
          have c7 := fun (W : World) (v0 : Value) (hh0 : nat.IsN W v0 (A % B))  => nat.Text_any v0 (A % B) W hh0 ((Bn_mod L_A2.out).nat (by decide))
          have C7 := Lib.hid c7
          clear c7
          have c8 := fun (W : World) (v0 : Value) (hh0 : ref.IsN W v0 (A % B))  => ref.Text_any v0 (A % B) W hh0 ((Bn_mod L_A2.out).ref (by decide))
          have C8 := Lib.hid c8
          clear c8
          have c9 := fun (W : World) (v0 : Value) (v1 : Value) (hh0 : nat.IsN W v0 (A % B)) (hh1 : nat.IsN W v1 B)  => nat.Cmp_b v0 v1 (A % B) B W hh0 hh1 ((Bn_mod L_A2.out).nat (by decide)) (L_B2.out.nat (by decide))
          rw [cmp3_ltN (show (A % B) < B from Nat.mod_lt _ HPos.out)] at c9
          have C9 := Lib.hid c9
          clear c9
          have c10 := fun (W : World) (v0 : Value) (v1 : Value) (hh0 : nat.IsN W v0 (A / B)) (hh1 : nat.IsN W v1 B)  => nat.Mul_any v0 v1 (A / B) B W hh0 hh1 ((Bn_div L_A2.out).nat (by decide)) (L_B2.out.nat (by decide))
          have C10 := Lib.hid c10
          clear c10
          have c11 := fun (W : World) (v0 : Value) (v1 : Value) (hh0 : nat.IsN W v0 ((A / B) * B)) (hh1 : nat.IsN W v1 (A % B))  => nat.Add_any v0 v1 ((A / B) * B) (A % B) W hh0 hh1 ((Bn_mul (Bn_div L_A2.out) L_B2.out).nat (by decide)) ((Bn_mod L_A2.out).nat (by decide))
          have C11 := Lib.hid c11
          clear c11
          have c12 := fun (W : World) (v0 : Value) (v1 : Value) (hh0 : nat.IsN W v0 (((A / B) * B) + (A % B))) (hh1 : nat.IsN W v1 A)  => nat.Cmp_b v0 v1 (((A / B) * B) + (A % B)) A W hh0 hh1 ((Bn_add (Bn_mul (Bn_div L_A2.out) L_B2.out) (Bn_mod L_A2.out)).nat (by decide)) (L_A2.out.nat (by decide))
          rw [cmp3_eqN (show (((A / B) * B) + (A % B)) = A from (by rw [Nat.mul_comm]; exact Nat.div_add_mod _ _))] at c12
          have C12 := Lib.hid c12
          clear c12
          generalize str (Lib.decDigits A) = sg0 at *
          generalize str (Lib.decDigits B) = sg1 at *
          generalize str (Lib.decDigits (A / B)) = sg2 at *
          generalize str (Lib.decDigits (A % B)) = sg3 at *
          go_wp2_with (first
            | (go_at_call 33; (with_reducible refine (C1.out _ _ _ HAo.out HBw.out).mono ?_); rintro e W1 ⟨q, r, rfl, ⟨h_q, n_q⟩, ⟨h_r, n_r⟩, hb⟩
               have H_q := Lib.hid h_q
               have N_q := Lib.hid n_q
               have H_r := Lib.hid h_r
               have N_r := Lib.hid n_r
               have HT1 := Lib.hid hb
               clear h_q n_q h_r n_r hb C1)
            | (go_at_call 30; (with_reducible refine (C2.out _ _ (HAo.out.below HT1.out)).mono ?_); rintro e W2 ⟨rfl, hb⟩
               have HT2 := Lib.hid hb
               clear hb C2)
            | (go_at_call 45; (with_reducible refine (GA.out _).mono ?_); rintro e W3 ⟨x, rfl, h_x, hb⟩
               obtain ⟨o_x, c_x, rfl⟩ := IsX_slice h_x
               have H_x := Lib.hid h_x
               have HT3 := Lib.hid hb
               clear h_x hb GA)
            | (go_at_call 30; (with_reducible refine (C3.out _ _ (((HBw.out.below HT1.out).below HT2.out).below HT3.out)).mono ?_); rintro e W4 ⟨rfl, hb⟩
               have HT4 := Lib.hid hb
               clear hb C3)
            | (go_at_call 45; (with_reducible refine (GB.out _).mono ?_); rintro e W5 ⟨y, rfl, h_y, hb⟩
               obtain ⟨o_y, c_y, rfl⟩ := IsX_slice h_y
               have H_y := Lib.hid h_y
               have HT5 := Lib.hid hb
               clear h_y hb GB)
            | (go_at_call 34; (with_reducible refine (C4.out _ _ _ ((H_x.out.below HT4.out).below HT5.out) H_y.out).mono ?_); rintro e W6 ⟨p, o, rfl, h_p, h_o, hb⟩
               have H_p := Lib.hid h_p
               have H_o := Lib.hid h_o
               have HT6 := Lib.hid hb
               clear h_p h_o hb C4)
            | (go_at_call 30; (with_reducible refine (C5.out _ _ (((((H_q.out.below HT2.out).below HT3.out).below HT4.out).below HT5.out).below HT6.out)).mono ?_); rintro e W7 ⟨rfl, hb⟩
               have HT7 := Lib.hid hb
               clear hb C5)
            | (go_at_call 32; (with_reducible refine (C6.out _ _ (H_p.out.below HT7.out)).mono ?_); rintro e W8 ⟨rfl, hb⟩
               have HT8 := Lib.hid hb
               clear hb C6)
            | (go_at_call 30; (with_reducible refine (C7.out _ _ (((((((H_r.out.below HT2.out).below HT3.out).below HT4.out).below HT5.out).below HT6.out).below HT7.out).below HT8.out)).mono ?_); rintro e W9 ⟨rfl, hb⟩
               have HT9 := Lib.hid hb
               clear hb C7)
            | (go_at_call 32; (with_reducible refine (C8.out _ _ (((H_o.out.below HT7.out).below HT8.out).below HT9.out)).mono ?_); rintro e W10 ⟨rfl, hb⟩
               have HT10 := Lib.hid hb
               clear hb C8)
            | (go_at_call 39; (with_reducible refine (C9.out _ _ _ (((((((((H_r.out.below HT2.out).below HT3.out).below HT4.out).below HT5.out).below HT6.out).below HT7.out).below HT8.out).below HT9.out).below HT10.out) ((((((((((HBw.out.below HT1.out).below HT2.out).below HT3.out).below HT4.out).below HT5.out).below HT6.out).below HT7.out).below HT8.out).below HT9.out).below HT10.out)).mono ?_); rintro e W11 ⟨rfl, hb⟩
               have HT11 := Lib.hid hb
               clear hb C9)
            | (go_at_call 37; (with_reducible refine (C10.out _ _ _ ((((((((((H_q.out.below HT2.out).below HT3.out).below HT4.out).below HT5.out).below HT6.out).below HT7.out).below HT8.out).below HT9.out).below HT10.out).below HT11.out) (((((((((((HBw.out.below HT1.out).below HT2.out).below HT3.out).below HT4.out).below HT5.out).below HT6.out).below HT7.out).below HT8.out).below HT9.out).below HT10.out).below HT11.out)).mono ?_); rintro e W12 ⟨z1, rfl, ⟨h_z1, n_z1⟩, hb⟩
               have H_z1 := Lib.hid h_z1
               have N_z1 := Lib.hid n_z1
               have HT12 := Lib.hid hb
               clear h_z1 n_z1 hb C10)
            | (go_at_call 35; (with_reducible refine (C11.out _ _ _ H_z1.out (((((((((((H_r.out.below HT2.out).below HT3.out).below HT4.out).below HT5.out).below HT6.out).below HT7.out).below HT8.out).below HT9.out).below HT10.out).below HT11.out).below HT12.out)).mono ?_); rintro e W13 ⟨z2, rfl, ⟨h_z2, n_z2⟩, hb⟩
               have H_z2 := Lib.hid h_z2
               have N_z2 := Lib.hid n_z2
               have HT13 := Lib.hid hb
               clear h_z2 n_z2 hb C11)
            | (go_at_call 39; (with_reducible refine (C12.out _ _ _ H_z2.out (((((((((((((HAo.out.below HT1.out).below HT2.out).below HT3.out).below HT4.out).below HT5.out).below HT6.out).below HT7.out).below HT8.out).below HT9.out).below HT10.out).below HT11.out).below HT12.out).below HT13.out)).mono ?_); rintro e W14 ⟨rfl, hb⟩
               have HT14 := Lib.hid hb
               clear hb C12)
            | (fail "no arm"))
          skip
          all_goals (go_ret; exact ⟨rfl, nat.below_tr (nat.below_tr (nat.below_tr (nat.below_tr HBX.out HBY.out) HBe.out) HBa.out) (nat.below_tr (nat.below_tr (nat.below_tr (nat.below_tr (nat.below_tr (nat.below_tr (nat.below_tr (nat.below_tr (nat.below_tr (nat.below_tr (nat.below_tr (nat.below_tr (nat.below_tr HT1.out HT2.out) HT3.out) HT4.out) HT5.out) HT6.out) HT7.out) HT8.out) HT9.out) HT10.out) HT11.out) HT12.out) HT13.out) HT14.out)⟩)
end Go.Proofs.YtfpooimjjpamoaaGreatDoor.law2
