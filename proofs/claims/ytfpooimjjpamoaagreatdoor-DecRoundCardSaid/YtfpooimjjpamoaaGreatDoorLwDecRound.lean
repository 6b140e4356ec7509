/-
  DecRound answers true for every two texts, a sign and two numbers. Conditions: begun answers true; texts of at most 2^62 bytes.
-/
import Derived.Test.YtfpooimjjpamoaaGreatDoorE23
namespace Go.Proofs.YtfpooimjjpamoaaGreatDoor.law2
open Go.RowKit Go.Proofs.YtfpooimjjpamoaaGreatDoor.nat
open Go.Proofs.YtfpooimjjpamoaaGreatDoor.ref (str signed decText)
def StepRel (V : World) (k : Nat) (sv iv : Value) (wr : World) : Prop :=
  ∃ i : Nat, i ≤ k ∧ iv = .int .i64 i ∧ (rat.IsR wr sv ((1 : Rat) / ((10 ^ i : Nat) : Rat)) ∧ sv ≠ .pointer none) ∧ Below V.heap.size V wr
theorem step_br {i : Nat} (h : i ≤ 20) : Br ((1 : Rat) / ((10 ^ i : Nat) : Rat)) 21 :=
  Br_low (z := 1) (Nat.pow_pos (by omega)) (by rw [show ((1 : Int) : Rat) = 1 from rfl]) ((Bz_small (z := 1) (by decide) (by decide)).le (by decide)) (dec.Bn_ten h)
theorem near_zero {q : Rat} {k : Nat} {mode : Int} (hm : mode = 3) (h : 0 < ref.nearN (q.num.natAbs * 10 ^ k) q.den mode) : q.num ≠ 0 := by
  subst hm
  intro e
  rw [e, dec.near_cut] at h
  simp at h
theorem sign_less {q p : Rat} (h : q < p) : num.sg (q - p).num = -1 := by rw [sg_sub]; unfold rat.cmpR; rw [if_pos h]
theorem sign_more {q p : Rat} (h : ¬ q < p) : ∃ c : Int, num.sg (q - p).num = c ∧ 0 ≤ c := by
  refine ⟨_, rfl, ?_⟩
  rw [sg_sub]
  unfold rat.cmpR
  rw [if_neg h]
  split <;> omega
theorem cmp_less {q p : Rat} (h : q < p) : rat.cmpR q p = -1 := by unfold rat.cmpR; rw [if_pos h]
theorem cmp_most {q p : Rat} (h : q ≤ p) : ∃ c : Int, rat.cmpR q p = c ∧ c ≤ 0 := by
  refine ⟨_, rfl, ?_⟩
  unfold rat.cmpR
  split
  · decide
  · rw [if_neg (Rat.not_lt.2 h)]
    exact Int.le_refl _
set_option maxRecDepth 100000 in
set_option maxHeartbeats 4000000 in
theorem LwDecRound (HBg : BegunC) (s : List UInt8) (hs : s.length ≤ 4611686018427387904) (t : List UInt8) (ht : t.length ≤ 4611686018427387904) (neg : Bool) (places : Int) (_places1 : -9223372036854775808 ≤ places) (_places2 : places < 9223372036854775808) (mode : Int) (_mode1 : -9223372036854775808 ≤ mode) (_mode2 : mode < 9223372036854775808) (w : World) (hd : Hd w) :
    Calls Tryz.prog 10 #[.string (str s), .string (str t), .bool neg, .int .i64 places, .int .i64 mode] w fun e w' => e = .returned (.bool true) ∧ Below w.heap.size w w' := by
  unfold BegunC at HBg
  have HBG := Lib.hid HBg
  have HG := Lib.hid hd
  clear HBg hd
  have HR1 := Lib.hid (fun W => R_any s t neg W hs ht)
  clear hs ht
  generalize str s = zs at *
  generalize str t = zt at *
  go_enter Tryz.func10, Tryz.ntmps10
  go_wp2_with (first
    | (go_at_call 25; (with_reducible refine (HBG.out _ HG.out).mono ?_); rintro e W1 ⟨rfl, hb⟩
       have HB1 := Lib.hid hb
       clear hb)
    | (go_at_call 81; (with_reducible refine (HR1.out _).mono ?_); rintro e W2 ⟨a, x, za, da, rfl, ⟨hz, hd, h0⟩, ⟨ha, hna, hx⟩, hb⟩
       obtain ⟨p_a, rfl⟩ := ha.some hna
       obtain ⟨s_x, t_x, rfl, h3, h4⟩ := id hx
       obtain ⟨o_x, c_x, rfl⟩ := IsX_slice h3
       obtain ⟨u_x, e_x, rfl⟩ := IsX_slice h4
       obtain ⟨q, hq⟩ : ∃ q, q = ((za : Rat) / (da : Rat)) := ⟨_, rfl⟩
       rw [← hq] at ha
       have H_a := Lib.hid ha
       have N_a := Lib.hid hna
       have H_x := Lib.hid hx
       have L_q := Lib.hid (Br_low h0 hq hz hd)
       have E_q := Lib.hid hq
       have LZ_a := Lib.hid hz
       have LD_a := Lib.hid hd
       have P_a := Lib.hid h0
       have HB2 := Lib.hid hb
       have HB3 := Lib.hid (show Below W2.heap.size W2 (W2.alloc (.cells #[.bool (decide (za < 0)), .slice o_x (ref.digs (Int.natAbs za)).length c_x, .slice u_x (ref.digs da).length e_x] 86)) from (Below.refl _ _).alloc (Nat.le_refl _) _)
       have M_x := Lib.hid (cells3_new W2 (.bool (decide (za < 0))) (.slice o_x (ref.digs (Int.natAbs za)).length c_x) (.slice u_x (ref.digs da).length e_x) 86)
       clear ha hna hx hq hz hd h0 hb h3 h4 HR1)
    | (fail "no arm"))
  rcases (show (places < 0 ∨ 20 < places) ∨ (0 ≤ places ∧ places ≤ 20) by omega) with hp | hp
  · have HP := Lib.hid hp
    rcases hp with hp | hp
    · go_wp2_with (first
        | (go_at_call 82; (with_reducible refine (dec.Round_range _ places mode _ HP.out).mono ?_); rintro e w9 ⟨rfl, rfl⟩)
        | (go_at_call 29; (with_reducible refine (Same_any 2 _ (((HG.out.below HB1.out).below HB2.out).below HB3.out)).mono ?_); rintro e W4 ⟨rfl, hb⟩
           have HB4 := Lib.hid hb
           obtain ⟨d4_x_0, d4_x_1, d4_x_2⟩ := (M_x.out.below HB4.out)
           clear hb)
        | (fail "no arm"))
      skip
      all_goals (go_ret; exact ⟨rfl, (nat.below_tr (nat.below_tr (nat.below_tr HB1.out HB2.out) HB3.out) HB4.out)⟩)
    · go_wp2_with (first
        | (go_at_call 82; (with_reducible refine (dec.Round_range _ places mode _ HP.out).mono ?_); rintro e w9 ⟨rfl, rfl⟩)
        | (go_at_call 29; (with_reducible refine (Same_any 2 _ (((HG.out.below HB1.out).below HB2.out).below HB3.out)).mono ?_); rintro e W4 ⟨rfl, hb⟩
           have HB4 := Lib.hid hb
           obtain ⟨d4_x_0, d4_x_1, d4_x_2⟩ := (M_x.out.below HB4.out)
           clear hb)
        | (fail "no arm"))
      skip
      all_goals (go_ret; exact ⟨rfl, (nat.below_tr (nat.below_tr (nat.below_tr HB1.out HB2.out) HB3.out) HB4.out)⟩)
  · have HP := Lib.hid hp
    rcases (show (mode < 1 ∨ 3 < mode) ∨ (mode = 1 ∨ mode = 2 ∨ mode = 3) by omega) with hm | hm
    · have HM := Lib.hid hm
      rcases hm with hm | hm
      · go_wp2_with (first
          | (go_at_call 82; (with_reducible refine (dec.Round_mode _ places mode _ HP.out HM.out).mono ?_); rintro e w9 ⟨rfl, rfl⟩)
          | (go_at_call 29; (with_reducible refine (Same_any 1 _ (((HG.out.below HB1.out).below HB2.out).below HB3.out)).mono ?_); rintro e W4 ⟨rfl, hb⟩
             have HB4 := Lib.hid hb
             obtain ⟨d4_x_0, d4_x_1, d4_x_2⟩ := (M_x.out.below HB4.out)
             clear hb)
          | (fail "no arm"))
        skip
        all_goals (go_ret; exact ⟨rfl, (nat.below_tr (nat.below_tr (nat.below_tr HB1.out HB2.out) HB3.out) HB4.out)⟩)
      · go_wp2_with (first
          | (go_at_call 82; (with_reducible refine (dec.Round_mode _ places mode _ HP.out HM.out).mono ?_); rintro e w9 ⟨rfl, rfl⟩)
          | (go_at_call 29; (with_reducible refine (Same_any 1 _ (((HG.out.below HB1.out).below HB2.out).below HB3.out)).mono ?_); rintro e W4 ⟨rfl, hb⟩
             have HB4 := Lib.hid hb
             obtain ⟨d4_x_0, d4_x_1, d4_x_2⟩ := (M_x.out.below HB4.out)
             clear hb)
          | (fail "no arm"))
        skip
        all_goals (go_ret; exact ⟨rfl, (nat.below_tr (nat.below_tr (nat.below_tr HB1.out HB2.out) HB3.out) HB4.out)⟩)
    · obtain ⟨k, rfl⟩ : ∃ k : Nat, places = (k : Int) := ⟨places.toNat, by omega⟩
      have hk : k ≤ 20 := by omega
      clear HP hp _places1 _places2
      rcases hm with rfl | rfl | rfl
      · have F1 := fun W v (h : rat.IsR W v q) => dec.Round_ok v q k 1 W h (L_q.out.rat (by decide)) hk (Or.inl rfl)
        have RR := fun W v (h : ref.IsQ W v za da) => ref.Round_any v za da k 1 W h (LZ_a.out.ref (by decide)) (LD_a.out.ref (by decide)) P_a.out (by omega)
        rw [dec.round_put P_a.out k 1 E_q.out] at RR
        have RR := Lib.hid RR
        obtain ⟨Z, hZ⟩ : ∃ Z, Z = signed (decide (q.num < 0)) (ref.nearN (q.num.natAbs * 10 ^ k) q.den 1) := ⟨_, rfl⟩
        have hZb : Bz Z 51 := by rw [hZ]; exact round_bz L_q.out hk
        have hf := dec.int_form (k := k) (p := 50) hZb (by omega) hk
        obtain ⟨q1, hq1⟩ : ∃ q1 : Rat, q1 = (Z : Rat) / ((10 ^ k : Nat) : Rat) := ⟨_, rfl⟩
        have L_q1 := Lib.hid (show Br q1 60 from dec.br_ten hq1 hk (hZb.le (by decide)) (by decide))
        have GT := Lib.hid (fun W => DGet_yes _ _ _ _ q1 W (by rw [dec.signed_self]; exact hq1) hf)
        have hq1z : q1 = ((signed (decide (q.num < 0)) (ref.nearN (q.num.natAbs * 10 ^ k) q.den 1) : Int) : Rat) / ((10 ^ k : Nat) : Rat) := by rw [hq1, hZ]
        have hput : dec.putText q k 1 = decText Z k := by rw [hZ]; rfl
        rw [hput] at F1
        rw [hput] at RR
        have F1 := Lib.hid F1
        obtain ⟨s0, hs0⟩ : ∃ s : Rat, s = (1 : Rat) / ((10 ^ k : Nat) : Rat) := ⟨_, rfl⟩
        have HDist := Lib.hid ((dec.dist_ways hq1z hs0).2 (Or.inl rfl))
        have HS0 := Lib.hid hs0
        have L_s0 := Lib.hid (show Br s0 21 from by rw [hs0]; exact step_br hk)
        have HUE := dec.units_eq P_a.out 1 E_q.out
        have NE := fun W v (h : ref.IsQ W v za da) => ref.Near_any v za da 1 W h (LZ_a.out.ref (by decide)) (LD_a.out.ref (by decide)) P_a.out
        have UI := fun W v (h : rat.IsR W v q) => dec.Units_in v q 1 W h (L_q.out.rat (by decide)) (Or.inl rfl)
        have UO := fun W v (h : rat.IsR W v q) => dec.Units_out v q 1 W h (L_q.out.rat (by decide)) (Or.inl rfl)
        rw [← HUE] at NE
        have NE := Lib.hid NE
        have UI := Lib.hid UI
        have UO := Lib.hid UO
        generalize signed (decide (q.num < 0)) (ref.nearN q.num.natAbs q.den 1) = U at *
        clear hZ hZb hf hq1 hq1z hput HUE hs0
        generalize str (decText Z k) = sT at *
        go_wp2_with (first
          | (go_at_call 82; (with_reducible refine (F1.out _ _ (H_a.out.below HB3.out)).mono ?_); rintro e W4 ⟨rfl, hb⟩
             have HB4 := Lib.hid hb
             obtain ⟨d4_x_0, d4_x_1, d4_x_2⟩ := (M_x.out.below HB4.out)
             clear hb)
          | (go_at_call 83; (with_reducible refine (RR.out _ _ ((H_x.out.below HB3.out).below HB4.out)).mono ?_); rintro e W5 ⟨rfl, hb⟩
             have HB5 := Lib.hid hb
             obtain ⟨d5_x_0, d5_x_1, d5_x_2⟩ := ((M_x.out.below HB4.out).below HB5.out)
             clear hb)
          | (fail "no arm"))
        rcases (show (-9223372036854775808 ≤ U ∧ U < 9223372036854775808) ∨ (U < -9223372036854775808 ∨ 9223372036854775808 ≤ U) by omega) with hin | hin
        · have HIn := Lib.hid hin
          clear hin
          have c1 := fun (W : World) (v0 : Value) (hh0 : ref.IsI W v0 U)  => ref.ISmall_in v0 U W hh0 HIn.out.1 HIn.out.2
          have C1 := Lib.hid c1
          clear c1
          have c2 := fun (W : World)    => rat.Of_ok 1 1 W (by decide) (by decide) (by decide) (by decide) (by decide)
          rw [show (((1 : Int) : Rat) / ((1 : Int) : Rat)) = (1 : Rat) from by decide +kernel] at c2
          have C2 := Lib.hid c2
          clear c2
          have c3 := fun (W : World)    => rat.Of_ok 10 1 W (by decide) (by decide) (by decide) (by decide) (by decide)
          rw [show (((10 : Int) : Rat) / ((1 : Int) : Rat)) = (10 : Rat) from by decide +kernel] at c3
          have C3 := Lib.hid c3
          clear c3
          go_wp2_with (first
            | (go_at_call 84; (with_reducible refine (UI.out _ _ (((H_a.out.below HB3.out).below HB4.out).below HB5.out) HIn.out.1 HIn.out.2).mono ?_); rintro e W6 ⟨rfl, hb⟩
               have HB6 := Lib.hid hb
               obtain ⟨d6_x_0, d6_x_1, d6_x_2⟩ := (((M_x.out.below HB4.out).below HB5.out).below HB6.out)
               clear hb)
            | (go_at_call 85; (with_reducible refine (NE.out _ _ ((((H_x.out.below HB3.out).below HB4.out).below HB5.out).below HB6.out)).mono ?_); rintro e W7 ⟨nr, rfl, h_nr, hb⟩
               have H_nr := Lib.hid h_nr
               have HB7 := Lib.hid hb
               obtain ⟨d7_x_0, d7_x_1, d7_x_2⟩ := ((((M_x.out.below HB4.out).below HB5.out).below HB6.out).below HB7.out)
               clear h_nr hb)
            | (go_at_call 59; (with_reducible refine (C1.out _ _ H_nr.out).mono ?_); rintro e W8 ⟨rfl, hb⟩
               have HB8 := Lib.hid hb
               obtain ⟨d8_x_0, d8_x_1, d8_x_2⟩ := (((((M_x.out.below HB4.out).below HB5.out).below HB6.out).below HB7.out).below HB8.out)
               clear hb C1)
            | (go_at_call 78; (with_reducible refine (GT.out _).mono ?_); rintro e W9 ⟨b, rfl, ⟨h_b, n_b⟩, hb⟩
               have H_b := Lib.hid h_b
               have N_b := Lib.hid n_b
               have HB9 := Lib.hid hb
               obtain ⟨d9_x_0, d9_x_1, d9_x_2⟩ := ((((((M_x.out.below HB4.out).below HB5.out).below HB6.out).below HB7.out).below HB8.out).below HB9.out)
               clear h_b n_b hb GT)
            | (go_at_call 74; (with_reducible refine (C2.out _ ).mono ?_); rintro e W10 ⟨st, rfl, ⟨h_st, n_st⟩, hb⟩
               have H_st := Lib.hid h_st
               have N_st := Lib.hid n_st
               have HB10 := Lib.hid hb
               obtain ⟨d10_x_0, d10_x_1, d10_x_2⟩ := (((((((M_x.out.below HB4.out).below HB5.out).below HB6.out).below HB7.out).below HB8.out).below HB9.out).below HB10.out)
               clear h_st n_st hb C2)
            | (go_at_call 74; (with_reducible refine (C3.out _ ).mono ?_); rintro e W11 ⟨ten, rfl, ⟨h_ten, n_ten⟩, hb⟩
               have H_ten := Lib.hid h_ten
               have N_ten := Lib.hid n_ten
               have HB11 := Lib.hid hb
               obtain ⟨d11_x_0, d11_x_1, d11_x_2⟩ := ((((((((M_x.out.below HB4.out).below HB5.out).below HB6.out).below HB7.out).below HB8.out).below HB9.out).below HB10.out).below HB11.out)
               clear h_ten n_ten hb C3)
            | (fail "no arm"))
          clear d4_x_0 d4_x_1 d4_x_2 d5_x_0 d5_x_1 d5_x_2 d6_x_0 d6_x_1 d6_x_2 d7_x_0 d7_x_1 d7_x_2 d8_x_0 d8_x_1 d8_x_2 d9_x_0 d9_x_1 d9_x_2 d10_x_0 d10_x_1 d10_x_2 d11_x_0 d11_x_1 d11_x_2
          go_loopw [23, 27] (fun sv iv wr => StepRel W11 k sv iv wr) (fun _ iv _ => k - (intOf iv).toNat)
          case atStart => exact ⟨0, Nat.zero_le _, rfl, ⟨by rw [show ((1 : Rat) / ((10 ^ 0 : Nat) : Rat)) = 1 by decide +kernel]; exact (H_st.out.below HB11.out), N_st.out⟩, Below.refl _ _⟩
          obtain ⟨i, hi, rfl, ⟨hs, hns⟩, hbe⟩ := hrel
          have H_sv := Lib.hid hs
          have N_sv := Lib.hid hns
          have HBe := Lib.hid hbe
          clear hs hns hbe
          by_cases hlt : (i : Int) < (k : Int)
          · have hi20 : i ≤ 20 := by omega
            have DV := fun W u v (hu : rat.IsR W u ((1 : Rat) / ((10 ^ i : Nat) : Rat))) (hv : rat.IsR W v (10 : Rat)) => rat.Div_ok u v _ _ W hu hv ((step_br hi20).rat (by decide)) (((show Br (10 : Rat) 20 from Br_lowz (z := 10) (y := 1) (by decide) (by decide +kernel) (Bz_small (by decide) (by decide)) (Bz_small (by decide) (by decide))).rat (by decide))) (by decide +kernel)
            rw [dec.step_next] at DV
            have DV := Lib.hid DV
            go_wp2_with (first
              | (go_at_call 88; (with_reducible refine (DV.out _ _ _ H_sv.out (H_ten.out.below HBe.out)).mono ?_); rintro e V1 ⟨s1, rfl, ⟨h_1, n_1⟩, hb⟩; have H1 := Lib.hid h_1; have N1 := Lib.hid n_1; have G1 := Lib.hid hb; clear h_1 n_1 hb)
              | (fail "no arm"))
            go_roundw
            case rel => exact ⟨i + 1, by omega, by go_num, ⟨H1.out, N1.out⟩, nat.below_tr HBe.out G1.out⟩
            case measure => simp [intOf]; omega
          · obtain rfl : i = k := by omega
            obtain ⟨W12, hWr⟩ : ∃ W : World, wr = W := ⟨_, rfl⟩
            subst hWr
            have HB12 := Lib.hid HBe.out
            have H_s := Lib.hid (show rat.IsR _ _ s0 from by rw [HS0.out]; exact H_sv.out)
            clear hi hlt HBe H_sv
            by_cases hls : q < q1
            · have HLs := Lib.hid hls
              have hsg := sign_less hls
              clear hls
              obtain ⟨ce, hce, hce2⟩ := cmp_most HDist.out.2
              have cx4 := fun (W : World) (v0 : Value) (v1 : Value) (hh0 : rat.IsR W v0 q) (hh1 : rat.IsR W v1 q1)  => rat.Sub_any v0 v1 q q1 W hh0 hh1 (L_q.out.rat (by decide)) (L_q1.out.rat (by decide))
              have Cx4 := Lib.hid cx4
              clear cx4
              have cx5 := fun (W : World) (v0 : Value) (hh0 : rat.IsR W v0 (q - q1))  => rat.Sign_any v0 (q - q1) W hh0
              rw [hsg] at cx5
              have Cx5 := Lib.hid cx5
              clear cx5
              have cx6 := fun (W : World) (v0 : Value) (v1 : Value) (hh0 : rat.IsR W v0 q1) (hh1 : rat.IsR W v1 q)  => rat.Sub_any v0 v1 q1 q W hh0 hh1 (L_q1.out.rat (by decide)) (L_q.out.rat (by decide))
              have Cx6 := Lib.hid cx6
              clear cx6
              have cx7 := fun (W : World)    => rat.Of_ok 2 1 W (by decide) (by decide) (by decide) (by decide) (by decide)
              rw [show (((2 : Int) : Rat) / ((1 : Int) : Rat)) = (2 : Rat) from by decide +kernel] at cx7
              have Cx7 := Lib.hid cx7
              clear cx7
              have cx8 := fun (W : World) (v0 : Value) (v1 : Value) (hh0 : rat.IsR W v0 (q1 - q)) (hh1 : rat.IsR W v1 ((2 : Rat)))  => rat.Mul_any v0 v1 (q1 - q) ((2 : Rat)) W hh0 hh1 ((Br_sub L_q1.out L_q.out).rat (by decide)) ((show Br (2 : Rat) 20 from Br_lowz (z := 2) (y := 1) (by decide) (by decide +kernel) (Bz_small (by decide) (by decide)) (Bz_small (by decide) (by decide))).rat (by decide))
              have Cx8 := Lib.hid cx8
              clear cx8
              have cx9 := fun (W : World) (v0 : Value) (v1 : Value) (hh0 : rat.IsR W v0 ((q1 - q) * ((2 : Rat)))) (hh1 : rat.IsR W v1 s0)  => rat.Cmp_any v0 v1 ((q1 - q) * ((2 : Rat))) s0 W hh0 hh1 ((Br_mul (Br_sub L_q1.out L_q.out) (show Br (2 : Rat) 20 from Br_lowz (z := 2) (y := 1) (by decide) (by decide +kernel) (Bz_small (by decide) (by decide)) (Bz_small (by decide) (by decide)))).rat (by decide)) (L_s0.out.rat (by decide))
              rw [hce] at cx9
              have Cx9 := Lib.hid cx9
              clear cx9
              clear hsg hce
              go_wp2_with (first
                | (go_at_call 89; (with_reducible refine (Cx4.out _ _ _ ((((((((((H_a.out.below HB3.out).below HB4.out).below HB5.out).below HB6.out).below HB7.out).below HB8.out).below HB9.out).below HB10.out).below HB11.out).below HB12.out) (((H_b.out.below HB10.out).below HB11.out).below HB12.out)).mono ?_); rintro e W13 ⟨d1, rfl, ⟨h_d1, n_d1⟩, hb⟩
                   have H_d1 := Lib.hid h_d1
                   have N_d1 := Lib.hid n_d1
                   have HB13 := Lib.hid hb
                   obtain ⟨d13_x_0, d13_x_1, d13_x_2⟩ := ((((((((((M_x.out.below HB4.out).below HB5.out).below HB6.out).below HB7.out).below HB8.out).below HB9.out).below HB10.out).below HB11.out).below HB12.out).below HB13.out)
                   clear h_d1 n_d1 hb Cx4)
                | (go_at_call 90; (with_reducible refine (Cx5.out _ _ H_d1.out).mono ?_); rintro e W14 ⟨rfl, hb⟩
                   have HB14 := Lib.hid hb
                   obtain ⟨d14_x_0, d14_x_1, d14_x_2⟩ := (((((((((((M_x.out.below HB4.out).below HB5.out).below HB6.out).below HB7.out).below HB8.out).below HB9.out).below HB10.out).below HB11.out).below HB12.out).below HB13.out).below HB14.out)
                   clear hb Cx5)
                | (go_at_call 89; (with_reducible refine (Cx6.out _ _ _ (((((H_b.out.below HB10.out).below HB11.out).below HB12.out).below HB13.out).below HB14.out) ((((((((((((H_a.out.below HB3.out).below HB4.out).below HB5.out).below HB6.out).below HB7.out).below HB8.out).below HB9.out).below HB10.out).below HB11.out).below HB12.out).below HB13.out).below HB14.out)).mono ?_); rintro e W15 ⟨d2, rfl, ⟨h_d2, n_d2⟩, hb⟩
                   have H_d2 := Lib.hid h_d2
                   have N_d2 := Lib.hid n_d2
                   have HB15 := Lib.hid hb
                   obtain ⟨d15_x_0, d15_x_1, d15_x_2⟩ := ((((((((((((M_x.out.below HB4.out).below HB5.out).below HB6.out).below HB7.out).below HB8.out).below HB9.out).below HB10.out).below HB11.out).below HB12.out).below HB13.out).below HB14.out).below HB15.out)
                   clear h_d2 n_d2 hb Cx6)
                | (go_at_call 74; (with_reducible refine (Cx7.out _ ).mono ?_); rintro e W16 ⟨two, rfl, ⟨h_two, n_two⟩, hb⟩
                   have H_two := Lib.hid h_two
                   have N_two := Lib.hid n_two
                   have HB16 := Lib.hid hb
                   obtain ⟨d16_x_0, d16_x_1, d16_x_2⟩ := (((((((((((((M_x.out.below HB4.out).below HB5.out).below HB6.out).below HB7.out).below HB8.out).below HB9.out).below HB10.out).below HB11.out).below HB12.out).below HB13.out).below HB14.out).below HB15.out).below HB16.out)
                   clear h_two n_two hb Cx7)
                | (go_at_call 91; (with_reducible refine (Cx8.out _ _ _ (H_d2.out.below HB16.out) H_two.out).mono ?_); rintro e W17 ⟨d3, rfl, ⟨h_d3, n_d3⟩, hb⟩
                   have H_d3 := Lib.hid h_d3
                   have N_d3 := Lib.hid n_d3
                   have HB17 := Lib.hid hb
                   obtain ⟨d17_x_0, d17_x_1, d17_x_2⟩ := ((((((((((((((M_x.out.below HB4.out).below HB5.out).below HB6.out).below HB7.out).below HB8.out).below HB9.out).below HB10.out).below HB11.out).below HB12.out).below HB13.out).below HB14.out).below HB15.out).below HB16.out).below HB17.out)
                   clear h_d3 n_d3 hb Cx8)
                | (go_at_call 77; (with_reducible refine (Cx9.out _ _ _ H_d3.out (((((H_s.out.below HB13.out).below HB14.out).below HB15.out).below HB16.out).below HB17.out)).mono ?_); rintro e W18 ⟨rfl, hb⟩
                   have HB18 := Lib.hid hb
                   obtain ⟨d18_x_0, d18_x_1, d18_x_2⟩ := (((((((((((((((M_x.out.below HB4.out).below HB5.out).below HB6.out).below HB7.out).below HB8.out).below HB9.out).below HB10.out).below HB11.out).below HB12.out).below HB13.out).below HB14.out).below HB15.out).below HB16.out).below HB17.out).below HB18.out)
                   clear hb Cx9)
                | (fail "no arm"))
              skip
              all_goals (go_ret; exact ⟨rfl, (nat.below_tr (nat.below_tr (nat.below_tr (nat.below_tr (nat.below_tr (nat.below_tr (nat.below_tr (nat.below_tr (nat.below_tr (nat.below_tr (nat.below_tr (nat.below_tr (nat.below_tr (nat.below_tr (nat.below_tr (nat.below_tr (nat.below_tr HB1.out HB2.out) HB3.out) HB4.out) HB5.out) HB6.out) HB7.out) HB8.out) HB9.out) HB10.out) HB11.out) HB12.out) HB13.out) HB14.out) HB15.out) HB16.out) HB17.out) HB18.out)⟩)
            · have HLs := Lib.hid hls
              obtain ⟨cs, hsg, hcs⟩ := sign_more hls
              clear hls
              obtain ⟨ce, hce, hce2⟩ := cmp_most HDist.out.1
              have cx4 := fun (W : World) (v0 : Value) (v1 : Value) (hh0 : rat.IsR W v0 q) (hh1 : rat.IsR W v1 q1)  => rat.Sub_any v0 v1 q q1 W hh0 hh1 (L_q.out.rat (by decide)) (L_q1.out.rat (by decide))
              have Cx4 := Lib.hid cx4
              clear cx4
              have cx5 := fun (W : World) (v0 : Value) (hh0 : rat.IsR W v0 (q - q1))  => rat.Sign_any v0 (q - q1) W hh0
              rw [hsg] at cx5
              have Cx5 := Lib.hid cx5
              clear cx5
              have cx6 := fun (W : World)    => rat.Of_ok 2 1 W (by decide) (by decide) (by decide) (by decide) (by decide)
              rw [show (((2 : Int) : Rat) / ((1 : Int) : Rat)) = (2 : Rat) from by decide +kernel] at cx6
              have Cx6 := Lib.hid cx6
              clear cx6
              have cx7 := fun (W : World) (v0 : Value) (v1 : Value) (hh0 : rat.IsR W v0 (q - q1)) (hh1 : rat.IsR W v1 ((2 : Rat)))  => rat.Mul_any v0 v1 (q - q1) ((2 : Rat)) W hh0 hh1 ((Br_sub L_q.out L_q1.out).rat (by decide)) ((show Br (2 : Rat) 20 from Br_lowz (z := 2) (y := 1) (by decide) (by decide +kernel) (Bz_small (by decide) (by decide)) (Bz_small (by decide) (by decide))).rat (by decide))
              have Cx7 := Lib.hid cx7
              clear cx7
              have cx8 := fun (W : World) (v0 : Value) (v1 : Value) (hh0 : rat.IsR W v0 ((q - q1) * ((2 : Rat)))) (hh1 : rat.IsR W v1 s0)  => rat.Cmp_any v0 v1 ((q - q1) * ((2 : Rat))) s0 W hh0 hh1 ((Br_mul (Br_sub L_q.out L_q1.out) (show Br (2 : Rat) 20 from Br_lowz (z := 2) (y := 1) (by decide) (by decide +kernel) (Bz_small (by decide) (by decide)) (Bz_small (by decide) (by decide)))).rat (by decide)) (L_s0.out.rat (by decide))
              rw [hce] at cx8
              have Cx8 := Lib.hid cx8
              clear cx8
              clear hsg hce
              go_wp2_with (first
                | (go_at_call 89; (with_reducible refine (Cx4.out _ _ _ ((((((((((H_a.out.below HB3.out).below HB4.out).below HB5.out).below HB6.out).below HB7.out).below HB8.out).below HB9.out).below HB10.out).below HB11.out).below HB12.out) (((H_b.out.below HB10.out).below HB11.out).below HB12.out)).mono ?_); rintro e W13 ⟨d1, rfl, ⟨h_d1, n_d1⟩, hb⟩
                   have H_d1 := Lib.hid h_d1
                   have N_d1 := Lib.hid n_d1
                   have HB13 := Lib.hid hb
                   obtain ⟨d13_x_0, d13_x_1, d13_x_2⟩ := ((((((((((M_x.out.below HB4.out).below HB5.out).below HB6.out).below HB7.out).below HB8.out).below HB9.out).below HB10.out).below HB11.out).below HB12.out).below HB13.out)
                   clear h_d1 n_d1 hb Cx4)
                | (go_at_call 90; (with_reducible refine (Cx5.out _ _ H_d1.out).mono ?_); rintro e W14 ⟨rfl, hb⟩
                   have HB14 := Lib.hid hb
                   obtain ⟨d14_x_0, d14_x_1, d14_x_2⟩ := (((((((((((M_x.out.below HB4.out).below HB5.out).below HB6.out).below HB7.out).below HB8.out).below HB9.out).below HB10.out).below HB11.out).below HB12.out).below HB13.out).below HB14.out)
                   clear hb Cx5)
                | (go_at_call 74; (with_reducible refine (Cx6.out _ ).mono ?_); rintro e W15 ⟨two, rfl, ⟨h_two, n_two⟩, hb⟩
                   have H_two := Lib.hid h_two
                   have N_two := Lib.hid n_two
                   have HB15 := Lib.hid hb
                   obtain ⟨d15_x_0, d15_x_1, d15_x_2⟩ := ((((((((((((M_x.out.below HB4.out).below HB5.out).below HB6.out).below HB7.out).below HB8.out).below HB9.out).below HB10.out).below HB11.out).below HB12.out).below HB13.out).below HB14.out).below HB15.out)
                   clear h_two n_two hb Cx6)
                | (go_at_call 91; (with_reducible refine (Cx7.out _ _ _ ((H_d1.out.below HB14.out).below HB15.out) H_two.out).mono ?_); rintro e W16 ⟨d3, rfl, ⟨h_d3, n_d3⟩, hb⟩
                   have H_d3 := Lib.hid h_d3
                   have N_d3 := Lib.hid n_d3
                   have HB16 := Lib.hid hb
                   obtain ⟨d16_x_0, d16_x_1, d16_x_2⟩ := (((((((((((((M_x.out.below HB4.out).below HB5.out).below HB6.out).below HB7.out).below HB8.out).below HB9.out).below HB10.out).below HB11.out).below HB12.out).below HB13.out).below HB14.out).below HB15.out).below HB16.out)
                   clear h_d3 n_d3 hb Cx7)
                | (go_at_call 77; (with_reducible refine (Cx8.out _ _ _ H_d3.out ((((H_s.out.below HB13.out).below HB14.out).below HB15.out).below HB16.out)).mono ?_); rintro e W17 ⟨rfl, hb⟩
                   have HB17 := Lib.hid hb
                   obtain ⟨d17_x_0, d17_x_1, d17_x_2⟩ := ((((((((((((((M_x.out.below HB4.out).below HB5.out).below HB6.out).below HB7.out).below HB8.out).below HB9.out).below HB10.out).below HB11.out).below HB12.out).below HB13.out).below HB14.out).below HB15.out).below HB16.out).below HB17.out)
                   clear hb Cx8)
                | (fail "no arm"))
              skip
              all_goals (go_ret; exact ⟨rfl, (nat.below_tr (nat.below_tr (nat.below_tr (nat.below_tr (nat.below_tr (nat.below_tr (nat.below_tr (nat.below_tr (nat.below_tr (nat.below_tr (nat.below_tr (nat.below_tr (nat.below_tr (nat.below_tr (nat.below_tr (nat.below_tr HB1.out HB2.out) HB3.out) HB4.out) HB5.out) HB6.out) HB7.out) HB8.out) HB9.out) HB10.out) HB11.out) HB12.out) HB13.out) HB14.out) HB15.out) HB16.out) HB17.out)⟩)
        · have HIn := Lib.hid hin
          clear hin
          have c1 := fun (W : World) (v0 : Value) (hh0 : ref.IsI W v0 U)  => ref.ISmall_out v0 U W hh0 HIn.out
          have C1 := Lib.hid c1
          clear c1
          have c2 := fun (W : World)    => rat.Of_ok 1 1 W (by decide) (by decide) (by decide) (by decide) (by decide)
          rw [show (((1 : Int) : Rat) / ((1 : Int) : Rat)) = (1 : Rat) from by decide +kernel] at c2
          have C2 := Lib.hid c2
          clear c2
          have c3 := fun (W : World)    => rat.Of_ok 10 1 W (by decide) (by decide) (by decide) (by decide) (by decide)
          rw [show (((10 : Int) : Rat) / ((1 : Int) : Rat)) = (10 : Rat) from by decide +kernel] at c3
          have C3 := Lib.hid c3
          clear c3
          go_wp2_with (first
            | (go_at_call 84; (with_reducible refine (UO.out _ _ (((H_a.out.below HB3.out).below HB4.out).below HB5.out) HIn.out).mono ?_); rintro e W6 ⟨rfl, hb⟩
               have HB6 := Lib.hid hb
               obtain ⟨d6_x_0, d6_x_1, d6_x_2⟩ := (((M_x.out.below HB4.out).below HB5.out).below HB6.out)
               clear hb)
            | (go_at_call 85; (with_reducible refine (NE.out _ _ ((((H_x.out.below HB3.out).below HB4.out).below HB5.out).below HB6.out)).mono ?_); rintro e W7 ⟨nr, rfl, h_nr, hb⟩
               have H_nr := Lib.hid h_nr
               have HB7 := Lib.hid hb
               obtain ⟨d7_x_0, d7_x_1, d7_x_2⟩ := ((((M_x.out.below HB4.out).below HB5.out).below HB6.out).below HB7.out)
               clear h_nr hb)
            | (go_at_call 59; (with_reducible refine (C1.out _ _ H_nr.out).mono ?_); rintro e W8 ⟨rfl, hb⟩
               have HB8 := Lib.hid hb
               obtain ⟨d8_x_0, d8_x_1, d8_x_2⟩ := (((((M_x.out.below HB4.out).below HB5.out).below HB6.out).below HB7.out).below HB8.out)
               clear hb C1)
            | (go_at_call 29; (with_reducible refine (Same_any 11 _ ((((((((HG.out.below HB1.out).below HB2.out).below HB3.out).below HB4.out).below HB5.out).below HB6.out).below HB7.out).below HB8.out)).mono ?_); rintro e W9 ⟨rfl, hb⟩
               have HB9 := Lib.hid hb
               obtain ⟨d9_x_0, d9_x_1, d9_x_2⟩ := ((((((M_x.out.below HB4.out).below HB5.out).below HB6.out).below HB7.out).below HB8.out).below HB9.out)
               clear hb)
            | (go_at_call 78; (with_reducible refine (GT.out _).mono ?_); rintro e W10 ⟨b, rfl, ⟨h_b, n_b⟩, hb⟩
               have H_b := Lib.hid h_b
               have N_b := Lib.hid n_b
               have HB10 := Lib.hid hb
               obtain ⟨d10_x_0, d10_x_1, d10_x_2⟩ := (((((((M_x.out.below HB4.out).below HB5.out).below HB6.out).below HB7.out).below HB8.out).below HB9.out).below HB10.out)
               clear h_b n_b hb GT)
            | (go_at_call 74; (with_reducible refine (C2.out _ ).mono ?_); rintro e W11 ⟨st, rfl, ⟨h_st, n_st⟩, hb⟩
               have H_st := Lib.hid h_st
               have N_st := Lib.hid n_st
               have HB11 := Lib.hid hb
               obtain ⟨d11_x_0, d11_x_1, d11_x_2⟩ := ((((((((M_x.out.below HB4.out).below HB5.out).below HB6.out).below HB7.out).below HB8.out).below HB9.out).below HB10.out).below HB11.out)
               clear h_st n_st hb C2)
            | (go_at_call 74; (with_reducible refine (C3.out _ ).mono ?_); rintro e W12 ⟨ten, rfl, ⟨h_ten, n_ten⟩, hb⟩
               have H_ten := Lib.hid h_ten
               have N_ten := Lib.hid n_ten
               have HB12 := Lib.hid hb
               obtain ⟨d12_x_0, d12_x_1, d12_x_2⟩ := (((((((((M_x.out.below HB4.out).below HB5.out).below HB6.out).below HB7.out).below HB8.out).below HB9.out).below HB10.out).below HB11.out).below HB12.out)
               clear h_ten n_ten hb C3)
            | (fail "no arm"))
          clear d4_x_0 d4_x_1 d4_x_2 d5_x_0 d5_x_1 d5_x_2 d6_x_0 d6_x_1 d6_x_2 d7_x_0 d7_x_1 d7_x_2 d8_x_0 d8_x_1 d8_x_2 d9_x_0 d9_x_1 d9_x_2 d10_x_0 d10_x_1 d10_x_2 d11_x_0 d11_x_1 d11_x_2 d12_x_0 d12_x_1 d12_x_2
          go_loopw [23, 27] (fun sv iv wr => StepRel W12 k sv iv wr) (fun _ iv _ => k - (intOf iv).toNat)
          case atStart => exact ⟨0, Nat.zero_le _, rfl, ⟨by rw [show ((1 : Rat) / ((10 ^ 0 : Nat) : Rat)) = 1 by decide +kernel]; exact (H_st.out.below HB12.out), N_st.out⟩, Below.refl _ _⟩
          obtain ⟨i, hi, rfl, ⟨hs, hns⟩, hbe⟩ := hrel
          have H_sv := Lib.hid hs
          have N_sv := Lib.hid hns
          have HBe := Lib.hid hbe
          clear hs hns hbe
          by_cases hlt : (i : Int) < (k : Int)
          · have hi20 : i ≤ 20 := by omega
            have DV := fun W u v (hu : rat.IsR W u ((1 : Rat) / ((10 ^ i : Nat) : Rat))) (hv : rat.IsR W v (10 : Rat)) => rat.Div_ok u v _ _ W hu hv ((step_br hi20).rat (by decide)) (((show Br (10 : Rat) 20 from Br_lowz (z := 10) (y := 1) (by decide) (by decide +kernel) (Bz_small (by decide) (by decide)) (Bz_small (by decide) (by decide))).rat (by decide))) (by decide +kernel)
            rw [dec.step_next] at DV
            have DV := Lib.hid DV
            go_wp2_with (first
              | (go_at_call 88; (with_reducible refine (DV.out _ _ _ H_sv.out (H_ten.out.below HBe.out)).mono ?_); rintro e V1 ⟨s1, rfl, ⟨h_1, n_1⟩, hb⟩; have H1 := Lib.hid h_1; have N1 := Lib.hid n_1; have G1 := Lib.hid hb; clear h_1 n_1 hb)
              | (fail "no arm"))
            go_roundw
            case rel => exact ⟨i + 1, by omega, by go_num, ⟨H1.out, N1.out⟩, nat.below_tr HBe.out G1.out⟩
            case measure => simp [intOf]; omega
          · obtain rfl : i = k := by omega
            obtain ⟨W13, hWr⟩ : ∃ W : World, wr = W := ⟨_, rfl⟩
            subst hWr
            have HB13 := Lib.hid HBe.out
            have H_s := Lib.hid (show rat.IsR _ _ s0 from by rw [HS0.out]; exact H_sv.out)
            clear hi hlt HBe H_sv
            by_cases hls : q < q1
            · have HLs := Lib.hid hls
              have hsg := sign_less hls
              clear hls
              obtain ⟨ce, hce, hce2⟩ := cmp_most HDist.out.2
              have cx4 := fun (W : World) (v0 : Value) (v1 : Value) (hh0 : rat.IsR W v0 q) (hh1 : rat.IsR W v1 q1)  => rat.Sub_any v0 v1 q q1 W hh0 hh1 (L_q.out.rat (by decide)) (L_q1.out.rat (by decide))
              have Cx4 := Lib.hid cx4
              clear cx4
              have cx5 := fun (W : World) (v0 : Value) (hh0 : rat.IsR W v0 (q - q1))  => rat.Sign_any v0 (q - q1) W hh0
              rw [hsg] at cx5
              have Cx5 := Lib.hid cx5
              clear cx5
              have cx6 := fun (W : World) (v0 : Value) (v1 : Value) (hh0 : rat.IsR W v0 q1) (hh1 : rat.IsR W v1 q)  => rat.Sub_any v0 v1 q1 q W hh0 hh1 (L_q1.out.rat (by decide)) (L_q.out.rat (by decide))
              have Cx6 := Lib.hid cx6
              clear cx6
              have cx7 := fun (W : World)    => rat.Of_ok 2 1 W (by decide) (by decide) (by decide) (by decide) (by decide)
              rw [show (((2 : Int) : Rat) / ((1 : Int) : Rat)) = (2 : Rat) from by decide +kernel] at cx7
              have Cx7 := Lib.hid cx7
              clear cx7
              have cx8 := fun (W : World) (v0 : Value) (v1 : Value) (hh0 : rat.IsR W v0 (q1 - q)) (hh1 : rat.IsR W v1 ((2 : Rat)))  => rat.Mul_any v0 v1 (q1 - q) ((2 : Rat)) W hh0 hh1 ((Br_sub L_q1.out L_q.out).rat (by decide)) ((show Br (2 : Rat) 20 from Br_lowz (z := 2) (y := 1) (by decide) (by decide +kernel) (Bz_small (by decide) (by decide)) (Bz_small (by decide) (by decide))).rat (by decide))
              have Cx8 := Lib.hid cx8
              clear cx8
              have cx9 := fun (W : World) (v0 : Value) (v1 : Value) (hh0 : rat.IsR W v0 ((q1 - q) * ((2 : Rat)))) (hh1 : rat.IsR W v1 s0)  => rat.Cmp_any v0 v1 ((q1 - q) * ((2 : Rat))) s0 W hh0 hh1 ((Br_mul (Br_sub L_q1.out L_q.out) (show Br (2 : Rat) 20 from Br_lowz (z := 2) (y := 1) (by decide) (by decide +kernel) (Bz_small (by decide) (by decide)) (Bz_small (by decide) (by decide)))).rat (by decide)) (L_s0.out.rat (by decide))
              rw [hce] at cx9
              have Cx9 := Lib.hid cx9
              clear cx9
              clear hsg hce
              go_wp2_with (first
                | (go_at_call 89; (with_reducible refine (Cx4.out _ _ _ (((((((((((H_a.out.below HB3.out).below HB4.out).below HB5.out).below HB6.out).below HB7.out).below HB8.out).below HB9.out).below HB10.out).below HB11.out).below HB12.out).below HB13.out) (((H_b.out.below HB11.out).below HB12.out).below HB13.out)).mono ?_); rintro e W14 ⟨d1, rfl, ⟨h_d1, n_d1⟩, hb⟩
                   have H_d1 := Lib.hid h_d1
                   have N_d1 := Lib.hid n_d1
                   have HB14 := Lib.hid hb
                   obtain ⟨d14_x_0, d14_x_1, d14_x_2⟩ := (((((((((((M_x.out.below HB4.out).below HB5.out).below HB6.out).below HB7.out).below HB8.out).below HB9.out).below HB10.out).below HB11.out).below HB12.out).below HB13.out).below HB14.out)
                   clear h_d1 n_d1 hb Cx4)
                | (go_at_call 90; (with_reducible refine (Cx5.out _ _ H_d1.out).mono ?_); rintro e W15 ⟨rfl, hb⟩
                   have HB15 := Lib.hid hb
                   obtain ⟨d15_x_0, d15_x_1, d15_x_2⟩ := ((((((((((((M_x.out.below HB4.out).below HB5.out).below HB6.out).below HB7.out).below HB8.out).below HB9.out).below HB10.out).below HB11.out).below HB12.out).below HB13.out).below HB14.out).below HB15.out)
                   clear hb Cx5)
                | (go_at_call 89; (with_reducible refine (Cx6.out _ _ _ (((((H_b.out.below HB11.out).below HB12.out).below HB13.out).below HB14.out).below HB15.out) (((((((((((((H_a.out.below HB3.out).below HB4.out).below HB5.out).below HB6.out).below HB7.out).below HB8.out).below HB9.out).below HB10.out).below HB11.out).below HB12.out).below HB13.out).below HB14.out).below HB15.out)).mono ?_); rintro e W16 ⟨d2, rfl, ⟨h_d2, n_d2⟩, hb⟩
                   have H_d2 := Lib.hid h_d2
                   have N_d2 := Lib.hid n_d2
                   have HB16 := Lib.hid hb
                   obtain ⟨d16_x_0, d16_x_1, d16_x_2⟩ := (((((((((((((M_x.out.below HB4.out).below HB5.out).below HB6.out).below HB7.out).below HB8.out).below HB9.out).below HB10.out).below HB11.out).below HB12.out).below HB13.out).below HB14.out).below HB15.out).below HB16.out)
                   clear h_d2 n_d2 hb Cx6)
                | (go_at_call 74; (with_reducible refine (Cx7.out _ ).mono ?_); rintro e W17 ⟨two, rfl, ⟨h_two, n_two⟩, hb⟩
                   have H_two := Lib.hid h_two
                   have N_two := Lib.hid n_two
                   have HB17 := Lib.hid hb
                   obtain ⟨d17_x_0, d17_x_1, d17_x_2⟩ := ((((((((((((((M_x.out.below HB4.out).below HB5.out).below HB6.out).below HB7.out).below HB8.out).below HB9.out).below HB10.out).below HB11.out).below HB12.out).below HB13.out).below HB14.out).below HB15.out).below HB16.out).below HB17.out)
                   clear h_two n_two hb Cx7)
                | (go_at_call 91; (with_reducible refine (Cx8.out _ _ _ (H_d2.out.below HB17.out) H_two.out).mono ?_); rintro e W18 ⟨d3, rfl, ⟨h_d3, n_d3⟩, hb⟩
                   have H_d3 := Lib.hid h_d3
                   have N_d3 := Lib.hid n_d3
                   have HB18 := Lib.hid hb
                   obtain ⟨d18_x_0, d18_x_1, d18_x_2⟩ := (((((((((((((((M_x.out.below HB4.out).below HB5.out).below HB6.out).below HB7.out).below HB8.out).below HB9.out).below HB10.out).below HB11.out).below HB12.out).below HB13.out).below HB14.out).below HB15.out).below HB16.out).below HB17.out).below HB18.out)
                   clear h_d3 n_d3 hb Cx8)
                | (go_at_call 77; (with_reducible refine (Cx9.out _ _ _ H_d3.out (((((H_s.out.below HB14.out).below HB15.out).below HB16.out).below HB17.out).below HB18.out)).mono ?_); rintro e W19 ⟨rfl, hb⟩
                   have HB19 := Lib.hid hb
                   obtain ⟨d19_x_0, d19_x_1, d19_x_2⟩ := ((((((((((((((((M_x.out.below HB4.out).below HB5.out).below HB6.out).below HB7.out).below HB8.out).below HB9.out).below HB10.out).below HB11.out).below HB12.out).below HB13.out).below HB14.out).below HB15.out).below HB16.out).below HB17.out).below HB18.out).below HB19.out)
                   clear hb Cx9)
                | (fail "no arm"))
              skip
              all_goals (go_ret; exact ⟨rfl, (nat.below_tr (nat.below_tr (nat.below_tr (nat.below_tr (nat.below_tr (nat.below_tr (nat.below_tr (nat.below_tr (nat.below_tr (nat.below_tr (nat.below_tr (nat.below_tr (nat.below_tr (nat.below_tr (nat.below_tr (nat.below_tr (nat.below_tr (nat.below_tr HB1.out HB2.out) HB3.out) HB4.out) HB5.out) HB6.out) HB7.out) HB8.out) HB9.out) HB10.out) HB11.out) HB12.out) HB13.out) HB14.out) HB15.out) HB16.out) HB17.out) HB18.out) HB19.out)⟩)
            · have HLs := Lib.hid hls
              obtain ⟨cs, hsg, hcs⟩ := sign_more hls
              clear hls
              obtain ⟨ce, hce, hce2⟩ := cmp_most HDist.out.1
              have cx4 := fun (W : World) (v0 : Value) (v1 : Value) (hh0 : rat.IsR W v0 q) (hh1 : rat.IsR W v1 q1)  => rat.Sub_any v0 v1 q q1 W hh0 hh1 (L_q.out.rat (by decide)) (L_q1.out.rat (by decide))
              have Cx4 := Lib.hid cx4
              clear cx4
              have cx5 := fun (W : World) (v0 : Value) (hh0 : rat.IsR W v0 (q - q1))  => rat.Sign_any v0 (q - q1) W hh0
              rw [hsg] at cx5
              have Cx5 := Lib.hid cx5
              clear cx5
              have cx6 := fun (W : World)    => rat.Of_ok 2 1 W (by decide) (by decide) (by decide) (by decide) (by decide)
              rw [show (((2 : Int) : Rat) / ((1 : Int) : Rat)) = (2 : Rat) from by decide +kernel] at cx6
              have Cx6 := Lib.hid cx6
              clear cx6
              have cx7 := fun (W : World) (v0 : Value) (v1 : Value) (hh0 : rat.IsR W v0 (q - q1)) (hh1 : rat.IsR W v1 ((2 : Rat)))  => rat.Mul_any v0 v1 (q - q1) ((2 : Rat)) W hh0 hh1 ((Br_sub L_q.out L_q1.out).rat (by decide)) ((show Br (2 : Rat) 20 from Br_lowz (z := 2) (y := 1) (by decide) (by decide +kernel) (Bz_small (by decide) (by decide)) (Bz_small (by decide) (by decide))).rat (by decide))
              have Cx7 := Lib.hid cx7
              clear cx7
              have cx8 := fun (W : World) (v0 : Value) (v1 : Value) (hh0 : rat.IsR W v0 ((q - q1) * ((2 : Rat)))) (hh1 : rat.IsR W v1 s0)  => rat.Cmp_any v0 v1 ((q - q1) * ((2 : Rat))) s0 W hh0 hh1 ((Br_mul (Br_sub L_q.out L_q1.out) (show Br (2 : Rat) 20 from Br_lowz (z := 2) (y := 1) (by decide) (by decide +kernel) (Bz_small (by decide) (by decide)) (Bz_small (by decide) (by decide)))).rat (by decide)) (L_s0.out.rat (by decide))
              rw [hce] at cx8
              have Cx8 := Lib.hid cx8
              clear cx8
              clear hsg hce
              go_wp2_with (first
                | (go_at_call 89; (with_reducible refine (Cx4.out _ _ _ (((((((((((H_a.out.below HB3.out).below HB4.out).below HB5.out).below HB6.out).below HB7.out).below HB8.out).below HB9.out).below HB10.out).below HB11.out).below HB12.out).below HB13.out) (((H_b.out.below HB11.out).below HB12.out).below HB13.out)).mono ?_); rintro e W14 ⟨d1, rfl, ⟨h_d1, n_d1⟩, hb⟩
                   have H_d1 := Lib.hid h_d1
                   have N_d1 := Lib.hid n_d1
                   have HB14 := Lib.hid hb
                   obtain ⟨d14_x_0, d14_x_1, d14_x_2⟩ := (((((((((((M_x.out.below HB4.out).below HB5.out).below HB6.out).below HB7.out).below HB8.out).below HB9.out).below HB10.out).below HB11.out).below HB12.out).below HB13.out).below HB14.out)
                   clear h_d1 n_d1 hb Cx4)
                | (go_at_call 90; (with_reducible refine (Cx5.out _ _ H_d1.out).mono ?_); rintro e W15 ⟨rfl, hb⟩
                   have HB15 := Lib.hid hb
                   obtain ⟨d15_x_0, d15_x_1, d15_x_2⟩ := ((((((((((((M_x.out.below HB4.out).below HB5.out).below HB6.out).below HB7.out).below HB8.out).below HB9.out).below HB10.out).below HB11.out).below HB12.out).below HB13.out).below HB14.out).below HB15.out)
                   clear hb Cx5)
                | (go_at_call 74; (with_reducible refine (Cx6.out _ ).mono ?_); rintro e W16 ⟨two, rfl, ⟨h_two, n_two⟩, hb⟩
                   have H_two := Lib.hid h_two
                   have N_two := Lib.hid n_two
                   have HB16 := Lib.hid hb
                   obtain ⟨d16_x_0, d16_x_1, d16_x_2⟩ := (((((((((((((M_x.out.below HB4.out).below HB5.out).below HB6.out).below HB7.out).below HB8.out).below HB9.out).below HB10.out).below HB11.out).below HB12.out).below HB13.out).below HB14.out).below HB15.out).below HB16.out)
                   clear h_two n_two hb Cx6)
                | (go_at_call 91; (with_reducible refine (Cx7.out _ _ _ ((H_d1.out.below HB15.out).below HB16.out) H_two.out).mono ?_); rintro e W17 ⟨d3, rfl, ⟨h_d3, n_d3⟩, hb⟩
                   have H_d3 := Lib.hid h_d3
                   have N_d3 := Lib.hid n_d3
                   have HB17 := Lib.hid hb
                   obtain ⟨d17_x_0, d17_x_1, d17_x_2⟩ := ((((((((((((((M_x.out.below HB4.out).below HB5.out).below HB6.out).below HB7.out).below HB8.out).below HB9.out).below HB10.out).below HB11.out).below HB12.out).below HB13.out).below HB14.out).below HB15.out).below HB16.out).below HB17.out)
                   clear h_d3 n_d3 hb Cx7)
                | (go_at_call 77; (with_reducible refine (Cx8.out _ _ _ H_d3.out ((((H_s.out.below HB14.out).below HB15.out).below HB16.out).below HB17.out)).mono ?_); rintro e W18 ⟨rfl, hb⟩
                   have HB18 := Lib.hid hb
                   obtain ⟨d18_x_0, d18_x_1, d18_x_2⟩ := (((((((((((((((M_x.out.below HB4.out).below HB5.out).below HB6.out).below HB7.out).below HB8.out).below HB9.out).below HB10.out).below HB11.out).below HB12.out).below HB13.out).below HB14.out).below HB15.out).below HB16.out).below HB17.out).below HB18.out)
                   clear hb Cx8)
                | (fail "no arm"))
              skip
              all_goals (go_ret; exact ⟨rfl, (nat.below_tr (nat.below_tr (nat.below_tr (nat.below_tr (nat.below_tr (nat.below_tr (nat.below_tr (nat.below_tr (nat.below_tr (nat.below_tr (nat.below_tr (nat.below_tr (nat.below_tr (nat.below_tr (nat.below_tr (nat.below_tr (nat.below_tr HB1.out HB2.out) HB3.out) HB4.out) HB5.out) HB6.out) HB7.out) HB8.out) HB9.out) HB10.out) HB11.out) HB12.out) HB13.out) HB14.out) HB15.out) HB16.out) HB17.out) HB18.out)⟩)
      · have F1 := fun W v (h : rat.IsR W v q) => dec.Round_ok v q k 2 W h (L_q.out.rat (by decide)) hk (Or.inr (Or.inl rfl))
        have RR := fun W v (h : ref.IsQ W v za da) => ref.Round_any v za da k 2 W h (LZ_a.out.ref (by decide)) (LD_a.out.ref (by decide)) P_a.out (by omega)
        rw [dec.round_put P_a.out k 2 E_q.out] at RR
        have RR := Lib.hid RR
        obtain ⟨Z, hZ⟩ : ∃ Z, Z = signed (decide (q.num < 0)) (ref.nearN (q.num.natAbs * 10 ^ k) q.den 2) := ⟨_, rfl⟩
        have hZb : Bz Z 51 := by rw [hZ]; exact round_bz L_q.out hk
        have hf := dec.int_form (k := k) (p := 50) hZb (by omega) hk
        obtain ⟨q1, hq1⟩ : ∃ q1 : Rat, q1 = (Z : Rat) / ((10 ^ k : Nat) : Rat) := ⟨_, rfl⟩
        have L_q1 := Lib.hid (show Br q1 60 from dec.br_ten hq1 hk (hZb.le (by decide)) (by decide))
        have GT := Lib.hid (fun W => DGet_yes _ _ _ _ q1 W (by rw [dec.signed_self]; exact hq1) hf)
        have hq1z : q1 = ((signed (decide (q.num < 0)) (ref.nearN (q.num.natAbs * 10 ^ k) q.den 2) : Int) : Rat) / ((10 ^ k : Nat) : Rat) := by rw [hq1, hZ]
        have hput : dec.putText q k 2 = decText Z k := by rw [hZ]; rfl
        rw [hput] at F1
        rw [hput] at RR
        have F1 := Lib.hid F1
        obtain ⟨s0, hs0⟩ : ∃ s : Rat, s = (1 : Rat) / ((10 ^ k : Nat) : Rat) := ⟨_, rfl⟩
        have HDist := Lib.hid ((dec.dist_ways hq1z hs0).2 (Or.inr rfl))
        have HS0 := Lib.hid hs0
        have L_s0 := Lib.hid (show Br s0 21 from by rw [hs0]; exact step_br hk)
        have HUE := dec.units_eq P_a.out 2 E_q.out
        have NE := fun W v (h : ref.IsQ W v za da) => ref.Near_any v za da 2 W h (LZ_a.out.ref (by decide)) (LD_a.out.ref (by decide)) P_a.out
        have UI := fun W v (h : rat.IsR W v q) => dec.Units_in v q 2 W h (L_q.out.rat (by decide)) (Or.inr (Or.inl rfl))
        have UO := fun W v (h : rat.IsR W v q) => dec.Units_out v q 2 W h (L_q.out.rat (by decide)) (Or.inr (Or.inl rfl))
        rw [← HUE] at NE
        have NE := Lib.hid NE
        have UI := Lib.hid UI
        have UO := Lib.hid UO
        generalize signed (decide (q.num < 0)) (ref.nearN q.num.natAbs q.den 2) = U at *
        clear hZ hZb hf hq1 hq1z hput HUE hs0
        generalize str (decText Z k) = sT at *
        go_wp2_with (first
          | (go_at_call 82; (with_reducible refine (F1.out _ _ (H_a.out.below HB3.out)).mono ?_); rintro e W4 ⟨rfl, hb⟩
             have HB4 := Lib.hid hb
             obtain ⟨d4_x_0, d4_x_1, d4_x_2⟩ := (M_x.out.below HB4.out)
             clear hb)
          | (go_at_call 83; (with_reducible refine (RR.out _ _ ((H_x.out.below HB3.out).below HB4.out)).mono ?_); rintro e W5 ⟨rfl, hb⟩
             have HB5 := Lib.hid hb
             obtain ⟨d5_x_0, d5_x_1, d5_x_2⟩ := ((M_x.out.below HB4.out).below HB5.out)
             clear hb)
          | (fail "no arm"))
        rcases (show (-9223372036854775808 ≤ U ∧ U < 9223372036854775808) ∨ (U < -9223372036854775808 ∨ 9223372036854775808 ≤ U) by omega) with hin | hin
        · have HIn := Lib.hid hin
          clear hin
          have c1 := fun (W : World) (v0 : Value) (hh0 : ref.IsI W v0 U)  => ref.ISmall_in v0 U W hh0 HIn.out.1 HIn.out.2
          have C1 := Lib.hid c1
          clear c1
          have c2 := fun (W : World)    => rat.Of_ok 1 1 W (by decide) (by decide) (by decide) (by decide) (by decide)
          rw [show (((1 : Int) : Rat) / ((1 : Int) : Rat)) = (1 : Rat) from by decide +kernel] at c2
          have C2 := Lib.hid c2
          clear c2
          have c3 := fun (W : World)    => rat.Of_ok 10 1 W (by decide) (by decide) (by decide) (by decide) (by decide)
          rw [show (((10 : Int) : Rat) / ((1 : Int) : Rat)) = (10 : Rat) from by decide +kernel] at c3
          have C3 := Lib.hid c3
          clear c3
          go_wp2_with (first
            | (go_at_call 84; (with_reducible refine (UI.out _ _ (((H_a.out.below HB3.out).below HB4.out).below HB5.out) HIn.out.1 HIn.out.2).mono ?_); rintro e W6 ⟨rfl, hb⟩
               have HB6 := Lib.hid hb
               obtain ⟨d6_x_0, d6_x_1, d6_x_2⟩ := (((M_x.out.below HB4.out).below HB5.out).below HB6.out)
               clear hb)
            | (go_at_call 85; (with_reducible refine (NE.out _ _ ((((H_x.out.below HB3.out).below HB4.out).below HB5.out).below HB6.out)).mono ?_); rintro e W7 ⟨nr, rfl, h_nr, hb⟩
               have H_nr := Lib.hid h_nr
               have HB7 := Lib.hid hb
               obtain ⟨d7_x_0, d7_x_1, d7_x_2⟩ := ((((M_x.out.below HB4.out).below HB5.out).below HB6.out).below HB7.out)
               clear h_nr hb)
            | (go_at_call 59; (with_reducible refine (C1.out _ _ H_nr.out).mono ?_); rintro e W8 ⟨rfl, hb⟩
               have HB8 := Lib.hid hb
               obtain ⟨d8_x_0, d8_x_1, d8_x_2⟩ := (((((M_x.out.below HB4.out).below HB5.out).below HB6.out).below HB7.out).below HB8.out)
               clear hb C1)
            | (go_at_call 78; (with_reducible refine (GT.out _).mono ?_); rintro e W9 ⟨b, rfl, ⟨h_b, n_b⟩, hb⟩
               have H_b := Lib.hid h_b
               have N_b := Lib.hid n_b
               have HB9 := Lib.hid hb
               obtain ⟨d9_x_0, d9_x_1, d9_x_2⟩ := ((((((M_x.out.below HB4.out).below HB5.out).below HB6.out).below HB7.out).below HB8.out).below HB9.out)
               clear h_b n_b hb GT)
            | (go_at_call 74; (with_reducible refine (C2.out _ ).mono ?_); rintro e W10 ⟨st, rfl, ⟨h_st, n_st⟩, hb⟩
               have H_st := Lib.hid h_st
               have N_st := Lib.hid n_st
               have HB10 := Lib.hid hb
               obtain ⟨d10_x_0, d10_x_1, d10_x_2⟩ := (((((((M_x.out.below HB4.out).below HB5.out).below HB6.out).below HB7.out).below HB8.out).below HB9.out).below HB10.out)
               clear h_st n_st hb C2)
            | (go_at_call 74; (with_reducible refine (C3.out _ ).mono ?_); rintro e W11 ⟨ten, rfl, ⟨h_ten, n_ten⟩, hb⟩
               have H_ten := Lib.hid h_ten
               have N_ten := Lib.hid n_ten
               have HB11 := Lib.hid hb
               obtain ⟨d11_x_0, d11_x_1, d11_x_2⟩ := ((((((((M_x.out.below HB4.out).below HB5.out).below HB6.out).below HB7.out).below HB8.out).below HB9.out).below HB10.out).below HB11.out)
               clear h_ten n_ten hb C3)
            | (fail "no arm"))
          clear d4_x_0 d4_x_1 d4_x_2 d5_x_0 d5_x_1 d5_x_2 d6_x_0 d6_x_1 d6_x_2 d7_x_0 d7_x_1 d7_x_2 d8_x_0 d8_x_1 d8_x_2 d9_x_0 d9_x_1 d9_x_2 d10_x_0 d10_x_1 d10_x_2 d11_x_0 d11_x_1 d11_x_2
          go_loopw [23, 27] (fun sv iv wr => StepRel W11 k sv iv wr) (fun _ iv _ => k - (intOf iv).toNat)
          case atStart => exact ⟨0, Nat.zero_le _, rfl, ⟨by rw [show ((1 : Rat) / ((10 ^ 0 : Nat) : Rat)) = 1 by decide +kernel]; exact (H_st.out.below HB11.out), N_st.out⟩, Below.refl _ _⟩
          obtain ⟨i, hi, rfl, ⟨hs, hns⟩, hbe⟩ := hrel
          have H_sv := Lib.hid hs
          have N_sv := Lib.hid hns
          have HBe := Lib.hid hbe
          clear hs hns hbe
          by_cases hlt : (i : Int) < (k : Int)
          · have hi20 : i ≤ 20 := by omega
            have DV := fun W u v (hu : rat.IsR W u ((1 : Rat) / ((10 ^ i : Nat) : Rat))) (hv : rat.IsR W v (10 : Rat)) => rat.Div_ok u v _ _ W hu hv ((step_br hi20).rat (by decide)) (((show Br (10 : Rat) 20 from Br_lowz (z := 10) (y := 1) (by decide) (by decide +kernel) (Bz_small (by decide) (by decide)) (Bz_small (by decide) (by decide))).rat (by decide))) (by decide +kernel)
            rw [dec.step_next] at DV
            have DV := Lib.hid DV
            go_wp2_with (first
              | (go_at_call 88; (with_reducible refine (DV.out _ _ _ H_sv.out (H_ten.out.below HBe.out)).mono ?_); rintro e V1 ⟨s1, rfl, ⟨h_1, n_1⟩, hb⟩; have H1 := Lib.hid h_1; have N1 := Lib.hid n_1; have G1 := Lib.hid hb; clear h_1 n_1 hb)
              | (fail "no arm"))
            go_roundw
            case rel => exact ⟨i + 1, by omega, by go_num, ⟨H1.out, N1.out⟩, nat.below_tr HBe.out G1.out⟩
            case measure => simp [intOf]; omega
          · obtain rfl : i = k := by omega
            obtain ⟨W12, hWr⟩ : ∃ W : World, wr = W := ⟨_, rfl⟩
            subst hWr
            have HB12 := Lib.hid HBe.out
            have H_s := Lib.hid (show rat.IsR _ _ s0 from by rw [HS0.out]; exact H_sv.out)
            clear hi hlt HBe H_sv
            by_cases hls : q < q1
            · have HLs := Lib.hid hls
              have hsg := sign_less hls
              clear hls
              obtain ⟨ce, hce, hce2⟩ := cmp_most HDist.out.2
              have cx4 := fun (W : World) (v0 : Value) (v1 : Value) (hh0 : rat.IsR W v0 q) (hh1 : rat.IsR W v1 q1)  => rat.Sub_any v0 v1 q q1 W hh0 hh1 (L_q.out.rat (by decide)) (L_q1.out.rat (by decide))
              have Cx4 := Lib.hid cx4
              clear cx4
              have cx5 := fun (W : World) (v0 : Value) (hh0 : rat.IsR W v0 (q - q1))  => rat.Sign_any v0 (q - q1) W hh0
              rw [hsg] at cx5
              have Cx5 := Lib.hid cx5
              clear cx5
              have cx6 := fun (W : World) (v0 : Value) (v1 : Value) (hh0 : rat.IsR W v0 q1) (hh1 : rat.IsR W v1 q)  => rat.Sub_any v0 v1 q1 q W hh0 hh1 (L_q1.out.rat (by decide)) (L_q.out.rat (by decide))
              have Cx6 := Lib.hid cx6
              clear cx6
              have cx7 := fun (W : World)    => rat.Of_ok 2 1 W (by decide) (by decide) (by decide) (by decide) (by decide)
              rw [show (((2 : Int) : Rat) / ((1 : Int) : Rat)) = (2 : Rat) from by decide +kernel] at cx7
              have Cx7 := Lib.hid cx7
              clear cx7
              have cx8 := fun (W : World) (v0 : Value) (v1 : Value) (hh0 : rat.IsR W v0 (q1 - q)) (hh1 : rat.IsR W v1 ((2 : Rat)))  => rat.Mul_any v0 v1 (q1 - q) ((2 : Rat)) W hh0 hh1 ((Br_sub L_q1.out L_q.out).rat (by decide)) ((show Br (2 : Rat) 20 from Br_lowz (z := 2) (y := 1) (by decide) (by decide +kernel) (Bz_small (by decide) (by decide)) (Bz_small (by decide) (by decide))).rat (by decide))
              have Cx8 := Lib.hid cx8
              clear cx8
              have cx9 := fun (W : World) (v0 : Value) (v1 : Value) (hh0 : rat.IsR W v0 ((q1 - q) * ((2 : Rat)))) (hh1 : rat.IsR W v1 s0)  => rat.Cmp_any v0 v1 ((q1 - q) * ((2 : Rat))) s0 W hh0 hh1 ((Br_mul (Br_sub L_q1.out L_q.out) (show Br (2 : Rat) 20 from Br_lowz (z := 2) (y := 1) (by decide) (by decide +kernel) (Bz_small (by decide) (by decide)) (Bz_small (by decide) (by decide)))).rat (by decide)) (L_s0.out.rat (by decide))
              rw [hce] at cx9
              have Cx9 := Lib.hid cx9
              clear cx9
              clear hsg hce
              go_wp2_with (first
                | (go_at_call 89; (with_reducible refine (Cx4.out _ _ _ ((((((((((H_a.out.below HB3.out).below HB4.out).below HB5.out).below HB6.out).below HB7.out).below HB8.out).below HB9.out).below HB10.out).below HB11.out).below HB12.out) (((H_b.out.below HB10.out).below HB11.out).below HB12.out)).mono ?_); rintro e W13 ⟨d1, rfl, ⟨h_d1, n_d1⟩, hb⟩
                   have H_d1 := Lib.hid h_d1
                   have N_d1 := Lib.hid n_d1
                   have HB13 := Lib.hid hb
                   obtain ⟨d13_x_0, d13_x_1, d13_x_2⟩ := ((((((((((M_x.out.below HB4.out).below HB5.out).below HB6.out).below HB7.out).below HB8.out).below HB9.out).below HB10.out).below HB11.out).below HB12.out).below HB13.out)
                   clear h_d1 n_d1 hb Cx4)
                | (go_at_call 90; (with_reducible refine (Cx5.out _ _ H_d1.out).mono ?_); rintro e W14 ⟨rfl, hb⟩
                   have HB14 := Lib.hid hb
                   obtain ⟨d14_x_0, d14_x_1, d14_x_2⟩ := (((((((((((M_x.out.below HB4.out).below HB5.out).below HB6.out).below HB7.out).below HB8.out).below HB9.out).below HB10.out).below HB11.out).below HB12.out).below HB13.out).below HB14.out)
                   clear hb Cx5)
                | (go_at_call 89; (with_reducible refine (Cx6.out _ _ _ (((((H_b.out.below HB10.out).below HB11.out).below HB12.out).below HB13.out).below HB14.out) ((((((((((((H_a.out.below HB3.out).below HB4.out).below HB5.out).below HB6.out).below HB7.out).below HB8.out).below HB9.out).below HB10.out).below HB11.out).below HB12.out).below HB13.out).below HB14.out)).mono ?_); rintro e W15 ⟨d2, rfl, ⟨h_d2, n_d2⟩, hb⟩
                   have H_d2 := Lib.hid h_d2
                   have N_d2 := Lib.hid n_d2
                   have HB15 := Lib.hid hb
                   obtain ⟨d15_x_0, d15_x_1, d15_x_2⟩ := ((((((((((((M_x.out.below HB4.out).below HB5.out).below HB6.out).below HB7.out).below HB8.out).below HB9.out).below HB10.out).below HB11.out).below HB12.out).below HB13.out).below HB14.out).below HB15.out)
                   clear h_d2 n_d2 hb Cx6)
                | (go_at_call 74; (with_reducible refine (Cx7.out _ ).mono ?_); rintro e W16 ⟨two, rfl, ⟨h_two, n_two⟩, hb⟩
                   have H_two := Lib.hid h_two
                   have N_two := Lib.hid n_two
                   have HB16 := Lib.hid hb
                   obtain ⟨d16_x_0, d16_x_1, d16_x_2⟩ := (((((((((((((M_x.out.below HB4.out).below HB5.out).below HB6.out).below HB7.out).below HB8.out).below HB9.out).below HB10.out).below HB11.out).below HB12.out).below HB13.out).below HB14.out).below HB15.out).below HB16.out)
                   clear h_two n_two hb Cx7)
                | (go_at_call 91; (with_reducible refine (Cx8.out _ _ _ (H_d2.out.below HB16.out) H_two.out).mono ?_); rintro e W17 ⟨d3, rfl, ⟨h_d3, n_d3⟩, hb⟩
                   have H_d3 := Lib.hid h_d3
                   have N_d3 := Lib.hid n_d3
                   have HB17 := Lib.hid hb
                   obtain ⟨d17_x_0, d17_x_1, d17_x_2⟩ := ((((((((((((((M_x.out.below HB4.out).below HB5.out).below HB6.out).below HB7.out).below HB8.out).below HB9.out).below HB10.out).below HB11.out).below HB12.out).below HB13.out).below HB14.out).below HB15.out).below HB16.out).below HB17.out)
                   clear h_d3 n_d3 hb Cx8)
                | (go_at_call 77; (with_reducible refine (Cx9.out _ _ _ H_d3.out (((((H_s.out.below HB13.out).below HB14.out).below HB15.out).below HB16.out).below HB17.out)).mono ?_); rintro e W18 ⟨rfl, hb⟩
                   have HB18 := Lib.hid hb
                   obtain ⟨d18_x_0, d18_x_1, d18_x_2⟩ := (((((((((((((((M_x.out.below HB4.out).below HB5.out).below HB6.out).below HB7.out).below HB8.out).below HB9.out).below HB10.out).below HB11.out).below HB12.out).below HB13.out).below HB14.out).below HB15.out).below HB16.out).below HB17.out).below HB18.out)
                   clear hb Cx9)
                | (fail "no arm"))
              skip
              all_goals (go_ret; exact ⟨rfl, (nat.below_tr (nat.below_tr (nat.below_tr (nat.below_tr (nat.below_tr (nat.below_tr (nat.below_tr (nat.below_tr (nat.below_tr (nat.below_tr (nat.below_tr (nat.below_tr (nat.below_tr (nat.below_tr (nat.below_tr (nat.below_tr (nat.below_tr HB1.out HB2.out) HB3.out) HB4.out) HB5.out) HB6.out) HB7.out) HB8.out) HB9.out) HB10.out) HB11.out) HB12.out) HB13.out) HB14.out) HB15.out) HB16.out) HB17.out) HB18.out)⟩)
            · have HLs := Lib.hid hls
              obtain ⟨cs, hsg, hcs⟩ := sign_more hls
              clear hls
              obtain ⟨ce, hce, hce2⟩ := cmp_most HDist.out.1
              have cx4 := fun (W : World) (v0 : Value) (v1 : Value) (hh0 : rat.IsR W v0 q) (hh1 : rat.IsR W v1 q1)  => rat.Sub_any v0 v1 q q1 W hh0 hh1 (L_q.out.rat (by decide)) (L_q1.out.rat (by decide))
              have Cx4 := Lib.hid cx4
              clear cx4
              have cx5 := fun (W : World) (v0 : Value) (hh0 : rat.IsR W v0 (q - q1))  => rat.Sign_any v0 (q - q1) W hh0
              rw [hsg] at cx5
              have Cx5 := Lib.hid cx5
              clear cx5
              have cx6 := fun (W : World)    => rat.Of_ok 2 1 W (by decide) (by decide) (by decide) (by decide) (by decide)
              rw [show (((2 : Int) : Rat) / ((1 : Int) : Rat)) = (2 : Rat) from by decide +kernel] at cx6
              have Cx6 := Lib.hid cx6
              clear cx6
              have cx7 := fun (W : World) (v0 : Value) (v1 : Value) (hh0 : rat.IsR W v0 (q - q1)) (hh1 : rat.IsR W v1 ((2 : Rat)))  => rat.Mul_any v0 v1 (q - q1) ((2 : Rat)) W hh0 hh1 ((Br_sub L_q.out L_q1.out).rat (by decide)) ((show Br (2 : Rat) 20 from Br_lowz (z := 2) (y := 1) (by decide) (by decide +kernel) (Bz_small (by decide) (by decide)) (Bz_small (by decide) (by decide))).rat (by decide))
              have Cx7 := Lib.hid cx7
              clear cx7
              have cx8 := fun (W : World) (v0 : Value) (v1 : Value) (hh0 : rat.IsR W v0 ((q - q1) * ((2 : Rat)))) (hh1 : rat.IsR W v1 s0)  => rat.Cmp_any v0 v1 ((q - q1) * ((2 : Rat))) s0 W hh0 hh1 ((Br_mul (Br_sub L_q.out L_q1.out) (show Br (2 : Rat) 20 from Br_lowz (z := 2) (y := 1) (by decide) (by decide +kernel) (Bz_small (by decide) (by decide)) (Bz_small (by decide) (by decide)))).rat (by decide)) (L_s0.out.rat (by decide))
              rw [hce] at cx8
              have Cx8 := Lib.hid cx8
              clear cx8
              clear hsg hce
              go_wp2_with (first
                | (go_at_call 89; (with_reducible refine (Cx4.out _ _ _ ((((((((((H_a.out.below HB3.out).below HB4.out).below HB5.out).below HB6.out).below HB7.out).below HB8.out).below HB9.out).below HB10.out).below HB11.out).below HB12.out) (((H_b.out.below HB10.out).below HB11.out).below HB12.out)).mono ?_); rintro e W13 ⟨d1, rfl, ⟨h_d1, n_d1⟩, hb⟩
                   have H_d1 := Lib.hid h_d1
                   have N_d1 := Lib.hid n_d1
                   have HB13 := Lib.hid hb
                   obtain ⟨d13_x_0, d13_x_1, d13_x_2⟩ := ((((((((((M_x.out.below HB4.out).below HB5.out).below HB6.out).below HB7.out).below HB8.out).below HB9.out).below HB10.out).below HB11.out).below HB12.out).below HB13.out)
                   clear h_d1 n_d1 hb Cx4)
                | (go_at_call 90; (with_reducible refine (Cx5.out _ _ H_d1.out).mono ?_); rintro e W14 ⟨rfl, hb⟩
                   have HB14 := Lib.hid hb
                   obtain ⟨d14_x_0, d14_x_1, d14_x_2⟩ := (((((((((((M_x.out.below HB4.out).below HB5.out).below HB6.out).below HB7.out).below HB8.out).below HB9.out).below HB10.out).below HB11.out).below HB12.out).below HB13.out).below HB14.out)
                   clear hb Cx5)
                | (go_at_call 74; (with_reducible refine (Cx6.out _ ).mono ?_); rintro e W15 ⟨two, rfl, ⟨h_two, n_two⟩, hb⟩
                   have H_two := Lib.hid h_two
                   have N_two := Lib.hid n_two
                   have HB15 := Lib.hid hb
                   obtain ⟨d15_x_0, d15_x_1, d15_x_2⟩ := ((((((((((((M_x.out.below HB4.out).below HB5.out).below HB6.out).below HB7.out).below HB8.out).below HB9.out).below HB10.out).below HB11.out).below HB12.out).below HB13.out).below HB14.out).below HB15.out)
                   clear h_two n_two hb Cx6)
                | (go_at_call 91; (with_reducible refine (Cx7.out _ _ _ ((H_d1.out.below HB14.out).below HB15.out) H_two.out).mono ?_); rintro e W16 ⟨d3, rfl, ⟨h_d3, n_d3⟩, hb⟩
                   have H_d3 := Lib.hid h_d3
                   have N_d3 := Lib.hid n_d3
                   have HB16 := Lib.hid hb
                   obtain ⟨d16_x_0, d16_x_1, d16_x_2⟩ := (((((((((((((M_x.out.below HB4.out).below HB5.out).below HB6.out).below HB7.out).below HB8.out).below HB9.out).below HB10.out).below HB11.out).below HB12.out).below HB13.out).below HB14.out).below HB15.out).below HB16.out)
                   clear h_d3 n_d3 hb Cx7)
                | (go_at_call 77; (with_reducible refine (Cx8.out _ _ _ H_d3.out ((((H_s.out.below HB13.out).below HB14.out).below HB15.out).below HB16.out)).mono ?_); rintro e W17 ⟨rfl, hb⟩
                   have HB17 := Lib.hid hb
                   obtain ⟨d17_x_0, d17_x_1, d17_x_2⟩ := ((((((((((((((M_x.out.below HB4.out).below HB5.out).below HB6.out).below HB7.out).below HB8.out).below HB9.out).below HB10.out).below HB11.out).below HB12.out).below HB13.out).below HB14.out).below HB15.out).below HB16.out).below HB17.out)
                   clear hb Cx8)
                | (fail "no arm"))
              skip
              all_goals (go_ret; exact ⟨rfl, (nat.below_tr (nat.below_tr (nat.below_tr (nat.below_tr (nat.below_tr (nat.below_tr (nat.below_tr (nat.below_tr (nat.below_tr (nat.below_tr (nat.below_tr (nat.below_tr (nat.below_tr (nat.below_tr (nat.below_tr (nat.below_tr HB1.out HB2.out) HB3.out) HB4.out) HB5.out) HB6.out) HB7.out) HB8.out) HB9.out) HB10.out) HB11.out) HB12.out) HB13.out) HB14.out) HB15.out) HB16.out) HB17.out)⟩)
        · have HIn := Lib.hid hin
          clear hin
          have c1 := fun (W : World) (v0 : Value) (hh0 : ref.IsI W v0 U)  => ref.ISmall_out v0 U W hh0 HIn.out
          have C1 := Lib.hid c1
          clear c1
          have c2 := fun (W : World)    => rat.Of_ok 1 1 W (by decide) (by decide) (by decide) (by decide) (by decide)
          rw [show (((1 : Int) : Rat) / ((1 : Int) : Rat)) = (1 : Rat) from by decide +kernel] at c2
          have C2 := Lib.hid c2
          clear c2
          have c3 := fun (W : World)    => rat.Of_ok 10 1 W (by decide) (by decide) (by decide) (by decide) (by decide)
          rw [show (((10 : Int) : Rat) / ((1 : Int) : Rat)) = (10 : Rat) from by decide +kernel] at c3
          have C3 := Lib.hid c3
          clear c3
          go_wp2_with (first
            | (go_at_call 84; (with_reducible refine (UO.out _ _ (((H_a.out.below HB3.out).below HB4.out).below HB5.out) HIn.out).mono ?_); rintro e W6 ⟨rfl, hb⟩
               have HB6 := Lib.hid hb
               obtain ⟨d6_x_0, d6_x_1, d6_x_2⟩ := (((M_x.out.below HB4.out).below HB5.out).below HB6.out)
               clear hb)
            | (go_at_call 85; (with_reducible refine (NE.out _ _ ((((H_x.out.below HB3.out).below HB4.out).below HB5.out).below HB6.out)).mono ?_); rintro e W7 ⟨nr, rfl, h_nr, hb⟩
               have H_nr := Lib.hid h_nr
               have HB7 := Lib.hid hb
               obtain ⟨d7_x_0, d7_x_1, d7_x_2⟩ := ((((M_x.out.below HB4.out).below HB5.out).below HB6.out).below HB7.out)
               clear h_nr hb)
            | (go_at_call 59; (with_reducible refine (C1.out _ _ H_nr.out).mono ?_); rintro e W8 ⟨rfl, hb⟩
               have HB8 := Lib.hid hb
               obtain ⟨d8_x_0, d8_x_1, d8_x_2⟩ := (((((M_x.out.below HB4.out).below HB5.out).below HB6.out).below HB7.out).below HB8.out)
               clear hb C1)
            | (go_at_call 29; (with_reducible refine (Same_any 11 _ ((((((((HG.out.below HB1.out).below HB2.out).below HB3.out).below HB4.out).below HB5.out).below HB6.out).below HB7.out).below HB8.out)).mono ?_); rintro e W9 ⟨rfl, hb⟩
               have HB9 := Lib.hid hb
               obtain ⟨d9_x_0, d9_x_1, d9_x_2⟩ := ((((((M_x.out.below HB4.out).below HB5.out).below HB6.out).below HB7.out).below HB8.out).below HB9.out)
               clear hb)
            | (go_at_call 78; (with_reducible refine (GT.out _).mono ?_); rintro e W10 ⟨b, rfl, ⟨h_b, n_b⟩, hb⟩
               have H_b := Lib.hid h_b
               have N_b := Lib.hid n_b
               have HB10 := Lib.hid hb
               obtain ⟨d10_x_0, d10_x_1, d10_x_2⟩ := (((((((M_x.out.below HB4.out).below HB5.out).below HB6.out).below HB7.out).below HB8.out).below HB9.out).below HB10.out)
               clear h_b n_b hb GT)
            | (go_at_call 74; (with_reducible refine (C2.out _ ).mono ?_); rintro e W11 ⟨st, rfl, ⟨h_st, n_st⟩, hb⟩
               have H_st := Lib.hid h_st
               have N_st := Lib.hid n_st
               have HB11 := Lib.hid hb
               obtain ⟨d11_x_0, d11_x_1, d11_x_2⟩ := ((((((((M_x.out.below HB4.out).below HB5.out).below HB6.out).below HB7.out).below HB8.out).below HB9.out).below HB10.out).below HB11.out)
               clear h_st n_st hb C2)
            | (go_at_call 74; (with_reducible refine (C3.out _ ).mono ?_); rintro e W12 ⟨ten, rfl, ⟨h_ten, n_ten⟩, hb⟩
               have H_ten := Lib.hid h_ten
               have N_ten := Lib.hid n_ten
               have HB12 := Lib.hid hb
               obtain ⟨d12_x_0, d12_x_1, d12_x_2⟩ := (((((((((M_x.out.below HB4.out).below HB5.out).below HB6.out).below HB7.out).below HB8.out).below HB9.out).below HB10.out).below HB11.out).below HB12.out)
               clear h_ten n_ten hb C3)
            | (fail "no arm"))
          clear d4_x_0 d4_x_1 d4_x_2 d5_x_0 d5_x_1 d5_x_2 d6_x_0 d6_x_1 d6_x_2 d7_x_0 d7_x_1 d7_x_2 d8_x_0 d8_x_1 d8_x_2 d9_x_0 d9_x_1 d9_x_2 d10_x_0 d10_x_1 d10_x_2 d11_x_0 d11_x_1 d11_x_2 d12_x_0 d12_x_1 d12_x_2
          go_loopw [23, 27] (fun sv iv wr => StepRel W12 k sv iv wr) (fun _ iv _ => k - (intOf iv).toNat)
          case atStart => exact ⟨0, Nat.zero_le _, rfl, ⟨by rw [show ((1 : Rat) / ((10 ^ 0 : Nat) : Rat)) = 1 by decide +kernel]; exact (H_st.out.below HB12.out), N_st.out⟩, Below.refl _ _⟩
          obtain ⟨i, hi, rfl, ⟨hs, hns⟩, hbe⟩ := hrel
          have H_sv := Lib.hid hs
          have N_sv := Lib.hid hns
          have HBe := Lib.hid hbe
          clear hs hns hbe
          by_cases hlt : (i : Int) < (k : Int)
          · have hi20 : i ≤ 20 := by omega
            have DV := fun W u v (hu : rat.IsR W u ((1 : Rat) / ((10 ^ i : Nat) : Rat))) (hv : rat.IsR W v (10 : Rat)) => rat.Div_ok u v _ _ W hu hv ((step_br hi20).rat (by decide)) (((show Br (10 : Rat) 20 from Br_lowz (z := 10) (y := 1) (by decide) (by decide +kernel) (Bz_small (by decide) (by decide)) (Bz_small (by decide) (by decide))).rat (by decide))) (by decide +kernel)
            rw [dec.step_next] at DV
            have DV := Lib.hid DV
            go_wp2_with (first
              | (go_at_call 88; (with_reducible refine (DV.out _ _ _ H_sv.out (H_ten.out.below HBe.out)).mono ?_); rintro e V1 ⟨s1, rfl, ⟨h_1, n_1⟩, hb⟩; have H1 := Lib.hid h_1; have N1 := Lib.hid n_1; have G1 := Lib.hid hb; clear h_1 n_1 hb)
              | (fail "no arm"))
            go_roundw
            case rel => exact ⟨i + 1, by omega, by go_num, ⟨H1.out, N1.out⟩, nat.below_tr HBe.out G1.out⟩
            case measure => simp [intOf]; omega
          · obtain rfl : i = k := by omega
            obtain ⟨W13, hWr⟩ : ∃ W : World, wr = W := ⟨_, rfl⟩
            subst hWr
            have HB13 := Lib.hid HBe.out
            have H_s := Lib.hid (show rat.IsR _ _ s0 from by rw [HS0.out]; exact H_sv.out)
            clear hi hlt HBe H_sv
            by_cases hls : q < q1
            · have HLs := Lib.hid hls
              have hsg := sign_less hls
              clear hls
              obtain ⟨ce, hce, hce2⟩ := cmp_most HDist.out.2
              have cx4 := fun (W : World) (v0 : Value) (v1 : Value) (hh0 : rat.IsR W v0 q) (hh1 : rat.IsR W v1 q1)  => rat.Sub_any v0 v1 q q1 W hh0 hh1 (L_q.out.rat (by decide)) (L_q1.out.rat (by decide))
              have Cx4 := Lib.hid cx4
              clear cx4
              have cx5 := fun (W : World) (v0 : Value) (hh0 : rat.IsR W v0 (q - q1))  => rat.Sign_any v0 (q - q1) W hh0
              rw [hsg] at cx5
              have Cx5 := Lib.hid cx5
              clear cx5
              have cx6 := fun (W : World) (v0 : Value) (v1 : Value) (hh0 : rat.IsR W v0 q1) (hh1 : rat.IsR W v1 q)  => rat.Sub_any v0 v1 q1 q W hh0 hh1 (L_q1.out.rat (by decide)) (L_q.out.rat (by decide))
              have Cx6 := Lib.hid cx6
              clear cx6
              have cx7 := fun (W : World)    => rat.Of_ok 2 1 W (by decide) (by decide) (by decide) (by decide) (by decide)
              rw [show (((2 : Int) : Rat) / ((1 : Int) : Rat)) = (2 : Rat) from by decide +kernel] at cx7
              have Cx7 := Lib.hid cx7
              clear cx7
              have cx8 := fun (W : World) (v0 : Value) (v1 : Value) (hh0 : rat.IsR W v0 (q1 - q)) (hh1 : rat.IsR W v1 ((2 : Rat)))  => rat.Mul_any v0 v1 (q1 - q) ((2 : Rat)) W hh0 hh1 ((Br_sub L_q1.out L_q.out).rat (by decide)) ((show Br (2 : Rat) 20 from Br_lowz (z := 2) (y := 1) (by decide) (by decide +kernel) (Bz_small (by decide) (by decide)) (Bz_small (by decide) (by decide))).rat (by decide))
              have Cx8 := Lib.hid cx8
              clear cx8
              have cx9 := fun (W : World) (v0 : Value) (v1 : Value) (hh0 : rat.IsR W v0 ((q1 - q) * ((2 : Rat)))) (hh1 : rat.IsR W v1 s0)  => rat.Cmp_any v0 v1 ((q1 - q) * ((2 : Rat))) s0 W hh0 hh1 ((Br_mul (Br_sub L_q1.out L_q.out) (show Br (2 : Rat) 20 from Br_lowz (z := 2) (y := 1) (by decide) (by decide +kernel) (Bz_small (by decide) (by decide)) (Bz_small (by decide) (by decide)))).rat (by decide)) (L_s0.out.rat (by decide))
              rw [hce] at cx9
              have Cx9 := Lib.hid cx9
              clear cx9
              clear hsg hce
              go_wp2_with (first
                | (go_at_call 89; (with_reducible refine (Cx4.out _ _ _ (((((((((((H_a.out.below HB3.out).below HB4.out).below HB5.out).below HB6.out).below HB7.out).below HB8.out).below HB9.out).below HB10.out).below HB11.out).below HB12.out).below HB13.out) (((H_b.out.below HB11.out).below HB12.out).below HB13.out)).mono ?_); rintro e W14 ⟨d1, rfl, ⟨h_d1, n_d1⟩, hb⟩
                   have H_d1 := Lib.hid h_d1
                   have N_d1 := Lib.hid n_d1
                   have HB14 := Lib.hid hb
                   obtain ⟨d14_x_0, d14_x_1, d14_x_2⟩ := (((((((((((M_x.out.below HB4.out).below HB5.out).below HB6.out).below HB7.out).below HB8.out).below HB9.out).below HB10.out).below HB11.out).below HB12.out).below HB13.out).below HB14.out)
                   clear h_d1 n_d1 hb Cx4)
                | (go_at_call 90; (with_reducible refine (Cx5.out _ _ H_d1.out).mono ?_); rintro e W15 ⟨rfl, hb⟩
                   have HB15 := Lib.hid hb
                   obtain ⟨d15_x_0, d15_x_1, d15_x_2⟩ := ((((((((((((M_x.out.below HB4.out).below HB5.out).below HB6.out).below HB7.out).below HB8.out).below HB9.out).below HB10.out).below HB11.out).below HB12.out).below HB13.out).below HB14.out).below HB15.out)
                   clear hb Cx5)
                | (go_at_call 89; (with_reducible refine (Cx6.out _ _ _ (((((H_b.out.below HB11.out).below HB12.out).below HB13.out).below HB14.out).below HB15.out) (((((((((((((H_a.out.below HB3.out).below HB4.out).below HB5.out).below HB6.out).below HB7.out).below HB8.out).below HB9.out).below HB10.out).below HB11.out).below HB12.out).below HB13.out).below HB14.out).below HB15.out)).mono ?_); rintro e W16 ⟨d2, rfl, ⟨h_d2, n_d2⟩, hb⟩
                   have H_d2 := Lib.hid h_d2
                   have N_d2 := Lib.hid n_d2
                   have HB16 := Lib.hid hb
                   obtain ⟨d16_x_0, d16_x_1, d16_x_2⟩ := (((((((((((((M_x.out.below HB4.out).below HB5.out).below HB6.out).below HB7.out).below HB8.out).below HB9.out).below HB10.out).below HB11.out).below HB12.out).below HB13.out).below HB14.out).below HB15.out).below HB16.out)
                   clear h_d2 n_d2 hb Cx6)
                | (go_at_call 74; (with_reducible refine (Cx7.out _ ).mono ?_); rintro e W17 ⟨two, rfl, ⟨h_two, n_two⟩, hb⟩
                   have H_two := Lib.hid h_two
                   have N_two := Lib.hid n_two
                   have HB17 := Lib.hid hb
                   obtain ⟨d17_x_0, d17_x_1, d17_x_2⟩ := ((((((((((((((M_x.out.below HB4.out).below HB5.out).below HB6.out).below HB7.out).below HB8.out).below HB9.out).below HB10.out).below HB11.out).below HB12.out).below HB13.out).below HB14.out).below HB15.out).below HB16.out).below HB17.out)
                   clear h_two n_two hb Cx7)
                | (go_at_call 91; (with_reducible refine (Cx8.out _ _ _ (H_d2.out.below HB17.out) H_two.out).mono ?_); rintro e W18 ⟨d3, rfl, ⟨h_d3, n_d3⟩, hb⟩
                   have H_d3 := Lib.hid h_d3
                   have N_d3 := Lib.hid n_d3
                   have HB18 := Lib.hid hb
                   obtain ⟨d18_x_0, d18_x_1, d18_x_2⟩ := (((((((((((((((M_x.out.below HB4.out).below HB5.out).below HB6.out).below HB7.out).below HB8.out).below HB9.out).below HB10.out).below HB11.out).below HB12.out).below HB13.out).below HB14.out).below HB15.out).below HB16.out).below HB17.out).below HB18.out)
                   clear h_d3 n_d3 hb Cx8)
                | (go_at_call 77; (with_reducible refine (Cx9.out _ _ _ H_d3.out (((((H_s.out.below HB14.out).below HB15.out).below HB16.out).below HB17.out).below HB18.out)).mono ?_); rintro e W19 ⟨rfl, hb⟩
                   have HB19 := Lib.hid hb
                   obtain ⟨d19_x_0, d19_x_1, d19_x_2⟩ := ((((((((((((((((M_x.out.below HB4.out).below HB5.out).below HB6.out).below HB7.out).below HB8.out).below HB9.out).below HB10.out).below HB11.out).below HB12.out).below HB13.out).below HB14.out).below HB15.out).below HB16.out).below HB17.out).below HB18.out).below HB19.out)
                   clear hb Cx9)
                | (fail "no arm"))
              skip
              all_goals (go_ret; exact ⟨rfl, (nat.below_tr (nat.below_tr (nat.below_tr (nat.below_tr (nat.below_tr (nat.below_tr (nat.below_tr (nat.below_tr (nat.below_tr (nat.below_tr (nat.below_tr (nat.below_tr (nat.below_tr (nat.below_tr (nat.below_tr (nat.below_tr (nat.below_tr (nat.below_tr HB1.out HB2.out) HB3.out) HB4.out) HB5.out) HB6.out) HB7.out) HB8.out) HB9.out) HB10.out) HB11.out) HB12.out) HB13.out) HB14.out) HB15.out) HB16.out) HB17.out) HB18.out) HB19.out)⟩)
            · have HLs := Lib.hid hls
              obtain ⟨cs, hsg, hcs⟩ := sign_more hls
              clear hls
              obtain ⟨ce, hce, hce2⟩ := cmp_most HDist.out.1
              have cx4 := fun (W : World) (v0 : Value) (v1 : Value) (hh0 : rat.IsR W v0 q) (hh1 : rat.IsR W v1 q1)  => rat.Sub_any v0 v1 q q1 W hh0 hh1 (L_q.out.rat (by decide)) (L_q1.out.rat (by decide))
              have Cx4 := Lib.hid cx4
              clear cx4
              have cx5 := fun (W : World) (v0 : Value) (hh0 : rat.IsR W v0 (q - q1))  => rat.Sign_any v0 (q - q1) W hh0
              rw [hsg] at cx5
              have Cx5 := Lib.hid cx5
              clear cx5
              have cx6 := fun (W : World)    => rat.Of_ok 2 1 W (by decide) (by decide) (by decide) (by decide) (by decide)
              rw [show (((2 : Int) : Rat) / ((1 : Int) : Rat)) = (2 : Rat) from by decide +kernel] at cx6
              have Cx6 := Lib.hid cx6
              clear cx6
              have cx7 := fun (W : World) (v0 : Value) (v1 : Value) (hh0 : rat.IsR W v0 (q - q1)) (hh1 : rat.IsR W v1 ((2 : Rat)))  => rat.Mul_any v0 v1 (q - q1) ((2 : Rat)) W hh0 hh1 ((Br_sub L_q.out L_q1.out).rat (by decide)) ((show Br (2 : Rat) 20 from Br_lowz (z := 2) (y := 1) (by decide) (by decide +kernel) (Bz_small (by decide) (by decide)) (Bz_small (by decide) (by decide))).rat (by decide))
              have Cx7 := Lib.hid cx7
              clear cx7
              have cx8 := fun (W : World) (v0 : Value) (v1 : Value) (hh0 : rat.IsR W v0 ((q - q1) * ((2 : Rat)))) (hh1 : rat.IsR W v1 s0)  => rat.Cmp_any v0 v1 ((q - q1) * ((2 : Rat))) s0 W hh0 hh1 ((Br_mul (Br_sub L_q.out L_q1.out) (show Br (2 : Rat) 20 from Br_lowz (z := 2) (y := 1) (by decide) (by decide +kernel) (Bz_small (by decide) (by decide)) (Bz_small (by decide) (by decide)))).rat (by decide)) (L_s0.out.rat (by decide))
              rw [hce] at cx8
              have Cx8 := Lib.hid cx8
              clear cx8
              clear hsg hce
              go_wp2_with (first
                | (go_at_call 89; (with_reducible refine (Cx4.out _ _ _ (((((((((((H_a.out.below HB3.out).below HB4.out).below HB5.out).below HB6.out).below HB7.out).below HB8.out).below HB9.out).below HB10.out).below HB11.out).below HB12.out).below HB13.out) (((H_b.out.below HB11.out).below HB12.out).below HB13.out)).mono ?_); rintro e W14 ⟨d1, rfl, ⟨h_d1, n_d1⟩, hb⟩
                   have H_d1 := Lib.hid h_d1
                   have N_d1 := Lib.hid n_d1
                   have HB14 := Lib.hid hb
                   obtain ⟨d14_x_0, d14_x_1, d14_x_2⟩ := (((((((((((M_x.out.below HB4.out).below HB5.out).below HB6.out).below HB7.out).below HB8.out).below HB9.out).below HB10.out).below HB11.out).below HB12.out).below HB13.out).below HB14.out)
                   clear h_d1 n_d1 hb Cx4)
                | (go_at_call 90; (with_reducible refine (Cx5.out _ _ H_d1.out).mono ?_); rintro e W15 ⟨rfl, hb⟩
                   have HB15 := Lib.hid hb
                   obtain ⟨d15_x_0, d15_x_1, d15_x_2⟩ := ((((((((((((M_x.out.below HB4.out).below HB5.out).below HB6.out).below HB7.out).below HB8.out).below HB9.out).below HB10.out).below HB11.out).below HB12.out).below HB13.out).below HB14.out).below HB15.out)
                   clear hb Cx5)
                | (go_at_call 74; (with_reducible refine (Cx6.out _ ).mono ?_); rintro e W16 ⟨two, rfl, ⟨h_two, n_two⟩, hb⟩
                   have H_two := Lib.hid h_two
                   have N_two := Lib.hid n_two
                   have HB16 := Lib.hid hb
                   obtain ⟨d16_x_0, d16_x_1, d16_x_2⟩ := (((((((((((((M_x.out.below HB4.out).below HB5.out).below HB6.out).below HB7.out).below HB8.out).below HB9.out).below HB10.out).below HB11.out).below HB12.out).below HB13.out).below HB14.out).below HB15.out).below HB16.out)
                   clear h_two n_two hb Cx6)
                | (go_at_call 91; (with_reducible refine (Cx7.out _ _ _ ((H_d1.out.below HB15.out).below HB16.out) H_two.out).mono ?_); rintro e W17 ⟨d3, rfl, ⟨h_d3, n_d3⟩, hb⟩
                   have H_d3 := Lib.hid h_d3
                   have N_d3 := Lib.hid n_d3
                   have HB17 := Lib.hid hb
                   obtain ⟨d17_x_0, d17_x_1, d17_x_2⟩ := ((((((((((((((M_x.out.below HB4.out).below HB5.out).below HB6.out).below HB7.out).below HB8.out).below HB9.out).below HB10.out).below HB11.out).below HB12.out).below HB13.out).below HB14.out).below HB15.out).below HB16.out).below HB17.out)
                   clear h_d3 n_d3 hb Cx7)
                | (go_at_call 77; (with_reducible refine (Cx8.out _ _ _ H_d3.out ((((H_s.out.below HB14.out).below HB15.out).below HB16.out).below HB17.out)).mono ?_); rintro e W18 ⟨rfl, hb⟩
                   have HB18 := Lib.hid hb
                   obtain ⟨d18_x_0, d18_x_1, d18_x_2⟩ := (((((((((((((((M_x.out.below HB4.out).below HB5.out).below HB6.out).below HB7.out).below HB8.out).below HB9.out).below HB10.out).below HB11.out).below HB12.out).below HB13.out).below HB14.out).below HB15.out).below HB16.out).below HB17.out).below HB18.out)
                   clear hb Cx8)
                | (fail "no arm"))
              skip
              all_goals (go_ret; exact ⟨rfl, (nat.below_tr (nat.below_tr (nat.below_tr (nat.below_tr (nat.below_tr (nat.below_tr (nat.below_tr (nat.below_tr (nat.below_tr (nat.below_tr (nat.below_tr (nat.below_tr (nat.below_tr (nat.below_tr (nat.below_tr (nat.below_tr (nat.below_tr HB1.out HB2.out) HB3.out) HB4.out) HB5.out) HB6.out) HB7.out) HB8.out) HB9.out) HB10.out) HB11.out) HB12.out) HB13.out) HB14.out) HB15.out) HB16.out) HB17.out) HB18.out)⟩)
      · have F1 := fun W v (h : rat.IsR W v q) => dec.Round_ok v q k 3 W h (L_q.out.rat (by decide)) hk (Or.inr (Or.inr rfl))
        have RR := fun W v (h : ref.IsQ W v za da) => ref.Round_any v za da k 3 W h (LZ_a.out.ref (by decide)) (LD_a.out.ref (by decide)) P_a.out (by omega)
        rw [dec.round_put P_a.out k 3 E_q.out] at RR
        have RR := Lib.hid RR
        obtain ⟨Z, hZ⟩ : ∃ Z, Z = signed (decide (q.num < 0)) (ref.nearN (q.num.natAbs * 10 ^ k) q.den 3) := ⟨_, rfl⟩
        have hZb : Bz Z 51 := by rw [hZ]; exact round_bz L_q.out hk
        have hf := dec.int_form (k := k) (p := 50) hZb (by omega) hk
        obtain ⟨q1, hq1⟩ : ∃ q1 : Rat, q1 = (Z : Rat) / ((10 ^ k : Nat) : Rat) := ⟨_, rfl⟩
        have L_q1 := Lib.hid (show Br q1 60 from dec.br_ten hq1 hk (hZb.le (by decide)) (by decide))
        have GT := Lib.hid (fun W => DGet_yes _ _ _ _ q1 W (by rw [dec.signed_self]; exact hq1) hf)
        have hq1z : q1 = ((signed (decide (q.num < 0)) (ref.nearN (q.num.natAbs * 10 ^ k) q.den 3) : Int) : Rat) / ((10 ^ k : Nat) : Rat) := by rw [hq1, hZ]
        have hput : dec.putText q k 3 = decText Z k := by rw [hZ]; rfl
        rw [hput] at F1
        rw [hput] at RR
        have F1 := Lib.hid F1
        obtain ⟨s0, hs0⟩ : ∃ s : Rat, s = (1 : Rat) / ((10 ^ k : Nat) : Rat) := ⟨_, rfl⟩
        have HDist := Lib.hid ((dec.dist_ways hq1z hs0).1 rfl)
        have HSg := Lib.hid (dec.sign_kept hq1z (fun h => near_zero rfl h))
        have HS0 := Lib.hid hs0
        have L_s0 := Lib.hid (show Br s0 21 from by rw [hs0]; exact step_br hk)
        have HUE := dec.units_eq P_a.out 3 E_q.out
        have NE := fun W v (h : ref.IsQ W v za da) => ref.Near_any v za da 3 W h (LZ_a.out.ref (by decide)) (LD_a.out.ref (by decide)) P_a.out
        have UI := fun W v (h : rat.IsR W v q) => dec.Units_in v q 3 W h (L_q.out.rat (by decide)) (Or.inr (Or.inr rfl))
        have UO := fun W v (h : rat.IsR W v q) => dec.Units_out v q 3 W h (L_q.out.rat (by decide)) (Or.inr (Or.inr rfl))
        rw [← HUE] at NE
        have NE := Lib.hid NE
        have UI := Lib.hid UI
        have UO := Lib.hid UO
        generalize signed (decide (q.num < 0)) (ref.nearN q.num.natAbs q.den 3) = U at *
        clear hZ hZb hf hq1 hq1z hput HUE hs0
        generalize str (decText Z k) = sT at *
        go_wp2_with (first
          | (go_at_call 82; (with_reducible refine (F1.out _ _ (H_a.out.below HB3.out)).mono ?_); rintro e W4 ⟨rfl, hb⟩
             have HB4 := Lib.hid hb
             obtain ⟨d4_x_0, d4_x_1, d4_x_2⟩ := (M_x.out.below HB4.out)
             clear hb)
          | (go_at_call 83; (with_reducible refine (RR.out _ _ ((H_x.out.below HB3.out).below HB4.out)).mono ?_); rintro e W5 ⟨rfl, hb⟩
             have HB5 := Lib.hid hb
             obtain ⟨d5_x_0, d5_x_1, d5_x_2⟩ := ((M_x.out.below HB4.out).below HB5.out)
             clear hb)
          | (fail "no arm"))
        rcases (show (-9223372036854775808 ≤ U ∧ U < 9223372036854775808) ∨ (U < -9223372036854775808 ∨ 9223372036854775808 ≤ U) by omega) with hin | hin
        · have HIn := Lib.hid hin
          clear hin
          have c1 := fun (W : World) (v0 : Value) (hh0 : ref.IsI W v0 U)  => ref.ISmall_in v0 U W hh0 HIn.out.1 HIn.out.2
          have C1 := Lib.hid c1
          clear c1
          have c2 := fun (W : World)    => rat.Of_ok 1 1 W (by decide) (by decide) (by decide) (by decide) (by decide)
          rw [show (((1 : Int) : Rat) / ((1 : Int) : Rat)) = (1 : Rat) from by decide +kernel] at c2
          have C2 := Lib.hid c2
          clear c2
          have c3 := fun (W : World)    => rat.Of_ok 10 1 W (by decide) (by decide) (by decide) (by decide) (by decide)
          rw [show (((10 : Int) : Rat) / ((1 : Int) : Rat)) = (10 : Rat) from by decide +kernel] at c3
          have C3 := Lib.hid c3
          clear c3
          go_wp2_with (first
            | (go_at_call 84; (with_reducible refine (UI.out _ _ (((H_a.out.below HB3.out).below HB4.out).below HB5.out) HIn.out.1 HIn.out.2).mono ?_); rintro e W6 ⟨rfl, hb⟩
               have HB6 := Lib.hid hb
               obtain ⟨d6_x_0, d6_x_1, d6_x_2⟩ := (((M_x.out.below HB4.out).below HB5.out).below HB6.out)
               clear hb)
            | (go_at_call 85; (with_reducible refine (NE.out _ _ ((((H_x.out.below HB3.out).below HB4.out).below HB5.out).below HB6.out)).mono ?_); rintro e W7 ⟨nr, rfl, h_nr, hb⟩
               have H_nr := Lib.hid h_nr
               have HB7 := Lib.hid hb
               obtain ⟨d7_x_0, d7_x_1, d7_x_2⟩ := ((((M_x.out.below HB4.out).below HB5.out).below HB6.out).below HB7.out)
               clear h_nr hb)
            | (go_at_call 59; (with_reducible refine (C1.out _ _ H_nr.out).mono ?_); rintro e W8 ⟨rfl, hb⟩
               have HB8 := Lib.hid hb
               obtain ⟨d8_x_0, d8_x_1, d8_x_2⟩ := (((((M_x.out.below HB4.out).below HB5.out).below HB6.out).below HB7.out).below HB8.out)
               clear hb C1)
            | (go_at_call 78; (with_reducible refine (GT.out _).mono ?_); rintro e W9 ⟨b, rfl, ⟨h_b, n_b⟩, hb⟩
               have H_b := Lib.hid h_b
               have N_b := Lib.hid n_b
               have HB9 := Lib.hid hb
               obtain ⟨d9_x_0, d9_x_1, d9_x_2⟩ := ((((((M_x.out.below HB4.out).below HB5.out).below HB6.out).below HB7.out).below HB8.out).below HB9.out)
               clear h_b n_b hb GT)
            | (go_at_call 74; (with_reducible refine (C2.out _ ).mono ?_); rintro e W10 ⟨st, rfl, ⟨h_st, n_st⟩, hb⟩
               have H_st := Lib.hid h_st
               have N_st := Lib.hid n_st
               have HB10 := Lib.hid hb
               obtain ⟨d10_x_0, d10_x_1, d10_x_2⟩ := (((((((M_x.out.below HB4.out).below HB5.out).below HB6.out).below HB7.out).below HB8.out).below HB9.out).below HB10.out)
               clear h_st n_st hb C2)
            | (go_at_call 74; (with_reducible refine (C3.out _ ).mono ?_); rintro e W11 ⟨ten, rfl, ⟨h_ten, n_ten⟩, hb⟩
               have H_ten := Lib.hid h_ten
               have N_ten := Lib.hid n_ten
               have HB11 := Lib.hid hb
               obtain ⟨d11_x_0, d11_x_1, d11_x_2⟩ := ((((((((M_x.out.below HB4.out).below HB5.out).below HB6.out).below HB7.out).below HB8.out).below HB9.out).below HB10.out).below HB11.out)
               clear h_ten n_ten hb C3)
            | (fail "no arm"))
          clear d4_x_0 d4_x_1 d4_x_2 d5_x_0 d5_x_1 d5_x_2 d6_x_0 d6_x_1 d6_x_2 d7_x_0 d7_x_1 d7_x_2 d8_x_0 d8_x_1 d8_x_2 d9_x_0 d9_x_1 d9_x_2 d10_x_0 d10_x_1 d10_x_2 d11_x_0 d11_x_1 d11_x_2
          go_loopw [23, 27] (fun sv iv wr => StepRel W11 k sv iv wr) (fun _ iv _ => k - (intOf iv).toNat)
          case atStart => exact ⟨0, Nat.zero_le _, rfl, ⟨by rw [show ((1 : Rat) / ((10 ^ 0 : Nat) : Rat)) = 1 by decide +kernel]; exact (H_st.out.below HB11.out), N_st.out⟩, Below.refl _ _⟩
          obtain ⟨i, hi, rfl, ⟨hs, hns⟩, hbe⟩ := hrel
          have H_sv := Lib.hid hs
          have N_sv := Lib.hid hns
          have HBe := Lib.hid hbe
          clear hs hns hbe
          by_cases hlt : (i : Int) < (k : Int)
          · have hi20 : i ≤ 20 := by omega
            have DV := fun W u v (hu : rat.IsR W u ((1 : Rat) / ((10 ^ i : Nat) : Rat))) (hv : rat.IsR W v (10 : Rat)) => rat.Div_ok u v _ _ W hu hv ((step_br hi20).rat (by decide)) (((show Br (10 : Rat) 20 from Br_lowz (z := 10) (y := 1) (by decide) (by decide +kernel) (Bz_small (by decide) (by decide)) (Bz_small (by decide) (by decide))).rat (by decide))) (by decide +kernel)
            rw [dec.step_next] at DV
            have DV := Lib.hid DV
            go_wp2_with (first
              | (go_at_call 88; (with_reducible refine (DV.out _ _ _ H_sv.out (H_ten.out.below HBe.out)).mono ?_); rintro e V1 ⟨s1, rfl, ⟨h_1, n_1⟩, hb⟩; have H1 := Lib.hid h_1; have N1 := Lib.hid n_1; have G1 := Lib.hid hb; clear h_1 n_1 hb)
              | (fail "no arm"))
            go_roundw
            case rel => exact ⟨i + 1, by omega, by go_num, ⟨H1.out, N1.out⟩, nat.below_tr HBe.out G1.out⟩
            case measure => simp [intOf]; omega
          · obtain rfl : i = k := by omega
            obtain ⟨W12, hWr⟩ : ∃ W : World, wr = W := ⟨_, rfl⟩
            subst hWr
            have HB12 := Lib.hid HBe.out
            have H_s := Lib.hid (show rat.IsR _ _ s0 from by rw [HS0.out]; exact H_sv.out)
            clear hi hlt HBe H_sv
            by_cases hls : q < q1
            · have HLs := Lib.hid hls
              have hsg := sign_less hls
              clear hls
              have cx4 := fun (W : World) (v0 : Value) (v1 : Value) (hh0 : rat.IsR W v0 q) (hh1 : rat.IsR W v1 q1)  => rat.Sub_any v0 v1 q q1 W hh0 hh1 (L_q.out.rat (by decide)) (L_q1.out.rat (by decide))
              have Cx4 := Lib.hid cx4
              clear cx4
              have cx5 := fun (W : World) (v0 : Value) (hh0 : rat.IsR W v0 (q - q1))  => rat.Sign_any v0 (q - q1) W hh0
              rw [hsg] at cx5
              have Cx5 := Lib.hid cx5
              clear cx5
              have cx6 := fun (W : World) (v0 : Value) (v1 : Value) (hh0 : rat.IsR W v0 q1) (hh1 : rat.IsR W v1 q)  => rat.Sub_any v0 v1 q1 q W hh0 hh1 (L_q1.out.rat (by decide)) (L_q.out.rat (by decide))
              have Cx6 := Lib.hid cx6
              clear cx6
              have cx7 := fun (W : World)    => rat.Of_ok 2 1 W (by decide) (by decide) (by decide) (by decide) (by decide)
              rw [show (((2 : Int) : Rat) / ((1 : Int) : Rat)) = (2 : Rat) from by decide +kernel] at cx7
              have Cx7 := Lib.hid cx7
              clear cx7
              have cx8 := fun (W : World) (v0 : Value) (v1 : Value) (hh0 : rat.IsR W v0 (q1 - q)) (hh1 : rat.IsR W v1 s0)  => rat.Cmp_any v0 v1 (q1 - q) s0 W hh0 hh1 ((Br_sub L_q1.out L_q.out).rat (by decide)) (L_s0.out.rat (by decide))
              rw [cmp_less HDist.out.2] at cx8
              have Cx8 := Lib.hid cx8
              clear cx8
              clear hsg
              go_wp2_with (first
                | (go_at_call 89; (with_reducible refine (Cx4.out _ _ _ ((((((((((H_a.out.below HB3.out).below HB4.out).below HB5.out).below HB6.out).below HB7.out).below HB8.out).below HB9.out).below HB10.out).below HB11.out).below HB12.out) (((H_b.out.below HB10.out).below HB11.out).below HB12.out)).mono ?_); rintro e W13 ⟨d1, rfl, ⟨h_d1, n_d1⟩, hb⟩
                   have H_d1 := Lib.hid h_d1
                   have N_d1 := Lib.hid n_d1
                   have HB13 := Lib.hid hb
                   obtain ⟨d13_x_0, d13_x_1, d13_x_2⟩ := ((((((((((M_x.out.below HB4.out).below HB5.out).below HB6.out).below HB7.out).below HB8.out).below HB9.out).below HB10.out).below HB11.out).below HB12.out).below HB13.out)
                   clear h_d1 n_d1 hb Cx4)
                | (go_at_call 90; (with_reducible refine (Cx5.out _ _ H_d1.out).mono ?_); rintro e W14 ⟨rfl, hb⟩
                   have HB14 := Lib.hid hb
                   obtain ⟨d14_x_0, d14_x_1, d14_x_2⟩ := (((((((((((M_x.out.below HB4.out).below HB5.out).below HB6.out).below HB7.out).below HB8.out).below HB9.out).below HB10.out).below HB11.out).below HB12.out).below HB13.out).below HB14.out)
                   clear hb Cx5)
                | (go_at_call 89; (with_reducible refine (Cx6.out _ _ _ (((((H_b.out.below HB10.out).below HB11.out).below HB12.out).below HB13.out).below HB14.out) ((((((((((((H_a.out.below HB3.out).below HB4.out).below HB5.out).below HB6.out).below HB7.out).below HB8.out).below HB9.out).below HB10.out).below HB11.out).below HB12.out).below HB13.out).below HB14.out)).mono ?_); rintro e W15 ⟨d2, rfl, ⟨h_d2, n_d2⟩, hb⟩
                   have H_d2 := Lib.hid h_d2
                   have N_d2 := Lib.hid n_d2
                   have HB15 := Lib.hid hb
                   obtain ⟨d15_x_0, d15_x_1, d15_x_2⟩ := ((((((((((((M_x.out.below HB4.out).below HB5.out).below HB6.out).below HB7.out).below HB8.out).below HB9.out).below HB10.out).below HB11.out).below HB12.out).below HB13.out).below HB14.out).below HB15.out)
                   clear h_d2 n_d2 hb Cx6)
                | (go_at_call 74; (with_reducible refine (Cx7.out _ ).mono ?_); rintro e W16 ⟨two, rfl, ⟨h_two, n_two⟩, hb⟩
                   have H_two := Lib.hid h_two
                   have N_two := Lib.hid n_two
                   have HB16 := Lib.hid hb
                   obtain ⟨d16_x_0, d16_x_1, d16_x_2⟩ := (((((((((((((M_x.out.below HB4.out).below HB5.out).below HB6.out).below HB7.out).below HB8.out).below HB9.out).below HB10.out).below HB11.out).below HB12.out).below HB13.out).below HB14.out).below HB15.out).below HB16.out)
                   clear h_two n_two hb Cx7)
                | (go_at_call 77; (with_reducible refine (Cx8.out _ _ _ (H_d2.out.below HB16.out) ((((H_s.out.below HB13.out).below HB14.out).below HB15.out).below HB16.out)).mono ?_); rintro e W17 ⟨rfl, hb⟩
                   have HB17 := Lib.hid hb
                   obtain ⟨d17_x_0, d17_x_1, d17_x_2⟩ := ((((((((((((((M_x.out.below HB4.out).below HB5.out).below HB6.out).below HB7.out).below HB8.out).below HB9.out).below HB10.out).below HB11.out).below HB12.out).below HB13.out).below HB14.out).below HB15.out).below HB16.out).below HB17.out)
                   clear hb Cx8)
                | (fail "no arm"))
              rcases (show num.sg q1.num = 0 ∨ num.sg q1.num ≠ 0 by omega) with hz | hz
              · have HZ0 := Lib.hid hz
                clear hz
                have cx9 := fun (W : World) (v0 : Value) (hh0 : rat.IsR W v0 q1)  => rat.Sign_any v0 q1 W hh0
                rw [HZ0.out] at cx9
                have Cx9 := Lib.hid cx9
                clear cx9
                go_wp2_with (first
                  | (go_at_call 90; (with_reducible refine (Cx9.out _ _ ((((((((H_b.out.below HB10.out).below HB11.out).below HB12.out).below HB13.out).below HB14.out).below HB15.out).below HB16.out).below HB17.out)).mono ?_); rintro e W18 ⟨rfl, hb⟩
                     have HB18 := Lib.hid hb
                     obtain ⟨d18_x_0, d18_x_1, d18_x_2⟩ := (((((((((((((((M_x.out.below HB4.out).below HB5.out).below HB6.out).below HB7.out).below HB8.out).below HB9.out).below HB10.out).below HB11.out).below HB12.out).below HB13.out).below HB14.out).below HB15.out).below HB16.out).below HB17.out).below HB18.out)
                     clear hb Cx9)
                  | (fail "no arm"))
                skip
                all_goals (go_ret; exact ⟨rfl, (nat.below_tr (nat.below_tr (nat.below_tr (nat.below_tr (nat.below_tr (nat.below_tr (nat.below_tr (nat.below_tr (nat.below_tr (nat.below_tr (nat.below_tr (nat.below_tr (nat.below_tr (nat.below_tr (nat.below_tr (nat.below_tr (nat.below_tr HB1.out HB2.out) HB3.out) HB4.out) HB5.out) HB6.out) HB7.out) HB8.out) HB9.out) HB10.out) HB11.out) HB12.out) HB13.out) HB14.out) HB15.out) HB16.out) HB17.out) HB18.out)⟩)
              · have HQ1 := Lib.hid (show num.sg q1.num = num.sg q.num from by rcases HSg.out with h | h; exact absurd h hz; exact h)
                have hzb : (num.sg q.num == 0) = false := by rw [← HQ1.out]; simpa using hz
                clear hz
                have cx9 := fun (W : World) (v0 : Value) (hh0 : rat.IsR W v0 q1)  => rat.Sign_any v0 q1 W hh0
                rw [HQ1.out] at cx9
                have Cx9 := Lib.hid cx9
                clear cx9
                have cx10 := fun (W : World) (v0 : Value) (hh0 : rat.IsR W v0 q1)  => rat.Sign_any v0 q1 W hh0
                rw [HQ1.out] at cx10
                have Cx10 := Lib.hid cx10
                clear cx10
                have cx11 := fun (W : World) (v0 : Value) (hh0 : rat.IsR W v0 q)  => rat.Sign_any v0 q W hh0
                have Cx11 := Lib.hid cx11
                clear cx11
                generalize num.sg q.num = sq at *
                go_wp2_with (first
                  | (go_at_call 90; (with_reducible refine (Cx9.out _ _ ((((((((H_b.out.below HB10.out).below HB11.out).below HB12.out).below HB13.out).below HB14.out).below HB15.out).below HB16.out).below HB17.out)).mono ?_); rintro e W18 ⟨rfl, hb⟩
                     have HB18 := Lib.hid hb
                     obtain ⟨d18_x_0, d18_x_1, d18_x_2⟩ := (((((((((((((((M_x.out.below HB4.out).below HB5.out).below HB6.out).below HB7.out).below HB8.out).below HB9.out).below HB10.out).below HB11.out).below HB12.out).below HB13.out).below HB14.out).below HB15.out).below HB16.out).below HB17.out).below HB18.out)
                     clear hb Cx9)
                  | (go_at_call 90; (with_reducible refine (Cx10.out _ _ (((((((((H_b.out.below HB10.out).below HB11.out).below HB12.out).below HB13.out).below HB14.out).below HB15.out).below HB16.out).below HB17.out).below HB18.out)).mono ?_); rintro e W19 ⟨rfl, hb⟩
                     have HB19 := Lib.hid hb
                     obtain ⟨d19_x_0, d19_x_1, d19_x_2⟩ := ((((((((((((((((M_x.out.below HB4.out).below HB5.out).below HB6.out).below HB7.out).below HB8.out).below HB9.out).below HB10.out).below HB11.out).below HB12.out).below HB13.out).below HB14.out).below HB15.out).below HB16.out).below HB17.out).below HB18.out).below HB19.out)
                     clear hb Cx10)
                  | (go_at_call 90; (with_reducible refine (Cx11.out _ _ (((((((((((((((((H_a.out.below HB3.out).below HB4.out).below HB5.out).below HB6.out).below HB7.out).below HB8.out).below HB9.out).below HB10.out).below HB11.out).below HB12.out).below HB13.out).below HB14.out).below HB15.out).below HB16.out).below HB17.out).below HB18.out).below HB19.out)).mono ?_); rintro e W20 ⟨rfl, hb⟩
                     have HB20 := Lib.hid hb
                     obtain ⟨d20_x_0, d20_x_1, d20_x_2⟩ := (((((((((((((((((M_x.out.below HB4.out).below HB5.out).below HB6.out).below HB7.out).below HB8.out).below HB9.out).below HB10.out).below HB11.out).below HB12.out).below HB13.out).below HB14.out).below HB15.out).below HB16.out).below HB17.out).below HB18.out).below HB19.out).below HB20.out)
                     clear hb Cx11)
                  | (fail "no arm"))
                skip
                all_goals (go_ret; exact ⟨rfl, (nat.below_tr (nat.below_tr (nat.below_tr (nat.below_tr (nat.below_tr (nat.below_tr (nat.below_tr (nat.below_tr (nat.below_tr (nat.below_tr (nat.below_tr (nat.below_tr (nat.below_tr (nat.below_tr (nat.below_tr (nat.below_tr (nat.below_tr (nat.below_tr (nat.below_tr HB1.out HB2.out) HB3.out) HB4.out) HB5.out) HB6.out) HB7.out) HB8.out) HB9.out) HB10.out) HB11.out) HB12.out) HB13.out) HB14.out) HB15.out) HB16.out) HB17.out) HB18.out) HB19.out) HB20.out)⟩)
            · have HLs := Lib.hid hls
              obtain ⟨cs, hsg, hcs⟩ := sign_more hls
              clear hls
              have cx4 := fun (W : World) (v0 : Value) (v1 : Value) (hh0 : rat.IsR W v0 q) (hh1 : rat.IsR W v1 q1)  => rat.Sub_any v0 v1 q q1 W hh0 hh1 (L_q.out.rat (by decide)) (L_q1.out.rat (by decide))
              have Cx4 := Lib.hid cx4
              clear cx4
              have cx5 := fun (W : World) (v0 : Value) (hh0 : rat.IsR W v0 (q - q1))  => rat.Sign_any v0 (q - q1) W hh0
              rw [hsg] at cx5
              have Cx5 := Lib.hid cx5
              clear cx5
              have cx6 := fun (W : World)    => rat.Of_ok 2 1 W (by decide) (by decide) (by decide) (by decide) (by decide)
              rw [show (((2 : Int) : Rat) / ((1 : Int) : Rat)) = (2 : Rat) from by decide +kernel] at cx6
              have Cx6 := Lib.hid cx6
              clear cx6
              have cx7 := fun (W : World) (v0 : Value) (v1 : Value) (hh0 : rat.IsR W v0 (q - q1)) (hh1 : rat.IsR W v1 s0)  => rat.Cmp_any v0 v1 (q - q1) s0 W hh0 hh1 ((Br_sub L_q.out L_q1.out).rat (by decide)) (L_s0.out.rat (by decide))
              rw [cmp_less HDist.out.1] at cx7
              have Cx7 := Lib.hid cx7
              clear cx7
              clear hsg
              go_wp2_with (first
                | (go_at_call 89; (with_reducible refine (Cx4.out _ _ _ ((((((((((H_a.out.below HB3.out).below HB4.out).below HB5.out).below HB6.out).below HB7.out).below HB8.out).below HB9.out).below HB10.out).below HB11.out).below HB12.out) (((H_b.out.below HB10.out).below HB11.out).below HB12.out)).mono ?_); rintro e W13 ⟨d1, rfl, ⟨h_d1, n_d1⟩, hb⟩
                   have H_d1 := Lib.hid h_d1
                   have N_d1 := Lib.hid n_d1
                   have HB13 := Lib.hid hb
                   obtain ⟨d13_x_0, d13_x_1, d13_x_2⟩ := ((((((((((M_x.out.below HB4.out).below HB5.out).below HB6.out).below HB7.out).below HB8.out).below HB9.out).below HB10.out).below HB11.out).below HB12.out).below HB13.out)
                   clear h_d1 n_d1 hb Cx4)
                | (go_at_call 90; (with_reducible refine (Cx5.out _ _ H_d1.out).mono ?_); rintro e W14 ⟨rfl, hb⟩
                   have HB14 := Lib.hid hb
                   obtain ⟨d14_x_0, d14_x_1, d14_x_2⟩ := (((((((((((M_x.out.below HB4.out).below HB5.out).below HB6.out).below HB7.out).below HB8.out).below HB9.out).below HB10.out).below HB11.out).below HB12.out).below HB13.out).below HB14.out)
                   clear hb Cx5)
                | (go_at_call 74; (with_reducible refine (Cx6.out _ ).mono ?_); rintro e W15 ⟨two, rfl, ⟨h_two, n_two⟩, hb⟩
                   have H_two := Lib.hid h_two
                   have N_two := Lib.hid n_two
                   have HB15 := Lib.hid hb
                   obtain ⟨d15_x_0, d15_x_1, d15_x_2⟩ := ((((((((((((M_x.out.below HB4.out).below HB5.out).below HB6.out).below HB7.out).below HB8.out).below HB9.out).below HB10.out).below HB11.out).below HB12.out).below HB13.out).below HB14.out).below HB15.out)
                   clear h_two n_two hb Cx6)
                | (go_at_call 77; (with_reducible refine (Cx7.out _ _ _ ((H_d1.out.below HB14.out).below HB15.out) (((H_s.out.below HB13.out).below HB14.out).below HB15.out)).mono ?_); rintro e W16 ⟨rfl, hb⟩
                   have HB16 := Lib.hid hb
                   obtain ⟨d16_x_0, d16_x_1, d16_x_2⟩ := (((((((((((((M_x.out.below HB4.out).below HB5.out).below HB6.out).below HB7.out).below HB8.out).below HB9.out).below HB10.out).below HB11.out).below HB12.out).below HB13.out).below HB14.out).below HB15.out).below HB16.out)
                   clear hb Cx7)
                | (fail "no arm"))
              rcases (show num.sg q1.num = 0 ∨ num.sg q1.num ≠ 0 by omega) with hz | hz
              · have HZ0 := Lib.hid hz
                clear hz
                have cx8 := fun (W : World) (v0 : Value) (hh0 : rat.IsR W v0 q1)  => rat.Sign_any v0 q1 W hh0
                rw [HZ0.out] at cx8
                have Cx8 := Lib.hid cx8
                clear cx8
                go_wp2_with (first
                  | (go_at_call 90; (with_reducible refine (Cx8.out _ _ (((((((H_b.out.below HB10.out).below HB11.out).below HB12.out).below HB13.out).below HB14.out).below HB15.out).below HB16.out)).mono ?_); rintro e W17 ⟨rfl, hb⟩
                     have HB17 := Lib.hid hb
                     obtain ⟨d17_x_0, d17_x_1, d17_x_2⟩ := ((((((((((((((M_x.out.below HB4.out).below HB5.out).below HB6.out).below HB7.out).below HB8.out).below HB9.out).below HB10.out).below HB11.out).below HB12.out).below HB13.out).below HB14.out).below HB15.out).below HB16.out).below HB17.out)
                     clear hb Cx8)
                  | (fail "no arm"))
                skip
                all_goals (go_ret; exact ⟨rfl, (nat.below_tr (nat.below_tr (nat.below_tr (nat.below_tr (nat.below_tr (nat.below_tr (nat.below_tr (nat.below_tr (nat.below_tr (nat.below_tr (nat.below_tr (nat.below_tr (nat.below_tr (nat.below_tr (nat.below_tr (nat.below_tr HB1.out HB2.out) HB3.out) HB4.out) HB5.out) HB6.out) HB7.out) HB8.out) HB9.out) HB10.out) HB11.out) HB12.out) HB13.out) HB14.out) HB15.out) HB16.out) HB17.out)⟩)
              · have HQ1 := Lib.hid (show num.sg q1.num = num.sg q.num from by rcases HSg.out with h | h; exact absurd h hz; exact h)
                have hzb : (num.sg q.num == 0) = false := by rw [← HQ1.out]; simpa using hz
                clear hz
                have cx8 := fun (W : World) (v0 : Value) (hh0 : rat.IsR W v0 q1)  => rat.Sign_any v0 q1 W hh0
                rw [HQ1.out] at cx8
                have Cx8 := Lib.hid cx8
                clear cx8
                have cx9 := fun (W : World) (v0 : Value) (hh0 : rat.IsR W v0 q1)  => rat.Sign_any v0 q1 W hh0
                rw [HQ1.out] at cx9
                have Cx9 := Lib.hid cx9
                clear cx9
                have cx10 := fun (W : World) (v0 : Value) (hh0 : rat.IsR W v0 q)  => rat.Sign_any v0 q W hh0
                have Cx10 := Lib.hid cx10
                clear cx10
                generalize num.sg q.num = sq at *
                go_wp2_with (first
                  | (go_at_call 90; (with_reducible refine (Cx8.out _ _ (((((((H_b.out.below HB10.out).below HB11.out).below HB12.out).below HB13.out).below HB14.out).below HB15.out).below HB16.out)).mono ?_); rintro e W17 ⟨rfl, hb⟩
                     have HB17 := Lib.hid hb
                     obtain ⟨d17_x_0, d17_x_1, d17_x_2⟩ := ((((((((((((((M_x.out.below HB4.out).below HB5.out).below HB6.out).below HB7.out).below HB8.out).below HB9.out).below HB10.out).below HB11.out).below HB12.out).below HB13.out).below HB14.out).below HB15.out).below HB16.out).below HB17.out)
                     clear hb Cx8)
                  | (go_at_call 90; (with_reducible refine (Cx9.out _ _ ((((((((H_b.out.below HB10.out).below HB11.out).below HB12.out).below HB13.out).below HB14.out).below HB15.out).below HB16.out).below HB17.out)).mono ?_); rintro e W18 ⟨rfl, hb⟩
                     have HB18 := Lib.hid hb
                     obtain ⟨d18_x_0, d18_x_1, d18_x_2⟩ := (((((((((((((((M_x.out.below HB4.out).below HB5.out).below HB6.out).below HB7.out).below HB8.out).below HB9.out).below HB10.out).below HB11.out).below HB12.out).below HB13.out).below HB14.out).below HB15.out).below HB16.out).below HB17.out).below HB18.out)
                     clear hb Cx9)
                  | (go_at_call 90; (with_reducible refine (Cx10.out _ _ ((((((((((((((((H_a.out.below HB3.out).below HB4.out).below HB5.out).below HB6.out).below HB7.out).below HB8.out).below HB9.out).below HB10.out).below HB11.out).below HB12.out).below HB13.out).below HB14.out).below HB15.out).below HB16.out).below HB17.out).below HB18.out)).mono ?_); rintro e W19 ⟨rfl, hb⟩
                     have HB19 := Lib.hid hb
                     obtain ⟨d19_x_0, d19_x_1, d19_x_2⟩ := ((((((((((((((((M_x.out.below HB4.out).below HB5.out).below HB6.out).below HB7.out).below HB8.out).below HB9.out).below HB10.out).below HB11.out).below HB12.out).below HB13.out).below HB14.out).below HB15.out).below HB16.out).below HB17.out).below HB18.out).below HB19.out)
                     clear hb Cx10)
                  | (fail "no arm"))
                skip
                all_goals (go_ret; exact ⟨rfl, (nat.below_tr (nat.below_tr (nat.below_tr (nat.below_tr (nat.below_tr (nat.below_tr (nat.below_tr (nat.below_tr (nat.below_tr (nat.below_tr (nat.below_tr (nat.below_tr (nat.below_tr (nat.below_tr (nat.below_tr (nat.below_tr (nat.below_tr (nat.below_tr HB1.out HB2.out) HB3.out) HB4.out) HB5.out) HB6.out) HB7.out) HB8.out) HB9.out) HB10.out) HB11.out) HB12.out) HB13.out) HB14.out) HB15.out) HB16.out) HB17.out) HB18.out) HB19.out)⟩)
        · have HIn := Lib.hid hin
          clear hin
          have c1 := fun (W : World) (v0 : Value) (hh0 : ref.IsI W v0 U)  => ref.ISmall_out v0 U W hh0 HIn.out
          have C1 := Lib.hid c1
          clear c1
          have c2 := fun (W : World)    => rat.Of_ok 1 1 W (by decide) (by decide) (by decide) (by decide) (by decide)
          rw [show (((1 : Int) : Rat) / ((1 : Int) : Rat)) = (1 : Rat) from by decide +kernel] at c2
          have C2 := Lib.hid c2
          clear c2
          have c3 := fun (W : World)    => rat.Of_ok 10 1 W (by decide) (by decide) (by decide) (by decide) (by decide)
          rw [show (((10 : Int) : Rat) / ((1 : Int) : Rat)) = (10 : Rat) from by decide +kernel] at c3
          have C3 := Lib.hid c3
          clear c3
          go_wp2_with (first
            | (go_at_call 84; (with_reducible refine (UO.out _ _ (((H_a.out.below HB3.out).below HB4.out).below HB5.out) HIn.out).mono ?_); rintro e W6 ⟨rfl, hb⟩
               have HB6 := Lib.hid hb
               obtain ⟨d6_x_0, d6_x_1, d6_x_2⟩ := (((M_x.out.below HB4.out).below HB5.out).below HB6.out)
               clear hb)
            | (go_at_call 85; (with_reducible refine (NE.out _ _ ((((H_x.out.below HB3.out).below HB4.out).below HB5.out).below HB6.out)).mono ?_); rintro e W7 ⟨nr, rfl, h_nr, hb⟩
               have H_nr := Lib.hid h_nr
               have HB7 := Lib.hid hb
               obtain ⟨d7_x_0, d7_x_1, d7_x_2⟩ := ((((M_x.out.below HB4.out).below HB5.out).below HB6.out).below HB7.out)
               clear h_nr hb)
            | (go_at_call 59; (with_reducible refine (C1.out _ _ H_nr.out).mono ?_); rintro e W8 ⟨rfl, hb⟩
               have HB8 := Lib.hid hb
               obtain ⟨d8_x_0, d8_x_1, d8_x_2⟩ := (((((M_x.out.below HB4.out).below HB5.out).below HB6.out).below HB7.out).below HB8.out)
               clear hb C1)
            | (go_at_call 29; (with_reducible refine (Same_any 11 _ ((((((((HG.out.below HB1.out).below HB2.out).below HB3.out).below HB4.out).below HB5.out).below HB6.out).below HB7.out).below HB8.out)).mono ?_); rintro e W9 ⟨rfl, hb⟩
               have HB9 := Lib.hid hb
               obtain ⟨d9_x_0, d9_x_1, d9_x_2⟩ := ((((((M_x.out.below HB4.out).below HB5.out).below HB6.out).below HB7.out).below HB8.out).below HB9.out)
               clear hb)
            | (go_at_call 78; (with_reducible refine (GT.out _).mono ?_); rintro e W10 ⟨b, rfl, ⟨h_b, n_b⟩, hb⟩
               have H_b := Lib.hid h_b
               have N_b := Lib.hid n_b
               have HB10 := Lib.hid hb
               obtain ⟨d10_x_0, d10_x_1, d10_x_2⟩ := (((((((M_x.out.below HB4.out).below HB5.out).below HB6.out).below HB7.out).below HB8.out).below HB9.out).below HB10.out)
               clear h_b n_b hb GT)
            | (go_at_call 74; (with_reducible refine (C2.out _ ).mono ?_); rintro e W11 ⟨st, rfl, ⟨h_st, n_st⟩, hb⟩
               have H_st := Lib.hid h_st
               have N_st := Lib.hid n_st
               have HB11 := Lib.hid hb
               obtain ⟨d11_x_0, d11_x_1, d11_x_2⟩ := ((((((((M_x.out.below HB4.out).below HB5.out).below HB6.out).below HB7.out).below HB8.out).below HB9.out).below HB10.out).below HB11.out)
               clear h_st n_st hb C2)
            | (go_at_call 74; (with_reducible refine (C3.out _ ).mono ?_); rintro e W12 ⟨ten, rfl, ⟨h_ten, n_ten⟩, hb⟩
               have H_ten := Lib.hid h_ten
               have N_ten := Lib.hid n_ten
               have HB12 := Lib.hid hb
               obtain ⟨d12_x_0, d12_x_1, d12_x_2⟩ := (((((((((M_x.out.below HB4.out).below HB5.out).below HB6.out).below HB7.out).below HB8.out).below HB9.out).below HB10.out).below HB11.out).below HB12.out)
               clear h_ten n_ten hb C3)
            | (fail "no arm"))
          clear d4_x_0 d4_x_1 d4_x_2 d5_x_0 d5_x_1 d5_x_2 d6_x_0 d6_x_1 d6_x_2 d7_x_0 d7_x_1 d7_x_2 d8_x_0 d8_x_1 d8_x_2 d9_x_0 d9_x_1 d9_x_2 d10_x_0 d10_x_1 d10_x_2 d11_x_0 d11_x_1 d11_x_2 d12_x_0 d12_x_1 d12_x_2
          go_loopw [23, 27] (fun sv iv wr => StepRel W12 k sv iv wr) (fun _ iv _ => k - (intOf iv).toNat)
          case atStart => exact ⟨0, Nat.zero_le _, rfl, ⟨by rw [show ((1 : Rat) / ((10 ^ 0 : Nat) : Rat)) = 1 by decide +kernel]; exact (H_st.out.below HB12.out), N_st.out⟩, Below.refl _ _⟩
          obtain ⟨i, hi, rfl, ⟨hs, hns⟩, hbe⟩ := hrel
          have H_sv := Lib.hid hs
          have N_sv := Lib.hid hns
          have HBe := Lib.hid hbe
          clear hs hns hbe
          by_cases hlt : (i : Int) < (k : Int)
          · have hi20 : i ≤ 20 := by omega
            have DV := fun W u v (hu : rat.IsR W u ((1 : Rat) / ((10 ^ i : Nat) : Rat))) (hv : rat.IsR W v (10 : Rat)) => rat.Div_ok u v _ _ W hu hv ((step_br hi20).rat (by decide)) (((show Br (10 : Rat) 20 from Br_lowz (z := 10) (y := 1) (by decide) (by decide +kernel) (Bz_small (by decide) (by decide)) (Bz_small (by decide) (by decide))).rat (by decide))) (by decide +kernel)
            rw [dec.step_next] at DV
            have DV := Lib.hid DV
            go_wp2_with (first
              | (go_at_call 88; (with_reducible refine (DV.out _ _ _ H_sv.out (H_ten.out.below HBe.out)).mono ?_); rintro e V1 ⟨s1, rfl, ⟨h_1, n_1⟩, hb⟩; have H1 := Lib.hid h_1; have N1 := Lib.hid n_1; have G1 := Lib.hid hb; clear h_1 n_1 hb)
              | (fail "no arm"))
            go_roundw
            case rel => exact ⟨i + 1, by omega, by go_num, ⟨H1.out, N1.out⟩, nat.below_tr HBe.out G1.out⟩
            case measure => simp [intOf]; omega
          · obtain rfl : i = k := by omega
            obtain ⟨W13, hWr⟩ : ∃ W : World, wr = W := ⟨_, rfl⟩
            subst hWr
            have HB13 := Lib.hid HBe.out
            have H_s := Lib.hid (show rat.IsR _ _ s0 from by rw [HS0.out]; exact H_sv.out)
            clear hi hlt HBe H_sv
            by_cases hls : q < q1
            · have HLs := Lib.hid hls
              have hsg := sign_less hls
              clear hls
              have cx4 := fun (W : World) (v0 : Value) (v1 : Value) (hh0 : rat.IsR W v0 q) (hh1 : rat.IsR W v1 q1)  => rat.Sub_any v0 v1 q q1 W hh0 hh1 (L_q.out.rat (by decide)) (L_q1.out.rat (by decide))
              have Cx4 := Lib.hid cx4
              clear cx4
              have cx5 := fun (W : World) (v0 : Value) (hh0 : rat.IsR W v0 (q - q1))  => rat.Sign_any v0 (q - q1) W hh0
              rw [hsg] at cx5
              have Cx5 := Lib.hid cx5
              clear cx5
              have cx6 := fun (W : World) (v0 : Value) (v1 : Value) (hh0 : rat.IsR W v0 q1) (hh1 : rat.IsR W v1 q)  => rat.Sub_any v0 v1 q1 q W hh0 hh1 (L_q1.out.rat (by decide)) (L_q.out.rat (by decide))
              have Cx6 := Lib.hid cx6
              clear cx6
              have cx7 := fun (W : World)    => rat.Of_ok 2 1 W (by decide) (by decide) (by decide) (by decide) (by decide)
              rw [show (((2 : Int) : Rat) / ((1 : Int) : Rat)) = (2 : Rat) from by decide +kernel] at cx7
              have Cx7 := Lib.hid cx7
              clear cx7
              have cx8 := fun (W : World) (v0 : Value) (v1 : Value) (hh0 : rat.IsR W v0 (q1 - q)) (hh1 : rat.IsR W v1 s0)  => rat.Cmp_any v0 v1 (q1 - q) s0 W hh0 hh1 ((Br_sub L_q1.out L_q.out).rat (by decide)) (L_s0.out.rat (by decide))
              rw [cmp_less HDist.out.2] at cx8
              have Cx8 := Lib.hid cx8
              clear cx8
              clear hsg
              go_wp2_with (first
                | (go_at_call 89; (with_reducible refine (Cx4.out _ _ _ (((((((((((H_a.out.below HB3.out).below HB4.out).below HB5.out).below HB6.out).below HB7.out).below HB8.out).below HB9.out).below HB10.out).below HB11.out).below HB12.out).below HB13.out) (((H_b.out.below HB11.out).below HB12.out).below HB13.out)).mono ?_); rintro e W14 ⟨d1, rfl, ⟨h_d1, n_d1⟩, hb⟩
                   have H_d1 := Lib.hid h_d1
                   have N_d1 := Lib.hid n_d1
                   have HB14 := Lib.hid hb
                   obtain ⟨d14_x_0, d14_x_1, d14_x_2⟩ := (((((((((((M_x.out.below HB4.out).below HB5.out).below HB6.out).below HB7.out).below HB8.out).below HB9.out).below HB10.out).below HB11.out).below HB12.out).below HB13.out).below HB14.out)
                   clear h_d1 n_d1 hb Cx4)
                | (go_at_call 90; (with_reducible refine (Cx5.out _ _ H_d1.out).mono ?_); rintro e W15 ⟨rfl, hb⟩
                   have HB15 := Lib.hid hb
                   obtain ⟨d15_x_0, d15_x_1, d15_x_2⟩ := ((((((((((((M_x.out.below HB4.out).below HB5.out).below HB6.out).below HB7.out).below HB8.out).below HB9.out).below HB10.out).below HB11.out).below HB12.out).below HB13.out).below HB14.out).below HB15.out)
                   clear hb Cx5)
                | (go_at_call 89; (with_reducible refine (Cx6.out _ _ _ (((((H_b.out.below HB11.out).below HB12.out).below HB13.out).below HB14.out).below HB15.out) (((((((((((((H_a.out.below HB3.out).below HB4.out).below HB5.out).below HB6.out).below HB7.out).below HB8.out).below HB9.out).below HB10.out).below HB11.out).below HB12.out).below HB13.out).below HB14.out).below HB15.out)).mono ?_); rintro e W16 ⟨d2, rfl, ⟨h_d2, n_d2⟩, hb⟩
                   have H_d2 := Lib.hid h_d2
                   have N_d2 := Lib.hid n_d2
                   have HB16 := Lib.hid hb
                   obtain ⟨d16_x_0, d16_x_1, d16_x_2⟩ := (((((((((((((M_x.out.below HB4.out).below HB5.out).below HB6.out).below HB7.out).below HB8.out).below HB9.out).below HB10.out).below HB11.out).below HB12.out).below HB13.out).below HB14.out).below HB15.out).below HB16.out)
                   clear h_d2 n_d2 hb Cx6)
                | (go_at_call 74; (with_reducible refine (Cx7.out _ ).mono ?_); rintro e W17 ⟨two, rfl, ⟨h_two, n_two⟩, hb⟩
                   have H_two := Lib.hid h_two
                   have N_two := Lib.hid n_two
                   have HB17 := Lib.hid hb
                   obtain ⟨d17_x_0, d17_x_1, d17_x_2⟩ := ((((((((((((((M_x.out.below HB4.out).below HB5.out).below HB6.out).below HB7.out).below HB8.out).below HB9.out).below HB10.out).below HB11.out).below HB12.out).below HB13.out).below HB14.out).below HB15.out).below HB16.out).below HB17.out)
                   clear h_two n_two hb Cx7)
                | (go_at_call 77; (with_reducible refine (Cx8.out _ _ _ (H_d2.out.below HB17.out) ((((H_s.out.below HB14.out).below HB15.out).below HB16.out).below HB17.out)).mono ?_); rintro e W18 ⟨rfl, hb⟩
                   have HB18 := Lib.hid hb
                   obtain ⟨d18_x_0, d18_x_1, d18_x_2⟩ := (((((((((((((((M_x.out.below HB4.out).below HB5.out).below HB6.out).below HB7.out).below HB8.out).below HB9.out).below HB10.out).below HB11.out).below HB12.out).below HB13.out).below HB14.out).below HB15.out).below HB16.out).below HB17.out).below HB18.out)
                   clear hb Cx8)
                | (fail "no arm"))
              rcases (show num.sg q1.num = 0 ∨ num.sg q1.num ≠ 0 by omega) with hz | hz
              · have HZ0 := Lib.hid hz
                clear hz
                have cx9 := fun (W : World) (v0 : Value) (hh0 : rat.IsR W v0 q1)  => rat.Sign_any v0 q1 W hh0
                rw [HZ0.out] at cx9
                have Cx9 := Lib.hid cx9
                clear cx9
                go_wp2_with (first
                  | (go_at_call 90; (with_reducible refine (Cx9.out _ _ ((((((((H_b.out.below HB11.out).below HB12.out).below HB13.out).below HB14.out).below HB15.out).below HB16.out).below HB17.out).below HB18.out)).mono ?_); rintro e W19 ⟨rfl, hb⟩
                     have HB19 := Lib.hid hb
                     obtain ⟨d19_x_0, d19_x_1, d19_x_2⟩ := ((((((((((((((((M_x.out.below HB4.out).below HB5.out).below HB6.out).below HB7.out).below HB8.out).below HB9.out).below HB10.out).below HB11.out).below HB12.out).below HB13.out).below HB14.out).below HB15.out).below HB16.out).below HB17.out).below HB18.out).below HB19.out)
                     clear hb Cx9)
                  | (fail "no arm"))
                skip
                all_goals (go_ret; exact ⟨rfl, (nat.below_tr (nat.below_tr (nat.below_tr (nat.below_tr (nat.below_tr (nat.below_tr (nat.below_tr (nat.below_tr (nat.below_tr (nat.below_tr (nat.below_tr (nat.below_tr (nat.below_tr (nat.below_tr (nat.below_tr (nat.below_tr (nat.below_tr (nat.below_tr HB1.out HB2.out) HB3.out) HB4.out) HB5.out) HB6.out) HB7.out) HB8.out) HB9.out) HB10.out) HB11.out) HB12.out) HB13.out) HB14.out) HB15.out) HB16.out) HB17.out) HB18.out) HB19.out)⟩)
              · have HQ1 := Lib.hid (show num.sg q1.num = num.sg q.num from by rcases HSg.out with h | h; exact absurd h hz; exact h)
                have hzb : (num.sg q.num == 0) = false := by rw [← HQ1.out]; simpa using hz
                clear hz
                have cx9 := fun (W : World) (v0 : Value) (hh0 : rat.IsR W v0 q1)  => rat.Sign_any v0 q1 W hh0
                rw [HQ1.out] at cx9
                have Cx9 := Lib.hid cx9
                clear cx9
                have cx10 := fun (W : World) (v0 : Value) (hh0 : rat.IsR W v0 q1)  => rat.Sign_any v0 q1 W hh0
                rw [HQ1.out] at cx10
                have Cx10 := Lib.hid cx10
                clear cx10
                have cx11 := fun (W : World) (v0 : Value) (hh0 : rat.IsR W v0 q)  => rat.Sign_any v0 q W hh0
                have Cx11 := Lib.hid cx11
                clear cx11
                generalize num.sg q.num = sq at *
                go_wp2_with (first
                  | (go_at_call 90; (with_reducible refine (Cx9.out _ _ ((((((((H_b.out.below HB11.out).below HB12.out).below HB13.out).below HB14.out).below HB15.out).below HB16.out).below HB17.out).below HB18.out)).mono ?_); rintro e W19 ⟨rfl, hb⟩
                     have HB19 := Lib.hid hb
                     obtain ⟨d19_x_0, d19_x_1, d19_x_2⟩ := ((((((((((((((((M_x.out.below HB4.out).below HB5.out).below HB6.out).below HB7.out).below HB8.out).below HB9.out).below HB10.out).below HB11.out).below HB12.out).below HB13.out).below HB14.out).below HB15.out).below HB16.out).below HB17.out).below HB18.out).below HB19.out)
                     clear hb Cx9)
                  | (go_at_call 90; (with_reducible refine (Cx10.out _ _ (((((((((H_b.out.below HB11.out).below HB12.out).below HB13.out).below HB14.out).below HB15.out).below HB16.out).below HB17.out).below HB18.out).below HB19.out)).mono ?_); rintro e W20 ⟨rfl, hb⟩
                     have HB20 := Lib.hid hb
                     obtain ⟨d20_x_0, d20_x_1, d20_x_2⟩ := (((((((((((((((((M_x.out.below HB4.out).below HB5.out).below HB6.out).below HB7.out).below HB8.out).below HB9.out).below HB10.out).below HB11.out).below HB12.out).below HB13.out).below HB14.out).below HB15.out).below HB16.out).below HB17.out).below HB18.out).below HB19.out).below HB20.out)
                     clear hb Cx10)
                  | (go_at_call 90; (with_reducible refine (Cx11.out _ _ ((((((((((((((((((H_a.out.below HB3.out).below HB4.out).below HB5.out).below HB6.out).below HB7.out).below HB8.out).below HB9.out).below HB10.out).below HB11.out).below HB12.out).below HB13.out).below HB14.out).below HB15.out).below HB16.out).below HB17.out).below HB18.out).below HB19.out).below HB20.out)).mono ?_); rintro e W21 ⟨rfl, hb⟩
                     have HB21 := Lib.hid hb
                     obtain ⟨d21_x_0, d21_x_1, d21_x_2⟩ := ((((((((((((((((((M_x.out.below HB4.out).below HB5.out).below HB6.out).below HB7.out).below HB8.out).below HB9.out).below HB10.out).below HB11.out).below HB12.out).below HB13.out).below HB14.out).below HB15.out).below HB16.out).below HB17.out).below HB18.out).below HB19.out).below HB20.out).below HB21.out)
                     clear hb Cx11)
                  | (fail "no arm"))
                skip
                all_goals (go_ret; exact ⟨rfl, (nat.below_tr (nat.below_tr (nat.below_tr (nat.below_tr (nat.below_tr (nat.below_tr (nat.below_tr (nat.below_tr (nat.below_tr (nat.below_tr (nat.below_tr (nat.below_tr (nat.below_tr (nat.below_tr (nat.below_tr (nat.below_tr (nat.below_tr (nat.below_tr (nat.below_tr (nat.below_tr HB1.out HB2.out) HB3.out) HB4.out) HB5.out) HB6.out) HB7.out) HB8.out) HB9.out) HB10.out) HB11.out) HB12.out) HB13.out) HB14.out) HB15.out) HB16.out) HB17.out) HB18.out) HB19.out) HB20.out) HB21.out)⟩)
            · have HLs := Lib.hid hls
              obtain ⟨cs, hsg, hcs⟩ := sign_more hls
              clear hls
              have cx4 := fun (W : World) (v0 : Value) (v1 : Value) (hh0 : rat.IsR W v0 q) (hh1 : rat.IsR W v1 q1)  => rat.Sub_any v0 v1 q q1 W hh0 hh1 (L_q.out.rat (by decide)) (L_q1.out.rat (by decide))
              have Cx4 := Lib.hid cx4
              clear cx4
              have cx5 := fun (W : World) (v0 : Value) (hh0 : rat.IsR W v0 (q - q1))  => rat.Sign_any v0 (q - q1) W hh0
              rw [hsg] at cx5
              have Cx5 := Lib.hid cx5
              clear cx5
              have cx6 := fun (W : World)    => rat.Of_ok 2 1 W (by decide) (by decide) (by decide) (by decide) (by decide)
              rw [show (((2 : Int) : Rat) / ((1 : Int) : Rat)) = (2 : Rat) from by decide +kernel] at cx6
              have Cx6 := Lib.hid cx6
              clear cx6
              have cx7 := fun (W : World) (v0 : Value) (v1 : Value) (hh0 : rat.IsR W v0 (q - q1)) (hh1 : rat.IsR W v1 s0)  => rat.Cmp_any v0 v1 (q - q1) s0 W hh0 hh1 ((Br_sub L_q.out L_q1.out).rat (by decide)) (L_s0.out.rat (by decide))
              rw [cmp_less HDist.out.1] at cx7
              have Cx7 := Lib.hid cx7
              clear cx7
              clear hsg
              go_wp2_with (first
                | (go_at_call 89; (with_reducible refine (Cx4.out _ _ _ (((((((((((H_a.out.below HB3.out).below HB4.out).below HB5.out).below HB6.out).below HB7.out).below HB8.out).below HB9.out).below HB10.out).below HB11.out).below HB12.out).below HB13.out) (((H_b.out.below HB11.out).below HB12.out).below HB13.out)).mono ?_); rintro e W14 ⟨d1, rfl, ⟨h_d1, n_d1⟩, hb⟩
                   have H_d1 := Lib.hid h_d1
                   have N_d1 := Lib.hid n_d1
                   have HB14 := Lib.hid hb
                   obtain ⟨d14_x_0, d14_x_1, d14_x_2⟩ := (((((((((((M_x.out.below HB4.out).below HB5.out).below HB6.out).below HB7.out).below HB8.out).below HB9.out).below HB10.out).below HB11.out).below HB12.out).below HB13.out).below HB14.out)
                   clear h_d1 n_d1 hb Cx4)
                | (go_at_call 90; (with_reducible refine (Cx5.out _ _ H_d1.out).mono ?_); rintro e W15 ⟨rfl, hb⟩
                   have HB15 := Lib.hid hb
                   obtain ⟨d15_x_0, d15_x_1, d15_x_2⟩ := ((((((((((((M_x.out.below HB4.out).below HB5.out).below HB6.out).below HB7.out).below HB8.out).below HB9.out).below HB10.out).below HB11.out).below HB12.out).below HB13.out).below HB14.out).below HB15.out)
                   clear hb Cx5)
                | (go_at_call 74; (with_reducible refine (Cx6.out _ ).mono ?_); rintro e W16 ⟨two, rfl, ⟨h_two, n_two⟩, hb⟩
                   have H_two := Lib.hid h_two
                   have N_two := Lib.hid n_two
                   have HB16 := Lib.hid hb
                   obtain ⟨d16_x_0, d16_x_1, d16_x_2⟩ := (((((((((((((M_x.out.below HB4.out).below HB5.out).below HB6.out).below HB7.out).below HB8.out).below HB9.out).below HB10.out).below HB11.out).below HB12.out).below HB13.out).below HB14.out).below HB15.out).below HB16.out)
                   clear h_two n_two hb Cx6)
                | (go_at_call 77; (with_reducible refine (Cx7.out _ _ _ ((H_d1.out.below HB15.out).below HB16.out) (((H_s.out.below HB14.out).below HB15.out).below HB16.out)).mono ?_); rintro e W17 ⟨rfl, hb⟩
                   have HB17 := Lib.hid hb
                   obtain ⟨d17_x_0, d17_x_1, d17_x_2⟩ := ((((((((((((((M_x.out.below HB4.out).below HB5.out).below HB6.out).below HB7.out).below HB8.out).below HB9.out).below HB10.out).below HB11.out).below HB12.out).below HB13.out).below HB14.out).below HB15.out).below HB16.out).below HB17.out)
                   clear hb Cx7)
                | (fail "no arm"))
              rcases (show num.sg q1.num = 0 ∨ num.sg q1.num ≠ 0 by omega) with hz | hz
              · have HZ0 := Lib.hid hz
                clear hz
                have cx8 := fun (W : World) (v0 : Value) (hh0 : rat.IsR W v0 q1)  => rat.Sign_any v0 q1 W hh0
                rw [HZ0.out] at cx8
                have Cx8 := Lib.hid cx8
                clear cx8
                go_wp2_with (first
                  | (go_at_call 90; (with_reducible refine (Cx8.out _ _ (((((((H_b.out.below HB11.out).below HB12.out).below HB13.out).below HB14.out).below HB15.out).below HB16.out).below HB17.out)).mono ?_); rintro e W18 ⟨rfl, hb⟩
                     have HB18 := Lib.hid hb
                     obtain ⟨d18_x_0, d18_x_1, d18_x_2⟩ := (((((((((((((((M_x.out.below HB4.out).below HB5.out).below HB6.out).below HB7.out).below HB8.out).below HB9.out).below HB10.out).below HB11.out).below HB12.out).below HB13.out).below HB14.out).below HB15.out).below HB16.out).below HB17.out).below HB18.out)
                     clear hb Cx8)
                  | (fail "no arm"))
                skip
                all_goals (go_ret; exact ⟨rfl, (nat.below_tr (nat.below_tr (nat.below_tr (nat.below_tr (nat.below_tr (nat.below_tr (nat.below_tr (nat.below_tr (nat.below_tr (nat.below_tr (nat.below_tr (nat.below_tr (nat.below_tr (nat.below_tr (nat.below_tr (nat.below_tr (nat.below_tr HB1.out HB2.out) HB3.out) HB4.out) HB5.out) HB6.out) HB7.out) HB8.out) HB9.out) HB10.out) HB11.out) HB12.out) HB13.out) HB14.out) HB15.out) HB16.out) HB17.out) HB18.out)⟩)
              · have HQ1 := Lib.hid (show num.sg q1.num = num.sg q.num from by rcases HSg.out with h | h; exact absurd h hz; exact h)
                have hzb : (num.sg q.num == 0) = false := by rw [← HQ1.out]; simpa using hz
                clear hz
                have cx8 := fun (W : World) (v0 : Value) (hh0 : rat.IsR W v0 q1)  => rat.Sign_any v0 q1 W hh0
                rw [HQ1.out] at cx8
                have Cx8 := Lib.hid cx8
                clear cx8
                have cx9 := fun (W : World) (v0 : Value) (hh0 : rat.IsR W v0 q1)  => rat.Sign_any v0 q1 W hh0
                rw [HQ1.out] at cx9
                have Cx9 := Lib.hid cx9
                clear cx9
                have cx10 := fun (W : World) (v0 : Value) (hh0 : rat.IsR W v0 q)  => rat.Sign_any v0 q W hh0
                have Cx10 := Lib.hid cx10
                clear cx10
                generalize num.sg q.num = sq at *
                go_wp2_with (first
                  | (go_at_call 90; (with_reducible refine (Cx8.out _ _ (((((((H_b.out.below HB11.out).below HB12.out).below HB13.out).below HB14.out).below HB15.out).below HB16.out).below HB17.out)).mono ?_); rintro e W18 ⟨rfl, hb⟩
                     have HB18 := Lib.hid hb
                     obtain ⟨d18_x_0, d18_x_1, d18_x_2⟩ := (((((((((((((((M_x.out.below HB4.out).below HB5.out).below HB6.out).below HB7.out).below HB8.out).below HB9.out).below HB10.out).below HB11.out).below HB12.out).below HB13.out).below HB14.out).below HB15.out).below HB16.out).below HB17.out).below HB18.out)
                     clear hb Cx8)
                  | (go_at_call 90; (with_reducible refine (Cx9.out _ _ ((((((((H_b.out.below HB11.out).below HB12.out).below HB13.out).below HB14.out).below HB15.out).below HB16.out).below HB17.out).below HB18.out)).mono ?_); rintro e W19 ⟨rfl, hb⟩
                     have HB19 := Lib.hid hb
                     obtain ⟨d19_x_0, d19_x_1, d19_x_2⟩ := ((((((((((((((((M_x.out.below HB4.out).below HB5.out).below HB6.out).below HB7.out).below HB8.out).below HB9.out).below HB10.out).below HB11.out).below HB12.out).below HB13.out).below HB14.out).below HB15.out).below HB16.out).below HB17.out).below HB18.out).below HB19.out)
                     clear hb Cx9)
                  | (go_at_call 90; (with_reducible refine (Cx10.out _ _ (((((((((((((((((H_a.out.below HB3.out).below HB4.out).below HB5.out).below HB6.out).below HB7.out).below HB8.out).below HB9.out).below HB10.out).below HB11.out).below HB12.out).below HB13.out).below HB14.out).below HB15.out).below HB16.out).below HB17.out).below HB18.out).below HB19.out)).mono ?_); rintro e W20 ⟨rfl, hb⟩
                     have HB20 := Lib.hid hb
                     obtain ⟨d20_x_0, d20_x_1, d20_x_2⟩ := (((((((((((((((((M_x.out.below HB4.out).below HB5.out).below HB6.out).below HB7.out).below HB8.out).below HB9.out).below HB10.out).below HB11.out).below HB12.out).below HB13.out).below HB14.out).below HB15.out).below HB16.out).below HB17.out).below HB18.out).below HB19.out).below HB20.out)
                     clear hb Cx10)
                  | (fail "no arm"))
                skip
                all_goals (go_ret; exact ⟨rfl, (nat.below_tr (nat.below_tr (nat.below_tr (nat.below_tr (nat.below_tr (nat.below_tr (nat.below_tr (nat.below_tr (nat.below_tr (nat.below_tr (nat.below_tr (nat.below_tr (nat.below_tr (nat.below_tr (nat.below_tr (nat.below_tr (nat.below_tr (nat.below_tr (nat.below_tr HB1.out HB2.out) HB3.out) HB4.out) HB5.out) HB6.out) HB7.out) HB8.out) HB9.out) HB10.out) HB11.out) HB12.out) HB13.out) HB14.out) HB15.out) HB16.out) HB17.out) HB18.out) HB19.out) HB20.out)⟩)
end Go.Proofs.YtfpooimjjpamoaaGreatDoor.law2
