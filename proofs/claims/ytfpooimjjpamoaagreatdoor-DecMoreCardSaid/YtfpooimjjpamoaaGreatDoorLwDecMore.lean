/-
  DecMore answers true for every two texts, a sign and two numbers. Conditions: begun answers true; texts of at most 2^62 bytes.
-/
import Derived.Test.YtfpooimjjpamoaaGreatDoorE23
namespace Go.Proofs.YtfpooimjjpamoaaGreatDoor.law2
open Go.RowKit Go.Proofs.YtfpooimjjpamoaaGreatDoor.nat
open Go.Proofs.YtfpooimjjpamoaaGreatDoor.ref (str signed decText)
set_option maxRecDepth 100000 in
set_option maxHeartbeats 4000000 in
theorem LwDecMore (HBg : BegunC) (s : List UInt8) (hs : s.length ≤ 4611686018427387904) (t : List UInt8) (ht : t.length ≤ 4611686018427387904) (neg : Bool) (a : Int) (_a1 : -9223372036854775808 ≤ a) (_a2 : a < 9223372036854775808) (b : Int) (_b1 : -9223372036854775808 ≤ b) (_b2 : b < 9223372036854775808) (w : World) (hd : Hd w) :
    Calls Tryz.prog 23 #[.string (str s), .string (str t), .bool neg, .int .i64 a, .int .i64 b] w fun e w' => e = .returned (.bool true) ∧ Below w.heap.size w w' := by
  unfold BegunC at HBg
  have HBG := Lib.hid HBg
  have HG := Lib.hid hd
  clear HBg hd
  have HR1 := Lib.hid (fun W => R_any s t neg W hs ht)
  clear hs ht
  generalize str s = zs at *
  generalize str t = zt at *
  have t1 : -18 < a.tmod 18 := Int.lt_tmod_of_pos a (by decide)
  have t2 : a.tmod 18 < 18 := Int.tmod_lt_of_pos a (by decide)
  have t3 : -18 < b.tmod 18 := Int.lt_tmod_of_pos b (by decide)
  have t4 : b.tmod 18 < 18 := Int.tmod_lt_of_pos b (by decide)
  obtain ⟨A, hA⟩ : ∃ A : Nat, (a.tmod 18 + 18) % 18 = (A : Int) := ⟨((a.tmod 18 + 18) % 18).toNat, by omega⟩
  obtain ⟨B, hB⟩ : ∃ B : Nat, (b.tmod 18 + 18) % 18 = (B : Int) := ⟨((b.tmod 18 + 18) % 18).toNat, by omega⟩
  have hA2 : A < 18 := by omega
  have hB2 : B < 18 := by omega
  rcases (show B < A ∨ A ≤ B by omega) with hab | hab
  · go_enter Tryz.func23, Tryz.ntmps23
    go_wp2_with (first
      | (go_at_call 25; (with_reducible refine (HBG.out _ HG.out).mono ?_); rintro e W1 ⟨rfl, hb⟩
         have HB1 := Lib.hid hb
         clear hb)
      | (go_at_call 81; (with_reducible refine (HR1.out _).mono ?_); rintro e W2 ⟨r, x, zr, dr, rfl, ⟨hz, hd, h0⟩, ⟨ha, hna, hx⟩, hb⟩
         obtain ⟨p_r, rfl⟩ := ha.some hna
         obtain ⟨s_x, t_x, rfl, h3, h4⟩ := id hx
         obtain ⟨o_x, c_x, rfl⟩ := IsX_slice h3
         obtain ⟨u_x, e_x, rfl⟩ := IsX_slice h4
         obtain ⟨q, hq⟩ : ∃ q, q = ((zr : Rat) / (dr : Rat)) := ⟨_, rfl⟩
         rw [← hq] at ha
         have H_r := Lib.hid ha
         have N_r := Lib.hid hna
         have H_x := Lib.hid hx
         have L_q := Lib.hid (Br_low h0 hq hz hd)
         have E_q := Lib.hid hq
         have LZ_r := Lib.hid hz
         have LD_r := Lib.hid hd
         have P_r := Lib.hid h0
         have HB2 := Lib.hid hb
         have HB3 := Lib.hid (show Below W2.heap.size W2 (W2.alloc (.cells #[.bool (decide (zr < 0)), .slice o_x (ref.digs (Int.natAbs zr)).length c_x, .slice u_x (ref.digs dr).length e_x] 86)) from (Below.refl _ _).alloc (Nat.le_refl _) _)
         clear ha hna hx hq hz hd h0 hb h3 h4 HR1)
      | (fail "no arm"))
    have F1 := fun W v (h : rat.IsR W v q) => dec.Round_ok v q A 3 W h (L_q.out.rat (by decide)) (by omega) (Or.inr (Or.inr rfl))
    have F3 := fun W v (h : rat.IsR W v q) => dec.Round_ok v q B 3 W h (L_q.out.rat (by decide)) (by omega) (Or.inr (Or.inr rfl))
    obtain ⟨Z, hZ⟩ : ∃ Z, Z = signed (decide (q.num < 0)) (ref.nearN (q.num.natAbs * 10 ^ A) q.den 3) := ⟨_, rfl⟩
    have hZb : Bz Z 51 := by rw [hZ]; exact round_bz L_q.out (by omega)
    have hf := dec.int_form (k := A) (p := 50) hZb (by omega) (by omega)
    obtain ⟨q1, hq1⟩ : ∃ q1 : Rat, q1 = (Z : Rat) / ((10 ^ A : Nat) : Rat) := ⟨_, rfl⟩
    have L_q1 := Lib.hid (show Br q1 60 from dec.br_ten hq1 (by omega) (hZb.le (by decide)) (by decide))
    have GT := Lib.hid (fun W => DGet_yes _ _ _ _ q1 W (by rw [dec.signed_self]; exact hq1) hf)
    have hsz : (str (decText Z A)).size ≤ 60 := by rw [ref.str_size]; exact hf.1
    have hput : dec.putText q A 3 = decText Z A := by rw [hZ]; rfl
    have htw : dec.putText q1 B 3 = dec.putText q B 3 := dec.cut_twice (a := B) (b := A) (by omega) (by rw [← hZ]; exact hq1)
    have F2 := fun W v (h : rat.IsR W v q1) => dec.Round_ok v q1 B 3 W h (L_q1.out.rat (by decide)) (by omega) (Or.inr (Or.inr rfl))
    rw [hput] at F1
    rw [htw] at F2
    have F1 := Lib.hid F1
    have F2 := Lib.hid F2
    have F3 := Lib.hid F3
    clear hZ hZb hf hq1 hput htw
    generalize str (decText Z A) = sf at *
    generalize str (dec.putText q B 3) = sl at *
    go_wp2_with (first
      | (go_at_call 82; (with_reducible refine (F1.out _ _ (H_r.out.below HB3.out)).mono ?_); rintro e W4 ⟨rfl, hb⟩
         have HB4 := Lib.hid hb
         clear hb)
      | (go_at_call 78; (with_reducible refine (GT.out _).mono ?_); rintro e W5 ⟨b1, rfl, ⟨h_b1, n_b1⟩, hb⟩
         have H_b1 := Lib.hid h_b1
         have N_b1 := Lib.hid n_b1
         have HB5 := Lib.hid hb
         clear h_b1 n_b1 hb GT)
      | (go_at_call 82; (with_reducible refine (F2.out _ _ H_b1.out).mono ?_); rintro e W6 ⟨rfl, hb⟩
         have HB6 := Lib.hid hb
         clear hb)
      | (go_at_call 82; (with_reducible refine (F3.out _ _ ((((H_r.out.below HB3.out).below HB4.out).below HB5.out).below HB6.out)).mono ?_); rintro e W7 ⟨rfl, hb⟩
         have HB7 := Lib.hid hb
         clear hb)
      | (fail "no arm"))
    skip
    all_goals (go_ret; exact ⟨rfl, (nat.below_tr (nat.below_tr (nat.below_tr (nat.below_tr (nat.below_tr (nat.below_tr HB1.out HB2.out) HB3.out) HB4.out) HB5.out) HB6.out) HB7.out)⟩)
  · go_enter Tryz.func23, Tryz.ntmps23
    go_wp2_with (first
      | (go_at_call 25; (with_reducible refine (HBG.out _ HG.out).mono ?_); rintro e W1 ⟨rfl, hb⟩
         have HB1 := Lib.hid hb
         clear hb)
      | (go_at_call 81; (with_reducible refine (HR1.out _).mono ?_); rintro e W2 ⟨r, x, zr, dr, rfl, ⟨hz, hd, h0⟩, ⟨ha, hna, hx⟩, hb⟩
         obtain ⟨p_r, rfl⟩ := ha.some hna
         obtain ⟨s_x, t_x, rfl, h3, h4⟩ := id hx
         obtain ⟨o_x, c_x, rfl⟩ := IsX_slice h3
         obtain ⟨u_x, e_x, rfl⟩ := IsX_slice h4
         obtain ⟨q, hq⟩ : ∃ q, q = ((zr : Rat) / (dr : Rat)) := ⟨_, rfl⟩
         rw [← hq] at ha
         have H_r := Lib.hid ha
         have N_r := Lib.hid hna
         have H_x := Lib.hid hx
         have L_q := Lib.hid (Br_low h0 hq hz hd)
         have E_q := Lib.hid hq
         have LZ_r := Lib.hid hz
         have LD_r := Lib.hid hd
         have P_r := Lib.hid h0
         have HB2 := Lib.hid hb
         have HB3 := Lib.hid (show Below W2.heap.size W2 (W2.alloc (.cells #[.bool (decide (zr < 0)), .slice o_x (ref.digs (Int.natAbs zr)).length c_x, .slice u_x (ref.digs dr).length e_x] 86)) from (Below.refl _ _).alloc (Nat.le_refl _) _)
         clear ha hna hx hq hz hd h0 hb h3 h4 HR1)
      | (fail "no arm"))
    have F1 := fun W v (h : rat.IsR W v q) => dec.Round_ok v q B 3 W h (L_q.out.rat (by decide)) (by omega) (Or.inr (Or.inr rfl))
    have F3 := fun W v (h : rat.IsR W v q) => dec.Round_ok v q A 3 W h (L_q.out.rat (by decide)) (by omega) (Or.inr (Or.inr rfl))
    obtain ⟨Z, hZ⟩ : ∃ Z, Z = signed (decide (q.num < 0)) (ref.nearN (q.num.natAbs * 10 ^ B) q.den 3) := ⟨_, rfl⟩
    have hZb : Bz Z 51 := by rw [hZ]; exact round_bz L_q.out (by omega)
    have hf := dec.int_form (k := B) (p := 50) hZb (by omega) (by omega)
    obtain ⟨q1, hq1⟩ : ∃ q1 : Rat, q1 = (Z : Rat) / ((10 ^ B : Nat) : Rat) := ⟨_, rfl⟩
    have L_q1 := Lib.hid (show Br q1 60 from dec.br_ten hq1 (by omega) (hZb.le (by decide)) (by decide))
    have GT := Lib.hid (fun W => DGet_yes _ _ _ _ q1 W (by rw [dec.signed_self]; exact hq1) hf)
    have hsz : (str (decText Z B)).size ≤ 60 := by rw [ref.str_size]; exact hf.1
    have hput : dec.putText q B 3 = decText Z B := by rw [hZ]; rfl
    have htw : dec.putText q1 A 3 = dec.putText q A 3 := dec.cut_twice (a := A) (b := B) (by omega) (by rw [← hZ]; exact hq1)
    have F2 := fun W v (h : rat.IsR W v q1) => dec.Round_ok v q1 A 3 W h (L_q1.out.rat (by decide)) (by omega) (Or.inr (Or.inr rfl))
    rw [hput] at F1
    rw [htw] at F2
    have F1 := Lib.hid F1
    have F2 := Lib.hid F2
    have F3 := Lib.hid F3
    clear hZ hZb hf hq1 hput htw
    generalize str (decText Z B) = sf at *
    generalize str (dec.putText q A 3) = sl at *
    go_wp2_with (first
      | (go_at_call 82; (with_reducible refine (F1.out _ _ (H_r.out.below HB3.out)).mono ?_); rintro e W4 ⟨rfl, hb⟩
         have HB4 := Lib.hid hb
         clear hb)
      | (go_at_call 78; (with_reducible refine (GT.out _).mono ?_); rintro e W5 ⟨b1, rfl, ⟨h_b1, n_b1⟩, hb⟩
         have H_b1 := Lib.hid h_b1
         have N_b1 := Lib.hid n_b1
         have HB5 := Lib.hid hb
         clear h_b1 n_b1 hb GT)
      | (go_at_call 82; (with_reducible refine (F2.out _ _ H_b1.out).mono ?_); rintro e W6 ⟨rfl, hb⟩
         have HB6 := Lib.hid hb
         clear hb)
      | (go_at_call 82; (with_reducible refine (F3.out _ _ ((((H_r.out.below HB3.out).below HB4.out).below HB5.out).below HB6.out)).mono ?_); rintro e W7 ⟨rfl, hb⟩
         have HB7 := Lib.hid hb
         clear hb)
      | (fail "no arm"))
    skip
    all_goals (go_ret; exact ⟨rfl, (nat.below_tr (nat.below_tr (nat.below_tr (nat.below_tr (nat.below_tr (nat.below_tr HB1.out HB2.out) HB3.out) HB4.out) HB5.out) HB6.out) HB7.out)⟩)
end Go.Proofs.YtfpooimjjpamoaaGreatDoor.law2
