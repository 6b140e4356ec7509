/-
  RatText answers true for every text and two numbers. Conditions: begun answers true; texts of at most 2^62 bytes.
-/
import Derived.Test.YtfpooimjjpamoaaGreatDoorB15
namespace Go.Proofs.YtfpooimjjpamoaaGreatDoor.law2
open Go.RowKit Go.Proofs.YtfpooimjjpamoaaGreatDoor.nat
open Go.Proofs.YtfpooimjjpamoaaGreatDoor.ref (str)
set_option maxRecDepth 100000 in
set_option maxHeartbeats 4000000 in
theorem LwRatText (HBg : BegunC) (s : List UInt8) (hs : s.length ≤ 4611686018427387904) (n : Int) (n1 : -9223372036854775808 ≤ n) (n2 : n < 9223372036854775808) (d : Int) (d1 : -9223372036854775808 ≤ d) (d2 : d < 9223372036854775808) (w : World) (hd : Hd w) :
    Calls Tryz.prog 8 #[.string (str s), .int .i64 n, .int .i64 d] w fun e w' => e = .returned (.bool true) ∧ Below w.heap.size w w' := by
  unfold BegunC at HBg
  have HBG := Lib.hid HBg
  have HG := Lib.hid hd
  clear HBg hd
  have HT : Hid (∀ W, Calls Tryz.prog 43 #[.string (str s), .int .i64 60] W fun e w' => e = .returned (.string (str (s.take 60))) ∧ W = w') := Lib.hid (fun W => law2.Text_any s 60 W hs (by omega))
  obtain ⟨l, hl⟩ : ∃ l, s.take 60 = l := ⟨_, rfl⟩
  have hll : l.length ≤ 60 := by rw [← hl]; exact List.length_take_le _ _
  rw [hl] at HT
  generalize str s = zs at *
  clear hl hs
  have HN1 := Lib.hid n1
  have HN2 := Lib.hid n2
  have HD1 := Lib.hid d1
  have HD2 := Lib.hid d2
  rcases (show d = 0 ∨ d ≠ 0 by omega) with hd0 | hd0
  · subst hd0
    have OZ := Lib.hid (fun W => rat.Of_zero n W n1 n2)
    unfold errOf at OZ
    clear n1 n2 d1 d2
    by_cases h : ∃ q, rat.FracText l q
    · obtain ⟨q, hq⟩ := h
      have hlz : str l = str (rat.rtxt q) := by rw [← hq.form.2.2]
      have L_q := Lib.hid (fracText_lt hq hll (by decide))
      have G1 := Lib.hid (fun W => rat.Get_ok l q W hq)
      have G2 := Lib.hid (fun W => GetQ_yes l q W (by omega) hq)
      rw [hlz] at G1 G2 HT
      clear hq hlz hll
      have c1 := fun (W : World) (v0 : Value) (hh0 : rat.IsR W v0 q)  => rat.Text_any v0 q W hh0 (L_q.out.rat (by decide))
      have C1 := Lib.hid c1
      clear c1
      generalize str (rat.rtxt q) = sq at *
      go_enter Tryz.func8, Tryz.ntmps8
      go_wp2_with (first
        | (go_at_call 25; (with_reducible refine (HBG.out _ HG.out).mono ?_); rintro e W1 ⟨rfl, hb⟩
           have HB1 := Lib.hid hb
           clear hb)
        | (go_at_call 43; (with_reducible refine (HT.out _).mono ?_); rintro e w9 ⟨rfl, rfl⟩
           clear HT)
        | (go_at_call 71; (with_reducible refine (G1.out _).mono ?_); rintro e W2 ⟨a, rfl, ⟨h_a, n_a⟩, hb⟩
           have H_a := Lib.hid h_a
           have N_a := Lib.hid n_a
           have HB2 := Lib.hid hb
           clear h_a n_a hb G1)
        | (go_at_call 72; (with_reducible refine (G2.out _).mono ?_); rintro e W3 ⟨gp, go1, gn1, gc1, go2, gn2, gc2, rfl, hb⟩
           have HB3 := Lib.hid hb
           have HB4 := Lib.hid (show Below W3.heap.size W3 (W3.alloc (.cells #[.bool gp, .slice go1 gn1 gc1, .slice go2 gn2 gc2] 86)) from (Below.refl _ _).alloc (Nat.le_refl _) _)
           clear hb G2)
        | (go_at_call 73; (with_reducible refine (C1.out _ _ ((H_a.out.below HB3.out).below HB4.out)).mono ?_); rintro e W5 ⟨rfl, hb⟩
           have HB5 := Lib.hid hb
           clear hb C1)
        | (go_at_call 74; (with_reducible refine (OZ.out _).mono ?_); rintro e W6 ⟨rfl, hb⟩
           have HB6 := Lib.hid hb
           clear hb OZ)
        | (go_at_call 29; (with_reducible refine (Same_any 3 _ ((((((HG.out.below HB1.out).below HB2.out).below HB3.out).below HB4.out).below HB5.out).below HB6.out)).mono ?_); rintro e W7 ⟨rfl, hb⟩
           have HB7 := Lib.hid hb
           clear hb)
        | (fail "no arm"))
      skip
      all_goals (go_ret; exact ⟨rfl, (nat.below_tr (nat.below_tr (nat.below_tr (nat.below_tr (nat.below_tr (nat.below_tr HB1.out HB2.out) HB3.out) HB4.out) HB5.out) HB6.out) HB7.out)⟩)
    · have G1 := Lib.hid (fun W => rat.Get_bad l W (by omega) (fun q hq => h ⟨q, hq⟩))
      have G2 := Lib.hid (fun W => GetQ_no l W (by omega) (fun q hq => h ⟨q, hq⟩))
      generalize str l = sl at *
      clear h hll
      go_enter Tryz.func8, Tryz.ntmps8
      go_wp2_with (first
        | (go_at_call 25; (with_reducible refine (HBG.out _ HG.out).mono ?_); rintro e W1 ⟨rfl, hb⟩
           have HB1 := Lib.hid hb
           clear hb)
        | (go_at_call 43; (with_reducible refine (HT.out _).mono ?_); rintro e w9 ⟨rfl, rfl⟩
           clear HT)
        | (go_at_call 71; (with_reducible refine (G1.out _).mono ?_); rintro e W2 ⟨rfl, hb⟩
           have HB2 := Lib.hid hb
           clear hb G1)
        | (go_at_call 72; (with_reducible refine (G2.out _).mono ?_); rintro e W3 ⟨rfl, hb⟩
           have HB3 := Lib.hid hb
           have HB4 := Lib.hid (show Below W3.heap.size W3 (W3.alloc (.cells #[.bool false, .slice none 0 0, .slice none 0 0] 86)) from (Below.refl _ _).alloc (Nat.le_refl _) _)
           clear hb G2)
        | (go_at_call 29; (with_reducible refine (Same_any 1 _ ((((HG.out.below HB1.out).below HB2.out).below HB3.out).below HB4.out)).mono ?_); rintro e W5 ⟨rfl, hb⟩
           have HB5 := Lib.hid hb
           clear hb)
        | (go_at_call 74; (with_reducible refine (OZ.out _).mono ?_); rintro e W6 ⟨rfl, hb⟩
           have HB6 := Lib.hid hb
           clear hb OZ)
        | (go_at_call 29; (with_reducible refine (Same_any 3 _ ((((((HG.out.below HB1.out).below HB2.out).below HB3.out).below HB4.out).below HB5.out).below HB6.out)).mono ?_); rintro e W7 ⟨rfl, hb⟩
           have HB7 := Lib.hid hb
           clear hb)
        | (fail "no arm"))
      skip
      all_goals (go_ret; exact ⟨rfl, (nat.below_tr (nat.below_tr (nat.below_tr (nat.below_tr (nat.below_tr (nat.below_tr HB1.out HB2.out) HB3.out) HB4.out) HB5.out) HB6.out) HB7.out)⟩)
  · have HD0 := Lib.hid hd0
    have OK := fun W => rat.Of_ok n d W n1 n2 d1 d2 hd0
    have FV := frac_val n hd0
    have FA := Lib.hid (fun W => ref.Frac_any n d n1 (by omega) d1 (by omega) W)
    obtain ⟨qi, hqi⟩ : ∃ q, q = (n : Rat) / (d : Rat) := ⟨_, rfl⟩
    have L_qi := Lib.hid (show Br qi 20 from Br_lowz hd0 hqi (Bz_small n1 (by omega)) (Bz_small d1 (by omega)))
    rw [← hqi] at OK FV
    have OK := Lib.hid OK
    have QT := fun W v (hv : ref.IsQ W v (ref.signed (decide (n < 0) != decide (d < 0)) n.natAbs) d.natAbs) => ref.QText_any v _ _ W hv ((show Bz (ref.signed (decide (n < 0) != decide (d < 0)) n.natAbs) 20 from by unfold Bz ref.signed; split <;> omega).ref (by decide)) ((show Bn d.natAbs 20 from Bz_small d1 (by omega)).ref (by decide)) (by omega)
    rw [rat.ratText_rtxt (show 0 < d.natAbs by omega), FV] at QT
    have QT := Lib.hid QT
    have RG := Lib.hid (fun W => rat.Get_ok (rat.rtxt qi) qi W (rtxt_frac (p := 19) L_qi.out (by decide)))
    clear hqi FV n1 n2 d1 d2
    by_cases h : ∃ q, rat.FracText l q
    · obtain ⟨q, hq⟩ := h
      have hlz : str l = str (rat.rtxt q) := by rw [← hq.form.2.2]
      have L_q := Lib.hid (fracText_lt hq hll (by decide))
      have G1 := Lib.hid (fun W => rat.Get_ok l q W hq)
      have G2 := Lib.hid (fun W => GetQ_yes l q W (by omega) hq)
      rw [hlz] at G1 G2 HT
      clear hq hlz hll
      have hdz : (d == 0) = false := by have := HD0.out; simp; omega
      have c1 := fun (W : World) (v0 : Value) (hh0 : rat.IsR W v0 q)  => rat.Text_any v0 q W hh0 (L_q.out.rat (by decide))
      have C1 := Lib.hid c1
      clear c1
      have c2 := fun (W : World) (v0 : Value) (hh0 : rat.IsR W v0 qi)  => rat.Text_any v0 qi W hh0 (L_qi.out.rat (by decide))
      have C2 := Lib.hid c2
      clear c2
      have c3 := fun (W : World) (v0 : Value) (hh0 : rat.IsR W v0 qi)  => rat.Text_any v0 qi W hh0 (L_qi.out.rat (by decide))
      have C3 := Lib.hid c3
      clear c3
      have c4 := fun (W : World) (v0 : Value) (v1 : Value) (hh0 : rat.IsR W v0 qi) (hh1 : rat.IsR W v1 qi)  => rat.Cmp_any v0 v1 qi qi W hh0 hh1 (L_qi.out.rat (by decide)) (L_qi.out.rat (by decide))
      rw [cmpR_eq (show qi = qi from rfl)] at c4
      have C4 := Lib.hid c4
      clear c4
      generalize str (rat.rtxt q) = sq at *
      generalize str (rat.rtxt qi) = sqi at *
      go_enter Tryz.func8, Tryz.ntmps8
      go_wp2_with (first
        | (go_at_call 25; (with_reducible refine (HBG.out _ HG.out).mono ?_); rintro e W1 ⟨rfl, hb⟩
           have HB1 := Lib.hid hb
           clear hb)
        | (go_at_call 43; (with_reducible refine (HT.out _).mono ?_); rintro e w9 ⟨rfl, rfl⟩
           clear HT)
        | (go_at_call 71; (with_reducible refine (G1.out _).mono ?_); rintro e W2 ⟨a, rfl, ⟨h_a, n_a⟩, hb⟩
           have H_a := Lib.hid h_a
           have N_a := Lib.hid n_a
           have HB2 := Lib.hid hb
           clear h_a n_a hb G1)
        | (go_at_call 72; (with_reducible refine (G2.out _).mono ?_); rintro e W3 ⟨gp, go1, gn1, gc1, go2, gn2, gc2, rfl, hb⟩
           have HB3 := Lib.hid hb
           have HB4 := Lib.hid (show Below W3.heap.size W3 (W3.alloc (.cells #[.bool gp, .slice go1 gn1 gc1, .slice go2 gn2 gc2] 86)) from (Below.refl _ _).alloc (Nat.le_refl _) _)
           clear hb G2)
        | (go_at_call 73; (with_reducible refine (C1.out _ _ ((H_a.out.below HB3.out).below HB4.out)).mono ?_); rintro e W5 ⟨rfl, hb⟩
           have HB5 := Lib.hid hb
           clear hb C1)
        | (go_at_call 74; (with_reducible refine (OK.out _).mono ?_); rintro e W6 ⟨b, rfl, ⟨h_b, n_b⟩, hb⟩
           have H_b := Lib.hid h_b
           have N_b := Lib.hid n_b
           have HB6 := Lib.hid hb
           clear h_b n_b hb OK)
        | (go_at_call 73; (with_reducible refine (C2.out _ _ H_b.out).mono ?_); rintro e W7 ⟨rfl, hb⟩
           have HB7 := Lib.hid hb
           clear hb C2)
        | (go_at_call 71; (with_reducible refine (RG.out _).mono ?_); rintro e W8 ⟨cc, rfl, ⟨h_c, n_c⟩, hb⟩
           have H_cc := Lib.hid h_c
           have N_cc := Lib.hid n_c
           have HB8 := Lib.hid hb
           clear h_c n_c hb RG)
        | (go_at_call 73; (with_reducible refine (C3.out _ _ ((H_b.out.below HB7.out).below HB8.out)).mono ?_); rintro e W9 ⟨rfl, hb⟩
           have HB9 := Lib.hid hb
           clear hb C3)
        | (go_at_call 75; (with_reducible refine (FA.out _).mono ?_); rintro e W10 ⟨y, rfl, h_y, hb⟩
           obtain ⟨ys, yt, rfl, -⟩ := id h_y
           have H_y := Lib.hid h_y
           have HB10 := Lib.hid hb
           clear h_y hb FA)
        | (go_at_call 76; (with_reducible refine (QT.out _ _ H_y.out).mono ?_); rintro e W11 ⟨rfl, hb⟩
           have HB11 := Lib.hid hb
           clear hb QT)
        | (go_at_call 77; (with_reducible refine (C4.out _ _ _ (((H_cc.out.below HB9.out).below HB10.out).below HB11.out) (((((H_b.out.below HB7.out).below HB8.out).below HB9.out).below HB10.out).below HB11.out)).mono ?_); rintro e W12 ⟨rfl, hb⟩
           have HB12 := Lib.hid hb
           clear hb C4)
        | (fail "no arm"))
      skip
      all_goals (go_ret; exact ⟨rfl, (nat.below_tr (nat.below_tr (nat.below_tr (nat.below_tr (nat.below_tr (nat.below_tr (nat.below_tr (nat.below_tr (nat.below_tr (nat.below_tr (nat.below_tr HB1.out HB2.out) HB3.out) HB4.out) HB5.out) HB6.out) HB7.out) HB8.out) HB9.out) HB10.out) HB11.out) HB12.out)⟩)
    · have G1 := Lib.hid (fun W => rat.Get_bad l W (by omega) (fun q hq => h ⟨q, hq⟩))
      have G2 := Lib.hid (fun W => GetQ_no l W (by omega) (fun q hq => h ⟨q, hq⟩))
      generalize str l = sl at *
      clear h hll
      have hdz : (d == 0) = false := by have := HD0.out; simp; omega
      have c1 := fun (W : World) (v0 : Value) (hh0 : rat.IsR W v0 qi)  => rat.Text_any v0 qi W hh0 (L_qi.out.rat (by decide))
      have C1 := Lib.hid c1
      clear c1
      have c2 := fun (W : World) (v0 : Value) (hh0 : rat.IsR W v0 qi)  => rat.Text_any v0 qi W hh0 (L_qi.out.rat (by decide))
      have C2 := Lib.hid c2
      clear c2
      have c3 := fun (W : World) (v0 : Value) (v1 : Value) (hh0 : rat.IsR W v0 qi) (hh1 : rat.IsR W v1 qi)  => rat.Cmp_any v0 v1 qi qi W hh0 hh1 (L_qi.out.rat (by decide)) (L_qi.out.rat (by decide))
      rw [cmpR_eq (show qi = qi from rfl)] at c3
      have C3 := Lib.hid c3
      clear c3
      generalize str (rat.rtxt qi) = sqi at *
      go_enter Tryz.func8, Tryz.ntmps8
      go_wp2_with (first
        | (go_at_call 25; (with_reducible refine (HBG.out _ HG.out).mono ?_); rintro e W1 ⟨rfl, hb⟩
           have HB1 := Lib.hid hb
           clear hb)
        | (go_at_call 43; (with_reducible refine (HT.out _).mono ?_); rintro e w9 ⟨rfl, rfl⟩
           clear HT)
        | (go_at_call 71; (with_reducible refine (G1.out _).mono ?_); rintro e W2 ⟨rfl, hb⟩
           have HB2 := Lib.hid hb
           clear hb G1)
        | (go_at_call 72; (with_reducible refine (G2.out _).mono ?_); rintro e W3 ⟨rfl, hb⟩
           have HB3 := Lib.hid hb
           have HB4 := Lib.hid (show Below W3.heap.size W3 (W3.alloc (.cells #[.bool false, .slice none 0 0, .slice none 0 0] 86)) from (Below.refl _ _).alloc (Nat.le_refl _) _)
           clear hb G2)
        | (go_at_call 29; (with_reducible refine (Same_any 1 _ ((((HG.out.below HB1.out).below HB2.out).below HB3.out).below HB4.out)).mono ?_); rintro e W5 ⟨rfl, hb⟩
           have HB5 := Lib.hid hb
           clear hb)
        | (go_at_call 74; (with_reducible refine (OK.out _).mono ?_); rintro e W6 ⟨b, rfl, ⟨h_b, n_b⟩, hb⟩
           have H_b := Lib.hid h_b
           have N_b := Lib.hid n_b
           have HB6 := Lib.hid hb
           clear h_b n_b hb OK)
        | (go_at_call 73; (with_reducible refine (C1.out _ _ H_b.out).mono ?_); rintro e W7 ⟨rfl, hb⟩
           have HB7 := Lib.hid hb
           clear hb C1)
        | (go_at_call 71; (with_reducible refine (RG.out _).mono ?_); rintro e W8 ⟨cc, rfl, ⟨h_c, n_c⟩, hb⟩
           have H_cc := Lib.hid h_c
           have N_cc := Lib.hid n_c
           have HB8 := Lib.hid hb
           clear h_c n_c hb RG)
        | (go_at_call 73; (with_reducible refine (C2.out _ _ ((H_b.out.below HB7.out).below HB8.out)).mono ?_); rintro e W9 ⟨rfl, hb⟩
           have HB9 := Lib.hid hb
           clear hb C2)
        | (go_at_call 75; (with_reducible refine (FA.out _).mono ?_); rintro e W10 ⟨y, rfl, h_y, hb⟩
           obtain ⟨ys, yt, rfl, -⟩ := id h_y
           have H_y := Lib.hid h_y
           have HB10 := Lib.hid hb
           clear h_y hb FA)
        | (go_at_call 76; (with_reducible refine (QT.out _ _ H_y.out).mono ?_); rintro e W11 ⟨rfl, hb⟩
           have HB11 := Lib.hid hb
           clear hb QT)
        | (go_at_call 77; (with_reducible refine (C3.out _ _ _ (((H_cc.out.below HB9.out).below HB10.out).below HB11.out) (((((H_b.out.below HB7.out).below HB8.out).below HB9.out).below HB10.out).below HB11.out)).mono ?_); rintro e W12 ⟨rfl, hb⟩
           have HB12 := Lib.hid hb
           clear hb C3)
        | (fail "no arm"))
      skip
      all_goals (go_ret; exact ⟨rfl, (nat.below_tr (nat.below_tr (nat.below_tr (nat.below_tr (nat.below_tr (nat.below_tr (nat.below_tr (nat.below_tr (nat.below_tr (nat.below_tr (nat.below_tr HB1.out HB2.out) HB3.out) HB4.out) HB5.out) HB6.out) HB7.out) HB8.out) HB9.out) HB10.out) HB11.out) HB12.out)⟩)
end Go.Proofs.YtfpooimjjpamoaaGreatDoor.law2
