/-
  NatText answers true for every text and number. Conditions: begun answers true; texts of at most 2^62 bytes.
-/
import Derived.Test.YtfpooimjjpamoaaGreatDoorA38
namespace Go.Proofs.YtfpooimjjpamoaaGreatDoor.law2
open Go.RowKit Go.Proofs.YtfpooimjjpamoaaGreatDoor.nat
open Go.Proofs.YtfpooimjjpamoaaGreatDoor.ref (str)
set_option maxRecDepth 100000 in
set_option maxHeartbeats 4000000 in
theorem LwNatText (HBg : BegunC) (s : List UInt8) (hs : s.length ≤ 4611686018427387904) (n : Nat) (hn : n < 18446744073709551616) (w : World) (hd : Hd w) :
    Calls Tryz.prog 5 #[.string (str s), .int .u64 (n : Int)] w fun e w' => e = .returned (.bool true) ∧ Below w.heap.size w w' := by
  unfold BegunC at HBg
  have HBG := Lib.hid HBg
  have HG := Lib.hid hd
  clear HBg hd
  have HT : Hid (∀ W, Calls Tryz.prog 43 #[.string (str s), .int .i64 100] W fun e w' => e = .returned (.string (str (s.take 100))) ∧ W = w') := Lib.hid (fun W => law2.Text_any s 100 W hs (by omega))
  obtain ⟨l, hl⟩ : ∃ l, s.take 100 = l := ⟨_, rfl⟩
  have hll : l.length ≤ 100 := by rw [← hl]; exact List.length_take_le _ _
  rw [hl] at HT
  generalize str s = zs at *
  clear hl hs
  have L_n := Lib.hid (show Bn n 20 from Bn_small hn)
  have NO := Lib.hid (fun W => nat.Of_any n W hn)
  have NS := fun W v hv => nat.Small_any v n W hv
  rw [if_pos hn, decide_eq_true hn] at NS
  have NS := Lib.hid NS
  have hdn := ref.dec_numeral (x := n) (p := 20) (Nat.lt_of_lt_of_le hn (by decide)) (by decide)
  have NG := fun W => nat.Get_ok (Lib.decDigits n) W hdn.1
  rw [hdn.2.1] at NG
  have NG := Lib.hid NG
  have RO := Lib.hid (fun W => ref.OfU_any n (by omega) W)
  clear hdn
  rcases Nat.eq_zero_or_pos n with hn0 | hn0
  · have NB := fun W v hv => nat.Small_any v (n + 18446744073709551615) W hv
    rw [decide_eq_true (by omega)] at NB
    have NB := Lib.hid NB
    have hnz : ((n : Int) == 0) = true := by simp; omega
    obtain ⟨ni, hni⟩ : ∃ ni : Int, ni = (n : Int) := ⟨_, rfl⟩
    rw [← hni] at NO NS RO hnz ⊢
    have HNI := Lib.hid hni
    clear hn0 hn hni
    by_cases h : ref.Numeral l
    · have hlt : ref.seg l 0 l.length < 10 ^ 100 := Nat.lt_of_lt_of_le (ref.seg_lt (l := l) (st := 0) (m := l.length) fun i _ hi => h.2.2.2 i (by omega)) (Nat.pow_le_pow_right (by omega) hll)
      have G1 := fun W => nat.Get_ok l W h
      have G2 := fun W => ref.GetN_yes l W h
      have hd := h.dec
      generalize ref.seg l 0 l.length = X at *
      have L_X := Lib.hid (show Bn X 100 from hlt)
      have hlz : str l = str (Lib.decDigits X) := by rw [hd]
      rw [hlz] at HT
      have G1 : Hid (∀ W, Calls Tryz.prog 44 #[.string (str (Lib.decDigits X))] W fun e w' => ∃ v, e = .returned (.tuple #[v, .nilIface]) ∧ (nat.IsN w' v X ∧ v ≠ .pointer none) ∧ Below W.heap.size W w') := Lib.hid (by rw [← hlz]; exact G1)
      have G2 : Hid (∀ W, Calls Tryz.prog 45 #[.string (str (Lib.decDigits X))] W fun e w' => ∃ sv, e = .returned (.tuple #[sv, .bool true]) ∧ ref.IsN w' sv X ∧ Below W.heap.size W w') := Lib.hid (by rw [← hlz]; exact G2)
      clear hlt h hd hlz hll
      have c1 := fun (W : World) (v0 : Value) (hh0 : nat.IsN W v0 X)  => nat.Text_any v0 X W hh0 (L_X.out.nat (by decide))
      have C1 := Lib.hid c1
      clear c1
      have c2 := fun (W : World) (v0 : Value) (hh0 : ref.IsN W v0 X)  => ref.Text_any v0 X W hh0 (L_X.out.ref (by decide))
      have C2 := Lib.hid c2
      clear c2
      have c3 := fun (W : World)    => nat.Of_int 18446744073709551615 18446744073709551615 rfl (by decide) W
      have C3 := Lib.hid c3
      clear c3
      have c4 := fun (W : World) (v0 : Value) (v1 : Value) (hh0 : nat.IsN W v0 n) (hh1 : nat.IsN W v1 (18446744073709551615 : Nat))  => nat.Add_any v0 v1 n (18446744073709551615 : Nat) W hh0 hh1 (L_n.out.nat (by decide)) ((Bn_small (by decide)).nat (by decide))
      have C4 := Lib.hid c4
      clear c4
      have c5 := fun (W : World) (v0 : Value) (hh0 : nat.IsN W v0 n)  => nat.Text_any v0 n W hh0 (L_n.out.nat (by decide))
      have C5 := Lib.hid c5
      clear c5
      have c6 := fun (W : World) (v0 : Value) (v1 : Value) (hh0 : nat.IsN W v0 n) (hh1 : nat.IsN W v1 n)  => nat.Cmp_b v0 v1 n n W hh0 hh1 (L_n.out.nat (by decide)) (L_n.out.nat (by decide))
      rw [cmp3_eqN (show n = n from rfl)] at c6
      have C6 := Lib.hid c6
      clear c6
      have c7 := fun (W : World) (v0 : Value) (hh0 : nat.IsN W v0 n)  => nat.Text_any v0 n W hh0 (L_n.out.nat (by decide))
      have C7 := Lib.hid c7
      clear c7
      have c8 := fun (W : World) (v0 : Value) (hh0 : ref.IsN W v0 n)  => ref.Text_any v0 n W hh0 (L_n.out.ref (by decide))
      have C8 := Lib.hid c8
      clear c8
      generalize str (Lib.decDigits n) = sn at *
      generalize str (Lib.decDigits X) = sX at *
      go_enter Tryz.func5, Tryz.ntmps5
      go_wp2_with (first
        | (go_at_call 25; (with_reducible refine (HBG.out _ HG.out).mono ?_); rintro e W1 ⟨rfl, hb⟩
           have HB1 := Lib.hid hb
           clear hb)
        | (go_at_call 43; (with_reducible refine (HT.out _).mono ?_); rintro e w9 ⟨rfl, rfl⟩
           clear HT)
        | (go_at_call 44; (with_reducible refine (G1.out _).mono ?_); rintro e W2 ⟨a, rfl, ⟨h_a, n_a⟩, hb⟩
           have H_a := Lib.hid h_a
           have N_a := Lib.hid n_a
           have HB2 := Lib.hid hb
           clear h_a n_a hb G1)
        | (go_at_call 45; (with_reducible refine (G2.out _).mono ?_); rintro e W3 ⟨x, rfl, h_x, hb⟩
           obtain ⟨o_x, c_x, rfl⟩ := IsX_slice h_x
           have H_x := Lib.hid h_x
           have HB3 := Lib.hid hb
           clear h_x hb G2)
        | (go_at_call 30; (with_reducible refine (C1.out _ _ (H_a.out.below HB3.out)).mono ?_); rintro e W4 ⟨rfl, hb⟩
           have HB4 := Lib.hid hb
           clear hb C1)
        | (go_at_call 32; (with_reducible refine (C2.out _ _ (H_x.out.below HB4.out)).mono ?_); rintro e W5 ⟨rfl, hb⟩
           have HB5 := Lib.hid hb
           clear hb C2)
        | (go_at_call 46; (with_reducible refine (NO.out _).mono ?_); rintro e W6 ⟨b, rfl, ⟨h_b, n_b⟩, hb⟩
           have H_b := Lib.hid h_b
           have N_b := Lib.hid n_b
           have HB6 := Lib.hid hb
           clear h_b n_b hb NO)
        | (go_at_call 47; (with_reducible refine (NS.out _ _ H_b.out).mono ?_); rintro e w9 ⟨rfl, rfl⟩
           clear NS)
        | (go_at_call 46; (with_reducible refine (C3.out _ ).mono ?_); rintro e W7 ⟨m, rfl, ⟨h_m, n_m⟩, hb⟩
           have H_m := Lib.hid h_m
           have N_m := Lib.hid n_m
           have HB7 := Lib.hid hb
           clear h_m n_m hb C3)
        | (go_at_call 35; (with_reducible refine (C4.out _ _ _ (H_b.out.below HB7.out) H_m.out).mono ?_); rintro e W8 ⟨bm, rfl, ⟨h_bm, n_bm⟩, hb⟩
           have H_bm := Lib.hid h_bm
           have N_bm := Lib.hid n_bm
           have HB8 := Lib.hid hb
           clear h_bm n_bm hb C4)
        | (go_at_call 47; (with_reducible refine (NB.out _ _ H_bm.out).mono ?_); rintro e w9 ⟨rfl, rfl⟩
           clear NB)
        | (go_at_call 30; (with_reducible refine (C5.out _ _ ((H_b.out.below HB7.out).below HB8.out)).mono ?_); rintro e W9 ⟨rfl, hb⟩
           have HB9 := Lib.hid hb
           clear hb C5)
        | (go_at_call 44; (with_reducible refine (NG.out _).mono ?_); rintro e W10 ⟨cc, rfl, ⟨h_c, n_c⟩, hb⟩
           have H_cc := Lib.hid h_c
           have N_cc := Lib.hid n_c
           have HB10 := Lib.hid hb
           clear h_c n_c hb NG)
        | (go_at_call 39; (with_reducible refine (C6.out _ _ _ H_cc.out ((((H_b.out.below HB7.out).below HB8.out).below HB9.out).below HB10.out)).mono ?_); rintro e W11 ⟨rfl, hb⟩
           have HB11 := Lib.hid hb
           clear hb C6)
        | (go_at_call 30; (with_reducible refine (C7.out _ _ (((((H_b.out.below HB7.out).below HB8.out).below HB9.out).below HB10.out).below HB11.out)).mono ?_); rintro e W12 ⟨rfl, hb⟩
           have HB12 := Lib.hid hb
           clear hb C7)
        | (go_at_call 48; (with_reducible refine (RO.out _).mono ?_); rintro e W13 ⟨y, rfl, h_y, hb⟩
           have H_y := Lib.hid h_y
           have HB13 := Lib.hid hb
           clear h_y hb RO)
        | (go_at_call 32; (with_reducible refine (C8.out _ _ H_y.out).mono ?_); rintro e W14 ⟨rfl, hb⟩
           have HB14 := Lib.hid hb
           clear hb C8)
        | (fail "no arm"))
      skip
      all_goals (go_ret; exact ⟨rfl, (nat.below_tr (nat.below_tr (nat.below_tr (nat.below_tr (nat.below_tr (nat.below_tr (nat.below_tr (nat.below_tr (nat.below_tr (nat.below_tr (nat.below_tr (nat.below_tr (nat.below_tr HB1.out HB2.out) HB3.out) HB4.out) HB5.out) HB6.out) HB7.out) HB8.out) HB9.out) HB10.out) HB11.out) HB12.out) HB13.out) HB14.out)⟩)
    · have G1 := Lib.hid (fun W => nat.Get_none l W h (by omega))
      have G2 := Lib.hid (fun W => ref.GetN_no l W (by omega) h)
      unfold errOf at G1
      generalize str l = sl at *
      clear h hll
      have c1 := fun (W : World)    => nat.Of_int 18446744073709551615 18446744073709551615 rfl (by decide) W
      have C1 := Lib.hid c1
      clear c1
      have c2 := fun (W : World) (v0 : Value) (v1 : Value) (hh0 : nat.IsN W v0 n) (hh1 : nat.IsN W v1 (18446744073709551615 : Nat))  => nat.Add_any v0 v1 n (18446744073709551615 : Nat) W hh0 hh1 (L_n.out.nat (by decide)) ((Bn_small (by decide)).nat (by decide))
      have C2 := Lib.hid c2
      clear c2
      have c3 := fun (W : World) (v0 : Value) (hh0 : nat.IsN W v0 n)  => nat.Text_any v0 n W hh0 (L_n.out.nat (by decide))
      have C3 := Lib.hid c3
      clear c3
      have c4 := fun (W : World) (v0 : Value) (v1 : Value) (hh0 : nat.IsN W v0 n) (hh1 : nat.IsN W v1 n)  => nat.Cmp_b v0 v1 n n W hh0 hh1 (L_n.out.nat (by decide)) (L_n.out.nat (by decide))
      rw [cmp3_eqN (show n = n from rfl)] at c4
      have C4 := Lib.hid c4
      clear c4
      have c5 := fun (W : World) (v0 : Value) (hh0 : nat.IsN W v0 n)  => nat.Text_any v0 n W hh0 (L_n.out.nat (by decide))
      have C5 := Lib.hid c5
      clear c5
      have c6 := fun (W : World) (v0 : Value) (hh0 : ref.IsN W v0 n)  => ref.Text_any v0 n W hh0 (L_n.out.ref (by decide))
      have C6 := Lib.hid c6
      clear c6
      generalize str (Lib.decDigits n) = sn at *
      go_enter Tryz.func5, Tryz.ntmps5
      go_wp2_with (first
        | (go_at_call 25; (with_reducible refine (HBG.out _ HG.out).mono ?_); rintro e W1 ⟨rfl, hb⟩
           have HB1 := Lib.hid hb
           clear hb)
        | (go_at_call 43; (with_reducible refine (HT.out _).mono ?_); rintro e w9 ⟨rfl, rfl⟩
           clear HT)
        | (go_at_call 44; (with_reducible refine (G1.out _).mono ?_); rintro e w9 ⟨rfl, rfl⟩
           clear G1)
        | (go_at_call 45; (with_reducible refine (G2.out _).mono ?_); rintro e W2 ⟨rfl, hb⟩
           have HB2 := Lib.hid hb
           clear hb G2)
        | (go_at_call 29; (with_reducible refine (Same_any 1 _ ((HG.out.below HB1.out).below HB2.out)).mono ?_); rintro e W3 ⟨rfl, hb⟩
           have HB3 := Lib.hid hb
           clear hb)
        | (go_at_call 46; (with_reducible refine (NO.out _).mono ?_); rintro e W4 ⟨b, rfl, ⟨h_b, n_b⟩, hb⟩
           have H_b := Lib.hid h_b
           have N_b := Lib.hid n_b
           have HB4 := Lib.hid hb
           clear h_b n_b hb NO)
        | (go_at_call 47; (with_reducible refine (NS.out _ _ H_b.out).mono ?_); rintro e w9 ⟨rfl, rfl⟩
           clear NS)
        | (go_at_call 46; (with_reducible refine (C1.out _ ).mono ?_); rintro e W5 ⟨m, rfl, ⟨h_m, n_m⟩, hb⟩
           have H_m := Lib.hid h_m
           have N_m := Lib.hid n_m
           have HB5 := Lib.hid hb
           clear h_m n_m hb C1)
        | (go_at_call 35; (with_reducible refine (C2.out _ _ _ (H_b.out.below HB5.out) H_m.out).mono ?_); rintro e W6 ⟨bm, rfl, ⟨h_bm, n_bm⟩, hb⟩
           have H_bm := Lib.hid h_bm
           have N_bm := Lib.hid n_bm
           have HB6 := Lib.hid hb
           clear h_bm n_bm hb C2)
        | (go_at_call 47; (with_reducible refine (NB.out _ _ H_bm.out).mono ?_); rintro e w9 ⟨rfl, rfl⟩
           clear NB)
        | (go_at_call 30; (with_reducible refine (C3.out _ _ ((H_b.out.below HB5.out).below HB6.out)).mono ?_); rintro e W7 ⟨rfl, hb⟩
           have HB7 := Lib.hid hb
           clear hb C3)
        | (go_at_call 44; (with_reducible refine (NG.out _).mono ?_); rintro e W8 ⟨cc, rfl, ⟨h_c, n_c⟩, hb⟩
           have H_cc := Lib.hid h_c
           have N_cc := Lib.hid n_c
           have HB8 := Lib.hid hb
           clear h_c n_c hb NG)
        | (go_at_call 39; (with_reducible refine (C4.out _ _ _ H_cc.out ((((H_b.out.below HB5.out).below HB6.out).below HB7.out).below HB8.out)).mono ?_); rintro e W9 ⟨rfl, hb⟩
           have HB9 := Lib.hid hb
           clear hb C4)
        | (go_at_call 30; (with_reducible refine (C5.out _ _ (((((H_b.out.below HB5.out).below HB6.out).below HB7.out).below HB8.out).below HB9.out)).mono ?_); rintro e W10 ⟨rfl, hb⟩
           have HB10 := Lib.hid hb
           clear hb C5)
        | (go_at_call 48; (with_reducible refine (RO.out _).mono ?_); rintro e W11 ⟨y, rfl, h_y, hb⟩
           have H_y := Lib.hid h_y
           have HB11 := Lib.hid hb
           clear h_y hb RO)
        | (go_at_call 32; (with_reducible refine (C6.out _ _ H_y.out).mono ?_); rintro e W12 ⟨rfl, hb⟩
           have HB12 := Lib.hid hb
           clear hb C6)
        | (fail "no arm"))
      skip
      all_goals (go_ret; exact ⟨rfl, (nat.below_tr (nat.below_tr (nat.below_tr (nat.below_tr (nat.below_tr (nat.below_tr (nat.below_tr (nat.below_tr (nat.below_tr (nat.below_tr (nat.below_tr HB1.out HB2.out) HB3.out) HB4.out) HB5.out) HB6.out) HB7.out) HB8.out) HB9.out) HB10.out) HB11.out) HB12.out)⟩)
  · have NB := fun W v hv => nat.Small_any v (n + 18446744073709551615) W hv
    rw [decide_eq_false (by omega)] at NB
    have NB := Lib.hid NB
    have hnz : ((n : Int) == 0) = false := by simp; omega
    obtain ⟨ni, hni⟩ : ∃ ni : Int, ni = (n : Int) := ⟨_, rfl⟩
    rw [← hni] at NO NS RO hnz ⊢
    have HNI := Lib.hid hni
    clear hn0 hn hni
    by_cases h : ref.Numeral l
    · have hlt : ref.seg l 0 l.length < 10 ^ 100 := Nat.lt_of_lt_of_le (ref.seg_lt (l := l) (st := 0) (m := l.length) fun i _ hi => h.2.2.2 i (by omega)) (Nat.pow_le_pow_right (by omega) hll)
      have G1 := fun W => nat.Get_ok l W h
      have G2 := fun W => ref.GetN_yes l W h
      have hd := h.dec
      generalize ref.seg l 0 l.length = X at *
      have L_X := Lib.hid (show Bn X 100 from hlt)
      have hlz : str l = str (Lib.decDigits X) := by rw [hd]
      rw [hlz] at HT
      have G1 : Hid (∀ W, Calls Tryz.prog 44 #[.string (str (Lib.decDigits X))] W fun e w' => ∃ v, e = .returned (.tuple #[v, .nilIface]) ∧ (nat.IsN w' v X ∧ v ≠ .pointer none) ∧ Below W.heap.size W w') := Lib.hid (by rw [← hlz]; exact G1)
      have G2 : Hid (∀ W, Calls Tryz.prog 45 #[.string (str (Lib.decDigits X))] W fun e w' => ∃ sv, e = .returned (.tuple #[sv, .bool true]) ∧ ref.IsN w' sv X ∧ Below W.heap.size W w') := Lib.hid (by rw [← hlz]; exact G2)
      clear hlt h hd hlz hll
      have c1 := fun (W : World) (v0 : Value) (hh0 : nat.IsN W v0 X)  => nat.Text_any v0 X W hh0 (L_X.out.nat (by decide))
      have C1 := Lib.hid c1
      clear c1
      have c2 := fun (W : World) (v0 : Value) (hh0 : ref.IsN W v0 X)  => ref.Text_any v0 X W hh0 (L_X.out.ref (by decide))
      have C2 := Lib.hid c2
      clear c2
      have c3 := fun (W : World)    => nat.Of_int 18446744073709551615 18446744073709551615 rfl (by decide) W
      have C3 := Lib.hid c3
      clear c3
      have c4 := fun (W : World) (v0 : Value) (v1 : Value) (hh0 : nat.IsN W v0 n) (hh1 : nat.IsN W v1 (18446744073709551615 : Nat))  => nat.Add_any v0 v1 n (18446744073709551615 : Nat) W hh0 hh1 (L_n.out.nat (by decide)) ((Bn_small (by decide)).nat (by decide))
      have C4 := Lib.hid c4
      clear c4
      have c5 := fun (W : World) (v0 : Value) (hh0 : nat.IsN W v0 n)  => nat.Text_any v0 n W hh0 (L_n.out.nat (by decide))
      have C5 := Lib.hid c5
      clear c5
      have c6 := fun (W : World) (v0 : Value) (v1 : Value) (hh0 : nat.IsN W v0 n) (hh1 : nat.IsN W v1 n)  => nat.Cmp_b v0 v1 n n W hh0 hh1 (L_n.out.nat (by decide)) (L_n.out.nat (by decide))
      rw [cmp3_eqN (show n = n from rfl)] at c6
      have C6 := Lib.hid c6
      clear c6
      have c7 := fun (W : World) (v0 : Value) (hh0 : nat.IsN W v0 n)  => nat.Text_any v0 n W hh0 (L_n.out.nat (by decide))
      have C7 := Lib.hid c7
      clear c7
      have c8 := fun (W : World) (v0 : Value) (hh0 : ref.IsN W v0 n)  => ref.Text_any v0 n W hh0 (L_n.out.ref (by decide))
      have C8 := Lib.hid c8
      clear c8
      generalize str (Lib.decDigits n) = sn at *
      generalize str (Lib.decDigits X) = sX at *
      go_enter Tryz.func5, Tryz.ntmps5
      go_wp2_with (first
        | (go_at_call 25; (with_reducible refine (HBG.out _ HG.out).mono ?_); rintro e W1 ⟨rfl, hb⟩
           have HB1 := Lib.hid hb
           clear hb)
        | (go_at_call 43; (with_reducible refine (HT.out _).mono ?_); rintro e w9 ⟨rfl, rfl⟩
           clear HT)
        | (go_at_call 44; (with_reducible refine (G1.out _).mono ?_); rintro e W2 ⟨a, rfl, ⟨h_a, n_a⟩, hb⟩
           have H_a := Lib.hid h_a
           have N_a := Lib.hid n_a
           have HB2 := Lib.hid hb
           clear h_a n_a hb G1)
        | (go_at_call 45; (with_reducible refine (G2.out _).mono ?_); rintro e W3 ⟨x, rfl, h_x, hb⟩
           obtain ⟨o_x, c_x, rfl⟩ := IsX_slice h_x
           have H_x := Lib.hid h_x
           have HB3 := Lib.hid hb
           clear h_x hb G2)
        | (go_at_call 30; (with_reducible refine (C1.out _ _ (H_a.out.below HB3.out)).mono ?_); rintro e W4 ⟨rfl, hb⟩
           have HB4 := Lib.hid hb
           clear hb C1)
        | (go_at_call 32; (with_reducible refine (C2.out _ _ (H_x.out.below HB4.out)).mono ?_); rintro e W5 ⟨rfl, hb⟩
           have HB5 := Lib.hid hb
           clear hb C2)
        | (go_at_call 46; (with_reducible refine (NO.out _).mono ?_); rintro e W6 ⟨b, rfl, ⟨h_b, n_b⟩, hb⟩
           have H_b := Lib.hid h_b
           have N_b := Lib.hid n_b
           have HB6 := Lib.hid hb
           clear h_b n_b hb NO)
        | (go_at_call 47; (with_reducible refine (NS.out _ _ H_b.out).mono ?_); rintro e w9 ⟨rfl, rfl⟩
           clear NS)
        | (go_at_call 46; (with_reducible refine (C3.out _ ).mono ?_); rintro e W7 ⟨m, rfl, ⟨h_m, n_m⟩, hb⟩
           have H_m := Lib.hid h_m
           have N_m := Lib.hid n_m
           have HB7 := Lib.hid hb
           clear h_m n_m hb C3)
        | (go_at_call 35; (with_reducible refine (C4.out _ _ _ (H_b.out.below HB7.out) H_m.out).mono ?_); rintro e W8 ⟨bm, rfl, ⟨h_bm, n_bm⟩, hb⟩
           have H_bm := Lib.hid h_bm
           have N_bm := Lib.hid n_bm
           have HB8 := Lib.hid hb
           clear h_bm n_bm hb C4)
        | (go_at_call 47; (with_reducible refine (NB.out _ _ H_bm.out).mono ?_); rintro e w9 ⟨rfl, rfl⟩
           clear NB)
        | (go_at_call 30; (with_reducible refine (C5.out _ _ ((H_b.out.below HB7.out).below HB8.out)).mono ?_); rintro e W9 ⟨rfl, hb⟩
           have HB9 := Lib.hid hb
           clear hb C5)
        | (go_at_call 44; (with_reducible refine (NG.out _).mono ?_); rintro e W10 ⟨cc, rfl, ⟨h_c, n_c⟩, hb⟩
           have H_cc := Lib.hid h_c
           have N_cc := Lib.hid n_c
           have HB10 := Lib.hid hb
           clear h_c n_c hb NG)
        | (go_at_call 39; (with_reducible refine (C6.out _ _ _ H_cc.out ((((H_b.out.below HB7.out).below HB8.out).below HB9.out).below HB10.out)).mono ?_); rintro e W11 ⟨rfl, hb⟩
           have HB11 := Lib.hid hb
           clear hb C6)
        | (go_at_call 30; (with_reducible refine (C7.out _ _ (((((H_b.out.below HB7.out).below HB8.out).below HB9.out).below HB10.out).below HB11.out)).mono ?_); rintro e W12 ⟨rfl, hb⟩
           have HB12 := Lib.hid hb
           clear hb C7)
        | (go_at_call 48; (with_reducible refine (RO.out _).mono ?_); rintro e W13 ⟨y, rfl, h_y, hb⟩
           have H_y := Lib.hid h_y
           have HB13 := Lib.hid hb
           clear h_y hb RO)
        | (go_at_call 32; (with_reducible refine (C8.out _ _ H_y.out).mono ?_); rintro e W14 ⟨rfl, hb⟩
           have HB14 := Lib.hid hb
           clear hb C8)
        | (fail "no arm"))
      skip
      all_goals (go_ret; exact ⟨rfl, (nat.below_tr (nat.below_tr (nat.below_tr (nat.below_tr (nat.below_tr (nat.below_tr (nat.below_tr (nat.below_tr (nat.below_tr (nat.below_tr (nat.below_tr (nat.below_tr (nat.below_tr HB1.out HB2.out) HB3.out) HB4.out) HB5.out) HB6.out) HB7.out) HB8.out) HB9.out) HB10.out) HB11.out) HB12.out) HB13.out) HB14.out)⟩)
    · have G1 := Lib.hid (fun W => nat.Get_none l W h (by omega))
      have G2 := Lib.hid (fun W => ref.GetN_no l W (by omega) h)
      unfold errOf at G1
      generalize str l = sl at *
      clear h hll
      have c1 := fun (W : World)    => nat.Of_int 18446744073709551615 18446744073709551615 rfl (by decide) W
      have C1 := Lib.hid c1
      clear c1
      have c2 := fun (W : World) (v0 : Value) (v1 : Value) (hh0 : nat.IsN W v0 n) (hh1 : nat.IsN W v1 (18446744073709551615 : Nat))  => nat.Add_any v0 v1 n (18446744073709551615 : Nat) W hh0 hh1 (L_n.out.nat (by decide)) ((Bn_small (by decide)).nat (by decide))
      have C2 := Lib.hid c2
      clear c2
      have c3 := fun (W : World) (v0 : Value) (hh0 : nat.IsN W v0 n)  => nat.Text_any v0 n W hh0 (L_n.out.nat (by decide))
      have C3 := Lib.hid c3
      clear c3
      have c4 := fun (W : World) (v0 : Value) (v1 : Value) (hh0 : nat.IsN W v0 n) (hh1 : nat.IsN W v1 n)  => nat.Cmp_b v0 v1 n n W hh0 hh1 (L_n.out.nat (by decide)) (L_n.out.nat (by decide))
      rw [cmp3_eqN (show n = n from rfl)] at c4
      have C4 := Lib.hid c4
      clear c4
      have c5 := fun (W : World) (v0 : Value) (hh0 : nat.IsN W v0 n)  => nat.Text_any v0 n W hh0 (L_n.out.nat (by decide))
      have C5 := Lib.hid c5
      clear c5
      have c6 := fun (W : World) (v0 : Value) (hh0 : ref.IsN W v0 n)  => ref.Text_any v0 n W hh0 (L_n.out.ref (by decide))
      have C6 := Lib.hid c6
      clear c6
      generalize str (Lib.decDigits n) = sn at *
      go_enter Tryz.func5, Tryz.ntmps5
      go_wp2_with (first
        | (go_at_call 25; (with_reducible refine (HBG.out _ HG.out).mono ?_); rintro e W1 ⟨rfl, hb⟩
           have HB1 := Lib.hid hb
           clear hb)
        | (go_at_call 43; (with_reducible refine (HT.out _).mono ?_); rintro e w9 ⟨rfl, rfl⟩
           clear HT)
        | (go_at_call 44; (with_reducible refine (G1.out _).mono ?_); rintro e w9 ⟨rfl, rfl⟩
           clear G1)
        | (go_at_call 45; (with_reducible refine (G2.out _).mono ?_); rintro e W2 ⟨rfl, hb⟩
           have HB2 := Lib.hid hb
           clear hb G2)
        | (go_at_call 29; (with_reducible refine (Same_any 1 _ ((HG.out.below HB1.out).below HB2.out)).mono ?_); rintro e W3 ⟨rfl, hb⟩
           have HB3 := Lib.hid hb
           clear hb)
        | (go_at_call 46; (with_reducible refine (NO.out _).mono ?_); rintro e W4 ⟨b, rfl, ⟨h_b, n_b⟩, hb⟩
           have H_b := Lib.hid h_b
           have N_b := Lib.hid n_b
           have HB4 := Lib.hid hb
           clear h_b n_b hb NO)
        | (go_at_call 47; (with_reducible refine (NS.out _ _ H_b.out).mono ?_); rintro e w9 ⟨rfl, rfl⟩
           clear NS)
        | (go_at_call 46; (with_reducible refine (C1.out _ ).mono ?_); rintro e W5 ⟨m, rfl, ⟨h_m, n_m⟩, hb⟩
           have H_m := Lib.hid h_m
           have N_m := Lib.hid n_m
           have HB5 := Lib.hid hb
           clear h_m n_m hb C1)
        | (go_at_call 35; (with_reducible refine (C2.out _ _ _ (H_b.out.below HB5.out) H_m.out).mono ?_); rintro e W6 ⟨bm, rfl, ⟨h_bm, n_bm⟩, hb⟩
           have H_bm := Lib.hid h_bm
           have N_bm := Lib.hid n_bm
           have HB6 := Lib.hid hb
           clear h_bm n_bm hb C2)
        | (go_at_call 47; (with_reducible refine (NB.out _ _ H_bm.out).mono ?_); rintro e w9 ⟨rfl, rfl⟩
           clear NB)
        | (go_at_call 30; (with_reducible refine (C3.out _ _ ((H_b.out.below HB5.out).below HB6.out)).mono ?_); rintro e W7 ⟨rfl, hb⟩
           have HB7 := Lib.hid hb
           clear hb C3)
        | (go_at_call 44; (with_reducible refine (NG.out _).mono ?_); rintro e W8 ⟨cc, rfl, ⟨h_c, n_c⟩, hb⟩
           have H_cc := Lib.hid h_c
           have N_cc := Lib.hid n_c
           have HB8 := Lib.hid hb
           clear h_c n_c hb NG)
        | (go_at_call 39; (with_reducible refine (C4.out _ _ _ H_cc.out ((((H_b.out.below HB5.out).below HB6.out).below HB7.out).below HB8.out)).mono ?_); rintro e W9 ⟨rfl, hb⟩
           have HB9 := Lib.hid hb
           clear hb C4)
        | (go_at_call 30; (with_reducible refine (C5.out _ _ (((((H_b.out.below HB5.out).below HB6.out).below HB7.out).below HB8.out).below HB9.out)).mono ?_); rintro e W10 ⟨rfl, hb⟩
           have HB10 := Lib.hid hb
           clear hb C5)
        | (go_at_call 48; (with_reducible refine (RO.out _).mono ?_); rintro e W11 ⟨y, rfl, h_y, hb⟩
           have H_y := Lib.hid h_y
           have HB11 := Lib.hid hb
           clear h_y hb RO)
        | (go_at_call 32; (with_reducible refine (C6.out _ _ H_y.out).mono ?_); rintro e W12 ⟨rfl, hb⟩
           have HB12 := Lib.hid hb
           clear hb C6)
        | (fail "no arm"))
      skip
      all_goals (go_ret; exact ⟨rfl, (nat.below_tr (nat.below_tr (nat.below_tr (nat.below_tr (nat.below_tr (nat.below_tr (nat.below_tr (nat.below_tr (nat.below_tr (nat.below_tr (nat.below_tr HB1.out HB2.out) HB3.out) HB4.out) HB5.out) HB6.out) HB7.out) HB8.out) HB9.out) HB10.out) HB11.out) HB12.out)⟩)
end Go.Proofs.YtfpooimjjpamoaaGreatDoor.law2
