/-
  The steps of the walks, part 21: Product, Meth, Power.
-/
import Derived.Test.YtlhmfgbaefaneabGreatDoorB20
namespace Go.Proofs.YtlhmfgbaefaneabGreatDoor.nat
open Go.RowKit
def QRel (w : World) (x y : List Nat) (g T at' : Nat) (wr : World) : Prop :=
  ∃ Z, Z.length = T ∧ Dig Z ∧ Row wr g Z ∧ Below w.heap.size w wr ∧ val Z = val (x.take at') * val y
theorem QRel.sum {x y : List Nat} {N M at' e : Nat} (hdx : Dig x) (hdy : Dig y) (hx : x.length = N) (hy : y.length = M) (h1 : at' ≤ e) (h2 : e ≤ N) :
    val (x.take at') * val y + 18446744073709551616 ^ at' * (val ((x.drop at').take (e - at')) * val y) = val (x.take e) * val y ∧ val (x.take e) * val y < 18446744073709551616 ^ (N + M) := by
  constructor
  · have h := val_parts (x.take e) at' (by rw [List.length_take]; omega)
    rw [List.take_take, Nat.min_eq_left h1, List.drop_take] at h
    rw [h, Nat.add_mul, Nat.mul_assoc]
  · exact mul_pow_lt (val_lt' (hdx.take e) (by rw [List.length_take]; omega)) (val_lt' hdy (by omega))
set_option maxRecDepth 100000 in
set_option maxHeartbeats 4000000 in
theorem product_ge (n : Nat) (IH : ∀ k, k < n → ProdIs k) (sx sy : Value) (x y : List Nat) (w : World) (hx : Rd w sx x) (hy : Rd w sy y) (hdx : Dig x) (hdy : Dig y) (hn : x.length ≤ 1000000) (hm : y.length ≤ 1000000) (hyn : y.length ≤ n) (hle : y.length ≤ x.length) :
    Calls Tryz.prog 117 #[sx, sy] w fun e w' => ∃ sv, e = .returned sv ∧ Own w' w.heap.size sv (digs (val x * val y)) ∧ Below w.heap.size w w' := by
  obtain ⟨ao, xcap, rfl, ⟨h1, -⟩, h2, -⟩ := id hx
  obtain ⟨bo, ycap, rfl, ⟨k1, -⟩, k2, -⟩ := id hy
  obtain ⟨N, hN⟩ : ∃ N, x.length = N := ⟨_, rfl⟩
  obtain ⟨M, hM⟩ : ∃ M, y.length = M := ⟨_, rfl⟩
  have HN := Lib.hid hN
  have HM := Lib.hid hM
  unfold maxLen at h2 k2
  rw [hN] at h1 hn hx ⊢
  rw [hM] at k1 hm hy hyn ⊢
  rw [hN, hM] at hle
  by_cases h40 : M < 40
  · have HS := Lib.hid (shortProduct_any (.slice ao N xcap) (.slice bo M ycap) x y w hx hy hdx hdy (by rw [hN]; omega) (by rw [hM]; omega))
    clear hx hy hdx hdy hN hM
    go_enter Tryz.func117, Tryz.ntmps117
    go_wp2_with (go_at_call 145; refine (HS.out).mono ?_; rintro e w2 ⟨sv, rfl, ho, hb⟩; have HO := Lib.hid ho; have HB := Lib.hid hb; clear ho hb)
    go_ret
    exact ⟨sv, rfl, HO.out, HB.out⟩
  · obtain ⟨gx, ox, rfl, -⟩ := lenpos hx (by omega)
    obtain ⟨W1, hmk, hrow, hb⟩ := make_int w ((N : Int) + M) (N + M) (by omega) (by omega)
    have HS := Lib.hid (show QRel w x y w.heap.size (N + M) 0 W1 from ⟨_, by simp, dig_zeros _, hrow, hb, by rw [val_zeros]; simp [val]⟩)
    have HX := Lib.hid hx
    have HY := Lib.hid hy
    have HDX := Lib.hid hdx
    have HDY := Lib.hid hdy
    have II := Lib.hid (IH (M - 1) (by omega))
    clear hx hy hdx hdy hN hM hrow hb IH
    have t1 : ¬ N < M := by omega
    go_enter Tryz.func117, Tryz.ntmps117
    go_wp2
    go_loopw [6] (fun av wr => ∃ a : Nat, a ≤ N + M ∧ av = .int .i64 a ∧ QRel w x y w.heap.size (N + M) a wr) (fun av _ => N + M - (intOf av).toNat)
    case atStart => exact ⟨0, Nat.zero_le _, rfl, HS.out⟩
    case round =>
      obtain ⟨a, ha, rfl, hrel⟩ := hrel
      obtain ⟨Z, hl, hd, hrow, hb, hv⟩ := hrel
      clear HS hmk
      by_cases hlt : a < N
      · obtain ⟨e, he, he1, he2, he3⟩ : ∃ e : Nat, min ((a : Int) + M) N = e ∧ a < e ∧ e ≤ N ∧ (e ≤ a + M ∧ (e = a + M ∨ e = N)) := ⟨min (a + M) N, by omega, by omega, by omega, by omega⟩
        have hx2 := (HX.out.below hb).part a (e - a) (xcap - a) (by rw [HN.out]; omega) (by omega) (by omega)
        have lP : ((x.drop a).take (e - a)).length = e - a := by rw [List.length_take, List.length_drop, HN.out]; omega
        have dP := (HDX.out.drop a).take (e - a)
        have HP := Lib.hid (hx2.strip dP)
        have TR := Lib.hid (trim_x (some ⟨gx, ox + a, none⟩) (e - a) (xcap - a) _ wr hx2 lP (by omega) dP)
        have LP := Lib.hid (digs_len_val dP)
        have hsum := QRel.sum HDX.out HDY.out HN.out HM.out (Nat.le_of_lt he1) he2
        rw [lP] at LP
        have htk : x.take (a + M) = x.take e := by
          rcases he3.2 with h | h
          · rw [h]
          · rw [List.take_of_length_le (by rw [HN.out]; omega), List.take_of_length_le (by rw [HN.out]; omega)]
        have HTK := Lib.hid htk
        rw [← hv] at hsum
        have HSM := Lib.hid hsum
        obtain ⟨V, hV⟩ : ∃ V, V = val ((x.drop a).take (e - a)) := ⟨_, rfl⟩
        rw [← hV] at HP TR LP HSM
        have HB := Lib.hid hb
        have HL := Lib.hid hl
        have HD := Lib.hid hd
        have HR := Lib.hid hrow
        have HSZ := Lib.hid hb.size
        clear hV lP dP hx2 hb hl hd hrow hv hsum htk
        have g1 : (a : Int) ≤ (e : Int) := by omega
        have g2 : (e : Int) ≤ (xcap : Int) := by omega
        have g3 : ¬ (a = xcap) := by omega
        have g4 : ¬ (xcap = a) := by omega
        have g5 : ¬ (N + M = a) := by omega
        have g6 : (a : Int) ≤ (N : Int) + (M : Int) := by omega
        have PL : Hid ((digs (V * val y)).length ≤ N + M - a) := by
          have hV : V < 18446744073709551616 ^ (e - a) := by
            have := val_lt (norm_digs V).1
            rw [val_digs] at this
            exact Nat.lt_of_lt_of_le this (pow_le LP.out)
          exact digs_len (Nat.lt_of_lt_of_le (mul_pow_lt hV (val_lt' HDY.out (Nat.le_of_eq HM.out))) (pow_le (by omega)))
        have AD := Lib.hid (fun (w' : World) (sv : Value) (hb' : Below wr.heap.size wr w') (hsv : Own w' wr.heap.size sv (digs (V * val y))) => addInto_at w.heap.size a (N + M) (N + M - a) sv Z (digs (V * val y)) w' HL.out (by omega) (HR.out.below hb' HR.out.lt) HD.out hsv.rd (hsv.apart HR.out.lt) (norm_digs _).1 PL.out (by rw [val_digs, HSM.out.1]; exact HSM.out.2) (by omega) (Nat.le_refl _) (by unfold maxLen; omega))
        generalize hkp : (digs V).length = kp at *
        have HKP := Lib.hid hkp
        by_cases hkm : kp = M
        · have HF := Lib.hid (fun (w' : World) (hb' : Below wr.heap.size wr w') => halved_of M (by omega) (by omega) II.out (.slice (some ⟨gx, ox + a, none⟩) kp (xcap - a)) (.slice bo M ycap) (digs V) y w' (HP.out.below hb') ((HY.out.below HB.out).below hb') (norm_digs _).1 HDY.out (by rw [HKP.out, hkm]) HM.out)
          rw [val_digs] at HF
          clear hkp
          subst hkm
          go_wp2_with (go_at_call 144; refine (TR.out).mono ?_; rintro e' w2 ⟨rfl, rfl⟩; clear TR)
          go_region_held3 (fun _ => True) (trivial)
            (first
              | (go_at_call 147; refine (HF.out _ (Below.refl _ _).drew).mono ?_; rintro e' w3 ⟨sv, rfl, ho, hb3⟩
                 have HO3 := Lib.hid (ho.mono (B' := w2.heap.size) (Nat.le_refl _))
                 have HB3 := Lib.hid ((Below.refl w2.heap.size w2).drew.trans hb3)
                 clear ho hb3)
              | (go_at_call 146; refine (AD.out _ _ HB3.out HO3.out).mono ?_; rintro e' w4 ⟨c4, L4, rfl, ⟨hl, hd, hv, hr⟩, hg⟩
                 have HL4 := Lib.hid hl
                 have HD4 := Lib.hid hd
                 have HV4 := Lib.hid hv
                 have HR4 := Lib.hid hr
                 have HG4 := Lib.hid hg
                 clear hl hd hv hr hg))
          have HRel := Lib.hid (show QRel w x y w.heap.size (N + kp) (a + kp) w4 from ⟨L4, HL4.out, HD4.out, HR4.out, below_grown (HB.out.trans (HB3.out.mono HSZ.out)) HG4.out (Nat.le_trans HSZ.out HB3.out.size) (Nat.le_refl _), by rw [HV4.out, val_digs, HSM.out.1, HTK.out]⟩)
          go_wp2
          go_roundw
          case rel => exact ⟨a + kp, by omega, by go_num, HRel.out⟩
          case measure => simp [intOf]; omega
        · have HF := Lib.hid (fun (w' : World) (hb' : Below wr.heap.size wr w') => prod_v II.out (sx := .slice (some ⟨gx, ox + a, none⟩) kp (xcap - a)) (sy := .slice bo M ycap) (X := V) (w := w') (val_digs V) rfl (HP.out.below hb') ((HY.out.below HB.out).below hb') (norm_digs _).1 HDY.out (by rw [HKP.out]; have := LP.out; omega) (by rw [HM.out]; omega) (Or.inl (by rw [HKP.out]; have := LP.out; omega)))
          have hkb : ((kp : Int) == M) = false := by simp; omega
          clear hkp
          go_wp2_with (go_at_call 144; refine (TR.out).mono ?_; rintro e' w2 ⟨rfl, rfl⟩; clear TR)
          go_region_held3 (fun _ => True) (trivial)
            (first
              | (go_at_call 117; refine (HF.out _ (Below.refl _ _).drew).mono ?_; rintro e' w3 ⟨sv, rfl, ho, hb3⟩
                 have HO3 := Lib.hid (ho.mono (B' := w2.heap.size) (Nat.le_refl _))
                 have HB3 := Lib.hid ((Below.refl w2.heap.size w2).drew.trans hb3)
                 clear ho hb3)
              | (go_at_call 146; refine (AD.out _ _ HB3.out HO3.out).mono ?_; rintro e' w4 ⟨c4, L4, rfl, ⟨hl, hd, hv, hr⟩, hg⟩
                 have HL4 := Lib.hid hl
                 have HD4 := Lib.hid hd
                 have HV4 := Lib.hid hv
                 have HR4 := Lib.hid hr
                 have HG4 := Lib.hid hg
                 clear hl hd hv hr hg))
          have HRel := Lib.hid (show QRel w x y w.heap.size (N + M) (a + M) w4 from ⟨L4, HL4.out, HD4.out, HR4.out, below_grown (HB.out.trans (HB3.out.mono HSZ.out)) HG4.out (Nat.le_trans HSZ.out HB3.out.size) (Nat.le_refl _), by rw [HV4.out, val_digs, HSM.out.1, HTK.out]⟩)
          go_wp2
          go_roundw
          case rel => exact ⟨a + M, by omega, by go_num, HRel.out⟩
          case measure => simp [intOf]; omega
      · have hv2 : val Z = val x * val y := by rw [hv, List.take_of_length_le (by rw [HN.out]; omega)]
        have hO : Own wr w.heap.size (.slice (some ⟨w.heap.size, 0, none⟩) (N + M) (N + M)) Z := by
          have := Own.of_row (cap := N + M) hrow (Nat.le_refl _) (by omega) (by unfold maxLen; omega)
          rwa [hl] at this
        have HT := Lib.hid (trim_own _ Z wr hO (by omega) hd)
        rw [hv2] at HT
        have HB := Lib.hid hb
        clear hl hd hrow hb hv hv2 hO
        go_wp2_with (go_at_call 144; refine (HT.out).mono ?_; rintro e w3 ⟨sv, rfl, hO3, rfl⟩; have HO3 := Lib.hid hO3; clear hO3)
        go_ret
        exact ⟨sv, rfl, HO3.out, HB.out⟩
set_option maxRecDepth 100000 in
set_option maxHeartbeats 4000000 in
theorem product_lt (n : Nat) (IH : ∀ k, k < n → ProdIs k) (sx sy : Value) (x y : List Nat) (w : World) (hx : Rd w sx x) (hy : Rd w sy y) (hdx : Dig x) (hdy : Dig y) (hn : x.length ≤ 1000000) (hm : y.length ≤ 1000000) (hyn : y.length ≤ n) (hle : y.length < x.length) :
    Calls Tryz.prog 117 #[sy, sx] w fun e w' => ∃ sv, e = .returned sv ∧ Own w' w.heap.size sv (digs (val x * val y)) ∧ Below w.heap.size w w' := by
  obtain ⟨ao, xcap, rfl, ⟨h1, -⟩, h2, -⟩ := id hx
  obtain ⟨bo, ycap, rfl, ⟨k1, -⟩, k2, -⟩ := id hy
  obtain ⟨N, hN⟩ : ∃ N, x.length = N := ⟨_, rfl⟩
  obtain ⟨M, hM⟩ : ∃ M, y.length = M := ⟨_, rfl⟩
  have HN := Lib.hid hN
  have HM := Lib.hid hM
  unfold maxLen at h2 k2
  rw [hN] at h1 hn hx ⊢
  rw [hM] at k1 hm hy hyn ⊢
  rw [hN, hM] at hle
  by_cases h40 : M < 40
  · have HS := Lib.hid (shortProduct_any (.slice ao N xcap) (.slice bo M ycap) x y w hx hy hdx hdy (by rw [hN]; omega) (by rw [hM]; omega))
    clear hx hy hdx hdy hN hM
    go_enter Tryz.func117, Tryz.ntmps117
    go_wp2_with (go_at_call 145; refine (HS.out).mono ?_; rintro e w2 ⟨sv, rfl, ho, hb⟩; have HO := Lib.hid ho; have HB := Lib.hid hb; clear ho hb)
    go_ret
    exact ⟨sv, rfl, HO.out, HB.out⟩
  · obtain ⟨gx, ox, rfl, -⟩ := lenpos hx (by omega)
    obtain ⟨W1, hmk, hrow, hb⟩ := make_int w ((N : Int) + M) (N + M) (by omega) (by omega)
    have HS := Lib.hid (show QRel w x y w.heap.size (N + M) 0 W1 from ⟨_, by simp, dig_zeros _, hrow, hb, by rw [val_zeros]; simp [val]⟩)
    have HX := Lib.hid hx
    have HY := Lib.hid hy
    have HDX := Lib.hid hdx
    have HDY := Lib.hid hdy
    have II := Lib.hid (IH (M - 1) (by omega))
    clear hx hy hdx hdy hN hM hrow hb IH
    have t1 : M < N := by omega
    go_enter Tryz.func117, Tryz.ntmps117
    go_wp2
    go_loopw [6] (fun av wr => ∃ a : Nat, a ≤ N + M ∧ av = .int .i64 a ∧ QRel w x y w.heap.size (N + M) a wr) (fun av _ => N + M - (intOf av).toNat)
    case atStart => exact ⟨0, Nat.zero_le _, rfl, HS.out⟩
    case round =>
      obtain ⟨a, ha, rfl, hrel⟩ := hrel
      obtain ⟨Z, hl, hd, hrow, hb, hv⟩ := hrel
      clear HS hmk
      by_cases hlt : a < N
      · obtain ⟨e, he, he1, he2, he3⟩ : ∃ e : Nat, min ((a : Int) + M) N = e ∧ a < e ∧ e ≤ N ∧ (e ≤ a + M ∧ (e = a + M ∨ e = N)) := ⟨min (a + M) N, by omega, by omega, by omega, by omega⟩
        have hx2 := (HX.out.below hb).part a (e - a) (xcap - a) (by rw [HN.out]; omega) (by omega) (by omega)
        have lP : ((x.drop a).take (e - a)).length = e - a := by rw [List.length_take, List.length_drop, HN.out]; omega
        have dP := (HDX.out.drop a).take (e - a)
        have HP := Lib.hid (hx2.strip dP)
        have TR := Lib.hid (trim_x (some ⟨gx, ox + a, none⟩) (e - a) (xcap - a) _ wr hx2 lP (by omega) dP)
        have LP := Lib.hid (digs_len_val dP)
        have hsum := QRel.sum HDX.out HDY.out HN.out HM.out (Nat.le_of_lt he1) he2
        rw [lP] at LP
        have htk : x.take (a + M) = x.take e := by
          rcases he3.2 with h | h
          · rw [h]
          · rw [List.take_of_length_le (by rw [HN.out]; omega), List.take_of_length_le (by rw [HN.out]; omega)]
        have HTK := Lib.hid htk
        rw [← hv] at hsum
        have HSM := Lib.hid hsum
        obtain ⟨V, hV⟩ : ∃ V, V = val ((x.drop a).take (e - a)) := ⟨_, rfl⟩
        rw [← hV] at HP TR LP HSM
        have HB := Lib.hid hb
        have HL := Lib.hid hl
        have HD := Lib.hid hd
        have HR := Lib.hid hrow
        have HSZ := Lib.hid hb.size
        clear hV lP dP hx2 hb hl hd hrow hv hsum htk
        have g1 : (a : Int) ≤ (e : Int) := by omega
        have g2 : (e : Int) ≤ (xcap : Int) := by omega
        have g3 : ¬ (a = xcap) := by omega
        have g4 : ¬ (xcap = a) := by omega
        have g5 : ¬ (N + M = a) := by omega
        have g6 : (a : Int) ≤ (N : Int) + (M : Int) := by omega
        have PL : Hid ((digs (V * val y)).length ≤ N + M - a) := by
          have hV : V < 18446744073709551616 ^ (e - a) := by
            have := val_lt (norm_digs V).1
            rw [val_digs] at this
            exact Nat.lt_of_lt_of_le this (pow_le LP.out)
          exact digs_len (Nat.lt_of_lt_of_le (mul_pow_lt hV (val_lt' HDY.out (Nat.le_of_eq HM.out))) (pow_le (by omega)))
        have AD := Lib.hid (fun (w' : World) (sv : Value) (hb' : Below wr.heap.size wr w') (hsv : Own w' wr.heap.size sv (digs (V * val y))) => addInto_at w.heap.size a (N + M) (N + M - a) sv Z (digs (V * val y)) w' HL.out (by omega) (HR.out.below hb' HR.out.lt) HD.out hsv.rd (hsv.apart HR.out.lt) (norm_digs _).1 PL.out (by rw [val_digs, HSM.out.1]; exact HSM.out.2) (by omega) (Nat.le_refl _) (by unfold maxLen; omega))
        generalize hkp : (digs V).length = kp at *
        have HKP := Lib.hid hkp
        by_cases hkm : kp = M
        · have HF := Lib.hid (fun (w' : World) (hb' : Below wr.heap.size wr w') => halved_of M (by omega) (by omega) II.out (.slice (some ⟨gx, ox + a, none⟩) kp (xcap - a)) (.slice bo M ycap) (digs V) y w' (HP.out.below hb') ((HY.out.below HB.out).below hb') (norm_digs _).1 HDY.out (by rw [HKP.out, hkm]) HM.out)
          rw [val_digs] at HF
          clear hkp
          subst hkm
          go_wp2_with (go_at_call 144; refine (TR.out).mono ?_; rintro e' w2 ⟨rfl, rfl⟩; clear TR)
          go_region_held3 (fun _ => True) (trivial)
            (first
              | (go_at_call 147; refine (HF.out _ (Below.refl _ _).drew).mono ?_; rintro e' w3 ⟨sv, rfl, ho, hb3⟩
                 have HO3 := Lib.hid (ho.mono (B' := w2.heap.size) (Nat.le_refl _))
                 have HB3 := Lib.hid ((Below.refl w2.heap.size w2).drew.trans hb3)
                 clear ho hb3)
              | (go_at_call 146; refine (AD.out _ _ HB3.out HO3.out).mono ?_; rintro e' w4 ⟨c4, L4, rfl, ⟨hl, hd, hv, hr⟩, hg⟩
                 have HL4 := Lib.hid hl
                 have HD4 := Lib.hid hd
                 have HV4 := Lib.hid hv
                 have HR4 := Lib.hid hr
                 have HG4 := Lib.hid hg
                 clear hl hd hv hr hg))
          have HRel := Lib.hid (show QRel w x y w.heap.size (N + kp) (a + kp) w4 from ⟨L4, HL4.out, HD4.out, HR4.out, below_grown (HB.out.trans (HB3.out.mono HSZ.out)) HG4.out (Nat.le_trans HSZ.out HB3.out.size) (Nat.le_refl _), by rw [HV4.out, val_digs, HSM.out.1, HTK.out]⟩)
          go_wp2
          go_roundw
          case rel => exact ⟨a + kp, by omega, by go_num, HRel.out⟩
          case measure => simp [intOf]; omega
        · have HF := Lib.hid (fun (w' : World) (hb' : Below wr.heap.size wr w') => prod_v II.out (sx := .slice (some ⟨gx, ox + a, none⟩) kp (xcap - a)) (sy := .slice bo M ycap) (X := V) (w := w') (val_digs V) rfl (HP.out.below hb') ((HY.out.below HB.out).below hb') (norm_digs _).1 HDY.out (by rw [HKP.out]; have := LP.out; omega) (by rw [HM.out]; omega) (Or.inl (by rw [HKP.out]; have := LP.out; omega)))
          have hkb : ((kp : Int) == M) = false := by simp; omega
          clear hkp
          go_wp2_with (go_at_call 144; refine (TR.out).mono ?_; rintro e' w2 ⟨rfl, rfl⟩; clear TR)
          go_region_held3 (fun _ => True) (trivial)
            (first
              | (go_at_call 117; refine (HF.out _ (Below.refl _ _).drew).mono ?_; rintro e' w3 ⟨sv, rfl, ho, hb3⟩
                 have HO3 := Lib.hid (ho.mono (B' := w2.heap.size) (Nat.le_refl _))
                 have HB3 := Lib.hid ((Below.refl w2.heap.size w2).drew.trans hb3)
                 clear ho hb3)
              | (go_at_call 146; refine (AD.out _ _ HB3.out HO3.out).mono ?_; rintro e' w4 ⟨c4, L4, rfl, ⟨hl, hd, hv, hr⟩, hg⟩
                 have HL4 := Lib.hid hl
                 have HD4 := Lib.hid hd
                 have HV4 := Lib.hid hv
                 have HR4 := Lib.hid hr
                 have HG4 := Lib.hid hg
                 clear hl hd hv hr hg))
          have HRel := Lib.hid (show QRel w x y w.heap.size (N + M) (a + M) w4 from ⟨L4, HL4.out, HD4.out, HR4.out, below_grown (HB.out.trans (HB3.out.mono HSZ.out)) HG4.out (Nat.le_trans HSZ.out HB3.out.size) (Nat.le_refl _), by rw [HV4.out, val_digs, HSM.out.1, HTK.out]⟩)
          go_wp2
          go_roundw
          case rel => exact ⟨a + M, by omega, by go_num, HRel.out⟩
          case measure => simp [intOf]; omega
      · have hv2 : val Z = val x * val y := by rw [hv, List.take_of_length_le (by rw [HN.out]; omega)]
        have hO : Own wr w.heap.size (.slice (some ⟨w.heap.size, 0, none⟩) (N + M) (N + M)) Z := by
          have := Own.of_row (cap := N + M) hrow (Nat.le_refl _) (by omega) (by unfold maxLen; omega)
          rwa [hl] at this
        have HT := Lib.hid (trim_own _ Z wr hO (by omega) hd)
        rw [hv2] at HT
        have HB := Lib.hid hb
        clear hl hd hrow hb hv hv2 hO
        go_wp2_with (go_at_call 144; refine (HT.out).mono ?_; rintro e w3 ⟨sv, rfl, hO3, rfl⟩; have HO3 := Lib.hid hO3; clear hO3)
        go_ret
        exact ⟨sv, rfl, HO3.out, HB.out⟩
theorem prod_is : ∀ n, ProdIs n := fun n => by
  induction n using Nat.strongRecOn with
  | _ n ih =>
    intro sx sy x y w hx hy hdx hdy hn hm h
    by_cases hle : y.length ≤ x.length
    · exact product_ge n ih sx sy x y w hx hy hdx hdy hn hm (by omega) hle
    · rw [Nat.mul_comm]
      exact product_lt n ih sy sx y x w hy hx hdy hdx hm hn (by omega) (by omega)
theorem product_any (sx sy : Value) (x y : List Nat) (w : World) (hx : Rd w sx x) (hy : Rd w sy y) (hdx : Dig x) (hdy : Dig y) (hn : x.length ≤ 1000000) (hm : y.length ≤ 1000000) :
    Calls Tryz.prog 117 #[sx, sy] w fun e w' => ∃ sv, e = .returned sv ∧ Own w' w.heap.size sv (digs (val x * val y)) ∧ Below w.heap.size w w' :=
  prod_is x.length sx sy x y w hx hy hdx hdy hn hm (Or.inl (Nat.le_refl _))
end Go.Proofs.YtlhmfgbaefaneabGreatDoor.nat
namespace Go.Proofs.YtlhmfgbaefaneabGreatDoor.nat
open Go.RowKit
def IsN (w : World) (v : Value) (X : Nat) : Prop :=
  (v = .pointer none ∧ X = 0) ∨ ∃ b o sv, v = .pointer (some ⟨b, o, none⟩) ∧ w.cell? ⟨b, o, none⟩ = some sv ∧ Rd w sv (digs X)
theorem IsN.below {w w' : World} {v : Value} {X : Nat} (h : IsN w v X) (hb : Below w.heap.size w w') : IsN w' v X := by
  rcases h with h | ⟨b, o, sv, h1, h2, h3⟩
  · exact Or.inl h
  · exact Or.inr ⟨b, o, sv, h1, (hb.cell (p := ⟨b, o, none⟩) (cell_lt h2)).trans h2, h3.below hb⟩
theorem IsN.inj {w : World} {v : Value} {X Y : Nat} (h : IsN w v X) (h' : IsN w v Y) : X = Y := by
  rcases h with ⟨rfl, rfl⟩ | ⟨b, o, sv, rfl, h2, h3⟩
  · rcases h' with ⟨_, rfl⟩ | ⟨b', o', sv', he, _, _⟩
    · rfl
    · simp at he
  · rcases h' with ⟨he, _⟩ | ⟨b', o', sv', he, h5, h6⟩
    · simp at he
    · simp only [Value.pointer.injEq, Option.some.injEq, Addr.mk.injEq, and_true] at he
      obtain ⟨rfl, rfl⟩ := he
      rw [h2] at h5
      simp only [Option.some.injEq] at h5
      subst h5
      rw [← val_digs X, ← val_digs Y, h3.inj h6]
set_option maxRecDepth 100000 in
theorem list_any (v : Value) (X : Nat) (w : World) (h : IsN w v X) :
    Calls Tryz.prog 118 #[v] w fun e w' => ∃ sv, e = .returned sv ∧ Rd w sv (digs X) ∧ w = w' := by
  rcases h with ⟨rfl, rfl⟩ | ⟨b, o, sv, rfl, h2, h3⟩
  · go_enter Tryz.func118, Tryz.ntmps118
    go_wp2
    go_ret
    exact ⟨_, rfl, by rw [digs_zero]; exact Rd.nil _, rfl⟩
  · have H3 := Lib.hid h3
    clear h3
    go_enter Tryz.func118, Tryz.ntmps118
    go_wp2
    go_ret
    exact ⟨_, rfl, H3.out, rfl⟩
set_option maxRecDepth 100000 in
theorem own_any (sv : Value) (l : List Nat) (w : World) (h : Rd w sv l) (hd : Dig l) (hn : l.length ≤ 4000000) :
    Calls Tryz.prog 116 #[sv] w fun e w' => ∃ v, e = .returned v ∧ (IsN w' v (val l) ∧ v ≠ .pointer none) ∧ Below w.heap.size w w' := by
  have T := Lib.hid (trim_rd sv l w h hn hd)
  clear h
  go_enter Tryz.func116, Tryz.ntmps116
  go_wp2_with (go_at_call 144; refine (T.out).mono ?_; rintro e w1 ⟨sv', rfl, ⟨hr, -, -⟩, rfl⟩; obtain ⟨ao', cap', rfl, -⟩ := id hr; have HR := Lib.hid hr; clear hr T)
  go_ret
  have hb : Below w.heap.size w (w.alloc (.cells #[.slice ao' (digs (val l)).length cap'] 116)) := (Below.refl _ _).alloc (Nat.le_refl _) _
  exact ⟨_, rfl, ⟨Or.inr ⟨w.heap.size, 0, _, rfl, cell_of_one (heap_alloc_new w _), HR.out.below hb⟩, by simp⟩, hb⟩
theorem Of_any (d : Nat) (w : World) (h : d < 18446744073709551616) :
    Calls Tryz.prog 110 #[.int .u64 (d : Int)] w fun e w' => ∃ v, e = .returned v ∧ (IsN w' v d ∧ v ≠ .pointer none) ∧ Below w.heap.size w w' := by
  have hb : Below w.heap.size w (w.alloc (.cells #[Value.int .u64 (d : Int)] 80)) := (Below.refl _ _).alloc (Nat.le_refl _) _
  have OW := Lib.hid (own_any _ [d] _ (word_own (w := w) (d := d) (B := w.heap.size) (Nat.le_refl _)).rd (Dig.cons h Dig.nil) (by simp))
  have hv : val [d] = d := by simp [val]
  rw [hv] at OW
  have HB := Lib.hid hb
  clear hb hv
  go_enter Tryz.func110, Tryz.ntmps110
  go_wp2_with (go_at_call 116; refine (OW.out).mono ?_; rintro e w1 ⟨v, rfl, hi, hb⟩; have HI := Lib.hid hi; have HB1 := Lib.hid (HB.out.trans (hb.mono HB.out.size)); clear hi hb OW)
  go_ret
  exact ⟨v, rfl, HI.out, HB1.out⟩
theorem digs_add_len {X Y n : Nat} (hx : (digs X).length ≤ n) (hy : (digs Y).length ≤ n) : (digs (X + Y)).length ≤ n + 1 := by
  refine digs_len (add_pow_lt ?_ ?_)
  · have := val_lt' (norm_digs X).1 hx; rwa [val_digs] at this
  · have := val_lt' (norm_digs Y).1 hy; rwa [val_digs] at this
theorem digs_mul_len {X Y n m : Nat} (hx : (digs X).length ≤ n) (hy : (digs Y).length ≤ m) : (digs (X * Y)).length ≤ n + m := by
  refine digs_len (mul_pow_lt ?_ ?_)
  · have := val_lt' (norm_digs X).1 hx; rwa [val_digs] at this
  · have := val_lt' (norm_digs Y).1 hy; rwa [val_digs] at this
theorem digs_le_len {X Y n : Nat} (h : X ≤ Y) (hy : (digs Y).length ≤ n) : (digs X).length ≤ n := by
  refine digs_len (Nat.lt_of_le_of_lt h ?_)
  have := val_lt' (norm_digs Y).1 hy; rwa [val_digs] at this
set_option maxRecDepth 100000 in
theorem Add_any (a b : Value) (X Y : Nat) (w : World) (ha : IsN w a X) (hb : IsN w b Y) (hx : (digs X).length ≤ 1000000) (hy : (digs Y).length ≤ 1000000) :
    Calls Tryz.prog 126 #[a, b] w fun e w' => ∃ v, e = .returned v ∧ (IsN w' v (X + Y) ∧ v ≠ .pointer none) ∧ Below w.heap.size w w' := by
  have L1 := Lib.hid (list_any a X w ha)
  have L2 := Lib.hid (list_any b Y w hb)
  clear ha hb
  go_enter Tryz.func126, Tryz.ntmps126
  go_wp2_with (first
    | (go_at_call 118; refine (L1.out).mono ?_; rintro e w1 ⟨sa, rfl, ha, rfl⟩; have HA := Lib.hid ha; clear L1 ha)
    | (go_at_call 118; refine (L2.out).mono ?_; rintro e w1 ⟨sb, rfl, hb, rfl⟩
       have C := Lib.hid (sum_any sa sb _ _ w HA.out hb (norm_digs X).1 (norm_digs Y).1 (by omega) (by omega))
       rw [val_digs, val_digs] at C
       clear L2 hb)
    | (go_at_call 161; refine (C.out).mono ?_; rintro e w2 ⟨sv, rfl, ho, hb2⟩
       have O := Lib.hid (own_any sv _ w2 ho.rd (norm_digs _).1 (by have := digs_add_len hx hy; omega))
       rw [val_digs] at O
       have HB2 := Lib.hid hb2
       clear C ho hb2)
    | (go_at_call 116; refine (O.out).mono ?_; rintro e w3 ⟨v, rfl, hi, hb3⟩; have HI := Lib.hid hi; have HB3 := Lib.hid (HB2.out.trans (hb3.mono HB2.out.size)); clear O hi hb3))
  go_ret
  exact ⟨v, rfl, HI.out, HB3.out⟩
set_option maxRecDepth 100000 in
theorem Mul_any (a b : Value) (X Y : Nat) (w : World) (ha : IsN w a X) (hb : IsN w b Y) (hx : (digs X).length ≤ 1000000) (hy : (digs Y).length ≤ 1000000) :
    Calls Tryz.prog 96 #[a, b] w fun e w' => ∃ v, e = .returned v ∧ (IsN w' v (X * Y) ∧ v ≠ .pointer none) ∧ Below w.heap.size w w' := by
  have L1 := Lib.hid (list_any a X w ha)
  have L2 := Lib.hid (list_any b Y w hb)
  clear ha hb
  go_enter Tryz.func96, Tryz.ntmps96
  go_wp2_with (first
    | (go_at_call 118; refine (L1.out).mono ?_; rintro e w1 ⟨sa, rfl, ha, rfl⟩; have HA := Lib.hid ha; clear L1 ha)
    | (go_at_call 118; refine (L2.out).mono ?_; rintro e w1 ⟨sb, rfl, hb, rfl⟩
       have C := Lib.hid (product_any sa sb _ _ w HA.out hb (norm_digs X).1 (norm_digs Y).1 (by omega) (by omega))
       rw [val_digs, val_digs] at C
       clear L2 hb)
    | (go_at_call 117; refine (C.out).mono ?_; rintro e w2 ⟨sv, rfl, ho, hb2⟩
       have O := Lib.hid (own_any sv _ w2 ho.rd (norm_digs _).1 (by have := digs_mul_len hx hy; omega))
       rw [val_digs] at O
       have HB2 := Lib.hid hb2
       clear C ho hb2)
    | (go_at_call 116; refine (O.out).mono ?_; rintro e w3 ⟨v, rfl, hi, hb3⟩; have HI := Lib.hid hi; have HB3 := Lib.hid (HB2.out.trans (hb3.mono HB2.out.size)); clear O hi hb3))
  go_ret
  exact ⟨v, rfl, HI.out, HB3.out⟩
set_option maxRecDepth 100000 in
theorem Cmp_any (a b : Value) (X Y : Nat) (w : World) (ha : IsN w a X) (hb : IsN w b Y) (hx : (digs X).length ≤ 1000000) (hy : (digs Y).length ≤ 1000000) :
    Calls Tryz.prog 108 #[a, b] w fun e w' => e = .returned (.int .i64 (cmp3 (X : Nat) (Y : Nat))) ∧ ∃ m, w' = w.drewN m := by
  have L1 := Lib.hid (list_any a X w ha)
  have L2 := Lib.hid (list_any b Y w hb)
  clear ha hb
  go_enter Tryz.func108, Tryz.ntmps108
  go_wp2_with (first
    | (go_at_call 118; refine (L1.out).mono ?_; rintro e w1 ⟨sa, rfl, ha, rfl⟩; have HA := Lib.hid ha; clear L1 ha)
    | (go_at_call 118; refine (L2.out).mono ?_; rintro e w1 ⟨sb, rfl, hb, rfl⟩
       have C := Lib.hid (compare_any sa sb _ _ w HA.out hb (norm_digs X) (norm_digs Y) (by omega) (by omega))
       rw [val_digs, val_digs] at C
       clear L2 hb)
    | (go_at_call 141; refine (C.out).mono ?_; rintro e w2 ⟨rfl, m, rfl⟩; clear C))
  go_ret
  exact ⟨rfl, m, rfl⟩
set_option maxRecDepth 100000 in
theorem Zero_any (a : Value) (X : Nat) (w : World) (ha : IsN w a X) :
    Calls Tryz.prog 109 #[a] w fun e w' => e = .returned (.bool (decide (X = 0))) ∧ w = w' := by
  have L1 := Lib.hid (list_any a X w ha)
  clear ha
  have hz : (digs X).length = 0 ↔ X = 0 := by
    constructor
    · intro h
      have := List.eq_nil_of_length_eq_zero h
      rw [← val_digs X, this]; rfl
    · rintro rfl
      rw [digs_zero]; rfl
  have HZ := Lib.hid hz
  clear hz
  go_enter Tryz.func109, Tryz.ntmps109
  go_wp2_with (go_at_call 118; refine (L1.out).mono ?_; rintro e w1 ⟨sa, rfl, ha, rfl⟩; obtain ⟨ao, cap, rfl, -⟩ := id ha; clear L1 ha)
  go_ret
  refine ⟨?_, rfl⟩
  have := HZ.out
  by_cases h : X = 0
  · subst h
    rw [digs_zero]; rfl
  · have h2 : ¬ (digs X).length = 0 := fun h3 => h (this.1 h3)
    show Ending.returned (.bool (((digs X).length : Int) == 0)) = _
    rw [decide_eq_false h, show (((digs X).length : Int) == 0) = false by simp only [beq_eq_false_iff_ne, ne_eq]; omega]
end Go.Proofs.YtlhmfgbaefaneabGreatDoor.nat
namespace Go.Proofs.YtlhmfgbaefaneabGreatDoor.nat
open Go.RowKit
theorem and_one (n : Int) : bits .and .i64 n 1 = n % 2 := by
  have h1 : (BitVec.ofInt 64 1).toNat = 2 ^ 1 - 1 := by decide
  have key : (BitVec.ofInt 64 n &&& BitVec.ofInt 64 1).toNat = (n % ((2 ^ 64 : Nat) : Int)).toNat % 2 ^ 1 := by
    rw [BitVec.toNat_and, BitVec.toNat_ofInt, h1, Nat.and_two_pow_sub_one_eq_mod]
  show IntKind.i64.wrap ((BitVec.ofInt 64 n &&& BitVec.ofInt 64 1).toNat : Nat) = n % 2
  rw [key, IntKind.wrap_i64]
  omega
theorem exp_step {X K p : Nat} (hp : 0 < p) : X ^ (K / 2 ^ p) * X ^ (K / 2 ^ p) * X ^ (K / 2 ^ (p - 1) % 2) = X ^ (K / 2 ^ (p - 1)) := by
  have h1 : K / 2 ^ p = K / 2 ^ (p - 1) / 2 := by
    rw [Nat.div_div_eq_div_mul, ← Nat.pow_succ]
    congr 2
    omega
  rw [h1, ← Nat.pow_add, ← Nat.pow_add]
  congr 1
  omega
theorem pow_small {X K j n : Nat} (hj : j ≤ K) (h : (digs (X ^ K)).length ≤ n) (hn : 1 ≤ n) : (digs (X ^ j)).length ≤ n := by
  rcases Nat.eq_zero_or_pos X with rfl | hX
  · rcases Nat.eq_zero_or_pos j with rfl | h0
    · exact Nat.le_trans (digs_small (by simp)) hn
    · rw [Nat.zero_pow h0, digs_zero]; simp
  · exact digs_le_len (Nat.pow_le_pow_right hX hj) h
set_option maxRecDepth 100000 in
set_option maxHeartbeats 2000000 in
theorem power_pos (sx : Value) (x : List Nat) (K : Nat) (w : World) (hx : Rd w sx x) (hnx : Norm x) (hs : x.length ≤ 900000) (hK : K < 9223372036854775808) (hb : (digs (val x ^ K)).length ≤ 900000) :
    Calls Tryz.prog 165 #[sx, .int .i64 (K : Int)] w fun e w' => ∃ sv, e = .returned sv ∧ Own w' w.heap.size sv (digs (val x ^ K)) ∧ Below w.heap.size w w' := by
  obtain ⟨ao, xcap, rfl, -⟩ := id hx
  have HX := Lib.hid hx
  have HNX := Lib.hid hnx
  have HS := Lib.hid hs
  have HBd := Lib.hid hb
  have hb1 : Below w.heap.size w (w.alloc (.cells #[Value.int .u64 1] 80)) := (Below.refl _ _).alloc (Nat.le_refl _) _
  have hO1 : Own (w.alloc (.cells #[Value.int .u64 1] 80)) w.heap.size (.slice (some ⟨w.heap.size, 0, none⟩) 1 1) (digs 1) := by
    have := word_own (w := w) (d := 1) (B := w.heap.size) (Nat.le_refl _)
    have e : digs 1 = [1] := by rw [digs_pos (by omega), show 1 % 18446744073709551616 = 1 by omega, show 1 / 18446744073709551616 = 0 by omega, digs_zero]
    rw [e]
    exact this
  have HO1 := Lib.hid hO1
  have HB1 := Lib.hid hb1
  have hmax : max (K : Int) 0 = (K : Int) := by omega
  obtain ⟨X, hX⟩ : ∃ X, X = val x := ⟨_, rfl⟩
  rw [← hX] at HBd ⊢
  have HXe := Lib.hid hX
  clear hx hnx hs hb hb1 hO1 hX
  go_enter Tryz.func165, Tryz.ntmps165
  go_wp2_with (go_at_call 204; refine (Len_any K _ (by omega)).mono ?_; rintro e w1 ⟨p, rfl, ⟨hp, hpk, -⟩, rfl⟩; have HPK := Lib.hid hpk; clear hpk)
  go_loopw [5, 6] (fun zv pv wr => ∃ q : Nat, pv = .int .i64 ((q : Int) - 1) ∧ q ≤ 64 ∧ Own wr w.heap.size zv (digs (X ^ (K / 2 ^ q))) ∧ Below w.heap.size w wr) (fun _ pv _ => (intOf pv + 1).toNat)
  case atStart => exact ⟨p, rfl, hp, by rw [Nat.div_eq_of_lt HPK.out, Nat.pow_zero]; exact HO1.out, HB1.out⟩
  case round =>
    obtain ⟨q, rfl, hq, ho, hb⟩ := hrel
    clear HO1 HPK
    by_cases hq0 : q = 0
    · subst hq0
      rw [Nat.pow_zero, Nat.div_one] at ho
      have HO := Lib.hid ho
      have HB := Lib.hid hb
      clear ho hb
      go_wp2
      go_ret
      exact ⟨_, rfl, HO.out, HB.out⟩
    · obtain ⟨j, hj⟩ : ∃ j, q = j + 1 := ⟨q - 1, by omega⟩
      subst hj
      have hstep := exp_step (X := X) (K := K) (p := j + 1) (by omega)
      rw [show j + 1 - 1 = j by omega] at hstep
      obtain ⟨E, hE⟩ : ∃ E, E = K / 2 ^ (j + 1) := ⟨_, rfl⟩
      obtain ⟨F, hF⟩ : ∃ F, F = K / 2 ^ j := ⟨_, rfl⟩
      rw [← hE] at hstep ho
      rw [← hF] at hstep
      have hEK : E ≤ K := by rw [hE]; exact Nat.div_le_self _ _
      have hFK : F ≤ K := by rw [hF]; exact Nat.div_le_self _ _
      have l1 := pow_small hEK HBd.out (by omega)
      have l2 := pow_small hFK HBd.out (by omega)
      have g1 : ((j + 1 : Nat) : Int) - 1 = (j : Int) := by omega
      have g2 : (K : Int) / 2 ^ j = (F : Int) := by rw [divShr, ← hF]
      have P1 := Lib.hid (product_any _ _ _ _ wr ho.rd ho.rd (norm_digs _).1 (norm_digs _).1 (by omega) (by omega))
      rw [val_digs] at P1
      obtain ⟨ao5, cap5, rfl, -⟩ := id ho
      have HB := Lib.hid hb
      have HST := Lib.hid hstep
      have HF := Lib.hid hF
      have HL2 := Lib.hid l2
      have e0 : ¬ ((j : Int) < 0) := by omega
      rw [g1]
      clear hstep hE hF l1 l2 ho hb hq0
      by_cases hbit : F % 2 = 1
      · have g3 : bits .and .i64 (F : Int) 1 = 1 := by rw [and_one]; omega
        have HST1 := Lib.hid (show X ^ E * X ^ E * X = X ^ F by have := HST.out; rwa [hbit, Nat.pow_one] at this)
        have hEE : (digs (X ^ E * X ^ E)).length ≤ 900000 := by
          rw [← Nat.pow_add]
          have : X ^ E * X ^ E * X = X ^ F := HST1.out
          rcases Nat.eq_zero_or_pos X with h0 | h0
          · rw [h0]
            rcases Nat.eq_zero_or_pos (E + E) with h1 | h1
            · rw [h1, Nat.pow_zero]; exact Nat.le_trans (digs_small (by omega)) (by omega)
            · rw [Nat.zero_pow h1, digs_zero]; simp
          · refine digs_le_len ?_ HL2.out
            rw [← this, ← Nat.pow_add]
            exact Nat.le_mul_of_pos_right _ h0
        have HEE := Lib.hid hEE
        clear hEE hbit
        go_wp2_with (first
          | (go_at_call 117; refine (P1.out).mono ?_; rintro e w2 ⟨sv, rfl, ho2, hb2⟩
             have HB2 := Lib.hid (HB.out.trans (hb2.mono HB.out.size))
             have P2 := Lib.hid (product_any _ _ _ _ w2 ho2.rd (HX.out.below HB2.out) (norm_digs _).1 HNX.out.1 (by have := HEE.out; omega) (by have := HS.out; omega))
             rw [val_digs, ← HXe.out, HST1.out] at P2
             clear P1 ho2 hb2)
          | (go_at_call 117; refine (P2.out).mono ?_; rintro e w3 ⟨sv2, rfl, ho3, hb3⟩
             have HO3 := Lib.hid (ho3.mono HB2.out.size)
             have HB3 := Lib.hid (HB2.out.trans (hb3.mono HB2.out.size))
             clear P2 ho3 hb3))
        go_roundw
        case rel => exact ⟨j, by go_num, by omega, by rw [← HF.out]; exact HO3.out, HB3.out⟩
        case measure => simp [intOf]
      · have g3 : bits .and .i64 (F : Int) 1 = 0 := by rw [and_one]; omega
        have HST1 := Lib.hid (show X ^ E * X ^ E = X ^ F by have := HST.out; rwa [show F % 2 = 0 by omega, Nat.pow_zero, Nat.mul_one] at this)
        rw [HST1.out] at P1
        go_wp2_with (go_at_call 117; refine (P1.out).mono ?_; rintro e w2 ⟨sv, rfl, ho2, hb2⟩; have HB2 := Lib.hid (HB.out.trans (hb2.mono HB.out.size)); have HO2 := Lib.hid (ho2.mono HB.out.size); clear P1 ho2 hb2)
        go_roundw
        case rel => exact ⟨j, by go_num, by omega, by rw [← HF.out]; exact HO2.out, HB2.out⟩
        case measure => simp [intOf]
end Go.Proofs.YtlhmfgbaefaneabGreatDoor.nat
