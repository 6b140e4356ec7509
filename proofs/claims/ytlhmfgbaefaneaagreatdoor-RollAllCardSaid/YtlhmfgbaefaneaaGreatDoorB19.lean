/-
  The steps of the walks, part 19: DecR, DecG, DecT.
-/
import Derived.Test.YtlhmfgbaefaneaaGreatDoorB18
import Derived.Test.YtlhmfgbaefaneaaGreatDoorB15
namespace Go.Proofs.YtlhmfgbaefaneaaGreatDoor.dec
open Go.RowKit Go.Proofs.YtlhmfgbaefaneaaGreatDoor.nat Go.Proofs.YtlhmfgbaefaneaaGreatDoor.num
open Go.Proofs.YtlhmfgbaefaneaaGreatDoor.ref (str str_size ch seg IsDig Numeral seg_lt DecBody DecForm point_first dec_step dec_low wrap_digit)
def PartOk (l : List UInt8) : Prop := 1 ≤ l.length ∧ l.length ≤ 20 ∧ ∀ i, i < l.length → IsDig l i
set_option maxRecDepth 100000 in
set_option maxHeartbeats 2000000 in
open Classical in
theorem isPart_any (l : List UInt8) (w : World) (hl : l.length ≤ 4611686018427387904) :
    Calls Tryz.prog 231 #[.string (str l)] w fun e w' => e = .returned (.bool (decide (PartOk l))) ∧ w = w' := by
  have hz : (str l).size = l.length := str_size l
  have HG := Lib.hid (fun i (h : i < (str l).size) => ch_get (l := l) h)
  have HNo := Lib.hid (fun h : ¬ PartOk l => (decide_eq_false h : decide (PartOk l) = false))
  have HYes := Lib.hid (fun h : PartOk l => (decide_eq_true h : decide (PartOk l) = true))
  have HNum := Lib.hid (show PartOk l ↔ 1 ≤ l.length ∧ l.length ≤ 20 ∧ ∀ i, i < l.length → IsDig l i from Iff.rfl)
  generalize str l = s at *
  generalize decide (PartOk l) = b at *
  generalize hn : l.length = n at *
  clear hn
  by_cases h0 : n = 0
  · have hb := HNo.out fun h => by have := (HNum.out.1 h).1; omega
    subst hb
    go_enter Tryz.func231, Tryz.ntmps231
    go_wp2
    go_ret
    exact ⟨rfl, rfl⟩
  · by_cases h4 : 20 < n
    · have hb := HNo.out fun h => by have := (HNum.out.1 h).2.1; omega
      subst hb
      go_enter Tryz.func231, Tryz.ntmps231
      go_wp2
      go_ret
      exact ⟨rfl, rfl⟩
    · have hnb : ((n : Int) == 0) = false := by simp; omega
      go_enter Tryz.func231, Tryz.ntmps231
      go_wp2
      go_loopw [14] (fun iv wr => w = wr ∧ ∃ i : Nat, i ≤ n ∧ iv = .int .i64 i ∧ ∀ j, j < i → IsDig l j) (fun iv _ => n - (intOf iv).toNat)
      case atStart => exact ⟨rfl, 0, Nat.zero_le _, rfl, fun j hj => by omega⟩
      case round =>
        obtain ⟨rfl, i, hi, rfl, hdg⟩ := hrel
        have HDg := Lib.hid hdg
        clear hdg
        by_cases hlt : i < n
        · have hgk : ∀ h : i < s.size, (s[i]'h).toNat = ch l i := fun h => HG.out _ h
          have HB := Lib.hid (show b = true → IsDig l i from fun hb => by
            by_cases hN : PartOk l
            · exact (HNum.out.1 hN).2.2 i hlt
            · rw [HNo.out hN] at hb; cases hb)
          have HC := Lib.hid (show IsDig l i ↔ 48 ≤ ch l i ∧ ch l i ≤ 57 from Iff.rfl)
          generalize ch l i = c at *
          by_cases hc1 : c < 48
          · have hb : b = false := by
              cases b with
              | false => rfl
              | true => have := HC.out.1 (HB.out rfl); omega
            subst hb
            go_wp2
            go_ret
            exact ⟨rfl, rfl⟩
          · by_cases hc2 : 57 < c
            · have hb : b = false := by
                cases b with
                | false => rfl
                | true => have := HC.out.1 (HB.out rfl); omega
              subst hb
              go_wp2
              go_ret
              exact ⟨rfl, rfl⟩
            · go_wp2
              refine ⟨⟨trivial, i + 1, by omega, by go_num, fun j hj => ?_⟩, ?_⟩
              · by_cases h3 : j < i
                · exact HDg.out j h3
                · obtain rfl : j = i := by omega
                  exact HC.out.2 ⟨by omega, by omega⟩
              · simp [intOf]; omega
        · obtain rfl : i = n := by omega
          have hb := HYes.out (HNum.out.2 ⟨by omega, by omega, HDg.out⟩)
          subst hb
          go_wp2
          go_ret
          exact ⟨rfl, rfl⟩
theorem isPart_yes (l : List UInt8) (w : World) (h : PartOk l) :
    Calls Tryz.prog 231 #[.string (str l)] w fun e w' => e = .returned (.bool true) ∧ w = w' := by
  have := isPart_any l w (by have := h.2.1; omega)
  rwa [@decide_eq_true _ (Classical.propDecidable _) h] at this
theorem body_low {t : List UInt8} {n k : Nat} (h : DecBody t n k) : n < 10 ^ t.length := by
  rcases h with ⟨-, h, rfl⟩ | ⟨a, b, rfl, h, rfl, -, -, h1, rfl⟩
  · exact seg_lt (l := t) (st := 0) (m := t.length) fun i _ hi => h.2.2.2 i (by omega)
  · have ha := seg_lt (l := a) (st := 0) (m := a.length) fun i _ hi => h.2.2.2 i (by omega)
    have hb := seg_lt (l := b) (st := 0) (m := b.length) fun i _ hi => h1 i (by omega)
    have e : 10 ^ (a ++ 46 :: b).length = 10 ^ a.length * 10 ^ b.length * 10 := by
      rw [show (a ++ 46 :: b).length = a.length + b.length + 1 by simp; omega, Nat.pow_succ, Nat.pow_add]
    rw [e]
    generalize 10 ^ a.length = A at *
    generalize 10 ^ b.length = B at *
    generalize seg a 0 a.length = x at *
    generalize seg b 0 b.length = y at *
    have h2 : (x + 1) * B ≤ A * B := Nat.mul_le_mul_right B ha
    rw [Nat.add_mul] at h2
    omega
theorem body_places {t : List UInt8} {n k : Nat} (h : DecBody t n k) : k ≤ 20 := by
  rcases h with ⟨rfl, -⟩ | ⟨a, b, -, -, -, -, h, -⟩
  · omega
  · exact h
def ReadRel (V : World) (b : List UInt8) (X P : Nat) (nv iv : Value) (wr : World) : Prop :=
  ∃ i Y : Nat, i ≤ P ∧ iv = .int .i64 i ∧ (nat.IsN wr nv Y ∧ nv ≠ .pointer none) ∧ (Y = X * 10 ^ i + seg b 0 i ∧ Y < 10 ^ (60 + i)) ∧ Below V.heap.size V wr
theorem digit_arg {c : Nat} (h1 : 48 ≤ c) (h2 : c ≤ 57) : IntKind.u64.wrap (IntKind.u8.wrap ((c : Int) - 48)) = ((c - 48 : Nat) : Int) := by rw [wrap_digit h1 h2]; omega
theorem Ln_read {Y i : Nat} (h : Y < 10 ^ (60 + i)) (hi : i ≤ 20) : Ln Y 80 := rat.Ln_tens h (by omega)
set_option maxRecDepth 100000 in
set_option maxHeartbeats 4000000 in
theorem read_whole (a : List UInt8) (w : World) (hl : a.length ≤ 60) (hn : ∀ c ∈ a, c ≠ 46) (ha : Numeral a) :
    Calls Tryz.prog 190 #[.string (str a)] w fun e w' => ∃ u, e = .returned (.tuple #[u, .int .i64 (([] : List UInt8).length : Nat), .bool true]) ∧ (nat.IsN w' u (seg a 0 a.length * 10 ^ ([] : List UInt8).length + seg ([] : List UInt8) 0 ([] : List UInt8).length) ∧ u ≠ .pointer none) ∧ Below w.heap.size w w' := by
  have HC := fun W => Cut_whole a W (by omega) hn
  obtain ⟨b, hbe⟩ : ∃ b : List UInt8, b = [] := ⟨_, rfl⟩
  rw [show str [] = str b by rw [hbe]] at HC
  have HC := Lib.hid HC
  rw [← hbe]
  have hab : a.length ≤ 60 := hl
  have hbl : b.length ≤ 20 := by rw [hbe]; decide
  have hdg : ∀ i, i < b.length → IsDig b i := by rw [hbe]; intro i hi; simp at hi
  clear hbe
  have HN := Lib.hid (fun W => nat.Get_ok a W ha)
  have hX : seg a 0 a.length < 10 ^ 60 := Nat.lt_of_lt_of_le (seg_lt (l := a) (st := 0) (m := a.length) fun i _ hi => ha.2.2.2 i (by omega)) (Nat.pow_le_pow_right (by omega) (by omega))
  have hzb : (str b).size = b.length := str_size b
  have HG := Lib.hid (fun i (h : i < (str b).size) => ch_get (l := b) h)
  generalize seg a 0 a.length = X at *
  generalize str a = s0 at *
  generalize str a = sa at *
  generalize str b = sb at *
  have HDg := Lib.hid hdg
  have HX := Lib.hid hX
  clear hl hn ha hab hdg hX
  obtain ⟨P, hP⟩ : ∃ P, b.length = P := ⟨_, rfl⟩
  rw [hP] at hbl hzb HDg ⊢
  clear hP
  go_enter Tryz.func190, Tryz.ntmps190
  go_wp2_with (first
    | (go_at_call 230; (with_reducible refine (HC.out _).mono ?_); rintro e W1 ⟨rfl, hb⟩; have HB1 := Lib.hid hb; clear hb HC)
    | (go_at_call 143; (with_reducible refine (HN.out _).mono ?_); rintro e W2 ⟨u, rfl, ⟨h_u, n_u⟩, hb⟩; have H_u := Lib.hid h_u; have N_u := Lib.hid n_u; have HB2 := Lib.hid (nat.below_tr HB1.out hb); clear h_u n_u hb HN)
    | (fail "no arm"))
  go_loopw [2, 31] (fun nv iv wr => ReadRel w b X P nv iv wr) (fun _ iv _ => P - (intOf iv).toNat)
  case atStart => exact ⟨0, X, Nat.zero_le _, rfl, ⟨H_u.out, N_u.out⟩, ⟨by rw [Nat.pow_zero, Nat.mul_one]; rfl, HX.out⟩, HB2.out⟩
  case round =>
    obtain ⟨i, Y, hi, rfl, ⟨hn, hnn⟩, ⟨hY, hlow⟩, hbv⟩ := hrel
    have HNv := Lib.hid hn
    have HNn := Lib.hid hnn
    have HY := Lib.hid hY
    have HBV := Lib.hid hbv
    clear hn hnn hY hbv
    by_cases hlt : i < P
    · have hgk : ∀ h : i < sb.size, (sb[i]'h).toNat = ch b i := fun h => HG.out _ h
      have hdi := HDg.out i hlt
      unfold IsDig at hdi
      obtain ⟨hc1, hc2⟩ := hdi
      have HSt := Lib.hid (fun c (hc : ch b i = c) => dec_step HY.out hc)
      have HLow := Lib.hid (fun d (hd : d ≤ 9) => dec_low hlow hd)
      have HLn := Lib.hid (Ln_read hlow (by omega))
      generalize hc : ch b i = c at *
      have HDA := Lib.hid (digit_arg hc1 hc2)
      have hcd : c - 48 < 18446744073709551616 := by omega
      have hcd9 := Lib.hid (show c - 48 ≤ 9 by omega)
      have MU := Lib.hid (fun W v0 v1 (h0 : nat.IsN W v0 Y) (h1 : nat.IsN W v1 10) => nat.Mul_any v0 v1 Y 10 W h0 h1 (HLn.out.le (by decide)) ((Ln_small (x := 10) (by decide)).le (by decide)))
      have AD := Lib.hid (fun W v0 v1 (h0 : nat.IsN W v0 (Y * 10)) (h1 : nat.IsN W v1 (c - 48)) => nat.Add_any v0 v1 (Y * 10) (c - 48) W h0 h1 ((Ln_mul HLn.out (Ln_small (x := 10) (by decide))).le (by decide)) ((Ln_small (x := c - 48) hcd).le (by decide)))
      clear hlow hc
      go_wp2
      go_region_held3 (fun w' => Below wr.heap.size wr w')
        (first
          | exact (Below.refl _ _).drew
          | exact HB6.out
          | exact HB5.out
          | exact HB4.out
          | exact HB3.out)
        (first
        | (go_at_call 134; (with_reducible refine (nat.Of_int 10 10 rfl (by decide) _).mono ?_); rintro e W3 ⟨t, rfl, ⟨h_t, n_t⟩, hb⟩; have H_t := Lib.hid h_t; have HB3 := Lib.hid (nat.below_tr (Below.refl _ _).drew hb); clear h_t n_t hb)
        | (go_at_call 131; (with_reducible refine (MU.out _ _ _ (HNv.out.below HB3.out) H_t.out).mono ?_); rintro e W4 ⟨m, rfl, ⟨h_m, n_m⟩, hb⟩; have H_m := Lib.hid h_m; have HB4 := Lib.hid (nat.below_tr HB3.out hb); clear h_m n_m hb)
        | (go_at_call 134; (with_reducible refine (nat.Of_int _ (c - 48) HDA.out hcd _).mono ?_); rintro e W5 ⟨d, rfl, ⟨h_d, n_d⟩, hb⟩; have H_d := Lib.hid h_d; have H_m5 := Lib.hid (H_m.out.below hb); have HB5 := Lib.hid (nat.below_tr HB4.out hb); clear h_d n_d hb)
        | (go_at_call 141; (with_reducible refine (AD.out _ _ _ H_m5.out H_d.out).mono ?_); rintro e W6 ⟨v, rfl, ⟨h_v, n_v⟩, hb⟩; have H_v := Lib.hid h_v; have N_v := Lib.hid n_v; have HB6 := Lib.hid (nat.below_tr HB5.out hb); clear h_v n_v hb)
        | (fail "no arm"))
      all_goals go_wp2
      all_goals
        refine ⟨⟨i + 1, Y * 10 + (c - 48), by omega, by go_num, ⟨H_v.out, N_v.out⟩, ⟨HSt.out c rfl, HLow.out _ hcd9.out⟩, nat.below_tr HBV.out HB6.out⟩, ?_⟩
        simp [intOf]
        omega
    · obtain rfl : i = P := by omega
      go_wp2
      go_ret3
      exact ⟨_, rfl, ⟨by rw [← HY.out]; exact HNv.out, HNn.out⟩, HBV.out⟩
set_option maxRecDepth 100000 in
set_option maxHeartbeats 4000000 in
theorem read_point (a b : List UInt8) (w : World) (hl : (a ++ 46 :: b).length ≤ 60) (hn : ∀ c ∈ a, c ≠ 46) (ha : Numeral a) (hb : PartOk b) :
    Calls Tryz.prog 190 #[.string (str (a ++ 46 :: b))] w fun e w' => ∃ u, e = .returned (.tuple #[u, .int .i64 (b.length : Nat), .bool true]) ∧ (nat.IsN w' u (seg a 0 a.length * 10 ^ b.length + seg b 0 b.length) ∧ u ≠ .pointer none) ∧ Below w.heap.size w w' := by
  have HC := Lib.hid (fun W => Cut_point a b W (by omega) hn)
  have HP := Lib.hid (fun W => isPart_yes b W hb)
  have hab : a.length + 1 + b.length ≤ 60 := by simp at hl; omega
  have hbl : b.length ≤ 20 := hb.2.1
  have hdg := hb.2.2
  have HN := Lib.hid (fun W => nat.Get_ok a W ha)
  have hX : seg a 0 a.length < 10 ^ 60 := Nat.lt_of_lt_of_le (seg_lt (l := a) (st := 0) (m := a.length) fun i _ hi => ha.2.2.2 i (by omega)) (Nat.pow_le_pow_right (by omega) (by omega))
  have hzb : (str b).size = b.length := str_size b
  have HG := Lib.hid (fun i (h : i < (str b).size) => ch_get (l := b) h)
  generalize seg a 0 a.length = X at *
  generalize str (a ++ 46 :: b) = s0 at *
  generalize str a = sa at *
  generalize str b = sb at *
  have HDg := Lib.hid hdg
  have HX := Lib.hid hX
  clear hl hn ha hab hdg hX hb
  obtain ⟨P, hP⟩ : ∃ P, b.length = P := ⟨_, rfl⟩
  rw [hP] at hbl hzb HDg ⊢
  clear hP
  go_enter Tryz.func190, Tryz.ntmps190
  go_wp2_with (first
    | (go_at_call 230; (with_reducible refine (HC.out _).mono ?_); rintro e W1 ⟨rfl, hb⟩; have HB1 := Lib.hid hb; clear hb HC)
    | (go_at_call 231; (with_reducible refine (HP.out _).mono ?_); rintro e w9 ⟨rfl, rfl⟩; clear HP)
    | (go_at_call 143; (with_reducible refine (HN.out _).mono ?_); rintro e W2 ⟨u, rfl, ⟨h_u, n_u⟩, hb⟩; have H_u := Lib.hid h_u; have N_u := Lib.hid n_u; have HB2 := Lib.hid (nat.below_tr HB1.out hb); clear h_u n_u hb HN)
    | (fail "no arm"))
  go_loopw [2, 31] (fun nv iv wr => ReadRel w b X P nv iv wr) (fun _ iv _ => P - (intOf iv).toNat)
  case atStart => exact ⟨0, X, Nat.zero_le _, rfl, ⟨H_u.out, N_u.out⟩, ⟨by rw [Nat.pow_zero, Nat.mul_one]; rfl, HX.out⟩, HB2.out⟩
  case round =>
    obtain ⟨i, Y, hi, rfl, ⟨hn, hnn⟩, ⟨hY, hlow⟩, hbv⟩ := hrel
    have HNv := Lib.hid hn
    have HNn := Lib.hid hnn
    have HY := Lib.hid hY
    have HBV := Lib.hid hbv
    clear hn hnn hY hbv
    by_cases hlt : i < P
    · have hgk : ∀ h : i < sb.size, (sb[i]'h).toNat = ch b i := fun h => HG.out _ h
      have hdi := HDg.out i hlt
      unfold IsDig at hdi
      obtain ⟨hc1, hc2⟩ := hdi
      have HSt := Lib.hid (fun c (hc : ch b i = c) => dec_step HY.out hc)
      have HLow := Lib.hid (fun d (hd : d ≤ 9) => dec_low hlow hd)
      have HLn := Lib.hid (Ln_read hlow (by omega))
      generalize hc : ch b i = c at *
      have HDA := Lib.hid (digit_arg hc1 hc2)
      have hcd : c - 48 < 18446744073709551616 := by omega
      have hcd9 := Lib.hid (show c - 48 ≤ 9 by omega)
      have MU := Lib.hid (fun W v0 v1 (h0 : nat.IsN W v0 Y) (h1 : nat.IsN W v1 10) => nat.Mul_any v0 v1 Y 10 W h0 h1 (HLn.out.le (by decide)) ((Ln_small (x := 10) (by decide)).le (by decide)))
      have AD := Lib.hid (fun W v0 v1 (h0 : nat.IsN W v0 (Y * 10)) (h1 : nat.IsN W v1 (c - 48)) => nat.Add_any v0 v1 (Y * 10) (c - 48) W h0 h1 ((Ln_mul HLn.out (Ln_small (x := 10) (by decide))).le (by decide)) ((Ln_small (x := c - 48) hcd).le (by decide)))
      clear hlow hc
      go_wp2
      go_region_held3 (fun w' => Below wr.heap.size wr w')
        (first
          | exact (Below.refl _ _).drew
          | exact HB6.out
          | exact HB5.out
          | exact HB4.out
          | exact HB3.out)
        (first
        | (go_at_call 134; (with_reducible refine (nat.Of_int 10 10 rfl (by decide) _).mono ?_); rintro e W3 ⟨t, rfl, ⟨h_t, n_t⟩, hb⟩; have H_t := Lib.hid h_t; have HB3 := Lib.hid (nat.below_tr (Below.refl _ _).drew hb); clear h_t n_t hb)
        | (go_at_call 131; (with_reducible refine (MU.out _ _ _ (HNv.out.below HB3.out) H_t.out).mono ?_); rintro e W4 ⟨m, rfl, ⟨h_m, n_m⟩, hb⟩; have H_m := Lib.hid h_m; have HB4 := Lib.hid (nat.below_tr HB3.out hb); clear h_m n_m hb)
        | (go_at_call 134; (with_reducible refine (nat.Of_int _ (c - 48) HDA.out hcd _).mono ?_); rintro e W5 ⟨d, rfl, ⟨h_d, n_d⟩, hb⟩; have H_d := Lib.hid h_d; have H_m5 := Lib.hid (H_m.out.below hb); have HB5 := Lib.hid (nat.below_tr HB4.out hb); clear h_d n_d hb)
        | (go_at_call 141; (with_reducible refine (AD.out _ _ _ H_m5.out H_d.out).mono ?_); rintro e W6 ⟨v, rfl, ⟨h_v, n_v⟩, hb⟩; have H_v := Lib.hid h_v; have N_v := Lib.hid n_v; have HB6 := Lib.hid (nat.below_tr HB5.out hb); clear h_v n_v hb)
        | (fail "no arm"))
      all_goals go_wp2
      all_goals
        refine ⟨⟨i + 1, Y * 10 + (c - 48), by omega, by go_num, ⟨H_v.out, N_v.out⟩, ⟨HSt.out c rfl, HLow.out _ hcd9.out⟩, nat.below_tr HBV.out HB6.out⟩, ?_⟩
        simp [intOf]
        omega
    · obtain rfl : i = P := by omega
      go_wp2
      go_ret3
      exact ⟨_, rfl, ⟨by rw [← HY.out]; exact HNv.out, HNn.out⟩, HBV.out⟩
theorem read_ok (t : List UInt8) (n k : Nat) (w : World) (hl : t.length ≤ 60) (h : DecBody t n k) :
    Calls Tryz.prog 190 #[.string (str t)] w fun e w' => ∃ u, e = .returned (.tuple #[u, .int .i64 (k : Nat), .bool true]) ∧ (nat.IsN w' u n ∧ u ≠ .pointer none) ∧ Below w.heap.size w w' := by
  rcases point_first t with hn | ⟨a, b, rfl, hn⟩
  · obtain ⟨rfl, h1, rfl⟩ := h.whole hn
    refine (read_whole t w hl hn h1).mono ?_
    rintro e w' ⟨u, rfl, hu, hb⟩
    exact ⟨u, rfl, ⟨by simpa [seg] using hu.1, hu.2⟩, hb⟩
  · obtain ⟨h1, rfl, h2, h3, h4, rfl⟩ := h.parts hn
    exact read_point a b w hl hn h1 ⟨h2, h3, h4⟩
end Go.Proofs.YtlhmfgbaefaneaaGreatDoor.dec
namespace Go.Proofs.YtlhmfgbaefaneaaGreatDoor.dec
open Go.RowKit Go.Proofs.YtlhmfgbaefaneaaGreatDoor.nat Go.Proofs.YtlhmfgbaefaneaaGreatDoor.num
open Go.Proofs.YtlhmfgbaefaneaaGreatDoor.ref (str str_size ch seg IsDig Numeral seg_lt DecBody DecForm signed)
set_option maxRecDepth 100000 in
set_option maxHeartbeats 4000000 in
theorem Get_plain (t : List UInt8) (n k : Nat) (w : World) (hl : t.length ≤ 60) (hm : ∀ u, t ≠ 45 :: u) (h : DecBody t n k) :
    Calls Tryz.prog 147 #[.string (str t)] w fun e w' => ∃ u, e = .returned (.tuple #[u, .int .i64 (k : Nat), .nilIface]) ∧ (rat.IsR w' u (((signed false n : Int) : Rat) / (((10 ^ k : Nat) : Int) : Rat)) ∧ u ≠ .pointer none) ∧ Below w.heap.size w w' := by
  have hz0 : (str t).size = t.length := str_size _
  have hlt : t.length ≤ 60 := by exact hl
  have HC := Lib.hid (fun W => num.Cut_none t W (by omega) hm)
  have HR := Lib.hid (fun W => read_ok t n k W hlt h)
  have hk := body_places h
  have hln : Ln n 60 := rat.Ln_tens (body_low h) hlt
  have h10 := Ln_ten hk
  have HT := Lib.hid (fun W => tenPower_any k W hk)
  have HN := Lib.hid (fun W v (hv : nat.IsN W v n) => num.New_any false v n W hv)
  rw [sgn_signed] at HN
  have HD := fun W v (hv : nat.IsN W v (10 ^ k)) => num.New_any false v (10 ^ k) W hv
  rw [show num.sgn false (10 ^ k) = ((10 ^ k : Nat) : Int) from rfl] at HD
  have HD := Lib.hid HD
  have HQ := Lib.hid (fun W a b (ha : num.IsZ W a (signed false n)) (hb : num.IsZ W b ((10 ^ k : Nat) : Int)) => rat.New_ok a b _ _ W ha hb (show Lz (signed false n) 300000 from by unfold Lz signed; simp only [Bool.false_eq_true, if_false, Int.natAbs_natCast]; exact hln.le (by decide)) (show Lz ((10 ^ k : Nat) : Int) 300000 from by unfold Lz; rw [Int.natAbs_natCast]; exact h10.le (by decide)) (by have : 0 < 10 ^ k := Nat.pow_pos (by omega); omega))
  generalize ((signed false n : Int) : Rat) / (((10 ^ k : Nat) : Int) : Rat) = q at *
  generalize signed false n = Z at *
  generalize 10 ^ k = P at *
  generalize str t = s0 at *
  generalize t.length = N at *
  clear hlt hk hln h10 h hm
  go_enter Tryz.func147, Tryz.ntmps147
  go_wp2_with (first
    | (go_at_call 189; (with_reducible refine (HC.out _).mono ?_); rintro e w1 ⟨rfl, rfl⟩; clear HC)
    | (go_at_call 190; (with_reducible refine (HR.out _).mono ?_); rintro e W1 ⟨u, rfl, ⟨h_u, n_u⟩, hb⟩; have H_u := Lib.hid h_u; have HB1 := Lib.hid hb; clear h_u n_u hb HR)
    | (go_at_call 128; (with_reducible refine (HN.out _ _ H_u.out).mono ?_); rintro e W2 ⟨z, rfl, ⟨h_z, n_z⟩, hb⟩; have H_z := Lib.hid h_z; have HB2 := Lib.hid (nat.below_tr HB1.out hb); clear h_z n_z hb HN)
    | (go_at_call 191; (with_reducible refine (HT.out _).mono ?_); rintro e W3 ⟨t, rfl, ⟨h_t, n_t⟩, hb⟩; have H_t := Lib.hid h_t; have H_z3 := Lib.hid (H_z.out.below hb); have HB3 := Lib.hid (nat.below_tr HB2.out hb); clear h_t n_t hb HT)
    | (go_at_call 128; (with_reducible refine (HD.out _ _ H_t.out).mono ?_); rintro e W4 ⟨d, rfl, ⟨h_d, n_d⟩, hb⟩; have H_d := Lib.hid h_d; have H_z4 := Lib.hid (H_z3.out.below hb); have HB4 := Lib.hid (nat.below_tr HB3.out hb); clear h_d n_d hb HD)
    | (go_at_call 97; (with_reducible refine (HQ.out _ _ _ H_z4.out H_d.out).mono ?_); rintro e W5 ⟨v, rfl, ⟨h_v, n_v⟩, hb⟩; have H_v := Lib.hid h_v; have N_v := Lib.hid n_v; have HB5 := Lib.hid (nat.below_tr HB4.out hb); clear h_v n_v hb HQ)
    | (fail "no arm"))
  go_ret3
  exact ⟨_, rfl, ⟨H_v.out, N_v.out⟩, HB5.out⟩
set_option maxRecDepth 100000 in
set_option maxHeartbeats 4000000 in
theorem Get_minus (t : List UInt8) (n k : Nat) (w : World) (hl : (45 :: t).length ≤ 60) (h0 : ¬ n = 0) (h : DecBody t n k) :
    Calls Tryz.prog 147 #[.string (str (45 :: t))] w fun e w' => ∃ u, e = .returned (.tuple #[u, .int .i64 (k : Nat), .nilIface]) ∧ (rat.IsR w' u (((signed true n : Int) : Rat) / (((10 ^ k : Nat) : Int) : Rat)) ∧ u ≠ .pointer none) ∧ Below w.heap.size w w' := by
  have hz0 : (str (45 :: t)).size = (45 :: t).length := str_size _
  have hlt : t.length ≤ 60 := by simp at hl; omega
  have HC := Lib.hid (fun W => num.Cut_minus t W (by omega))
  have HR := Lib.hid (fun W => read_ok t n k W hlt h)
  have hk := body_places h
  have hln : Ln n 60 := rat.Ln_tens (body_low h) hlt
  have h10 := Ln_ten hk
  have HZ := Lib.hid (fun W v (hv : nat.IsN W v n) => nat.Zero_any v n W hv)
  rw [decide_eq_false h0] at HZ
  have HT := Lib.hid (fun W => tenPower_any k W hk)
  have HN := Lib.hid (fun W v (hv : nat.IsN W v n) => num.New_any true v n W hv)
  rw [sgn_signed] at HN
  have HD := fun W v (hv : nat.IsN W v (10 ^ k)) => num.New_any false v (10 ^ k) W hv
  rw [show num.sgn false (10 ^ k) = ((10 ^ k : Nat) : Int) from rfl] at HD
  have HD := Lib.hid HD
  have HQ := Lib.hid (fun W a b (ha : num.IsZ W a (signed true n)) (hb : num.IsZ W b ((10 ^ k : Nat) : Int)) => rat.New_ok a b _ _ W ha hb (show Lz (signed true n) 300000 from by unfold Lz signed; simp only [if_true, Int.natAbs_neg, Int.natAbs_natCast]; exact hln.le (by decide)) (show Lz ((10 ^ k : Nat) : Int) 300000 from by unfold Lz; rw [Int.natAbs_natCast]; exact h10.le (by decide)) (by have : 0 < 10 ^ k := Nat.pow_pos (by omega); omega))
  generalize ((signed true n : Int) : Rat) / (((10 ^ k : Nat) : Int) : Rat) = q at *
  generalize signed true n = Z at *
  generalize 10 ^ k = P at *
  generalize str (45 :: t) = s0 at *
  generalize str t = s1 at *
  generalize (45 :: t).length = N at *
  clear hlt hk hln h10 h h0
  go_enter Tryz.func147, Tryz.ntmps147
  go_wp2_with (first
    | (go_at_call 189; (with_reducible refine (HC.out _).mono ?_); rintro e w1 ⟨rfl, rfl⟩; clear HC)
    | (go_at_call 190; (with_reducible refine (HR.out _).mono ?_); rintro e W1 ⟨u, rfl, ⟨h_u, n_u⟩, hb⟩; have H_u := Lib.hid h_u; have HB1 := Lib.hid hb; clear h_u n_u hb HR)
    | (go_at_call 164; (with_reducible refine (HZ.out _ _ H_u.out).mono ?_); rintro e w9 ⟨rfl, rfl⟩; clear HZ)
    | (go_at_call 128; (with_reducible refine (HN.out _ _ H_u.out).mono ?_); rintro e W2 ⟨z, rfl, ⟨h_z, n_z⟩, hb⟩; have H_z := Lib.hid h_z; have HB2 := Lib.hid (nat.below_tr HB1.out hb); clear h_z n_z hb HN)
    | (go_at_call 191; (with_reducible refine (HT.out _).mono ?_); rintro e W3 ⟨t, rfl, ⟨h_t, n_t⟩, hb⟩; have H_t := Lib.hid h_t; have H_z3 := Lib.hid (H_z.out.below hb); have HB3 := Lib.hid (nat.below_tr HB2.out hb); clear h_t n_t hb HT)
    | (go_at_call 128; (with_reducible refine (HD.out _ _ H_t.out).mono ?_); rintro e W4 ⟨d, rfl, ⟨h_d, n_d⟩, hb⟩; have H_d := Lib.hid h_d; have H_z4 := Lib.hid (H_z3.out.below hb); have HB4 := Lib.hid (nat.below_tr HB3.out hb); clear h_d n_d hb HD)
    | (go_at_call 97; (with_reducible refine (HQ.out _ _ _ H_z4.out H_d.out).mono ?_); rintro e W5 ⟨v, rfl, ⟨h_v, n_v⟩, hb⟩; have H_v := Lib.hid h_v; have N_v := Lib.hid n_v; have HB5 := Lib.hid (nat.below_tr HB4.out hb); clear h_v n_v hb HQ)
    | (fail "no arm"))
  go_ret3
  exact ⟨_, rfl, ⟨H_v.out, N_v.out⟩, HB5.out⟩
theorem Get_ok (l : List UInt8) (neg : Bool) (n k : Nat) (w : World) (h : DecForm l neg n k) :
    Calls Tryz.prog 147 #[.string (str l)] w fun e w' => ∃ u, e = .returned (.tuple #[u, .int .i64 (k : Nat), .nilIface]) ∧ (rat.IsR w' u (((signed neg n : Int) : Rat) / (((10 ^ k : Nat) : Int) : Rat)) ∧ u ≠ .pointer none) ∧ Below w.heap.size w w' := by
  obtain ⟨hl, t, rfl, h0, hb⟩ := h
  cases neg
  · refine Get_plain t n k w hl ?_ hb
    rintro u rfl
    obtain ⟨c, v, he, hc, -⟩ := hb.head
    simp at he
    obtain ⟨rfl, -⟩ := he
    simp at hc
  · exact Get_minus t n k w hl (h0 rfl) hb
end Go.Proofs.YtlhmfgbaefaneaaGreatDoor.dec
namespace Go.Proofs.YtlhmfgbaefaneaaGreatDoor.dec
open Go.RowKit Go.Proofs.YtlhmfgbaefaneaaGreatDoor.nat Go.Proofs.YtlhmfgbaefaneaaGreatDoor.num
open Go.Proofs.YtlhmfgbaefaneaaGreatDoor.rat (IsR Lr)
open Go.Proofs.YtlhmfgbaefaneaaGreatDoor.ref (str str_size str_append nearN nearUp signed decText)
theorem dec_pos (x : Nat) : 1 ≤ (Lib.decDigits x).length := by
  rw [Lib.decDigits_length]
  by_cases h : x < 10
  · rw [Lib.nDigits_small h]; exact Nat.le_refl _
  · rw [Lib.nDigits_big (by omega)]; omega
set_option maxRecDepth 100000 in
set_option maxHeartbeats 4000000 in
theorem text_pad_plain (a : Value) (x k : Nat) (w : World) (ha : nat.IsN w a x) (hx : Ln x 40000) (hk : k ≤ 20) (hm : (Lib.decDigits x).length ≤ k) (hk0 : 0 < k) :
    Calls Tryz.prog 187 #[.bool false, a, .int .i64 (k : Nat)] w fun e w' => e = .returned (.string (str (decText (signed false x) k))) ∧ Below w.heap.size w w' := by
  have HT := Lib.hid (nat.Text_any a x w ha hx)
  have HA := Lib.hid ha
  have hl1 := dec_pos x
  have hl2 := dec_size hx
  rw [str_size] at hl2
  rw [text_of, if_neg (by simp)]
  unfold ref.decBody
  rw [if_neg (by omega)]
  clear ha hx
  generalize Lib.decDigits x = L at *
  obtain ⟨l, hl⟩ : ∃ l, L.length = l := ⟨_, rfl⟩
  rw [hl] at hl1 hl2 hm
  have hsl : (str L).size = l := by rw [str_size, hl]
  obtain ⟨m, hmm⟩ : ∃ m, m = k + 1 - l := ⟨_, rfl⟩
  have hpad : ref.padTo L k = List.replicate m 48 ++ L := by unfold ref.padTo; rw [hl, hmm]
  have hrs : (str (List.replicate m 48)).size = m := by rw [str_size, List.length_replicate]
  have hcat : str (List.replicate m 48) ++ str L = str (ref.padTo L k) := by rw [hpad, str_append]
  have hNL : (ref.padTo L k).length = k + 1 := by rw [ref.padTo_length]; omega
  have HRp := Lib.hid (fun z (hz : z = (m : Int)) W => Repeat_nought z m hz W (by omega) (by omega))
  have hmi : (0 : Int) < (k : Int) + 1 - (l : Int) := by omega
  have hz1 : ¬ 9223372036854775807 < (str (List.replicate m 48)).size + (str L).size := by omega
  have HMM := Lib.hid (show (k : Int) + 1 - (l : Int) = (m : Int) by omega)
  obtain ⟨N, hN⟩ : ∃ N, N = k + 1 := ⟨_, rfl⟩
  rw [← hN] at hNL
  clear hpad
  generalize ref.padTo L k = D at *
  generalize str (List.replicate m 48) = sr at *
  have hNk : k < N := by omega
  have hNb : N ≤ 900000 := by omega
  have hDl : D.length = N := by exact hNL
  have hx1 : (str D).extract 0 (N - k) = str (D.take (N - k)) := by apply ByteArray.ext; simp [str]
  have hx2 : (str D).extract (N - k) N = str (D.drop (N - k)) := by
    apply ByteArray.ext
    simp [str, List.take_of_length_le, hDl]
  have hy1 : (str (D.take (N - k))).size = N - k := by rw [str_size, List.length_take]; omega
  have hy2 : (str (D.drop (N - k))).size = k := by rw [str_size, List.length_drop]; omega
  rw [hDl]
  have hS : str (D.take (N - k)) ++ ({ data := #[46] } : ByteArray) ++ str (D.drop (N - k)) = str (D.take (N - k) ++ 46 :: D.drop (N - k)) := by
    rw [show ({ data := #[46] } : ByteArray) = str [46] from rfl, str_append, str_append, List.append_assoc]
    rfl
  have hsD : (str D).size = N := by rw [str_size, hDl]
  generalize D.take (N - k) ++ 46 :: D.drop (N - k) = T at *
  generalize str (D.take (N - k)) = a1 at *
  generalize str (D.drop (N - k)) = a2 at *
  obtain ⟨M, hM⟩ : ∃ M, M = N - k := ⟨_, rfl⟩
  rw [← hM] at hx1 hx2 hy1
  have hMi : (N : Int) - (k : Int) = (M : Int) := by omega
  have hM1 : (M : Int) ≤ (N : Int) := by omega
  have hk0b : (0 : Int) < (k : Int) := by omega
  have h46 : ({ data := #[46] } : ByteArray).size = 1 := rfl
  have hs1 : ¬ 9223372036854775807 < a1.size + ({ data := #[46] } : ByteArray).size := by omega
  have hs2 : ¬ 9223372036854775807 < (a1 ++ ({ data := #[46] } : ByteArray)).size + a2.size := by rw [ByteArray.size_append]; omega
  have hs3 : ¬ 9223372036854775807 < a1.size + 1 := by omega
  have hs4 : ¬ 9223372036854775807 < a1.size + 1 + a2.size := by omega
  have HS := Lib.hid hS
  generalize hsDD : str D = sD at *
  have HM := Lib.hid hM
  clear hS hM hDl hm hsDD hk hNL hN hl hmm
  generalize str L = sL at *
  generalize str T = sT at *
  go_enter Tryz.func187, Tryz.ntmps187
  go_wp2_with (first
    | (go_at_call 135; (with_reducible refine (HT.out).mono ?_); rintro e W1 ⟨rfl, hb⟩
       have HA1 := Lib.hid (HA.out.below hb)
       have HB1 := Lib.hid hb
       clear hb)
    | (go_at_call 121; (with_reducible refine (HRp.out _ HMM.out _).mono ?_); rintro e W2 ⟨rfl, hb⟩
       have HA2 := Lib.hid (HA1.out.below hb)
       have HB2 := Lib.hid (nat.below_tr HB1.out hb)
       clear hb)
    | (fail "no arm"))
  go_quiet (fail)
  go_wp2_with (first
    | (go_at_call 135; (with_reducible refine (HT.out).mono ?_); rintro e W1 ⟨rfl, hb⟩
       have HA1 := Lib.hid (HA.out.below hb)
       have HB1 := Lib.hid hb
       clear hb)
    | (go_at_call 121; (with_reducible refine (HRp.out _ HMM.out _).mono ?_); rintro e W2 ⟨rfl, hb⟩
       have HA2 := Lib.hid (HA1.out.below hb)
       have HB2 := Lib.hid (nat.below_tr HB1.out hb)
       clear hb)
    | (fail "no arm"))
  go_ret
  exact ⟨by rw [← HS.out]; rfl, nat.drewN_below HB2.out _⟩
set_option maxRecDepth 100000 in
set_option maxHeartbeats 4000000 in
theorem text_pad_nought (a : Value) (x k : Nat) (w : World) (ha : nat.IsN w a x) (hx : Ln x 40000) (hk : k ≤ 20) (hm : (Lib.decDigits x).length ≤ k) (hk0 : 0 < k) (h0 : x = 0) :
    Calls Tryz.prog 187 #[.bool true, a, .int .i64 (k : Nat)] w fun e w' => e = .returned (.string (str (decText (signed true x) k))) ∧ Below w.heap.size w w' := by
  have HT := Lib.hid (nat.Text_any a x w ha hx)
  have HA := Lib.hid ha
  have HZ := Lib.hid (fun W (h : nat.IsN W a x) => nat.Zero_any a x W h)
  rw [decide_eq_true h0] at HZ
  have hl1 := dec_pos x
  have hl2 := dec_size hx
  rw [str_size] at hl2
  rw [text_of, if_neg (fun h => h.2 h0)]
  unfold ref.decBody
  rw [if_neg (by omega)]
  clear ha hx h0
  generalize Lib.decDigits x = L at *
  obtain ⟨l, hl⟩ : ∃ l, L.length = l := ⟨_, rfl⟩
  rw [hl] at hl1 hl2 hm
  have hsl : (str L).size = l := by rw [str_size, hl]
  obtain ⟨m, hmm⟩ : ∃ m, m = k + 1 - l := ⟨_, rfl⟩
  have hpad : ref.padTo L k = List.replicate m 48 ++ L := by unfold ref.padTo; rw [hl, hmm]
  have hrs : (str (List.replicate m 48)).size = m := by rw [str_size, List.length_replicate]
  have hcat : str (List.replicate m 48) ++ str L = str (ref.padTo L k) := by rw [hpad, str_append]
  have hNL : (ref.padTo L k).length = k + 1 := by rw [ref.padTo_length]; omega
  have HRp := Lib.hid (fun z (hz : z = (m : Int)) W => Repeat_nought z m hz W (by omega) (by omega))
  have hmi : (0 : Int) < (k : Int) + 1 - (l : Int) := by omega
  have hz1 : ¬ 9223372036854775807 < (str (List.replicate m 48)).size + (str L).size := by omega
  have HMM := Lib.hid (show (k : Int) + 1 - (l : Int) = (m : Int) by omega)
  obtain ⟨N, hN⟩ : ∃ N, N = k + 1 := ⟨_, rfl⟩
  rw [← hN] at hNL
  clear hpad
  generalize ref.padTo L k = D at *
  generalize str (List.replicate m 48) = sr at *
  have hNk : k < N := by omega
  have hNb : N ≤ 900000 := by omega
  have hDl : D.length = N := by exact hNL
  have hx1 : (str D).extract 0 (N - k) = str (D.take (N - k)) := by apply ByteArray.ext; simp [str]
  have hx2 : (str D).extract (N - k) N = str (D.drop (N - k)) := by
    apply ByteArray.ext
    simp [str, List.take_of_length_le, hDl]
  have hy1 : (str (D.take (N - k))).size = N - k := by rw [str_size, List.length_take]; omega
  have hy2 : (str (D.drop (N - k))).size = k := by rw [str_size, List.length_drop]; omega
  rw [hDl]
  have hS : str (D.take (N - k)) ++ ({ data := #[46] } : ByteArray) ++ str (D.drop (N - k)) = str (D.take (N - k) ++ 46 :: D.drop (N - k)) := by
    rw [show ({ data := #[46] } : ByteArray) = str [46] from rfl, str_append, str_append, List.append_assoc]
    rfl
  have hsD : (str D).size = N := by rw [str_size, hDl]
  generalize D.take (N - k) ++ 46 :: D.drop (N - k) = T at *
  generalize str (D.take (N - k)) = a1 at *
  generalize str (D.drop (N - k)) = a2 at *
  obtain ⟨M, hM⟩ : ∃ M, M = N - k := ⟨_, rfl⟩
  rw [← hM] at hx1 hx2 hy1
  have hMi : (N : Int) - (k : Int) = (M : Int) := by omega
  have hM1 : (M : Int) ≤ (N : Int) := by omega
  have hk0b : (0 : Int) < (k : Int) := by omega
  have h46 : ({ data := #[46] } : ByteArray).size = 1 := rfl
  have hs1 : ¬ 9223372036854775807 < a1.size + ({ data := #[46] } : ByteArray).size := by omega
  have hs2 : ¬ 9223372036854775807 < (a1 ++ ({ data := #[46] } : ByteArray)).size + a2.size := by rw [ByteArray.size_append]; omega
  have hs3 : ¬ 9223372036854775807 < a1.size + 1 := by omega
  have hs4 : ¬ 9223372036854775807 < a1.size + 1 + a2.size := by omega
  have HS := Lib.hid hS
  generalize hsDD : str D = sD at *
  have HM := Lib.hid hM
  clear hS hM hDl hm hsDD hk hNL hN hl hmm
  generalize str L = sL at *
  generalize str T = sT at *
  go_enter Tryz.func187, Tryz.ntmps187
  go_wp2_with (first
    | (go_at_call 135; (with_reducible refine (HT.out).mono ?_); rintro e W1 ⟨rfl, hb⟩
       have HA1 := Lib.hid (HA.out.below hb)
       have HB1 := Lib.hid hb
       clear hb)
    | (go_at_call 121; (with_reducible refine (HRp.out _ HMM.out _).mono ?_); rintro e W2 ⟨rfl, hb⟩
       have HA2 := Lib.hid (HA1.out.below hb)
       have HB2 := Lib.hid (nat.below_tr HB1.out hb)
       clear hb)
    | (go_at_call 164; (with_reducible refine (HZ.out _ (HA2.out.below (nat.drew_below _ _))).mono ?_); rintro e W3 ⟨rfl, rfl⟩)
    | (fail "no arm"))
  go_quiet (fail)
  go_wp2_with (first
    | (go_at_call 135; (with_reducible refine (HT.out).mono ?_); rintro e W1 ⟨rfl, hb⟩
       have HA1 := Lib.hid (HA.out.below hb)
       have HB1 := Lib.hid hb
       clear hb)
    | (go_at_call 121; (with_reducible refine (HRp.out _ HMM.out _).mono ?_); rintro e W2 ⟨rfl, hb⟩
       have HA2 := Lib.hid (HA1.out.below hb)
       have HB2 := Lib.hid (nat.below_tr HB1.out hb)
       clear hb)
    | (go_at_call 164; (with_reducible refine (HZ.out _ (HA2.out.below (nat.drew_below _ _))).mono ?_); rintro e W3 ⟨rfl, rfl⟩)
    | (fail "no arm"))
  go_ret
  exact ⟨by rw [← HS.out]; rfl, nat.drewN_below HB2.out _⟩
set_option maxRecDepth 100000 in
set_option maxHeartbeats 4000000 in
theorem text_pad_minus (a : Value) (x k : Nat) (w : World) (ha : nat.IsN w a x) (hx : Ln x 40000) (hk : k ≤ 20) (hm : (Lib.decDigits x).length ≤ k) (hk0 : 0 < k) (h0 : ¬ x = 0) :
    Calls Tryz.prog 187 #[.bool true, a, .int .i64 (k : Nat)] w fun e w' => e = .returned (.string (str (decText (signed true x) k))) ∧ Below w.heap.size w w' := by
  have HT := Lib.hid (nat.Text_any a x w ha hx)
  have HA := Lib.hid ha
  have HZ := Lib.hid (fun W (h : nat.IsN W a x) => nat.Zero_any a x W h)
  rw [decide_eq_false h0] at HZ
  have hl1 := dec_pos x
  have hl2 := dec_size hx
  rw [str_size] at hl2
  rw [text_of, if_pos ⟨rfl, h0⟩]
  unfold ref.decBody
  rw [if_neg (by omega)]
  clear ha hx h0
  generalize Lib.decDigits x = L at *
  obtain ⟨l, hl⟩ : ∃ l, L.length = l := ⟨_, rfl⟩
  rw [hl] at hl1 hl2 hm
  have hsl : (str L).size = l := by rw [str_size, hl]
  obtain ⟨m, hmm⟩ : ∃ m, m = k + 1 - l := ⟨_, rfl⟩
  have hpad : ref.padTo L k = List.replicate m 48 ++ L := by unfold ref.padTo; rw [hl, hmm]
  have hrs : (str (List.replicate m 48)).size = m := by rw [str_size, List.length_replicate]
  have hcat : str (List.replicate m 48) ++ str L = str (ref.padTo L k) := by rw [hpad, str_append]
  have hNL : (ref.padTo L k).length = k + 1 := by rw [ref.padTo_length]; omega
  have HRp := Lib.hid (fun z (hz : z = (m : Int)) W => Repeat_nought z m hz W (by omega) (by omega))
  have hmi : (0 : Int) < (k : Int) + 1 - (l : Int) := by omega
  have hz1 : ¬ 9223372036854775807 < (str (List.replicate m 48)).size + (str L).size := by omega
  have HMM := Lib.hid (show (k : Int) + 1 - (l : Int) = (m : Int) by omega)
  obtain ⟨N, hN⟩ : ∃ N, N = k + 1 := ⟨_, rfl⟩
  rw [← hN] at hNL
  clear hpad
  generalize ref.padTo L k = D at *
  generalize str (List.replicate m 48) = sr at *
  have hNk : k < N := by omega
  have hNb : N ≤ 900000 := by omega
  have hDl : D.length = N := by exact hNL
  have hx1 : (str D).extract 0 (N - k) = str (D.take (N - k)) := by apply ByteArray.ext; simp [str]
  have hx2 : (str D).extract (N - k) N = str (D.drop (N - k)) := by
    apply ByteArray.ext
    simp [str, List.take_of_length_le, hDl]
  have hy1 : (str (D.take (N - k))).size = N - k := by rw [str_size, List.length_take]; omega
  have hy2 : (str (D.drop (N - k))).size = k := by rw [str_size, List.length_drop]; omega
  rw [hDl]
  have hS : str (D.take (N - k)) ++ ({ data := #[46] } : ByteArray) ++ str (D.drop (N - k)) = str (D.take (N - k) ++ 46 :: D.drop (N - k)) := by
    rw [show ({ data := #[46] } : ByteArray) = str [46] from rfl, str_append, str_append, List.append_assoc]
    rfl
  have hsD : (str D).size = N := by rw [str_size, hDl]
  generalize D.take (N - k) ++ 46 :: D.drop (N - k) = T at *
  generalize str (D.take (N - k)) = a1 at *
  generalize str (D.drop (N - k)) = a2 at *
  obtain ⟨M, hM⟩ : ∃ M, M = N - k := ⟨_, rfl⟩
  rw [← hM] at hx1 hx2 hy1
  have hMi : (N : Int) - (k : Int) = (M : Int) := by omega
  have hM1 : (M : Int) ≤ (N : Int) := by omega
  have hk0b : (0 : Int) < (k : Int) := by omega
  have h46 : ({ data := #[46] } : ByteArray).size = 1 := rfl
  have hs1 : ¬ 9223372036854775807 < a1.size + ({ data := #[46] } : ByteArray).size := by omega
  have hs2 : ¬ 9223372036854775807 < (a1 ++ ({ data := #[46] } : ByteArray)).size + a2.size := by rw [ByteArray.size_append]; omega
  have hs3 : ¬ 9223372036854775807 < a1.size + 1 := by omega
  have hs4 : ¬ 9223372036854775807 < a1.size + 1 + a2.size := by omega
  have HS := Lib.hid hS
  generalize hsDD : str D = sD at *
  have HM := Lib.hid hM
  clear hS hM hDl hm hsDD hk hNL hN hl hmm
  generalize str L = sL at *
  have HR : Hid (({ data := #[45] } : ByteArray) ++ str T = str (45 :: T)) := Lib.hid (by rw [show ({ data := #[45] } : ByteArray) = str [45] from rfl, str_append]; rfl)
  generalize str (45 :: T) = sR at *
  generalize str T = sT at *
  have h45 : ({ data := #[45] } : ByteArray).size = 1 := rfl
  have hs5 : ¬ 9223372036854775807 < ({ data := #[45] } : ByteArray).size + (a1 ++ ({ data := #[46] } : ByteArray) ++ a2).size := by rw [ByteArray.size_append, ByteArray.size_append]; omega
  go_enter Tryz.func187, Tryz.ntmps187
  go_wp2_with (first
    | (go_at_call 135; (with_reducible refine (HT.out).mono ?_); rintro e W1 ⟨rfl, hb⟩
       have HA1 := Lib.hid (HA.out.below hb)
       have HB1 := Lib.hid hb
       clear hb)
    | (go_at_call 121; (with_reducible refine (HRp.out _ HMM.out _).mono ?_); rintro e W2 ⟨rfl, hb⟩
       have HA2 := Lib.hid (HA1.out.below hb)
       have HB2 := Lib.hid (nat.below_tr HB1.out hb)
       clear hb)
    | (go_at_call 164; (with_reducible refine (HZ.out _ (HA2.out.below (nat.drew_below _ _))).mono ?_); rintro e W3 ⟨rfl, rfl⟩)
    | (fail "no arm"))
  go_quiet (fail)
  go_wp2_with (first
    | (go_at_call 135; (with_reducible refine (HT.out).mono ?_); rintro e W1 ⟨rfl, hb⟩
       have HA1 := Lib.hid (HA.out.below hb)
       have HB1 := Lib.hid hb
       clear hb)
    | (go_at_call 121; (with_reducible refine (HRp.out _ HMM.out _).mono ?_); rintro e W2 ⟨rfl, hb⟩
       have HA2 := Lib.hid (HA1.out.below hb)
       have HB2 := Lib.hid (nat.below_tr HB1.out hb)
       clear hb)
    | (go_at_call 164; (with_reducible refine (HZ.out _ (HA2.out.below (nat.drew_below _ _))).mono ?_); rintro e W3 ⟨rfl, rfl⟩)
    | (fail "no arm"))
  go_ret
  exact ⟨by rw [← HR.out, ← HS.out]; rfl, nat.drewN_below HB2.out _⟩
set_option maxRecDepth 100000 in
set_option maxHeartbeats 4000000 in
theorem text_long0_plain (a : Value) (x k : Nat) (w : World) (ha : nat.IsN w a x) (hx : Ln x 40000) (hk : k ≤ 20) (hm : k < (Lib.decDigits x).length) (hk0 : k = 0) :
    Calls Tryz.prog 187 #[.bool false, a, .int .i64 (k : Nat)] w fun e w' => e = .returned (.string (str (decText (signed false x) k))) ∧ Below w.heap.size w w' := by
  have HT := Lib.hid (nat.Text_any a x w ha hx)
  have HA := Lib.hid ha
  have hl1 := dec_pos x
  have hl2 := dec_size hx
  rw [str_size] at hl2
  rw [text_of, if_neg (by simp)]
  unfold ref.decBody
  subst hk0
  rw [if_pos rfl]
  clear ha hx
  generalize Lib.decDigits x = L at *
  obtain ⟨l, hl⟩ : ∃ l, L.length = l := ⟨_, rfl⟩
  rw [hl] at hl1 hl2 hm
  have hsl : (str L).size = l := by rw [str_size, hl]
  have hpad : ref.padTo L 0 = L := by unfold ref.padTo; rw [hl, show 0 + 1 - l = 0 by omega]; rfl
  rw [hpad]
  have hmi : ¬ (0 : Int) < 0 + 1 - (l : Int) := by omega
  clear hpad
  clear hl hm
  generalize str L = sD at *
  go_enter Tryz.func187, Tryz.ntmps187
  go_wp2_with (first
    | (go_at_call 135; (with_reducible refine (HT.out).mono ?_); rintro e W1 ⟨rfl, hb⟩
       have HA1 := Lib.hid (HA.out.below hb)
       have HB1 := Lib.hid hb
       clear hb)
    | (fail "no arm"))
  go_ret
  exact ⟨rfl, HB1.out⟩
set_option maxRecDepth 100000 in
set_option maxHeartbeats 4000000 in
theorem text_long0_nought (a : Value) (x k : Nat) (w : World) (ha : nat.IsN w a x) (hx : Ln x 40000) (hk : k ≤ 20) (hm : k < (Lib.decDigits x).length) (hk0 : k = 0) (h0 : x = 0) :
    Calls Tryz.prog 187 #[.bool true, a, .int .i64 (k : Nat)] w fun e w' => e = .returned (.string (str (decText (signed true x) k))) ∧ Below w.heap.size w w' := by
  have HT := Lib.hid (nat.Text_any a x w ha hx)
  have HA := Lib.hid ha
  have HZ := Lib.hid (fun W (h : nat.IsN W a x) => nat.Zero_any a x W h)
  rw [decide_eq_true h0] at HZ
  have hl1 := dec_pos x
  have hl2 := dec_size hx
  rw [str_size] at hl2
  rw [text_of, if_neg (fun h => h.2 h0)]
  unfold ref.decBody
  subst hk0
  rw [if_pos rfl]
  clear ha hx h0
  generalize Lib.decDigits x = L at *
  obtain ⟨l, hl⟩ : ∃ l, L.length = l := ⟨_, rfl⟩
  rw [hl] at hl1 hl2 hm
  have hsl : (str L).size = l := by rw [str_size, hl]
  have hpad : ref.padTo L 0 = L := by unfold ref.padTo; rw [hl, show 0 + 1 - l = 0 by omega]; rfl
  rw [hpad]
  have hmi : ¬ (0 : Int) < 0 + 1 - (l : Int) := by omega
  clear hpad
  clear hl hm
  generalize str L = sD at *
  go_enter Tryz.func187, Tryz.ntmps187
  go_wp2_with (first
    | (go_at_call 135; (with_reducible refine (HT.out).mono ?_); rintro e W1 ⟨rfl, hb⟩
       have HA1 := Lib.hid (HA.out.below hb)
       have HB1 := Lib.hid hb
       clear hb)
    | (go_at_call 164; (with_reducible refine (HZ.out _ (HA1.out)).mono ?_); rintro e W3 ⟨rfl, rfl⟩)
    | (fail "no arm"))
  go_ret
  exact ⟨rfl, HB1.out⟩
set_option maxRecDepth 100000 in
set_option maxHeartbeats 4000000 in
theorem text_long0_minus (a : Value) (x k : Nat) (w : World) (ha : nat.IsN w a x) (hx : Ln x 40000) (hk : k ≤ 20) (hm : k < (Lib.decDigits x).length) (hk0 : k = 0) (h0 : ¬ x = 0) :
    Calls Tryz.prog 187 #[.bool true, a, .int .i64 (k : Nat)] w fun e w' => e = .returned (.string (str (decText (signed true x) k))) ∧ Below w.heap.size w w' := by
  have HT := Lib.hid (nat.Text_any a x w ha hx)
  have HA := Lib.hid ha
  have HZ := Lib.hid (fun W (h : nat.IsN W a x) => nat.Zero_any a x W h)
  rw [decide_eq_false h0] at HZ
  have hl1 := dec_pos x
  have hl2 := dec_size hx
  rw [str_size] at hl2
  rw [text_of, if_pos ⟨rfl, h0⟩]
  unfold ref.decBody
  subst hk0
  rw [if_pos rfl]
  clear ha hx h0
  generalize Lib.decDigits x = L at *
  obtain ⟨l, hl⟩ : ∃ l, L.length = l := ⟨_, rfl⟩
  rw [hl] at hl1 hl2 hm
  have hsl : (str L).size = l := by rw [str_size, hl]
  have hpad : ref.padTo L 0 = L := by unfold ref.padTo; rw [hl, show 0 + 1 - l = 0 by omega]; rfl
  rw [hpad]
  have hmi : ¬ (0 : Int) < 0 + 1 - (l : Int) := by omega
  clear hpad
  have HR : Hid (({ data := #[45] } : ByteArray) ++ str L = str (45 :: L)) := Lib.hid (by rw [show ({ data := #[45] } : ByteArray) = str [45] from rfl, str_append]; rfl)
  generalize str (45 :: L) = sR at *
  clear hl hm
  generalize str L = sD at *
  have h45 : ({ data := #[45] } : ByteArray).size = 1 := rfl
  have hs5 : ¬ 9223372036854775807 < ({ data := #[45] } : ByteArray).size + sD.size := by omega
  go_enter Tryz.func187, Tryz.ntmps187
  go_wp2_with (first
    | (go_at_call 135; (with_reducible refine (HT.out).mono ?_); rintro e W1 ⟨rfl, hb⟩
       have HA1 := Lib.hid (HA.out.below hb)
       have HB1 := Lib.hid hb
       clear hb)
    | (go_at_call 164; (with_reducible refine (HZ.out _ (HA1.out)).mono ?_); rintro e W3 ⟨rfl, rfl⟩)
    | (fail "no arm"))
  go_ret
  exact ⟨by rw [← HR.out]; rfl, HB1.out⟩
set_option maxRecDepth 100000 in
set_option maxHeartbeats 4000000 in
theorem text_long_plain (a : Value) (x k : Nat) (w : World) (ha : nat.IsN w a x) (hx : Ln x 40000) (hk : k ≤ 20) (hm : k < (Lib.decDigits x).length) (hk0 : 0 < k) :
    Calls Tryz.prog 187 #[.bool false, a, .int .i64 (k : Nat)] w fun e w' => e = .returned (.string (str (decText (signed false x) k))) ∧ Below w.heap.size w w' := by
  have HT := Lib.hid (nat.Text_any a x w ha hx)
  have HA := Lib.hid ha
  have hl1 := dec_pos x
  have hl2 := dec_size hx
  rw [str_size] at hl2
  rw [text_of, if_neg (by simp)]
  unfold ref.decBody
  rw [if_neg (by omega)]
  clear ha hx
  generalize Lib.decDigits x = L at *
  obtain ⟨l, hl⟩ : ∃ l, L.length = l := ⟨_, rfl⟩
  rw [hl] at hl1 hl2 hm
  have hsl : (str L).size = l := by rw [str_size, hl]
  have hpad : ref.padTo L k = L := by unfold ref.padTo; rw [hl, show k + 1 - l = 0 by omega]; rfl
  rw [hpad]
  have hmi : ¬ (0 : Int) < (k : Int) + 1 - (l : Int) := by omega
  clear hpad
  have hNk : k < l := by omega
  have hNb : l ≤ 900000 := by omega
  have hDl : L.length = l := by exact hl
  have hx1 : (str L).extract 0 (l - k) = str (L.take (l - k)) := by apply ByteArray.ext; simp [str]
  have hx2 : (str L).extract (l - k) l = str (L.drop (l - k)) := by
    apply ByteArray.ext
    simp [str, List.take_of_length_le, hDl]
  have hy1 : (str (L.take (l - k))).size = l - k := by rw [str_size, List.length_take]; omega
  have hy2 : (str (L.drop (l - k))).size = k := by rw [str_size, List.length_drop]; omega
  rw [hDl]
  have hS : str (L.take (l - k)) ++ ({ data := #[46] } : ByteArray) ++ str (L.drop (l - k)) = str (L.take (l - k) ++ 46 :: L.drop (l - k)) := by
    rw [show ({ data := #[46] } : ByteArray) = str [46] from rfl, str_append, str_append, List.append_assoc]
    rfl
  have hsD : (str L).size = l := by rw [str_size, hDl]
  generalize L.take (l - k) ++ 46 :: L.drop (l - k) = T at *
  generalize str (L.take (l - k)) = a1 at *
  generalize str (L.drop (l - k)) = a2 at *
  obtain ⟨M, hM⟩ : ∃ M, M = l - k := ⟨_, rfl⟩
  rw [← hM] at hx1 hx2 hy1
  have hMi : (l : Int) - (k : Int) = (M : Int) := by omega
  have hM1 : (M : Int) ≤ (l : Int) := by omega
  have hk0b : (0 : Int) < (k : Int) := by omega
  have h46 : ({ data := #[46] } : ByteArray).size = 1 := rfl
  have hs1 : ¬ 9223372036854775807 < a1.size + ({ data := #[46] } : ByteArray).size := by omega
  have hs2 : ¬ 9223372036854775807 < (a1 ++ ({ data := #[46] } : ByteArray)).size + a2.size := by rw [ByteArray.size_append]; omega
  have hs3 : ¬ 9223372036854775807 < a1.size + 1 := by omega
  have hs4 : ¬ 9223372036854775807 < a1.size + 1 + a2.size := by omega
  have HS := Lib.hid hS
  generalize hsDD : str L = sD at *
  have HM := Lib.hid hM
  clear hS hM hDl hm hsDD hk hl
  generalize str T = sT at *
  go_enter Tryz.func187, Tryz.ntmps187
  go_wp2_with (first
    | (go_at_call 135; (with_reducible refine (HT.out).mono ?_); rintro e W1 ⟨rfl, hb⟩
       have HA1 := Lib.hid (HA.out.below hb)
       have HB1 := Lib.hid hb
       clear hb)
    | (fail "no arm"))
  go_quiet (fail)
  go_wp2_with (first
    | (go_at_call 135; (with_reducible refine (HT.out).mono ?_); rintro e W1 ⟨rfl, hb⟩
       have HA1 := Lib.hid (HA.out.below hb)
       have HB1 := Lib.hid hb
       clear hb)
    | (fail "no arm"))
  go_ret
  exact ⟨by rw [← HS.out]; rfl, nat.drewN_below HB1.out _⟩
set_option maxRecDepth 100000 in
set_option maxHeartbeats 4000000 in
theorem text_long_nought (a : Value) (x k : Nat) (w : World) (ha : nat.IsN w a x) (hx : Ln x 40000) (hk : k ≤ 20) (hm : k < (Lib.decDigits x).length) (hk0 : 0 < k) (h0 : x = 0) :
    Calls Tryz.prog 187 #[.bool true, a, .int .i64 (k : Nat)] w fun e w' => e = .returned (.string (str (decText (signed true x) k))) ∧ Below w.heap.size w w' := by
  have HT := Lib.hid (nat.Text_any a x w ha hx)
  have HA := Lib.hid ha
  have HZ := Lib.hid (fun W (h : nat.IsN W a x) => nat.Zero_any a x W h)
  rw [decide_eq_true h0] at HZ
  have hl1 := dec_pos x
  have hl2 := dec_size hx
  rw [str_size] at hl2
  rw [text_of, if_neg (fun h => h.2 h0)]
  unfold ref.decBody
  rw [if_neg (by omega)]
  clear ha hx h0
  generalize Lib.decDigits x = L at *
  obtain ⟨l, hl⟩ : ∃ l, L.length = l := ⟨_, rfl⟩
  rw [hl] at hl1 hl2 hm
  have hsl : (str L).size = l := by rw [str_size, hl]
  have hpad : ref.padTo L k = L := by unfold ref.padTo; rw [hl, show k + 1 - l = 0 by omega]; rfl
  rw [hpad]
  have hmi : ¬ (0 : Int) < (k : Int) + 1 - (l : Int) := by omega
  clear hpad
  have hNk : k < l := by omega
  have hNb : l ≤ 900000 := by omega
  have hDl : L.length = l := by exact hl
  have hx1 : (str L).extract 0 (l - k) = str (L.take (l - k)) := by apply ByteArray.ext; simp [str]
  have hx2 : (str L).extract (l - k) l = str (L.drop (l - k)) := by
    apply ByteArray.ext
    simp [str, List.take_of_length_le, hDl]
  have hy1 : (str (L.take (l - k))).size = l - k := by rw [str_size, List.length_take]; omega
  have hy2 : (str (L.drop (l - k))).size = k := by rw [str_size, List.length_drop]; omega
  rw [hDl]
  have hS : str (L.take (l - k)) ++ ({ data := #[46] } : ByteArray) ++ str (L.drop (l - k)) = str (L.take (l - k) ++ 46 :: L.drop (l - k)) := by
    rw [show ({ data := #[46] } : ByteArray) = str [46] from rfl, str_append, str_append, List.append_assoc]
    rfl
  have hsD : (str L).size = l := by rw [str_size, hDl]
  generalize L.take (l - k) ++ 46 :: L.drop (l - k) = T at *
  generalize str (L.take (l - k)) = a1 at *
  generalize str (L.drop (l - k)) = a2 at *
  obtain ⟨M, hM⟩ : ∃ M, M = l - k := ⟨_, rfl⟩
  rw [← hM] at hx1 hx2 hy1
  have hMi : (l : Int) - (k : Int) = (M : Int) := by omega
  have hM1 : (M : Int) ≤ (l : Int) := by omega
  have hk0b : (0 : Int) < (k : Int) := by omega
  have h46 : ({ data := #[46] } : ByteArray).size = 1 := rfl
  have hs1 : ¬ 9223372036854775807 < a1.size + ({ data := #[46] } : ByteArray).size := by omega
  have hs2 : ¬ 9223372036854775807 < (a1 ++ ({ data := #[46] } : ByteArray)).size + a2.size := by rw [ByteArray.size_append]; omega
  have hs3 : ¬ 9223372036854775807 < a1.size + 1 := by omega
  have hs4 : ¬ 9223372036854775807 < a1.size + 1 + a2.size := by omega
  have HS := Lib.hid hS
  generalize hsDD : str L = sD at *
  have HM := Lib.hid hM
  clear hS hM hDl hm hsDD hk hl
  generalize str T = sT at *
  go_enter Tryz.func187, Tryz.ntmps187
  go_wp2_with (first
    | (go_at_call 135; (with_reducible refine (HT.out).mono ?_); rintro e W1 ⟨rfl, hb⟩
       have HA1 := Lib.hid (HA.out.below hb)
       have HB1 := Lib.hid hb
       clear hb)
    | (go_at_call 164; (with_reducible refine (HZ.out _ (HA1.out.below (nat.drew_below _ _))).mono ?_); rintro e W3 ⟨rfl, rfl⟩)
    | (fail "no arm"))
  go_quiet (fail)
  go_wp2_with (first
    | (go_at_call 135; (with_reducible refine (HT.out).mono ?_); rintro e W1 ⟨rfl, hb⟩
       have HA1 := Lib.hid (HA.out.below hb)
       have HB1 := Lib.hid hb
       clear hb)
    | (go_at_call 164; (with_reducible refine (HZ.out _ (HA1.out.below (nat.drew_below _ _))).mono ?_); rintro e W3 ⟨rfl, rfl⟩)
    | (fail "no arm"))
  go_ret
  exact ⟨by rw [← HS.out]; rfl, nat.drewN_below HB1.out _⟩
set_option maxRecDepth 100000 in
set_option maxHeartbeats 4000000 in
theorem text_long_minus (a : Value) (x k : Nat) (w : World) (ha : nat.IsN w a x) (hx : Ln x 40000) (hk : k ≤ 20) (hm : k < (Lib.decDigits x).length) (hk0 : 0 < k) (h0 : ¬ x = 0) :
    Calls Tryz.prog 187 #[.bool true, a, .int .i64 (k : Nat)] w fun e w' => e = .returned (.string (str (decText (signed true x) k))) ∧ Below w.heap.size w w' := by
  have HT := Lib.hid (nat.Text_any a x w ha hx)
  have HA := Lib.hid ha
  have HZ := Lib.hid (fun W (h : nat.IsN W a x) => nat.Zero_any a x W h)
  rw [decide_eq_false h0] at HZ
  have hl1 := dec_pos x
  have hl2 := dec_size hx
  rw [str_size] at hl2
  rw [text_of, if_pos ⟨rfl, h0⟩]
  unfold ref.decBody
  rw [if_neg (by omega)]
  clear ha hx h0
  generalize Lib.decDigits x = L at *
  obtain ⟨l, hl⟩ : ∃ l, L.length = l := ⟨_, rfl⟩
  rw [hl] at hl1 hl2 hm
  have hsl : (str L).size = l := by rw [str_size, hl]
  have hpad : ref.padTo L k = L := by unfold ref.padTo; rw [hl, show k + 1 - l = 0 by omega]; rfl
  rw [hpad]
  have hmi : ¬ (0 : Int) < (k : Int) + 1 - (l : Int) := by omega
  clear hpad
  have hNk : k < l := by omega
  have hNb : l ≤ 900000 := by omega
  have hDl : L.length = l := by exact hl
  have hx1 : (str L).extract 0 (l - k) = str (L.take (l - k)) := by apply ByteArray.ext; simp [str]
  have hx2 : (str L).extract (l - k) l = str (L.drop (l - k)) := by
    apply ByteArray.ext
    simp [str, List.take_of_length_le, hDl]
  have hy1 : (str (L.take (l - k))).size = l - k := by rw [str_size, List.length_take]; omega
  have hy2 : (str (L.drop (l - k))).size = k := by rw [str_size, List.length_drop]; omega
  rw [hDl]
  have hS : str (L.take (l - k)) ++ ({ data := #[46] } : ByteArray) ++ str (L.drop (l - k)) = str (L.take (l - k) ++ 46 :: L.drop (l - k)) := by
    rw [show ({ data := #[46] } : ByteArray) = str [46] from rfl, str_append, str_append, List.append_assoc]
    rfl
  have hsD : (str L).size = l := by rw [str_size, hDl]
  generalize L.take (l - k) ++ 46 :: L.drop (l - k) = T at *
  generalize str (L.take (l - k)) = a1 at *
  generalize str (L.drop (l - k)) = a2 at *
  obtain ⟨M, hM⟩ : ∃ M, M = l - k := ⟨_, rfl⟩
  rw [← hM] at hx1 hx2 hy1
  have hMi : (l : Int) - (k : Int) = (M : Int) := by omega
  have hM1 : (M : Int) ≤ (l : Int) := by omega
  have hk0b : (0 : Int) < (k : Int) := by omega
  have h46 : ({ data := #[46] } : ByteArray).size = 1 := rfl
  have hs1 : ¬ 9223372036854775807 < a1.size + ({ data := #[46] } : ByteArray).size := by omega
  have hs2 : ¬ 9223372036854775807 < (a1 ++ ({ data := #[46] } : ByteArray)).size + a2.size := by rw [ByteArray.size_append]; omega
  have hs3 : ¬ 9223372036854775807 < a1.size + 1 := by omega
  have hs4 : ¬ 9223372036854775807 < a1.size + 1 + a2.size := by omega
  have HS := Lib.hid hS
  generalize hsDD : str L = sD at *
  have HM := Lib.hid hM
  clear hS hM hDl hm hsDD hk hl
  have HR : Hid (({ data := #[45] } : ByteArray) ++ str T = str (45 :: T)) := Lib.hid (by rw [show ({ data := #[45] } : ByteArray) = str [45] from rfl, str_append]; rfl)
  generalize str (45 :: T) = sR at *
  generalize str T = sT at *
  have h45 : ({ data := #[45] } : ByteArray).size = 1 := rfl
  have hs5 : ¬ 9223372036854775807 < ({ data := #[45] } : ByteArray).size + (a1 ++ ({ data := #[46] } : ByteArray) ++ a2).size := by rw [ByteArray.size_append, ByteArray.size_append]; omega
  go_enter Tryz.func187, Tryz.ntmps187
  go_wp2_with (first
    | (go_at_call 135; (with_reducible refine (HT.out).mono ?_); rintro e W1 ⟨rfl, hb⟩
       have HA1 := Lib.hid (HA.out.below hb)
       have HB1 := Lib.hid hb
       clear hb)
    | (go_at_call 164; (with_reducible refine (HZ.out _ (HA1.out.below (nat.drew_below _ _))).mono ?_); rintro e W3 ⟨rfl, rfl⟩)
    | (fail "no arm"))
  go_quiet (fail)
  go_wp2_with (first
    | (go_at_call 135; (with_reducible refine (HT.out).mono ?_); rintro e W1 ⟨rfl, hb⟩
       have HA1 := Lib.hid (HA.out.below hb)
       have HB1 := Lib.hid hb
       clear hb)
    | (go_at_call 164; (with_reducible refine (HZ.out _ (HA1.out.below (nat.drew_below _ _))).mono ?_); rintro e W3 ⟨rfl, rfl⟩)
    | (fail "no arm"))
  go_ret
  exact ⟨by rw [← HR.out, ← HS.out]; rfl, nat.drewN_below HB1.out _⟩
theorem text_any (below : Bool) (a : Value) (x k : Nat) (w : World) (ha : nat.IsN w a x) (hx : Ln x 40000) (hk : k ≤ 20) :
    Calls Tryz.prog 187 #[.bool below, a, .int .i64 (k : Nat)] w fun e w' => e = .returned (.string (str (decText (signed below x) k))) ∧ Below w.heap.size w w' := by
  have h1 := dec_pos x
  cases below
  · by_cases hm : (Lib.decDigits x).length ≤ k
    · exact text_pad_plain a x k w ha hx hk hm (by omega)
    · by_cases hk0 : k = 0
      · exact text_long0_plain a x k w ha hx hk (by omega) hk0
      · exact text_long_plain a x k w ha hx hk (by omega) (by omega)
  · by_cases h0 : x = 0
    · by_cases hm : (Lib.decDigits x).length ≤ k
      · exact text_pad_nought a x k w ha hx hk hm (by omega) h0
      · by_cases hk0 : k = 0
        · exact text_long0_nought a x k w ha hx hk (by omega) hk0 h0
        · exact text_long_nought a x k w ha hx hk (by omega) (by omega) h0
    · by_cases hm : (Lib.decDigits x).length ≤ k
      · exact text_pad_minus a x k w ha hx hk hm (by omega) h0
      · by_cases hk0 : k = 0
        · exact text_long0_minus a x k w ha hx hk (by omega) hk0 h0
        · exact text_long_minus a x k w ha hx hk (by omega) (by omega) h0
end Go.Proofs.YtlhmfgbaefaneaaGreatDoor.dec
