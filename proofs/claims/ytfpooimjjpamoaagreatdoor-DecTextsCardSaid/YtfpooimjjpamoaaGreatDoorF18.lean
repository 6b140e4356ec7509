/-
  The steps of the walks, part 18: DecG.
-/
import Derived.Test.YtfpooimjjpamoaaGreatDoorF17
namespace Go.Proofs.YtfpooimjjpamoaaGreatDoor.dec
open Go.RowKit Go.Proofs.YtfpooimjjpamoaaGreatDoor.nat Go.Proofs.YtfpooimjjpamoaaGreatDoor.num
open Go.Proofs.YtfpooimjjpamoaaGreatDoor.ref (str str_size ch seg IsDig Numeral seg_lt DecBody DecForm signed)
set_option maxRecDepth 100000 in
set_option maxHeartbeats 4000000 in
theorem Get_plain (t : List UInt8) (n k : Nat) (w : World) (hl : t.length ≤ 60) (hm : ∀ u, t ≠ 45 :: u) (h : DecBody t n k) :
    Calls Tryz.prog 78 #[.string (str t)] w fun e w' => ∃ u, e = .returned (.tuple #[u, .int .i64 (k : Nat), .nilIface]) ∧ (rat.IsR w' u (((signed false n : Int) : Rat) / (((10 ^ k : Nat) : Int) : Rat)) ∧ u ≠ .pointer none) ∧ Below w.heap.size w w' := by
  have hz0 : (str t).size = t.length := str_size _
  have hlt : t.length ≤ 60 := by exact hl
  have HC := Lib.hid (fun W => num.Cut_none t W (by omega) hm)
  have HR := Lib.hid (fun W => read_ok t n k W hlt h)
  have hk := body_places h
  have hln : Ln n 60 := rat.Ln_tens (body_low h) hlt
  have h10 := Ln_ten hk
  have HT := Lib.hid (fun W => tenPower_any k W hk)
  have HN := Lib.hid (fun W v (hv : nat.IsN W v n) => num.New_any false v n W hv)
  rw [sgn_signed] at HN
  have HD := fun W v (hv : nat.IsN W v (10 ^ k)) => num.New_any false v (10 ^ k) W hv
  rw [show num.sgn false (10 ^ k) = ((10 ^ k : Nat) : Int) from rfl] at HD
  have HD := Lib.hid HD
  have HQ := Lib.hid (fun W a b (ha : num.IsZ W a (signed false n)) (hb : num.IsZ W b ((10 ^ k : Nat) : Int)) => rat.New_ok a b _ _ W ha hb (show Lz (signed false n) 300000 from by unfold Lz signed; simp only [Bool.false_eq_true, if_false, Int.natAbs_natCast]; exact hln.le (by decide)) (show Lz ((10 ^ k : Nat) : Int) 300000 from by unfold Lz; rw [Int.natAbs_natCast]; exact h10.le (by decide)) (by have : 0 < 10 ^ k := Nat.pow_pos (by omega); omega))
  generalize ((signed false n : Int) : Rat) / (((10 ^ k : Nat) : Int) : Rat) = q at *
  generalize signed false n = Z at *
  generalize 10 ^ k = P at *
  generalize str t = s0 at *
  generalize t.length = N at *
  clear hlt hk hln h10 h hm
  go_enter Tryz.func78, Tryz.ntmps78
  go_wp2_with (first
    | (go_at_call 126; (with_reducible refine (HC.out _).mono ?_); rintro e w1 ⟨rfl, rfl⟩; clear HC)
    | (go_at_call 131; (with_reducible refine (HR.out _).mono ?_); rintro e W1 ⟨u, rfl, ⟨h_u, n_u⟩, hb⟩; have H_u := Lib.hid h_u; have HB1 := Lib.hid hb; clear h_u n_u hb HR)
    | (go_at_call 97; (with_reducible refine (HN.out _ _ H_u.out).mono ?_); rintro e W2 ⟨z, rfl, ⟨h_z, n_z⟩, hb⟩; have H_z := Lib.hid h_z; have HB2 := Lib.hid (nat.below_tr HB1.out hb); clear h_z n_z hb HN)
    | (go_at_call 132; (with_reducible refine (HT.out _).mono ?_); rintro e W3 ⟨t, rfl, ⟨h_t, n_t⟩, hb⟩; have H_t := Lib.hid h_t; have H_z3 := Lib.hid (H_z.out.below hb); have HB3 := Lib.hid (nat.below_tr HB2.out hb); clear h_t n_t hb HT)
    | (go_at_call 97; (with_reducible refine (HD.out _ _ H_t.out).mono ?_); rintro e W4 ⟨d, rfl, ⟨h_d, n_d⟩, hb⟩; have H_d := Lib.hid h_d; have H_z4 := Lib.hid (H_z3.out.below hb); have HB4 := Lib.hid (nat.below_tr HB3.out hb); clear h_d n_d hb HD)
    | (go_at_call 130; (with_reducible refine (HQ.out _ _ _ H_z4.out H_d.out).mono ?_); rintro e W5 ⟨v, rfl, ⟨h_v, n_v⟩, hb⟩; have H_v := Lib.hid h_v; have N_v := Lib.hid n_v; have HB5 := Lib.hid (nat.below_tr HB4.out hb); clear h_v n_v hb HQ)
    | (fail "no arm"))
  go_ret3
  exact ⟨_, rfl, ⟨H_v.out, N_v.out⟩, HB5.out⟩
set_option maxRecDepth 100000 in
set_option maxHeartbeats 4000000 in
theorem Get_minus (t : List UInt8) (n k : Nat) (w : World) (hl : (45 :: t).length ≤ 60) (h0 : ¬ n = 0) (h : DecBody t n k) :
    Calls Tryz.prog 78 #[.string (str (45 :: t))] w fun e w' => ∃ u, e = .returned (.tuple #[u, .int .i64 (k : Nat), .nilIface]) ∧ (rat.IsR w' u (((signed true n : Int) : Rat) / (((10 ^ k : Nat) : Int) : Rat)) ∧ u ≠ .pointer none) ∧ Below w.heap.size w w' := by
  have hz0 : (str (45 :: t)).size = (45 :: t).length := str_size _
  have hlt : t.length ≤ 60 := by simp at hl; omega
  have HC := Lib.hid (fun W => num.Cut_minus t W (by omega))
  have HR := Lib.hid (fun W => read_ok t n k W hlt h)
  have hk := body_places h
  have hln : Ln n 60 := rat.Ln_tens (body_low h) hlt
  have h10 := Ln_ten hk
  have HZ := Lib.hid (fun W v (hv : nat.IsN W v n) => nat.Zero_any v n W hv)
  rw [decide_eq_false h0] at HZ
  have HT := Lib.hid (fun W => tenPower_any k W hk)
  have HN := Lib.hid (fun W v (hv : nat.IsN W v n) => num.New_any true v n W hv)
  rw [sgn_signed] at HN
  have HD := fun W v (hv : nat.IsN W v (10 ^ k)) => num.New_any false v (10 ^ k) W hv
  rw [show num.sgn false (10 ^ k) = ((10 ^ k : Nat) : Int) from rfl] at HD
  have HD := Lib.hid HD
  have HQ := Lib.hid (fun W a b (ha : num.IsZ W a (signed true n)) (hb : num.IsZ W b ((10 ^ k : Nat) : Int)) => rat.New_ok a b _ _ W ha hb (show Lz (signed true n) 300000 from by unfold Lz signed; simp only [if_true, Int.natAbs_neg, Int.natAbs_natCast]; exact hln.le (by decide)) (show Lz ((10 ^ k : Nat) : Int) 300000 from by unfold Lz; rw [Int.natAbs_natCast]; exact h10.le (by decide)) (by have : 0 < 10 ^ k := Nat.pow_pos (by omega); omega))
  generalize ((signed true n : Int) : Rat) / (((10 ^ k : Nat) : Int) : Rat) = q at *
  generalize signed true n = Z at *
  generalize 10 ^ k = P at *
  generalize str (45 :: t) = s0 at *
  generalize str t = s1 at *
  generalize (45 :: t).length = N at *
  clear hlt hk hln h10 h h0
  go_enter Tryz.func78, Tryz.ntmps78
  go_wp2_with (first
    | (go_at_call 126; (with_reducible refine (HC.out _).mono ?_); rintro e w1 ⟨rfl, rfl⟩; clear HC)
    | (go_at_call 131; (with_reducible refine (HR.out _).mono ?_); rintro e W1 ⟨u, rfl, ⟨h_u, n_u⟩, hb⟩; have H_u := Lib.hid h_u; have HB1 := Lib.hid hb; clear h_u n_u hb HR)
    | (go_at_call 42; (with_reducible refine (HZ.out _ _ H_u.out).mono ?_); rintro e w9 ⟨rfl, rfl⟩; clear HZ)
    | (go_at_call 97; (with_reducible refine (HN.out _ _ H_u.out).mono ?_); rintro e W2 ⟨z, rfl, ⟨h_z, n_z⟩, hb⟩; have H_z := Lib.hid h_z; have HB2 := Lib.hid (nat.below_tr HB1.out hb); clear h_z n_z hb HN)
    | (go_at_call 132; (with_reducible refine (HT.out _).mono ?_); rintro e W3 ⟨t, rfl, ⟨h_t, n_t⟩, hb⟩; have H_t := Lib.hid h_t; have H_z3 := Lib.hid (H_z.out.below hb); have HB3 := Lib.hid (nat.below_tr HB2.out hb); clear h_t n_t hb HT)
    | (go_at_call 97; (with_reducible refine (HD.out _ _ H_t.out).mono ?_); rintro e W4 ⟨d, rfl, ⟨h_d, n_d⟩, hb⟩; have H_d := Lib.hid h_d; have H_z4 := Lib.hid (H_z3.out.below hb); have HB4 := Lib.hid (nat.below_tr HB3.out hb); clear h_d n_d hb HD)
    | (go_at_call 130; (with_reducible refine (HQ.out _ _ _ H_z4.out H_d.out).mono ?_); rintro e W5 ⟨v, rfl, ⟨h_v, n_v⟩, hb⟩; have H_v := Lib.hid h_v; have N_v := Lib.hid n_v; have HB5 := Lib.hid (nat.below_tr HB4.out hb); clear h_v n_v hb HQ)
    | (fail "no arm"))
  go_ret3
  exact ⟨_, rfl, ⟨H_v.out, N_v.out⟩, HB5.out⟩
set_option maxRecDepth 100000 in
set_option maxHeartbeats 4000000 in
theorem Get_long (l : List UInt8) (w : World) (hl : l.length ≤ 4611686018427387904) (h6 : 60 < l.length) :
    Calls Tryz.prog 78 #[.string (str l)] w fun e w' => e = .returned (.tuple #[.pointer none, .int .i64 0, .iface 171 (.int .i64 1)]) ∧ Below w.heap.size w w' := by
  have hz0 : (str l).size = l.length := str_size _
  have HF := Lib.hid (fun W => flt.Of_some 1 W rfl)
  generalize str l = s0 at *
  generalize l.length = N at *
  go_enter Tryz.func78, Tryz.ntmps78
  go_wp2_with (first
    | (go_at_call 103; (with_reducible refine (HF.out _).mono ?_); rintro e w7 ⟨rfl, rfl⟩; clear HF)
    | (fail "no arm"))
  go_ret3
  exact ⟨rfl, Below.refl _ _⟩
set_option maxRecDepth 100000 in
set_option maxHeartbeats 4000000 in
theorem Get_plain_bad (t : List UInt8) (w : World) (hl : t.length ≤ 60) (hm : ∀ u, t ≠ 45 :: u) (h : ∀ n k, ¬ DecBody t n k) :
    Calls Tryz.prog 78 #[.string (str t)] w fun e w' => e = .returned (.tuple #[.pointer none, .int .i64 0, .iface 171 (.int .i64 1)]) ∧ Below w.heap.size w w' := by
  have hz0 : (str t).size = t.length := str_size _
  have HF := Lib.hid (fun W => flt.Of_some 1 W rfl)
  have HC := Lib.hid (fun W => num.Cut_none t W (by omega) hm)
  have HR := Lib.hid (fun W => read_bad t W (by omega) h)
  clear h hm
  generalize str t = s0 at *
  generalize t.length = N at *
  go_enter Tryz.func78, Tryz.ntmps78
  go_wp2_with (first
    | (go_at_call 126; (with_reducible refine (HC.out _).mono ?_); rintro e w1 ⟨rfl, rfl⟩; clear HC)
    | (go_at_call 131; (with_reducible refine (HR.out _).mono ?_); rintro e W1 ⟨rfl, hb⟩; have HB1 := Lib.hid hb; clear hb HR)
    | (go_at_call 103; (with_reducible refine (HF.out _).mono ?_); rintro e w7 ⟨rfl, rfl⟩; clear HF)
    | (fail "no arm"))
  go_ret3
  exact ⟨rfl, HB1.out⟩
set_option maxRecDepth 100000 in
set_option maxHeartbeats 4000000 in
theorem Get_minus_bad (t : List UInt8) (w : World) (hl : (45 :: t).length ≤ 60) (h : ∀ n k, ¬ DecBody t n k) :
    Calls Tryz.prog 78 #[.string (str (45 :: t))] w fun e w' => e = .returned (.tuple #[.pointer none, .int .i64 0, .iface 171 (.int .i64 1)]) ∧ Below w.heap.size w w' := by
  have hz0 : (str (45 :: t)).size = (45 :: t).length := str_size _
  have HF := Lib.hid (fun W => flt.Of_some 1 W rfl)
  have HC := Lib.hid (fun W => num.Cut_minus t W (by simp at hl; omega))
  have HR := Lib.hid (fun W => read_bad t W (by simp at hl; omega) h)
  clear h
  generalize str (45 :: t) = s0 at *
  generalize str t = s1 at *
  generalize (45 :: t).length = N at *
  go_enter Tryz.func78, Tryz.ntmps78
  go_wp2_with (first
    | (go_at_call 126; (with_reducible refine (HC.out _).mono ?_); rintro e w1 ⟨rfl, rfl⟩; clear HC)
    | (go_at_call 131; (with_reducible refine (HR.out _).mono ?_); rintro e W1 ⟨rfl, hb⟩; have HB1 := Lib.hid hb; clear hb HR)
    | (go_at_call 103; (with_reducible refine (HF.out _).mono ?_); rintro e w7 ⟨rfl, rfl⟩; clear HF)
    | (fail "no arm"))
  go_ret3
  exact ⟨rfl, HB1.out⟩
set_option maxRecDepth 100000 in
set_option maxHeartbeats 4000000 in
theorem Get_minus_nought (t : List UInt8) (k : Nat) (w : World) (hl : (45 :: t).length ≤ 60) (h : DecBody t 0 k) :
    Calls Tryz.prog 78 #[.string (str (45 :: t))] w fun e w' => e = .returned (.tuple #[.pointer none, .int .i64 0, .iface 171 (.int .i64 1)]) ∧ Below w.heap.size w w' := by
  have hz0 : (str (45 :: t)).size = (45 :: t).length := str_size _
  have HF := Lib.hid (fun W => flt.Of_some 1 W rfl)
  have HC := Lib.hid (fun W => num.Cut_minus t W (by simp at hl; omega))
  have HR := Lib.hid (fun W => read_ok t 0 k W (by simp at hl; omega) h)
  have HZ := Lib.hid (fun W v (hv : nat.IsN W v 0) => nat.Zero_any v 0 W hv)
  rw [decide_eq_true rfl] at HZ
  clear h
  generalize str (45 :: t) = s0 at *
  generalize str t = s1 at *
  generalize (45 :: t).length = N at *
  go_enter Tryz.func78, Tryz.ntmps78
  go_wp2_with (first
    | (go_at_call 126; (with_reducible refine (HC.out _).mono ?_); rintro e w1 ⟨rfl, rfl⟩; clear HC)
    | (go_at_call 131; (with_reducible refine (HR.out _).mono ?_); rintro e W1 ⟨u, rfl, ⟨h_u, n_u⟩, hb⟩; have H_u := Lib.hid h_u; have HB1 := Lib.hid hb; clear h_u n_u hb HR)
    | (go_at_call 42; (with_reducible refine (HZ.out _ _ H_u.out).mono ?_); rintro e w9 ⟨rfl, rfl⟩; clear HZ)
    | (go_at_call 103; (with_reducible refine (HF.out _).mono ?_); rintro e w7 ⟨rfl, rfl⟩; clear HF)
    | (fail "no arm"))
  go_ret3
  exact ⟨rfl, HB1.out⟩
theorem Get_ok (l : List UInt8) (neg : Bool) (n k : Nat) (w : World) (h : DecForm l neg n k) :
    Calls Tryz.prog 78 #[.string (str l)] w fun e w' => ∃ u, e = .returned (.tuple #[u, .int .i64 (k : Nat), .nilIface]) ∧ (rat.IsR w' u (((signed neg n : Int) : Rat) / (((10 ^ k : Nat) : Int) : Rat)) ∧ u ≠ .pointer none) ∧ Below w.heap.size w w' := by
  obtain ⟨hl, t, rfl, h0, hb⟩ := h
  cases neg
  · refine Get_plain t n k w hl ?_ hb
    rintro u rfl
    obtain ⟨c, v, he, hc, -⟩ := hb.head
    simp at he
    obtain ⟨rfl, -⟩ := he
    simp at hc
  · exact Get_minus t n k w hl (h0 rfl) hb
theorem Get_bad (l : List UInt8) (w : World) (hl : l.length ≤ 4611686018427387904) (h : ∀ neg n k, ¬ DecForm l neg n k) :
    Calls Tryz.prog 78 #[.string (str l)] w fun e w' => e = .returned (.tuple #[.pointer none, .int .i64 0, .iface 171 (.int .i64 1)]) ∧ Below w.heap.size w w' := by
  by_cases h6 : 60 < l.length
  · exact Get_long l w hl h6
  · by_cases hm : ∃ t, l = 45 :: t
    · obtain ⟨t, rfl⟩ := hm
      by_cases hb : ∃ n k, DecBody t n k
      · obtain ⟨n, k, hb⟩ := hb
        obtain rfl : n = 0 := Classical.byContradiction fun h0 => h true n k ⟨by omega, t, rfl, fun _ => h0, hb⟩
        exact Get_minus_nought t k w (by omega) hb
      · exact Get_minus_bad t w (by omega) fun n k hh => hb ⟨n, k, hh⟩
    · exact Get_plain_bad l w (by omega) (fun u e => hm ⟨u, e⟩) fun n k hh => h false n k ⟨by omega, l, rfl, (fun e => by cases e), hh⟩
end Go.Proofs.YtfpooimjjpamoaaGreatDoor.dec
