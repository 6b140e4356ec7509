/-
  The steps of the walks, part 19: DecG.
-/
import Derived.Test.YtfpooimjjpamoaaGreatDoorE18
namespace Go.Proofs.YtfpooimjjpamoaaGreatDoor.dec
open Go.RowKit Go.Proofs.YtfpooimjjpamoaaGreatDoor.nat Go.Proofs.YtfpooimjjpamoaaGreatDoor.num
open Go.Proofs.YtfpooimjjpamoaaGreatDoor.ref (str str_size ch seg IsDig Numeral seg_lt DecBody DecForm signed)
set_option maxRecDepth 100000 in
set_option maxHeartbeats 4000000 in
theorem Get_plain (t : List UInt8) (n k : Nat) (w : World) (hl : t.length ≤ 60) (hm : ∀ u, t ≠ 45 :: u) (h : DecBody t n k) :
    Calls Tryz.prog 78 #[.string (str t)] w fun e w' => ∃ u, e = .returned (.tuple #[u, .int .i64 (k : Nat), .nilIface]) ∧ (rat.IsR w' u (((signed false n : Int) : Rat) / (((10 ^ k : Nat) : Int) : Rat)) ∧ u ≠ .pointer none) ∧ Below w.heap.size w w' := by
  have hz0 : (str t).size = t.length := str_size _
  have hlt : t.length ≤ 60 := by exact hl
  have HC := Lib.hid (fun W => num.Cut_none t W (by omega) hm)
  have HR := Lib.hid (fun W => read_ok t n k W hlt h)
  have hk := body_places h
  have hln : Ln n 60 := rat.Ln_tens (body_low h) hlt
  have h10 := Ln_ten hk
  have HT := Lib.hid (fun W => tenPower_any k W hk)
  have HN := Lib.hid (fun W v (hv : nat.IsN W v n) => num.New_any false v n W hv)
  rw [sgn_signed] at HN
  have HD := fun W v (hv : nat.IsN W v (10 ^ k)) => num.New_any false v (10 ^ k) W hv
  rw [show num.sgn false (10 ^ k) = ((10 ^ k : Nat) : Int) from rfl] at HD
  have HD := Lib.hid HD
  have HQ := Lib.hid (fun W a b (ha : num.IsZ W a (signed false n)) (hb : num.IsZ W b ((10 ^ k : Nat) : Int)) => rat.New_ok a b _ _ W ha hb (show Lz (signed false n) 300000 from by unfold Lz signed; simp only [Bool.false_eq_true, if_false, Int.natAbs_natCast]; exact hln.le (by decide)) (show Lz ((10 ^ k : Nat) : Int) 300000 from by unfold Lz; rw [Int.natAbs_natCast]; exact h10.le (by decide)) (by have : 0 < 10 ^ k := Nat.pow_pos (by omega); omega))
  generalize ((signed false n : Int) : Rat) / (((10 ^ k : Nat) : Int) : Rat) = q at *
  generalize signed false n = Z at *
  generalize 10 ^ k = P at *
  generalize str t = s0 at *
  generalize t.length = N at *
  clear hlt hk hln h10 h hm
  go_enter Tryz.func78, Tryz.ntmps78
  go_wp2_with (first
    | (go_at_call 126; (with_reducible refine (HC.out _).mono ?_); rintro e w1 ⟨rfl, rfl⟩; clear HC)
    | (go_at_call 131; (with_reducible refine (HR.out _).mono ?_); rintro e W1 ⟨u, rfl, ⟨h_u, n_u⟩, hb⟩; have H_u := Lib.hid h_u; have HB1 := Lib.hid hb; clear h_u n_u hb HR)
    | (go_at_call 97; (with_reducible refine (HN.out _ _ H_u.out).mono ?_); rintro e W2 ⟨z, rfl, ⟨h_z, n_z⟩, hb⟩; have H_z := Lib.hid h_z; have HB2 := Lib.hid (nat.below_tr HB1.out hb); clear h_z n_z hb HN)
    | (go_at_call 132; (with_reducible refine (HT.out _).mono ?_); rintro e W3 ⟨t, rfl, ⟨h_t, n_t⟩, hb⟩; have H_t := Lib.hid h_t; have H_z3 := Lib.hid (H_z.out.below hb); have HB3 := Lib.hid (nat.below_tr HB2.out hb); clear h_t n_t hb HT)
    | (go_at_call 97; (with_reducible refine (HD.out _ _ H_t.out).mono ?_); rintro e W4 ⟨d, rfl, ⟨h_d, n_d⟩, hb⟩; have H_d := Lib.hid h_d; have H_z4 := Lib.hid (H_z3.out.below hb); have HB4 := Lib.hid (nat.below_tr HB3.out hb); clear h_d n_d hb HD)
    | (go_at_call 130; (with_reducible refine (HQ.out _ _ _ H_z4.out H_d.out).mono ?_); rintro e W5 ⟨v, rfl, ⟨h_v, n_v⟩, hb⟩; have H_v := Lib.hid h_v; have N_v := Lib.hid n_v; have HB5 := Lib.hid (nat.below_tr HB4.out hb); clear h_v n_v hb HQ)
    | (fail "no arm"))
  go_ret3
  exact ⟨_, rfl, ⟨H_v.out, N_v.out⟩, HB5.out⟩
set_option maxRecDepth 100000 in
set_option maxHeartbeats 4000000 in
theorem Get_minus (t : List UInt8) (n k : Nat) (w : World) (hl : (45 :: t).length ≤ 60) (h0 : ¬ n = 0) (h : DecBody t n k) :
    Calls Tryz.prog 78 #[.string (str (45 :: t))] w fun e w' => ∃ u, e = .returned (.tuple #[u, .int .i64 (k : Nat), .nilIface]) ∧ (rat.IsR w' u (((signed true n : Int) : Rat) / (((10 ^ k : Nat) : Int) : Rat)) ∧ u ≠ .pointer none) ∧ Below w.heap.size w w' := by
  have hz0 : (str (45 :: t)).size = (45 :: t).length := str_size _
  have hlt : t.length ≤ 60 := by simp at hl; omega
  have HC := Lib.hid (fun W => num.Cut_minus t W (by omega))
  have HR := Lib.hid (fun W => read_ok t n k W hlt h)
  have hk := body_places h
  have hln : Ln n 60 := rat.Ln_tens (body_low h) hlt
  have h10 := Ln_ten hk
  have HZ := Lib.hid (fun W v (hv : nat.IsN W v n) => nat.Zero_any v n W hv)
  rw [decide_eq_false h0] at HZ
  have HT := Lib.hid (fun W => tenPower_any k W hk)
  have HN := Lib.hid (fun W v (hv : nat.IsN W v n) => num.New_any true v n W hv)
  rw [sgn_signed] at HN
  have HD := fun W v (hv : nat.IsN W v (10 ^ k)) => num.New_any false v (10 ^ k) W hv
  rw [show num.sgn false (10 ^ k) = ((10 ^ k : Nat) : Int) from rfl] at HD
  have HD := Lib.hid HD
  have HQ := Lib.hid (fun W a b (ha : num.IsZ W a (signed true n)) (hb : num.IsZ W b ((10 ^ k : Nat) : Int)) => rat.New_ok a b _ _ W ha hb (show Lz (signed true n) 300000 from by unfold Lz signed; simp only [if_true, Int.natAbs_neg, Int.natAbs_natCast]; exact hln.le (by decide)) (show Lz ((10 ^ k : Nat) : Int) 300000 from by unfold Lz; rw [Int.natAbs_natCast]; exact h10.le (by decide)) (by have : 0 < 10 ^ k := Nat.pow_pos (by omega); omega))
  generalize ((signed true n : Int) : Rat) / (((10 ^ k : Nat) : Int) : Rat) = q at *
  generalize signed true n = Z at *
  generalize 10 ^ k = P at *
  generalize str (45 :: t) = s0 at *
  generalize str t = s1 at *
  generalize (45 :: t).length = N at *
  clear hlt hk hln h10 h h0
  go_enter Tryz.func78, Tryz.ntmps78
  go_wp2_with (first
    | (go_at_call 126; (with_reducible refine (HC.out _).mono ?_); rintro e w1 ⟨rfl, rfl⟩; clear HC)
    | (go_at_call 131; (with_reducible refine (HR.out _).mono ?_); rintro e W1 ⟨u, rfl, ⟨h_u, n_u⟩, hb⟩; have H_u := Lib.hid h_u; have HB1 := Lib.hid hb; clear h_u n_u hb HR)
    | (go_at_call 42; (with_reducible refine (HZ.out _ _ H_u.out).mono ?_); rintro e w9 ⟨rfl, rfl⟩; clear HZ)
    | (go_at_call 97; (with_reducible refine (HN.out _ _ H_u.out).mono ?_); rintro e W2 ⟨z, rfl, ⟨h_z, n_z⟩, hb⟩; have H_z := Lib.hid h_z; have HB2 := Lib.hid (nat.below_tr HB1.out hb); clear h_z n_z hb HN)
    | (go_at_call 132; (with_reducible refine (HT.out _).mono ?_); rintro e W3 ⟨t, rfl, ⟨h_t, n_t⟩, hb⟩; have H_t := Lib.hid h_t; have H_z3 := Lib.hid (H_z.out.below hb); have HB3 := Lib.hid (nat.below_tr HB2.out hb); clear h_t n_t hb HT)
    | (go_at_call 97; (with_reducible refine (HD.out _ _ H_t.out).mono ?_); rintro e W4 ⟨d, rfl, ⟨h_d, n_d⟩, hb⟩; have H_d := Lib.hid h_d; have H_z4 := Lib.hid (H_z3.out.below hb); have HB4 := Lib.hid (nat.below_tr HB3.out hb); clear h_d n_d hb HD)
    | (go_at_call 130; (with_reducible refine (HQ.out _ _ _ H_z4.out H_d.out).mono ?_); rintro e W5 ⟨v, rfl, ⟨h_v, n_v⟩, hb⟩; have H_v := Lib.hid h_v; have N_v := Lib.hid n_v; have HB5 := Lib.hid (nat.below_tr HB4.out hb); clear h_v n_v hb HQ)
    | (fail "no arm"))
  go_ret3
  exact ⟨_, rfl, ⟨H_v.out, N_v.out⟩, HB5.out⟩
theorem Get_ok (l : List UInt8) (neg : Bool) (n k : Nat) (w : World) (h : DecForm l neg n k) :
    Calls Tryz.prog 78 #[.string (str l)] w fun e w' => ∃ u, e = .returned (.tuple #[u, .int .i64 (k : Nat), .nilIface]) ∧ (rat.IsR w' u (((signed neg n : Int) : Rat) / (((10 ^ k : Nat) : Int) : Rat)) ∧ u ≠ .pointer none) ∧ Below w.heap.size w w' := by
  obtain ⟨hl, t, rfl, h0, hb⟩ := h
  cases neg
  · refine Get_plain t n k w hl ?_ hb
    rintro u rfl
    obtain ⟨c, v, he, hc, -⟩ := hb.head
    simp at he
    obtain ⟨rfl, -⟩ := he
    simp at hc
  · exact Get_minus t n k w hl (h0 rfl) hb
end Go.Proofs.YtfpooimjjpamoaaGreatDoor.dec
