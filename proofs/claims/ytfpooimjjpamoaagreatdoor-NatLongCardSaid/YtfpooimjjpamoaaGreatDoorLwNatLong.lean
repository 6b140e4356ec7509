/-
  NatLong answers true for every number and byte. Condition: begun answers true.
-/
import Derived.Test.YtfpooimjjpamoaaGreatDoorA38
namespace Go.Proofs.YtfpooimjjpamoaaGreatDoor.law2
open Go.RowKit Go.Proofs.YtfpooimjjpamoaaGreatDoor.nat
open Go.Proofs.YtfpooimjjpamoaaGreatDoor.ref (str)
def LongRel (w : World) (g N : Nat) (d : UInt8) (iv : Value) (wr : World) : Prop :=
  ∃ i : Nat, i ≤ N ∧ iv = .int .i64 i ∧ RowB wr g (List.replicate i d ++ List.replicate (N - i) 0) ∧ Below w.heap.size w wr
theorem long_set {i N : Nat} {d : UInt8} (h : i < N) : (List.replicate i d ++ List.replicate (N - i) 0).set i d = List.replicate (i + 1) d ++ List.replicate (N - (i + 1)) 0 := by
  obtain ⟨k, hk⟩ : ∃ k, N - i = k + 1 := ⟨N - i - 1, by omega⟩
  rw [List.set_append_right _ _ (by simp), hk, show N - (i + 1) = k by omega, List.length_replicate, Nat.sub_self, List.replicate_succ, List.set_cons_zero, List.replicate_succ' (n := i), List.append_assoc]
  rfl
theorem ones_numeral {N : Nat} {d : UInt8} (h1 : 1 ≤ N) (h2 : N ≤ 4000) (h3 : 49 ≤ d.toNat) (h4 : d.toNat ≤ 57) : ref.Numeral (List.replicate N d) := by
  have hc : ∀ i, i < N → ref.ch (List.replicate N d) i = d.toNat := fun i hi => by
    unfold ref.ch
    rw [List.getD_eq_getElem?_getD, List.getElem?_replicate, if_pos hi]
    rfl
  refine ⟨by simpa using h1, by simpa using h2, fun _ => by rw [hc 0 (by omega)]; omega, fun i hi => ?_⟩
  rw [List.length_replicate] at hi
  unfold ref.IsDig
  rw [hc i hi]
  omega
set_option maxRecDepth 100000 in
set_option maxHeartbeats 4000000 in
theorem LwNatLong (HBg : BegunC) (n : Int) (_n1 : -9223372036854775808 ≤ n) (_n2 : n < 9223372036854775808) (c : Nat) (hc : c < 256) (w : World) (hd : Hd w) :
    Calls Tryz.prog 16 #[.int .i64 n, .int .u8 (c : Int)] w fun e w' => e = .returned (.bool true) ∧ Below w.heap.size w w' := by
  unfold BegunC at HBg
  have HBG := Lib.hid HBg
  have HG := Lib.hid hd
  clear HBg hd
  have t1 : -20 < n.tmod 20 := Int.lt_tmod_of_pos n (by decide)
  have t2 : n.tmod 20 < 20 := Int.tmod_lt_of_pos n (by decide)
  obtain ⟨M, hM⟩ : ∃ M : Nat, (n.tmod 20 + 20) % 20 = (M : Int) := ⟨((n.tmod 20 + 20) % 20).toNat, by omega⟩
  obtain ⟨N, hN⟩ : ∃ N : Nat, 3990 + (M : Int) = (N : Int) := ⟨3990 + M, by omega⟩
  have hN1 : 3990 ≤ N := by omega
  have hN2 : N < 4010 := by omega
  go_enter Tryz.func16, Tryz.ntmps16
  go_wp2_with (first
    | (go_at_call 25; (with_reducible refine (HBG.out _ HG.out).mono ?_); rintro e W1 ⟨rfl, hb⟩
       obtain ⟨W2, hmk, hrow, hbm⟩ := make_bytes W1 N (by omega)
       have HB2 := Lib.hid (nat.below_tr hb hbm)
       have HR := Lib.hid hrow
       have hsz1 := hb.size
       clear hb hbm hrow)
    | (fail "no arm"))
  obtain ⟨d, hdd⟩ : ∃ d : UInt8, d = UInt8.ofNat (49 + c % 9) := ⟨_, rfl⟩
  have hdn : d.toNat = 49 + c % 9 := by rw [hdd, UInt8.toNat_ofNat']; omega
  have hcI : (c : Int) < 256 := by omega
  have hcI0 : (0 : Int) ≤ (c : Int) := by omega
  have HD := Lib.hid hdn
  have HSz := Lib.hid (show w.heap.size ≤ W1.heap.size from hsz1)
  clear hdd hdn
  go_loopw [22] (fun iv wr => LongRel w W1.heap.size N d iv wr) (fun iv _ => N - (intOf iv).toNat)
  case atStart => exact ⟨0, Nat.zero_le _, rfl, by simpa using HR.out, HB2.out⟩
  case round =>
    obtain ⟨i, hi, rfl, hr, hbe⟩ := hrel
    have HRo := Lib.hid hr
    have HBe := Lib.hid hbe
    clear hr hbe
    by_cases h0 : (i : Int) < (N : Int)
    · have hiN : i < N := by omega
      have hfr := HRo.out.free i
      have hce := HRo.out.cell i (by simp; omega)
      go_wp2
      go_roundw
      case rel => exact ⟨i + 1, by omega, by go_num, by rw [← long_set hiN]; exact HRo.out.set i (by simp; omega) (by rw [HD.out]; omega), HBe.out.setCell HSz.out _⟩
      case measure => simp [intOf]; omega
    · have hiE : i = N := by omega
      have HRow := Lib.hid (show RowB wr W1.heap.size (List.replicate N d) from by have h := HRo.out; rw [hiE, Nat.sub_self] at h; simpa using h)
      have hdL : (List.replicate N d).length = N := by simp
      clear hiE HRo
      obtain ⟨l, hl⟩ : ∃ l, List.replicate N d = l := ⟨_, rfl⟩
      rw [hl] at HRow hdL
      have hcv := conv_row HRow.out hdL
      by_cases h4 : N ≤ 4000
      · have hnum : ref.Numeral l := by rw [← hl]; exact ones_numeral (by omega) h4 (by rw [HD.out]; omega) (by rw [HD.out]; omega)
        have h4f : ¬ (4000 : Int) < (N : Int) := by omega
        have hx := hnum.dec
        have G1 := fun W => nat.Get_ok l W hnum
        have hlt : ref.seg l 0 l.length < 10 ^ l.length := ref.seg_lt fun i _ hi => hnum.2.2.2 i (by omega)
        generalize ref.seg l 0 l.length = X at *
        have L_X := Lib.hid (show Bn X l.length from hlt)
        have G1 := Lib.hid G1
        have T1 := fun W v hv => nat.Text_any v X W hv (L_X.out.nat (by omega))
        rw [← hx] at T1
        have T1 := Lib.hid T1
        clear hx hlt hnum
        go_wp2_with (first
          | (go_at_call 44; (with_reducible refine (G1.out _).mono ?_); rintro e W3 ⟨a, rfl, ⟨h_a, n_a⟩, hb⟩
             obtain ⟨p_a, rfl⟩ := h_a.some n_a
             have H_a := Lib.hid h_a
             have HB3 := Lib.hid hb
             clear h_a hb G1)
          | (fail "no arm"))
        have HRow3 := Lib.hid (HRow.out.below HB3.out HRow.out.lt)
        have HLen := Lib.hid hdL
        have HOLD := Lib.hid (fun W (hW : Below W3.heap.size W3 W) => (show Below W3.heap.size W3 W ∧ (convert 119 9 (.slice (some ⟨W1.heap.size, 0, none⟩) N N)).run Tryz.prog W = .ok (.string (str l)) W from ⟨hW, conv_row (HRow3.out.below hW HRow3.out.lt) HLen.out⟩))
        generalize str l = sl at *
        go_region_held3 (fun w' => Below W3.heap.size W3 w' ∧ (convert 119 9 (.slice (some ⟨W1.heap.size, 0, none⟩) N N)).run Tryz.prog w' = .ok (.string sl) w')
          (first
            | exact HOLD.out _ (Below.refl _ _).drew
            | exact HOLD.out _ HR4.out)
          (first
          | (go_at_call 30; (with_reducible refine (T1.out _ _ (H_a.out.below (Below.refl _ _).drew)).mono ?_); rintro e W4 ⟨rfl, hb⟩
             have HR4 := Lib.hid (nat.below_tr (Below.refl _ _).drew hb)
             clear hb T1)
          | (fail "no arm"))
        go_wp2
        go_ret
        exact ⟨rfl, nat.below_tr (nat.below_tr HBe.out HB3.out) HR4.out⟩
      · have hnum : ¬ ref.Numeral l := fun h => by have := h.2.1; omega
        have h4t : (4000 : Int) < (N : Int) := by omega
        have G1 := Lib.hid (fun W => nat.Get_none l W hnum (by omega))
        unfold errOf at G1
        go_wp2_with (first
          | (go_at_call 44; (with_reducible refine (G1.out _).mono ?_); rintro e W3 ⟨rfl, rfl⟩
             clear G1)
          | (go_at_call 29; (with_reducible refine (Same_any 1 _ (HG.out.below HBe.out)).mono ?_); rintro e W4 ⟨rfl, hb⟩
             have HB4 := Lib.hid hb
             clear hb)
          | (fail "no arm"))
        go_ret
        exact ⟨rfl, nat.below_tr HBe.out HB4.out⟩
end Go.Proofs.YtfpooimjjpamoaaGreatDoor.law2
