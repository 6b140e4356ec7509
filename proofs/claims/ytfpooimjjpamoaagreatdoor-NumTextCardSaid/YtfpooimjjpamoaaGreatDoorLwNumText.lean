/-
  NumText answers true for every text. Conditions: begun answers true; texts of at most 2^62 bytes.
-/
import Derived.Test.YtfpooimjjpamoaaGreatDoorA38
namespace Go.Proofs.YtfpooimjjpamoaaGreatDoor.law2
open Go.RowKit Go.Proofs.YtfpooimjjpamoaaGreatDoor.nat
open Go.Proofs.YtfpooimjjpamoaaGreatDoor.ref (str)
set_option maxRecDepth 100000 in
set_option maxHeartbeats 4000000 in
theorem LwNumText (HBg : BegunC) (s : List UInt8) (hs : s.length ≤ 4611686018427387904) (w : World) (hd : Hd w) :
    Calls Tryz.prog 7 #[.string (str s)] w fun e w' => e = .returned (.bool true) ∧ Below w.heap.size w w' := by
  unfold BegunC at HBg
  have HBG := Lib.hid HBg
  have HG := Lib.hid hd
  clear HBg hd
  have HT : Hid (∀ W, Calls Tryz.prog 43 #[.string (str s), .int .i64 80] W fun e w' => e = .returned (.string (str (s.take 80))) ∧ W = w') := Lib.hid (fun W => law2.Text_any s 80 W hs (by omega))
  obtain ⟨l, hl⟩ : ∃ l, s.take 80 = l := ⟨_, rfl⟩
  have hll : l.length ≤ 80 := by rw [← hl]; exact List.length_take_le _ _
  rw [hl] at HT
  generalize str s = zs at *
  clear hl hs
  by_cases h : ∃ z, ref.IntText l z
  · obtain ⟨z, hz⟩ := h
    have hlz : str l = str (Lib.itoa z) := by rw [← hz.itoa]
    have L_z := Lib.hid (show Bz z 80 from intText_lt hz hll)
    have G1 := Lib.hid (fun W => num.Get_ok l z W hz)
    have G2 := Lib.hid (fun W => ref.GetI_yes l z W (by omega) hz)
    rw [hlz] at G1 G2 HT
    clear hz hll hlz
    have c1 := fun (W : World) (v0 : Value) (hh0 : num.IsZ W v0 z)  => num.Text_any v0 z W hh0 (L_z.out.nat (by decide))
    have C1 := Lib.hid c1
    clear c1
    have c2 := fun (W : World) (v0 : Value) (hh0 : ref.IsI W v0 z)  => ref.IText_any v0 z W hh0 (L_z.out.ref (by decide))
    have C2 := Lib.hid c2
    clear c2
    generalize str (Lib.itoa z) = sz at *
    go_enter Tryz.func7, Tryz.ntmps7
    go_wp2_with (first
      | (go_at_call 25; (with_reducible refine (HBG.out _ HG.out).mono ?_); rintro e W1 ⟨rfl, hb⟩
         have HB1 := Lib.hid hb
         clear hb)
      | (go_at_call 43; (with_reducible refine (HT.out _).mono ?_); rintro e w9 ⟨rfl, rfl⟩
         clear HT)
      | (go_at_call 69; (with_reducible refine (G1.out _).mono ?_); rintro e W2 ⟨a, rfl, ⟨h_a, n_a⟩, hb⟩
         have H_a := Lib.hid h_a
         have N_a := Lib.hid n_a
         have HB2 := Lib.hid hb
         clear h_a n_a hb G1)
      | (go_at_call 70; (with_reducible refine (G2.out _).mono ?_); rintro e W3 ⟨x, rfl, h_x, hb⟩
         obtain ⟨o_x, c_x, rfl⟩ := IsX_slice h_x
         have H_x := Lib.hid (ref_isI h_x)
         have HB3 := Lib.hid hb
         have HB4 := Lib.hid (show Below W3.heap.size W3 (W3.alloc (.cells #[.bool (decide (z < 0)), .slice o_x (ref.digs z.natAbs).length c_x] 57)) from (Below.refl _ _).alloc (Nat.le_refl _) _)
         have M_x := Lib.hid (cells2_new W3 (.bool (decide (z < 0))) (.slice o_x (ref.digs z.natAbs).length c_x) 57)
         clear hb h_x G2)
      | (go_at_call 52; (with_reducible refine (C1.out _ _ ((H_a.out.below HB3.out).below HB4.out)).mono ?_); rintro e W5 ⟨rfl, hb⟩
         have HB5 := Lib.hid hb
         obtain ⟨d5_x_0, d5_x_1⟩ := (M_x.out.below HB5.out)
         clear hb C1)
      | (go_at_call 53; (with_reducible refine (C2.out _ _ ((H_x.out.below HB4.out).below HB5.out)).mono ?_); rintro e W6 ⟨rfl, hb⟩
         have HB6 := Lib.hid hb
         obtain ⟨d6_x_0, d6_x_1⟩ := ((M_x.out.below HB5.out).below HB6.out)
         clear hb C2)
      | (fail "no arm"))
    skip
    all_goals (go_ret; exact ⟨rfl, (nat.below_tr (nat.below_tr (nat.below_tr (nat.below_tr (nat.below_tr HB1.out HB2.out) HB3.out) HB4.out) HB5.out) HB6.out)⟩)
  · have G1 := Lib.hid (fun W => num.Get_bad l W (by omega) (fun z hz => h ⟨z, hz⟩))
    have G2 := Lib.hid (fun W => ref.GetI_no l W (by omega) (fun z hz => h ⟨z, hz⟩))
    unfold errOf at G1
    generalize str l = sl at *
    clear h hll
    go_enter Tryz.func7, Tryz.ntmps7
    go_wp2_with (first
      | (go_at_call 25; (with_reducible refine (HBG.out _ HG.out).mono ?_); rintro e W1 ⟨rfl, hb⟩
         have HB1 := Lib.hid hb
         clear hb)
      | (go_at_call 43; (with_reducible refine (HT.out _).mono ?_); rintro e w9 ⟨rfl, rfl⟩
         clear HT)
      | (go_at_call 69; (with_reducible refine (G1.out _).mono ?_); rintro e W2 ⟨rfl, hb⟩
         have HB2 := Lib.hid hb
         clear hb G1)
      | (go_at_call 70; (with_reducible refine (G2.out _).mono ?_); rintro e W3 ⟨rfl, hb⟩
         have HB3 := Lib.hid hb
         have HB4 := Lib.hid (show Below W3.heap.size W3 (W3.alloc (.cells #[.bool false, .slice none 0 0] 57)) from (Below.refl _ _).alloc (Nat.le_refl _) _)
         have M_x := Lib.hid (cells2_new W3 (.bool false) (.slice none 0 0) 57)
         clear hb G2)
      | (go_at_call 29; (with_reducible refine (Same_any 1 _ ((((HG.out.below HB1.out).below HB2.out).below HB3.out).below HB4.out)).mono ?_); rintro e W5 ⟨rfl, hb⟩
         have HB5 := Lib.hid hb
         obtain ⟨d5_x_0, d5_x_1⟩ := (M_x.out.below HB5.out)
         clear hb)
      | (fail "no arm"))
    skip
    all_goals (go_ret; exact ⟨rfl, (nat.below_tr (nat.below_tr (nat.below_tr (nat.below_tr HB1.out HB2.out) HB3.out) HB4.out) HB5.out)⟩)
end Go.Proofs.YtfpooimjjpamoaaGreatDoor.law2
