/-
  DecGet answers true for every text. Conditions: begun answers true; texts of at most 2^62 bytes.
-/
import Derived.Test.YtfpooimjjpamoaaGreatDoorF22
namespace Go.Proofs.YtfpooimjjpamoaaGreatDoor.law2
open Go.RowKit Go.Proofs.YtfpooimjjpamoaaGreatDoor.nat
open Go.Proofs.YtfpooimjjpamoaaGreatDoor.ref (str signed decText)
set_option maxRecDepth 100000 in
set_option maxHeartbeats 4000000 in
theorem LwDecGet (HBg : BegunC) (s : List UInt8) (hs : s.length ≤ 4611686018427387904) (w : World) (hd : Hd w) :
    Calls Tryz.prog 9 #[.string (str s)] w fun e w' => e = .returned (.bool true) ∧ Below w.heap.size w w' := by
  unfold BegunC at HBg
  have HBG := Lib.hid HBg
  have HG := Lib.hid hd
  clear HBg hd
  have HT : Hid (∀ W, Calls Tryz.prog 43 #[.string (str s), .int .i64 70] W fun e w' => e = .returned (.string (str (s.take 70))) ∧ W = w') := Lib.hid (fun W => law2.Text_any s 70 W hs (by omega))
  obtain ⟨l, hl⟩ : ∃ l, s.take 70 = l := ⟨_, rfl⟩
  have hll : l.length ≤ 70 := by rw [← hl]; exact List.length_take_le _ _
  rw [hl] at HT
  generalize str s = zs at *
  clear hl hs
  by_cases h : ∃ neg n k, ref.DecForm l neg n k
  · obtain ⟨neg, n, k, hf⟩ := h
    have hlz : str l = str (decText (signed neg n) k) := by rw [← dec.form_text hf]
    have hk : k ≤ 20 := dec.form_places hf
    have hZ : Bz (signed neg n) 60 := dec.Bz_signed (dec.form_low hf)
    obtain ⟨q, hq⟩ : ∃ q : Rat, q = ((signed neg n : Int) : Rat) / ((10 ^ k : Nat) : Rat) := ⟨_, rfl⟩
    have L_q := Lib.hid (dec.br_ten hq hk hZ (by decide))
    have G1 := fun W => DGet_yes l neg n k q W hq hf
    have G2 := fun W => GetDec_yes l neg n k W (by omega) hf
    have QT := Lib.hid (fun W v (h : ref.IsQ W v (signed neg n) (10 ^ k)) => QText_at v _ _ 60 q W (Nat.pow_pos (by omega)) hq h hZ ((dec.Bn_ten hk).le (by decide)) (by decide))
    have PT := Lib.hid (fun W a (h : rat.IsR W a q) => DPut_yes a q (signed neg n) k W hq h (L_q.out.rat (by decide)) hk)
    rw [hlz] at G1 G2 HT
    have G1 := Lib.hid G1
    have G2 := Lib.hid G2
    clear hlz hk hZ hq hf hll
    generalize str (decText (signed neg n) k) = sl at *
    generalize signed neg n = Z at *
    generalize 10 ^ k = D at *
    go_enter Tryz.func9, Tryz.ntmps9
    go_wp2_with (first
      | (go_at_call 25; (with_reducible refine (HBG.out _ HG.out).mono ?_); rintro e W1 ⟨rfl, hb⟩
         have HB1 := Lib.hid hb
         clear hb)
      | (go_at_call 43; (with_reducible refine (HT.out _).mono ?_); rintro e w9 ⟨rfl, rfl⟩
         clear HT)
      | (go_at_call 78; (with_reducible refine (G1.out _).mono ?_); rintro e W2 ⟨a, rfl, ⟨h_a, n_a⟩, hb⟩
         obtain ⟨p_a, rfl⟩ := h_a.some n_a
         have H_a := Lib.hid h_a
         have N_a := Lib.hid n_a
         have HB2 := Lib.hid hb
         clear h_a n_a hb G1)
      | (go_at_call 79; (with_reducible refine (G2.out _).mono ?_); rintro e W3 ⟨x, rfl, h_x, hb⟩
         obtain ⟨s_x, t_x, rfl, h3, h4⟩ := id h_x
         obtain ⟨o_x, c_x, rfl⟩ := IsX_slice h3
         obtain ⟨u_x, e_x, rfl⟩ := IsX_slice h4
         have H_x := Lib.hid h_x
         have HB3 := Lib.hid hb
         have HB4 := Lib.hid (show Below W3.heap.size W3 (W3.alloc (.cells #[.bool (decide (Z < 0)), .slice o_x (ref.digs (Int.natAbs Z)).length c_x, .slice u_x (ref.digs D).length e_x] 86)) from (Below.refl _ _).alloc (Nat.le_refl _) _)
         have M_x := Lib.hid (cells3_new W3 (.bool (decide (Z < 0))) (.slice o_x (ref.digs (Int.natAbs Z)).length c_x) (.slice u_x (ref.digs D).length e_x) 86)
         clear h_x hb G2 h3 h4)
      | (go_at_call 80; (with_reducible refine (PT.out _ _ ((H_a.out.below HB3.out).below HB4.out)).mono ?_); rintro e W5 ⟨rfl, hb⟩
         have HB5 := Lib.hid hb
         obtain ⟨d5_x_0, d5_x_1, d5_x_2⟩ := (M_x.out.below HB5.out)
         clear hb PT)
      | (fail "no arm"))
    clear d5_x_0 d5_x_1 d5_x_2
    have c1 := fun (W : World) (v0 : Value) (hh0 : rat.IsR W v0 q)  => rat.Text_any v0 q W hh0 (L_q.out.rat (by decide))
    have C1 := Lib.hid c1
    clear c1
    generalize str (rat.rtxt q) = sq at *
    have HOLD := Lib.hid (fun W (hW : Below W5.heap.size W5 W) => (show Below W5.heap.size W5 W ∧ W.cell? ⟨W3.heap.size, 0, none⟩ = some (.bool (decide (Z < 0))) ∧ W.cell? ⟨W3.heap.size, 1, none⟩ = some (.slice o_x (ref.digs (Int.natAbs Z)).length c_x) ∧ W.cell? ⟨W3.heap.size, 2, none⟩ = some (.slice u_x (ref.digs D).length e_x) from ⟨hW, ((M_x.out.below HB5.out).below hW).1, ((M_x.out.below HB5.out).below hW).2.1, ((M_x.out.below HB5.out).below hW).2.2⟩))
    go_region_held3 (fun w' => Below W5.heap.size W5 w' ∧ w'.cell? ⟨W3.heap.size, 0, none⟩ = some (.bool (decide (Z < 0))) ∧ w'.cell? ⟨W3.heap.size, 1, none⟩ = some (.slice o_x (ref.digs (Int.natAbs Z)).length c_x) ∧ w'.cell? ⟨W3.heap.size, 2, none⟩ = some (.slice u_x (ref.digs D).length e_x))
      (first
        | exact HOLD.out _ (Below.refl _ _).drew
        | exact HOLD.out _ HR7.out
        | exact HOLD.out _ HR6.out)
      (first
      | (go_at_call 73; (with_reducible refine (C1.out _ _ ((((H_a.out.below HB3.out).below HB4.out).below HB5.out).below (Below.refl _ _).drew)).mono ?_); rintro e W6 ⟨rfl, hb⟩
         have HB6 := Lib.hid (nat.below_tr (Below.refl _ _).drew hb)
         have HR6 := Lib.hid HB6.out
         clear hb C1)
      | (go_at_call 76; (with_reducible refine (QT.out _ _ (((H_x.out.below HB4.out).below HB5.out).below HB6.out)).mono ?_); rintro e W7 ⟨rfl, hb⟩
         have HB7 := Lib.hid hb
         have HR7 := Lib.hid (nat.below_tr HB6.out HB7.out)
         obtain ⟨d7_x_0, d7_x_1, d7_x_2⟩ := (((M_x.out.below HB5.out).below HB6.out).below HB7.out)
         clear hb)
      | (fail "no arm"))
    go_wp2
    skip
    all_goals (go_ret; exact ⟨rfl, (nat.below_tr (nat.below_tr (nat.below_tr (nat.below_tr (nat.below_tr (nat.below_tr HB1.out HB2.out) HB3.out) HB4.out) HB5.out) HB6.out) HB7.out)⟩)
  · have G1 := Lib.hid (fun W => dec.Get_bad l W (by omega) (fun neg n k hf => h ⟨neg, n, k, hf⟩))
    have G2 := Lib.hid (fun W => GetDec_no l W (by omega) (fun neg n k hf => h ⟨neg, n, k, hf⟩))
    generalize str l = sl at *
    clear h hll
    go_enter Tryz.func9, Tryz.ntmps9
    go_wp2_with (first
      | (go_at_call 25; (with_reducible refine (HBG.out _ HG.out).mono ?_); rintro e W1 ⟨rfl, hb⟩
         have HB1 := Lib.hid hb
         clear hb)
      | (go_at_call 43; (with_reducible refine (HT.out _).mono ?_); rintro e w9 ⟨rfl, rfl⟩
         clear HT)
      | (go_at_call 78; (with_reducible refine (G1.out _).mono ?_); rintro e W2 ⟨rfl, hb⟩
         have HB2 := Lib.hid hb
         clear hb G1)
      | (go_at_call 79; (with_reducible refine (G2.out _).mono ?_); rintro e W3 ⟨rfl, hb⟩
         have HB3 := Lib.hid hb
         have HB4 := Lib.hid (show Below W3.heap.size W3 (W3.alloc (.cells #[.bool false, .slice none 0 0, .slice none 0 0] 86)) from (Below.refl _ _).alloc (Nat.le_refl _) _)
         clear hb G2)
      | (go_at_call 29; (with_reducible refine (Same_any 1 _ ((((HG.out.below HB1.out).below HB2.out).below HB3.out).below HB4.out)).mono ?_); rintro e W5 ⟨rfl, hb⟩
         have HB5 := Lib.hid hb
         clear hb)
      | (fail "no arm"))
    skip
    all_goals (go_ret; exact ⟨rfl, (nat.below_tr (nat.below_tr (nat.below_tr (nat.below_tr HB1.out HB2.out) HB3.out) HB4.out) HB5.out)⟩)
end Go.Proofs.YtfpooimjjpamoaaGreatDoor.law2
