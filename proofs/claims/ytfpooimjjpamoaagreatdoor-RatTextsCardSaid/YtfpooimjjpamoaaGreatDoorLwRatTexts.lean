/-
  RatTexts answers true for every three numbers. Condition: begun answers true.
-/
import Derived.Test.YtfpooimjjpamoaaGreatDoorB15
namespace Go.Proofs.YtfpooimjjpamoaaGreatDoor.law2
open Go.RowKit Go.Proofs.YtfpooimjjpamoaaGreatDoor.nat
open Go.Proofs.YtfpooimjjpamoaaGreatDoor.ref (str)
theorem pick_text (a b : List UInt8) (ha : (str a).size ≤ 20 * 100 + 2) (hb : (str b).size ≤ 20 * 100 + 2) (J : Int) (j1 : 0 ≤ J) (j2 : J < 11) :
    ∃ l : List UInt8, l.length ≤ 9000 ∧ (#[Value.string (str a ++ { data := #[47, 45] } ++ str b), Value.string (str a ++ { data := #[47, 48] }),
          Value.string ({ data := #[43] } ++ str a), Value.string (str a ++ { data := #[47] } ++ str b ++ { data := #[48] }),
          Value.string ({ data := #[48] } ++ str a), Value.string (str a ++ { data := #[47, 49] }),
          Value.string (str a ++ { data := #[32, 47] } ++ str b), Value.string { data := #[45, 48] },
          Value.string (str a ++ { data := #[47] } ++ str b ++ { data := #[47, 50] }), Value.string ({ data := #[47] } ++ str b),
          Value.string (str a ++ { data := #[47] })] : Array Value)[J.toNat]'(by simp; omega) = Value.string (str l) := by
  rw [ref.str_size] at ha hb
  obtain ⟨k, rfl⟩ : ∃ k : Nat, J = (k : Int) := ⟨J.toNat, by omega⟩
  have hk : k < 11 := by omega
  rcases (show k = 0 ∨ k = 1 ∨ k = 2 ∨ k = 3 ∨ k = 4 ∨ k = 5 ∨ k = 6 ∨ k = 7 ∨ k = 8 ∨ k = 9 ∨ k = 10 by omega) with rfl | rfl | rfl | rfl | rfl | rfl | rfl | rfl | rfl | rfl | rfl
  · exact ⟨a ++ [47, 45] ++ b, by simp; omega, by rw [← ref.str_append, ← ref.str_append]; rfl⟩
  · exact ⟨a ++ [47, 48], by simp; omega, by rw [← ref.str_append]; rfl⟩
  · exact ⟨[43] ++ a, by simp; omega, by rw [← ref.str_append]; rfl⟩
  · exact ⟨a ++ [47] ++ b ++ [48], by simp; omega, by rw [← ref.str_append, ← ref.str_append, ← ref.str_append]; rfl⟩
  · exact ⟨[48] ++ a, by simp; omega, by rw [← ref.str_append]; rfl⟩
  · exact ⟨a ++ [47, 49], by simp; omega, by rw [← ref.str_append]; rfl⟩
  · exact ⟨a ++ [32, 47] ++ b, by simp; omega, by rw [← ref.str_append, ← ref.str_append]; rfl⟩
  · exact ⟨[45, 48], by simp, rfl⟩
  · exact ⟨a ++ [47] ++ b ++ [47, 50], by simp; omega, by rw [← ref.str_append, ← ref.str_append, ← ref.str_append]; rfl⟩
  · exact ⟨[47] ++ b, by simp; omega, by rw [← ref.str_append]; rfl⟩
  · exact ⟨a ++ [47], by simp; omega, by rw [← ref.str_append]; rfl⟩
set_option maxRecDepth 100000 in
set_option maxHeartbeats 4000000 in
theorem LwRatTexts (HBg : BegunC) (n : Int) (_n1 : -9223372036854775808 ≤ n) (_n2 : n < 9223372036854775808) (d : Int) (_d1 : -9223372036854775808 ≤ d) (_d2 : d < 9223372036854775808) (how : Int) (_how1 : -9223372036854775808 ≤ how) (_how2 : how < 9223372036854775808) (w : World) (hd : Hd w) :
    Calls Tryz.prog 21 #[.int .i64 n, .int .i64 d, .int .i64 how] w fun e w' => e = .returned (.bool true) ∧ Below w.heap.size w w' := by
  unfold BegunC at HBg
  have HBG := Lib.hid HBg
  have HG := Lib.hid hd
  clear HBg hd
  have t1 : -100000 < n.tmod 100000 := Int.lt_tmod_of_pos n (by decide)
  have t2 : n.tmod 100000 < 100000 := Int.tmod_lt_of_pos n (by decide)
  have t3 : -1000 < d.tmod 1000 := Int.lt_tmod_of_pos d (by decide)
  have t4 : d.tmod 1000 < 1000 := Int.tmod_lt_of_pos d (by decide)
  have t5 : -11 < how.tmod 11 := Int.lt_tmod_of_pos how (by decide)
  have t6 : how.tmod 11 < 11 := Int.tmod_lt_of_pos how (by decide)
  obtain ⟨N, hN⟩ : ∃ N : Int, n.tmod 100000 = N := ⟨_, rfl⟩
  obtain ⟨D, hD⟩ : ∃ D : Int, (d.tmod 1000 + 1000) % 1000 = D := ⟨_, rfl⟩
  obtain ⟨J, hJ⟩ : ∃ J : Int, (how.tmod 11 + 11) % 11 = J := ⟨_, rfl⟩
  have n1 : -100000 < N := by omega
  have n2 : N < 100000 := by omega
  have d1 : 0 ≤ D := by omega
  have d2 : D < 1000 := by omega
  have j1 : 0 ≤ J := by omega
  have j2 : J < 11 := by omega
  have OK := fun W => rat.Of_ok N (2 + D) W (by omega) (by omega) (by omega) (by omega) (by omega)
  obtain ⟨qi, hqi⟩ : ∃ q, q = (N : Rat) / ((2 + D : Int) : Rat) := ⟨_, rfl⟩
  have L_qi := Lib.hid (show Br qi 20 from Br_lowz (show 2 + D ≠ 0 by omega) hqi (Bz_small (by omega) (by omega)) (Bz_small (by omega) (by omega)))
  rw [← hqi] at OK
  have OK := Lib.hid OK
  clear hqi
  have z1 := rat.itoa_size (show num.Lz qi.num 100 from L_qi.out.1.nat (by decide))
  have z2 := rat.itoa_size (show num.Lz ((qi.den : Nat) : Int) 100 from (Bz_nat L_qi.out.2).nat (by decide))
  have c1 := fun (W : World) (v0 : Value) (hh0 : rat.IsR W v0 qi)  => rat.Num_any v0 qi W hh0
  have C1 := Lib.hid c1
  clear c1
  have c2 := fun (W : World) (v0 : Value) (hh0 : num.IsZ W v0 qi.num)  => num.Text_any v0 qi.num W hh0 (L_qi.out.1.nat (by decide))
  have C2 := Lib.hid c2
  clear c2
  have c3 := fun (W : World) (v0 : Value) (hh0 : rat.IsR W v0 qi)  => rat.Den_any v0 qi W hh0
  have C3 := Lib.hid c3
  clear c3
  have c4 := fun (W : World) (v0 : Value) (hh0 : num.IsZ W v0 ((qi.den : Nat) : Int))  => num.Text_any v0 ((qi.den : Nat) : Int) W hh0 ((Bz_nat L_qi.out.2).nat (by decide))
  have C4 := Lib.hid c4
  clear c4
  generalize Lib.itoa qi.num = lx at *
  generalize Lib.itoa ((qi.den : Nat) : Int) = ly at *
  obtain ⟨l, hll, hv⟩ := pick_text lx ly z1 z2 J j1 j2
  generalize str lx = sx at *
  generalize str ly = sy at *
  have HL := Lib.hid hll
  clear hll
  go_enter Tryz.func21, Tryz.ntmps21
  go_wp2_with (first
    | (go_at_call 25; (with_reducible refine (HBG.out _ HG.out).mono ?_); rintro e W1 ⟨rfl, hb⟩
       have HB1 := Lib.hid hb
       clear hb)
    | (go_at_call 74; (with_reducible refine (OK.out _).mono ?_); rintro e W2 ⟨a, rfl, ⟨h_a, n_a⟩, hb⟩
       have H_a := Lib.hid h_a
       have N_a := Lib.hid n_a
       have HB2 := Lib.hid hb
       clear h_a n_a hb OK)
    | (go_at_call 99; (with_reducible refine (C1.out _ _ H_a.out).mono ?_); rintro e W3 ⟨u, rfl, ⟨h_u, n_u⟩, hb⟩
       have H_u := Lib.hid h_u
       have N_u := Lib.hid n_u
       have HB3 := Lib.hid hb
       clear h_u n_u hb C1)
    | (go_at_call 52; (with_reducible refine (C2.out _ _ H_u.out).mono ?_); rintro e W4 ⟨rfl, hb⟩
       have HB4 := Lib.hid hb
       clear hb C2)
    | (go_at_call 95; (with_reducible refine (C3.out _ _ ((H_a.out.below HB3.out).below HB4.out)).mono ?_); rintro e W5 ⟨v, rfl, ⟨h_v, n_v⟩, hb⟩
       have H_v := Lib.hid h_v
       have N_v := Lib.hid n_v
       have HB5 := Lib.hid hb
       clear h_v n_v hb C3)
    | (go_at_call 52; (with_reducible refine (C4.out _ _ H_v.out).mono ?_); rintro e W6 ⟨rfl, hb⟩
       have HB6 := Lib.hid hb
       clear hb C4)
    | (fail "no arm"))
  by_cases h : ∃ q, rat.FracText l q
  · obtain ⟨q, hq⟩ := h
    have G1 := Lib.hid (fun W => rat.Get_ok l q W hq)
    have G2 := Lib.hid (fun W => GetQ_yes l q W HL.out hq)
    generalize str l = sl at *
    clear hq
    go_wp2_with (first
      | (go_at_call 71; (with_reducible refine (G1.out _).mono ?_); rintro e W7 ⟨a, rfl, ⟨h_a, n_a⟩, hb⟩
         have H_a := Lib.hid h_a
         have N_a := Lib.hid n_a
         have HB7 := Lib.hid (nat.below_tr ((Below.refl _ _).alloc (Nat.le_refl _) _) hb)
         clear h_a n_a hb G1)
      | (go_at_call 72; (with_reducible refine (G2.out _).mono ?_); rintro e W8 ⟨gp, go1, gn1, gc1, go2, gn2, gc2, rfl, hb⟩
         have HB8 := Lib.hid hb
         have HB9 := Lib.hid (show Below W8.heap.size W8 (W8.alloc (.cells #[.bool gp, .slice go1 gn1 gc1, .slice go2 gn2 gc2] 86)) from (Below.refl _ _).alloc (Nat.le_refl _) _)
         clear hb G2)
      | (fail "no arm"))
    skip
    all_goals (go_ret; exact ⟨rfl, (nat.below_tr (nat.below_tr (nat.below_tr (nat.below_tr (nat.below_tr (nat.below_tr (nat.below_tr (nat.below_tr HB1.out HB2.out) HB3.out) HB4.out) HB5.out) HB6.out) HB7.out) HB8.out) HB9.out)⟩)
  · have G1 := Lib.hid (fun W => rat.Get_bad l W (by have := HL.out; omega) (fun q hq => h ⟨q, hq⟩))
    have G2 := Lib.hid (fun W => GetQ_no l W HL.out (fun q hq => h ⟨q, hq⟩))
    generalize str l = sl at *
    clear h
    go_wp2_with (first
      | (go_at_call 71; (with_reducible refine (G1.out _).mono ?_); rintro e W7 ⟨rfl, hb⟩
         have HB7 := Lib.hid (nat.below_tr ((Below.refl _ _).alloc (Nat.le_refl _) _) hb)
         clear hb G1)
      | (go_at_call 72; (with_reducible refine (G2.out _).mono ?_); rintro e W8 ⟨rfl, hb⟩
         have HB8 := Lib.hid hb
         have HB9 := Lib.hid (show Below W8.heap.size W8 (W8.alloc (.cells #[.bool false, .slice none 0 0, .slice none 0 0] 86)) from (Below.refl _ _).alloc (Nat.le_refl _) _)
         clear hb G2)
      | (go_at_call 29; (with_reducible refine (Same_any 1 _ (((((((((HG.out.below HB1.out).below HB2.out).below HB3.out).below HB4.out).below HB5.out).below HB6.out).below HB7.out).below HB8.out).below HB9.out)).mono ?_); rintro e W10 ⟨rfl, hb⟩
         have HB10 := Lib.hid hb
         clear hb)
      | (fail "no arm"))
    skip
    all_goals (go_ret; exact ⟨rfl, (nat.below_tr (nat.below_tr (nat.below_tr (nat.below_tr (nat.below_tr (nat.below_tr (nat.below_tr (nat.below_tr (nat.below_tr HB1.out HB2.out) HB3.out) HB4.out) HB5.out) HB6.out) HB7.out) HB8.out) HB9.out) HB10.out)⟩)
end Go.Proofs.YtfpooimjjpamoaaGreatDoor.law2
