/-
  The steps of the walks, part 13: RatG.
-/
import Derived.Test.YtfpooimjjpamoaaGreatDoorB12
namespace Go.Proofs.YtfpooimjjpamoaaGreatDoor.rat
open Go.RowKit Go.Proofs.YtfpooimjjpamoaaGreatDoor.nat Go.Proofs.YtfpooimjjpamoaaGreatDoor.num
open Go.Proofs.YtfpooimjjpamoaaGreatDoor.ref (str str_size IntText Numeral seg seg_lt)
theorem Ln_tens {x n m : Nat} (h : x < 10 ^ n) (hn : n ≤ m) : Ln x m :=
  Ln_pow (Nat.lt_of_lt_of_le h (Nat.le_trans (Nat.pow_le_pow_right (by omega) hn) (Nat.pow_le_pow_left (by omega) _)))
theorem intText_size {l : List UInt8} {z : Int} (h : IntText l z) : Lz z 4000 := by
  rcases h with ⟨h, rfl⟩ | ⟨t, rfl, h, -, rfl⟩
  · exact Lz_nat (Ln_tens (seg_lt (l := l) (st := 0) (m := l.length) fun i _ hi => h.2.2.2 i (by omega)) h.2.1)
  · exact Lz_neg (Lz_nat (Ln_tens (seg_lt (l := t) (st := 0) (m := t.length) fun i _ hi => h.2.2.2 i (by omega)) h.2.1))
theorem intText_len {l : List UInt8} {z : Int} (h : IntText l z) : l.length ≤ 4001 := by
  rcases h with ⟨h, rfl⟩ | ⟨t, rfl, h, -, rfl⟩
  · have := h.2.1; omega
  · have := h.2.1; simp; omega
set_option maxRecDepth 100000 in
set_option maxHeartbeats 4000000 in
theorem Get_whole_ok (l : List UInt8) (z : Int) (w : World) (hl : l.length ≤ 4611686018427387904) (hn : ∀ c ∈ l, c ≠ 47) (hI : IntText l z) :
    Calls Tryz.prog 71 #[.string (str l)] w fun e w' => ∃ u, e = .returned (.tuple #[u, .nilIface]) ∧ (IsR w' u (z : Rat) ∧ u ≠ .pointer none) ∧ Below w.heap.size w w' := by
  have c1 := fun (W : World)    => Cut_whole l W hl hn
  have C1 := Lib.hid c1
  clear c1
  have c2 := fun (W : World)    => num.Get_ok l z W hI
  have C2 := Lib.hid c2
  clear c2
  have c3 := fun (W : World)    => num.Of_any 1 W (by decide) (by decide)
  have C3 := Lib.hid c3
  clear c3
  have c4 := fun (W : World) (v0 : Value) (v1 : Value) (hh0 : num.IsZ W v0 z) (hh1 : num.IsZ W v1 (1 : Int)) (n0 : v0 ≠ .pointer none) (n1 : v1 ≠ .pointer none) => own_at (z : Rat) v0 v1 _ _ W hh0 n0 hh1 n1 rfl rfl
  have C4 := Lib.hid c4
  clear c4
  generalize str l = s0 at *
  clear hl hn hI
  go_enter Tryz.func71, Tryz.ntmps71
  go_wp2_with (first
    | (go_at_call 127; (with_reducible refine (C1.out _ ).mono ?_); rintro e W1 ⟨rfl, hb⟩
       have HB1 := Lib.hid hb
       clear hb C1)
    | (go_at_call 69; (with_reducible refine (C2.out _ ).mono ?_); rintro e W2 ⟨t, rfl, ⟨h_t, n_t⟩, hb⟩
       have H_t := Lib.hid h_t
       have N_t := Lib.hid n_t
       have HB2 := Lib.hid hb
       clear h_t n_t hb C2)
    | (go_at_call 57; (with_reducible refine (C3.out _ ).mono ?_); rintro e W3 ⟨o, rfl, ⟨h_o, n_o⟩, hb⟩
       have H_o := Lib.hid h_o
       have N_o := Lib.hid n_o
       have HB3 := Lib.hid hb
       clear h_o n_o hb C3)
    | (go_at_call 128; (with_reducible refine (C4.out _ _ _ (H_t.out.below HB3.out) H_o.out N_t.out N_o.out).mono ?_); rintro e W4 ⟨u, rfl, ⟨h_u, n_u⟩, hb⟩
       have H_u := Lib.hid h_u
       have N_u := Lib.hid n_u
       have HB4 := Lib.hid hb
       clear h_u n_u hb C4)
    | (fail "no arm"))
  go_ret2
  exact ⟨_, rfl, ⟨H_u.out, N_u.out⟩, (nat.below_tr (nat.below_tr (nat.below_tr HB1.out HB2.out) HB3.out) HB4.out)⟩
set_option maxRecDepth 100000 in
set_option maxHeartbeats 4000000 in
theorem Get_whole_bad (l : List UInt8) (w : World) (hl : l.length ≤ 4611686018427387904) (hn : ∀ c ∈ l, c ≠ 47) (hI : ∀ z, ¬ IntText l z) :
    Calls Tryz.prog 71 #[.string (str l)] w fun e w' => e = .returned (.tuple #[.pointer none, .iface 171 (.int .i64 1)]) ∧ Below w.heap.size w w' := by
  have c1 := fun (W : World)    => Cut_whole l W hl hn
  have C1 := Lib.hid c1
  clear c1
  have c2 := fun (W : World)    => num.Get_bad l W (by omega) hI
  unfold errOf at c2
  have C2 := Lib.hid c2
  clear c2
  generalize str l = s0 at *
  clear hl hn hI
  go_enter Tryz.func71, Tryz.ntmps71
  go_wp2_with (first
    | (go_at_call 127; (with_reducible refine (C1.out _ ).mono ?_); rintro e W1 ⟨rfl, hb⟩
       have HB1 := Lib.hid hb
       clear hb C1)
    | (go_at_call 69; (with_reducible refine (C2.out _ ).mono ?_); rintro e W2 ⟨rfl, hb⟩
       have HB2 := Lib.hid hb
       clear hb C2)
    | (fail "no arm"))
  go_ret2
  exact ⟨rfl, (nat.below_tr HB1.out HB2.out)⟩
set_option maxRecDepth 100000 in
set_option maxHeartbeats 4000000 in
theorem Get_first_bad (a b : List UInt8) (w : World) (hl : (a ++ 47 :: b).length ≤ 4611686018427387904) (hn : ∀ c ∈ a, c ≠ 47) (hI : ∀ z, ¬ IntText a z) :
    Calls Tryz.prog 71 #[.string (str (a ++ 47 :: b))] w fun e w' => e = .returned (.tuple #[.pointer none, .iface 171 (.int .i64 1)]) ∧ Below w.heap.size w w' := by
  have c1 := fun (W : World)    => Cut_slash a b W hl hn
  have C1 := Lib.hid c1
  clear c1
  have c2 := fun (W : World)    => num.Get_bad a W (by simp at hl; omega) hI
  unfold errOf at c2
  have C2 := Lib.hid c2
  clear c2
  generalize str (a ++ 47 :: b) = s0 at *
  generalize str a = s1 at *
  generalize str b = s2 at *
  clear hl hn hI
  go_enter Tryz.func71, Tryz.ntmps71
  go_wp2_with (first
    | (go_at_call 127; (with_reducible refine (C1.out _ ).mono ?_); rintro e W1 ⟨rfl, hb⟩
       have HB1 := Lib.hid hb
       clear hb C1)
    | (go_at_call 69; (with_reducible refine (C2.out _ ).mono ?_); rintro e W2 ⟨rfl, hb⟩
       have HB2 := Lib.hid hb
       clear hb C2)
    | (fail "no arm"))
  go_ret2
  exact ⟨rfl, (nat.below_tr HB1.out HB2.out)⟩
set_option maxRecDepth 100000 in
set_option maxHeartbeats 4000000 in
theorem Get_second_bad (a b : List UInt8) (z : Int) (w : World) (hl : (a ++ 47 :: b).length ≤ 4611686018427387904) (hn : ∀ c ∈ a, c ≠ 47) (hI : IntText a z) (hJ : ∀ y, ¬ IntText b y) :
    Calls Tryz.prog 71 #[.string (str (a ++ 47 :: b))] w fun e w' => e = .returned (.tuple #[.pointer none, .iface 171 (.int .i64 1)]) ∧ Below w.heap.size w w' := by
  have c1 := fun (W : World)    => Cut_slash a b W hl hn
  have C1 := Lib.hid c1
  clear c1
  have c2 := fun (W : World)    => num.Get_ok a z W hI
  have C2 := Lib.hid c2
  clear c2
  have c3 := fun (W : World)    => num.Get_bad b W (by simp at hl; omega) hJ
  unfold errOf at c3
  have C3 := Lib.hid c3
  clear c3
  generalize str (a ++ 47 :: b) = s0 at *
  generalize str a = s1 at *
  generalize str b = s2 at *
  clear hl hn hI hJ
  go_enter Tryz.func71, Tryz.ntmps71
  go_wp2_with (first
    | (go_at_call 127; (with_reducible refine (C1.out _ ).mono ?_); rintro e W1 ⟨rfl, hb⟩
       have HB1 := Lib.hid hb
       clear hb C1)
    | (go_at_call 69; (with_reducible refine (C2.out _ ).mono ?_); rintro e W2 ⟨t, rfl, ⟨h_t, n_t⟩, hb⟩
       have H_t := Lib.hid h_t
       have N_t := Lib.hid n_t
       have HB2 := Lib.hid hb
       clear h_t n_t hb C2)
    | (go_at_call 69; (with_reducible refine (C3.out _ ).mono ?_); rintro e W3 ⟨rfl, hb⟩
       have HB3 := Lib.hid hb
       clear hb C3)
    | (fail "no arm"))
  go_ret2
  exact ⟨rfl, (nat.below_tr (nat.below_tr HB1.out HB2.out) HB3.out)⟩
set_option maxRecDepth 100000 in
set_option maxHeartbeats 4000000 in
theorem Get_parts_low (a b : List UInt8) (z y : Int) (w : World) (hl : (a ++ 47 :: b).length ≤ 4611686018427387904) (hn : ∀ c ∈ a, c ≠ 47) (hI : IntText a z) (hJ : IntText b y) (h1 : y ≤ 1) :
    Calls Tryz.prog 71 #[.string (str (a ++ 47 :: b))] w fun e w' => e = .returned (.tuple #[.pointer none, .iface 171 (.int .i64 1)]) ∧ Below w.heap.size w w' := by
  have hcl : cmp3 y 1 ≤ 0 := by unfold cmp3; (repeat' split) <;> omega
  have c1 := fun (W : World)    => Cut_slash a b W hl hn
  have C1 := Lib.hid c1
  clear c1
  have c2 := fun (W : World)    => num.Get_ok a z W hI
  have C2 := Lib.hid c2
  clear c2
  have c3 := fun (W : World)    => num.Get_ok b y W hJ
  have C3 := Lib.hid c3
  clear c3
  have c4 := fun (W : World)    => num.Of_any 1 W (by decide) (by decide)
  have C4 := Lib.hid c4
  clear c4
  have c5 := fun (W : World) (v0 : Value) (v1 : Value) (hh0 : num.IsZ W v0 y) (hh1 : num.IsZ W v1 (1 : Int))  => num.Cmp_b v0 v1 y (1 : Int) W hh0 hh1 ((intText_size hJ).le (by decide)) ((Lz_small (by decide)).le (by decide))
  have C5 := Lib.hid c5
  clear c5
  have c6 := fun (W : World)    => flt.Of_some 1 W rfl
  have C6 := Lib.hid c6
  clear c6
  generalize str (a ++ 47 :: b) = s0 at *
  generalize str a = s1 at *
  generalize str b = s2 at *
  clear hl hn hI hJ h1
  generalize cmp3 y 1 = cc at *
  go_enter Tryz.func71, Tryz.ntmps71
  go_wp2_with (first
    | (go_at_call 127; (with_reducible refine (C1.out _ ).mono ?_); rintro e W1 ⟨rfl, hb⟩
       have HB1 := Lib.hid hb
       clear hb C1)
    | (go_at_call 69; (with_reducible refine (C2.out _ ).mono ?_); rintro e W2 ⟨t, rfl, ⟨h_t, n_t⟩, hb⟩
       have H_t := Lib.hid h_t
       have N_t := Lib.hid n_t
       have HB2 := Lib.hid hb
       clear h_t n_t hb C2)
    | (go_at_call 69; (with_reducible refine (C3.out _ ).mono ?_); rintro e W3 ⟨d, rfl, ⟨h_d, n_d⟩, hb⟩
       have H_d := Lib.hid h_d
       have N_d := Lib.hid n_d
       have HB3 := Lib.hid hb
       clear h_d n_d hb C3)
    | (go_at_call 57; (with_reducible refine (C4.out _ ).mono ?_); rintro e W4 ⟨o, rfl, ⟨h_o, n_o⟩, hb⟩
       have H_o := Lib.hid h_o
       have N_o := Lib.hid n_o
       have HB4 := Lib.hid hb
       clear h_o n_o hb C4)
    | (go_at_call 56; (with_reducible refine (C5.out _ _ _ (H_d.out.below HB4.out) H_o.out).mono ?_); rintro e W5 ⟨rfl, hb⟩
       have HB5 := Lib.hid hb
       clear hb C5)
    | (go_at_call 103; (with_reducible refine (C6.out _ ).mono ?_); rintro e w9 ⟨rfl, rfl⟩
       clear C6)
    | (fail "no arm"))
  go_ret2
  exact ⟨rfl, (nat.below_tr (nat.below_tr (nat.below_tr (nat.below_tr HB1.out HB2.out) HB3.out) HB4.out) HB5.out)⟩
set_option maxRecDepth 100000 in
set_option maxHeartbeats 4000000 in
theorem Get_parts_common (a b : List UInt8) (z y : Int) (w : World) (hl : (a ++ 47 :: b).length ≤ 4611686018427387904) (hn : ∀ c ∈ a, c ≠ 47) (hI : IntText a z) (hJ : IntText b y) (h1 : 1 < y) (hg : Nat.gcd z.natAbs y.natAbs ≠ 1) :
    Calls Tryz.prog 71 #[.string (str (a ++ 47 :: b))] w fun e w' => e = .returned (.tuple #[.pointer none, .iface 171 (.int .i64 1)]) ∧ Below w.heap.size w w' := by
  have hcl : (cmp3 ((Nat.gcd z.natAbs y.natAbs : Nat) : Int) 1 == 0) = false := by unfold cmp3; (repeat' split) <;> simp <;> omega
  have c1 := fun (W : World)    => Cut_slash a b W hl hn
  have C1 := Lib.hid c1
  clear c1
  have c2 := fun (W : World)    => num.Get_ok a z W hI
  have C2 := Lib.hid c2
  clear c2
  have c3 := fun (W : World)    => num.Get_ok b y W hJ
  have C3 := Lib.hid c3
  clear c3
  have c4 := fun (W : World)    => num.Of_any 1 W (by decide) (by decide)
  have C4 := Lib.hid c4
  clear c4
  have c5 := fun (W : World) (v0 : Value) (v1 : Value) (hh0 : num.IsZ W v0 y) (hh1 : num.IsZ W v1 (1 : Int))  => num.Cmp_b v0 v1 y (1 : Int) W hh0 hh1 ((intText_size hJ).le (by decide)) ((Lz_small (by decide)).le (by decide))
  rw [show cmp3 y (1 : Int) = 1 by unfold cmp3; rw [if_neg (by omega), if_pos (by omega)]] at c5
  have C5 := Lib.hid c5
  clear c5
  have c6 := fun (W : World) (v0 : Value) (v1 : Value) (hh0 : num.IsZ W v0 z) (hh1 : num.IsZ W v1 y)  => divisor_any v0 v1 z y W hh0 hh1 ((intText_size hI).le (by decide)) ((intText_size hJ).le (by decide))
  have C6 := Lib.hid c6
  clear c6
  have c7 := fun (W : World) (v0 : Value) (v1 : Value) (hh0 : num.IsZ W v0 (((Nat.gcd (Int.natAbs z) (Int.natAbs y)) : Nat) : Int)) (hh1 : num.IsZ W v1 (1 : Int))  => num.Cmp_b v0 v1 (((Nat.gcd (Int.natAbs z) (Int.natAbs y)) : Nat) : Int) (1 : Int) W hh0 hh1 ((Lz_nat (Ln_gcd (Ln_abs (intText_size hI)) (Ln_abs (intText_size hJ)))).le (by decide)) ((Lz_small (by decide)).le (by decide))
  have C7 := Lib.hid c7
  clear c7
  have c8 := fun (W : World)    => flt.Of_some 1 W rfl
  have C8 := Lib.hid c8
  clear c8
  generalize str (a ++ 47 :: b) = s0 at *
  generalize str a = s1 at *
  generalize str b = s2 at *
  clear hl hn hI hJ h1 hg
  generalize cmp3 ((Nat.gcd z.natAbs y.natAbs : Nat) : Int) 1 = cc at *
  go_enter Tryz.func71, Tryz.ntmps71
  go_wp2_with (first
    | (go_at_call 127; (with_reducible refine (C1.out _ ).mono ?_); rintro e W1 ⟨rfl, hb⟩
       have HB1 := Lib.hid hb
       clear hb C1)
    | (go_at_call 69; (with_reducible refine (C2.out _ ).mono ?_); rintro e W2 ⟨t, rfl, ⟨h_t, n_t⟩, hb⟩
       have H_t := Lib.hid h_t
       have N_t := Lib.hid n_t
       have HB2 := Lib.hid hb
       clear h_t n_t hb C2)
    | (go_at_call 69; (with_reducible refine (C3.out _ ).mono ?_); rintro e W3 ⟨d, rfl, ⟨h_d, n_d⟩, hb⟩
       have H_d := Lib.hid h_d
       have N_d := Lib.hid n_d
       have HB3 := Lib.hid hb
       clear h_d n_d hb C3)
    | (go_at_call 57; (with_reducible refine (C4.out _ ).mono ?_); rintro e W4 ⟨o, rfl, ⟨h_o, n_o⟩, hb⟩
       have H_o := Lib.hid h_o
       have N_o := Lib.hid n_o
       have HB4 := Lib.hid hb
       clear h_o n_o hb C4)
    | (go_at_call 56; (with_reducible refine (C5.out _ _ _ (H_d.out.below HB4.out) H_o.out).mono ?_); rintro e W5 ⟨rfl, hb⟩
       have HB5 := Lib.hid hb
       clear hb C5)
    | (go_at_call 129; (with_reducible refine (C6.out _ _ _ (((H_t.out.below HB3.out).below HB4.out).below HB5.out) ((H_d.out.below HB4.out).below HB5.out)).mono ?_); rintro e W6 ⟨g, rfl, ⟨h_g, n_g⟩, hb⟩
       have H_g := Lib.hid h_g
       have N_g := Lib.hid n_g
       have HB6 := Lib.hid hb
       clear h_g n_g hb C6)
    | (go_at_call 56; (with_reducible refine (C7.out _ _ _ H_g.out ((H_o.out.below HB5.out).below HB6.out)).mono ?_); rintro e W7 ⟨rfl, hb⟩
       have HB7 := Lib.hid hb
       clear hb C7)
    | (go_at_call 103; (with_reducible refine (C8.out _ ).mono ?_); rintro e w9 ⟨rfl, rfl⟩
       clear C8)
    | (fail "no arm"))
  go_ret2
  exact ⟨rfl, (nat.below_tr (nat.below_tr (nat.below_tr (nat.below_tr (nat.below_tr (nat.below_tr HB1.out HB2.out) HB3.out) HB4.out) HB5.out) HB6.out) HB7.out)⟩
set_option maxRecDepth 100000 in
set_option maxHeartbeats 4000000 in
theorem Get_parts_ok (a b : List UInt8) (z y : Int) (w : World) (hl : (a ++ 47 :: b).length ≤ 4611686018427387904) (hn : ∀ c ∈ a, c ≠ 47) (hI : IntText a z) (hJ : IntText b y) (h1 : 1 < y) (hg : Nat.gcd z.natAbs y.natAbs = 1) :
    Calls Tryz.prog 71 #[.string (str (a ++ 47 :: b))] w fun e w' => ∃ u, e = .returned (.tuple #[u, .nilIface]) ∧ (IsR w' u ((z : Rat) / (y : Rat)) ∧ u ≠ .pointer none) ∧ Below w.heap.size w w' := by
  have c1 := fun (W : World)    => Cut_slash a b W hl hn
  have C1 := Lib.hid c1
  clear c1
  have c2 := fun (W : World)    => num.Get_ok a z W hI
  have C2 := Lib.hid c2
  clear c2
  have c3 := fun (W : World)    => num.Get_ok b y W hJ
  have C3 := Lib.hid c3
  clear c3
  have c4 := fun (W : World)    => num.Of_any 1 W (by decide) (by decide)
  have C4 := Lib.hid c4
  clear c4
  have c5 := fun (W : World) (v0 : Value) (v1 : Value) (hh0 : num.IsZ W v0 y) (hh1 : num.IsZ W v1 (1 : Int))  => num.Cmp_b v0 v1 y (1 : Int) W hh0 hh1 ((intText_size hJ).le (by decide)) ((Lz_small (by decide)).le (by decide))
  rw [show cmp3 y (1 : Int) = 1 by unfold cmp3; rw [if_neg (by omega), if_pos (by omega)]] at c5
  have C5 := Lib.hid c5
  clear c5
  have c6 := fun (W : World) (v0 : Value) (v1 : Value) (hh0 : num.IsZ W v0 z) (hh1 : num.IsZ W v1 y)  => divisor_any v0 v1 z y W hh0 hh1 ((intText_size hI).le (by decide)) ((intText_size hJ).le (by decide))
  have C6 := Lib.hid c6
  clear c6
  have c7 := fun (W : World) (v0 : Value) (v1 : Value) (hh0 : num.IsZ W v0 (((Nat.gcd (Int.natAbs z) (Int.natAbs y)) : Nat) : Int)) (hh1 : num.IsZ W v1 (1 : Int))  => num.Cmp_b v0 v1 (((Nat.gcd (Int.natAbs z) (Int.natAbs y)) : Nat) : Int) (1 : Int) W hh0 hh1 ((Lz_nat (Ln_gcd (Ln_abs (intText_size hI)) (Ln_abs (intText_size hJ)))).le (by decide)) ((Lz_small (by decide)).le (by decide))
  rw [show cmp3 ((Nat.gcd z.natAbs y.natAbs : Nat) : Int) (1 : Int) = 0 by rw [hg]; decide] at c7
  have C7 := Lib.hid c7
  clear c7
  have c8 := fun (W : World) (v0 : Value) (v1 : Value) (hh0 : num.IsZ W v0 z) (hh1 : num.IsZ W v1 y) (n0 : v0 ≠ .pointer none) (n1 : v1 ≠ .pointer none) => own_at ((z : Rat) / (y : Rat)) v0 v1 z y W hh0 n0 hh1 n1 (by rw [(up_val (by omega) hg).1]; unfold upN; rw [if_neg (by omega)]) (by rw [(up_val (by omega) hg).2]; omega)
  have C8 := Lib.hid c8
  clear c8
  generalize str (a ++ 47 :: b) = s0 at *
  generalize str a = s1 at *
  generalize str b = s2 at *
  clear hl hn hI hJ h1 hg
  go_enter Tryz.func71, Tryz.ntmps71
  go_wp2_with (first
    | (go_at_call 127; (with_reducible refine (C1.out _ ).mono ?_); rintro e W1 ⟨rfl, hb⟩
       have HB1 := Lib.hid hb
       clear hb C1)
    | (go_at_call 69; (with_reducible refine (C2.out _ ).mono ?_); rintro e W2 ⟨t, rfl, ⟨h_t, n_t⟩, hb⟩
       have H_t := Lib.hid h_t
       have N_t := Lib.hid n_t
       have HB2 := Lib.hid hb
       clear h_t n_t hb C2)
    | (go_at_call 69; (with_reducible refine (C3.out _ ).mono ?_); rintro e W3 ⟨d, rfl, ⟨h_d, n_d⟩, hb⟩
       have H_d := Lib.hid h_d
       have N_d := Lib.hid n_d
       have HB3 := Lib.hid hb
       clear h_d n_d hb C3)
    | (go_at_call 57; (with_reducible refine (C4.out _ ).mono ?_); rintro e W4 ⟨o, rfl, ⟨h_o, n_o⟩, hb⟩
       have H_o := Lib.hid h_o
       have N_o := Lib.hid n_o
       have HB4 := Lib.hid hb
       clear h_o n_o hb C4)
    | (go_at_call 56; (with_reducible refine (C5.out _ _ _ (H_d.out.below HB4.out) H_o.out).mono ?_); rintro e W5 ⟨rfl, hb⟩
       have HB5 := Lib.hid hb
       clear hb C5)
    | (go_at_call 129; (with_reducible refine (C6.out _ _ _ (((H_t.out.below HB3.out).below HB4.out).below HB5.out) ((H_d.out.below HB4.out).below HB5.out)).mono ?_); rintro e W6 ⟨g, rfl, ⟨h_g, n_g⟩, hb⟩
       have H_g := Lib.hid h_g
       have N_g := Lib.hid n_g
       have HB6 := Lib.hid hb
       clear h_g n_g hb C6)
    | (go_at_call 56; (with_reducible refine (C7.out _ _ _ H_g.out ((H_o.out.below HB5.out).below HB6.out)).mono ?_); rintro e W7 ⟨rfl, hb⟩
       have HB7 := Lib.hid hb
       clear hb C7)
    | (go_at_call 128; (with_reducible refine (C8.out _ _ _ (((((H_t.out.below HB3.out).below HB4.out).below HB5.out).below HB6.out).below HB7.out) ((((H_d.out.below HB4.out).below HB5.out).below HB6.out).below HB7.out) N_t.out N_d.out).mono ?_); rintro e W8 ⟨u, rfl, ⟨h_u, n_u⟩, hb⟩
       have H_u := Lib.hid h_u
       have N_u := Lib.hid n_u
       have HB8 := Lib.hid hb
       clear h_u n_u hb C8)
    | (fail "no arm"))
  go_ret2
  exact ⟨_, rfl, ⟨H_u.out, N_u.out⟩, (nat.below_tr (nat.below_tr (nat.below_tr (nat.below_tr (nat.below_tr (nat.below_tr (nat.below_tr HB1.out HB2.out) HB3.out) HB4.out) HB5.out) HB6.out) HB7.out) HB8.out)⟩
def FracText (l : List UInt8) (q : Rat) : Prop := (IntText l q.num ∧ q.den = 1) ∨ ∃ a b, l = a ++ 47 :: b ∧ IntText a q.num ∧ IntText b (q.den : Int) ∧ 1 < q.den
theorem first_slash (l : List UInt8) : (∀ c ∈ l, c ≠ 47) ∨ ∃ a b, l = a ++ 47 :: b ∧ ∀ c ∈ a, c ≠ 47 := by
  induction l with
  | nil => exact Or.inl fun c h => by simp at h
  | cons x l ih =>
    by_cases hx : x = 47
    · exact Or.inr ⟨[], l, by rw [hx]; rfl, fun c h => by simp at h⟩
    · rcases ih with h | ⟨a, b, rfl, h⟩
      · refine Or.inl fun c hc => ?_
        rcases List.mem_cons.1 hc with rfl | hc
        · exact hx
        · exact h c hc
      · refine Or.inr ⟨x :: a, b, rfl, fun c hc => ?_⟩
        rcases List.mem_cons.1 hc with rfl | hc
        · exact hx
        · exact h c hc
theorem Get_ok (l : List UInt8) (q : Rat) (w : World) (h : FracText l q) :
    Calls Tryz.prog 71 #[.string (str l)] w fun e w' => ∃ u, e = .returned (.tuple #[u, .nilIface]) ∧ (IsR w' u q ∧ u ≠ .pointer none) ∧ Below w.heap.size w w' := by
  rcases h with ⟨h, h1⟩ | ⟨a, b, rfl, h1, h2, h3⟩
  · have := Get_whole_ok l q.num w (by have := intText_len h; omega) (fun c hc => h.mem hc) h
    have hq : ((q.num : Int) : Rat) = q := by
      have h := self_div q
      rw [h1] at h
      have h2 : ((1 : Nat) : Rat) = 1 := rfl
      rw [h2] at h
      grind
    rwa [hq] at this
  · have := Get_parts_ok a b q.num q.den w (by have := intText_len h1; have := intText_len h2; simp; omega) (fun c hc => h1.mem hc) h1 h2 (by omega) (by rw [Int.natAbs_natCast]; exact cop q)
    rwa [Rat.intCast_natCast, ← self_div] at this
theorem Get_bad (l : List UInt8) (w : World) (hl : l.length ≤ 4611686018427387904) (h : ∀ q, ¬ FracText l q) :
    Calls Tryz.prog 71 #[.string (str l)] w fun e w' => e = .returned (.tuple #[.pointer none, .iface 171 (.int .i64 1)]) ∧ Below w.heap.size w w' := by
  rcases first_slash l with hn | ⟨a, b, rfl, hn⟩
  · exact Get_whole_bad l w hl hn fun z hz => h (z : Rat) (Or.inl ⟨hz, rfl⟩)
  · by_cases hI : ∃ z, IntText a z
    · obtain ⟨z, hz⟩ := hI
      by_cases hJ : ∃ y, IntText b y
      · obtain ⟨y, hy⟩ := hJ
        rcases Int.lt_or_le 1 y with h1 | h1
        · by_cases hg : Nat.gcd z.natAbs y.natAbs = 1
          · refine absurd (Or.inr ⟨a, b, rfl, ?_, ?_, ?_⟩) (h ((z : Rat) / (y : Rat)))
            · rw [(up_val (by omega) hg).1]; unfold upN; rw [if_neg (by omega)]; exact hz
            · rw [(up_val (by omega) hg).2, show ((y.natAbs : Nat) : Int) = y by omega]; exact hy
            · rw [(up_val (by omega) hg).2]; omega
          · exact Get_parts_common a b z y w hl hn hz hy h1 hg
        · exact Get_parts_low a b z y w hl hn hz hy h1
      · exact Get_second_bad a b z w hl hn hz fun y hy => hJ ⟨y, hy⟩
    · exact Get_first_bad a b w hl hn fun z hz => hI ⟨z, hz⟩
end Go.Proofs.YtfpooimjjpamoaaGreatDoor.rat
