/-
  The steps of the walks, part 20: DecB.
-/
import Derived.Test.YtfpooimjjpamoaaGreatDoorF13
import Derived.Test.YtfpooimjjpamoaaGreatDoorF19
namespace Go.Proofs.YtfpooimjjpamoaaGreatDoor.dec
open Go.RowKit Go.Proofs.YtfpooimjjpamoaaGreatDoor.nat Go.Proofs.YtfpooimjjpamoaaGreatDoor.num
open Go.Proofs.YtfpooimjjpamoaaGreatDoor.rat (IsR Lr)
open Go.Proofs.YtfpooimjjpamoaaGreatDoor.ref (str str_size str_append nearN nearUp signed decText)
set_option maxRecDepth 100000 in
set_option maxHeartbeats 4000000 in
theorem Put_below (a : Value) (q : Rat) (k : Nat) (w : World) (ha : IsR w a q) (sq : Lr q 20000) (hk : k ≤ 20) (hr : q.num.natAbs * 10 ^ k % q.den = 0) (hs : sg q.num = -1) :
    Calls Tryz.prog 80 #[a, .int .i64 (k : Nat)] w fun e w' => e = .returned (.tuple #[.string (str (decText (signed true (q.num.natAbs * 10 ^ k / q.den)) k)), .bool true]) ∧ Below w.heap.size w w' := by
  have H_a := Lib.hid ha
  clear ha
  have h10 := Ln_ten hk
  have hT : Ln (q.num.natAbs * 10 ^ k) 20021 := Ln_mul (Ln_abs sq.1) h10
  have c1 := fun (W : World)    => arePlaces_yes (k : Int) W ⟨by omega, by omega⟩
  have C1 := Lib.hid c1
  clear c1
  have c2 := fun (W : World) (v0 : Value) (hh0 : rat.IsR W v0 q)  => cutOff_any v0 q k W hh0 sq hk
  have C2 := Lib.hid c2
  clear c2
  have c3 := fun (W : World) (v0 : Value) (hh0 : nat.IsN W v0 (q.num.natAbs * 10 ^ k % q.den))  => nat.Zero_any v0 (q.num.natAbs * 10 ^ k % q.den) W hh0
  rw [decide_eq_true hr] at c3
  have C3 := Lib.hid c3
  clear c3
  have c4 := fun (W : World) (v0 : Value) (hh0 : rat.IsR W v0 q)  => rat.Sign_any v0 q W hh0
  rw [hs] at c4
  have C4 := Lib.hid c4
  clear c4
  have c5 := fun (W : World) (v0 : Value) (hh0 : nat.IsN W v0 (q.num.natAbs * 10 ^ k / q.den))  => text_any true v0 (q.num.natAbs * 10 ^ k / q.den) k W hh0 ((Ln_less (Nat.div_le_self _ _) hT).le (by decide)) hk
  have C5 := Lib.hid c5
  clear c5
  generalize str (decText (signed true (q.num.natAbs * 10 ^ k / q.den)) k) = R at *
  go_enter Tryz.func80, Tryz.ntmps80
  go_wp2_with (first
    | (go_at_call 133; (with_reducible refine (C1.out _ ).mono ?_); rintro e w9 ⟨rfl, rfl⟩
       clear C1)
    | (go_at_call 134; (with_reducible refine (C2.out _ _ H_a.out).mono ?_); rintro e W1 ⟨s, r, rfl, ⟨h_s, n_s⟩, ⟨h_r, n_r⟩, hb⟩
       have H_s := Lib.hid h_s
       have N_s := Lib.hid n_s
       have H_r := Lib.hid h_r
       have N_r := Lib.hid n_r
       have HB1 := Lib.hid hb
       clear h_s n_s h_r n_r hb C2)
    | (go_at_call 42; (with_reducible refine (C3.out _ _ H_r.out).mono ?_); rintro e w9 ⟨rfl, rfl⟩
       clear C3)
    | (go_at_call 90; (with_reducible refine (C4.out _ _ (H_a.out.below HB1.out)).mono ?_); rintro e W2 ⟨rfl, hb⟩
       have HB2 := Lib.hid hb
       clear hb C4)
    | (go_at_call 135; (with_reducible refine (C5.out _ _ (H_s.out.below HB2.out)).mono ?_); rintro e W3 ⟨rfl, hb⟩
       have HB3 := Lib.hid hb
       clear hb C5)
    | (fail "no arm"))
  go_ret2
  exact ⟨rfl, (nat.below_tr (nat.below_tr HB1.out HB2.out) HB3.out)⟩
set_option maxRecDepth 100000 in
set_option maxHeartbeats 4000000 in
theorem Put_none0 (a : Value) (q : Rat) (k : Nat) (w : World) (ha : IsR w a q) (sq : Lr q 20000) (hk : k ≤ 20) (hr : q.num.natAbs * 10 ^ k % q.den = 0) (hs : sg q.num = 0) :
    Calls Tryz.prog 80 #[a, .int .i64 (k : Nat)] w fun e w' => e = .returned (.tuple #[.string (str (decText (signed false (q.num.natAbs * 10 ^ k / q.den)) k)), .bool true]) ∧ Below w.heap.size w w' := by
  have H_a := Lib.hid ha
  clear ha
  have h10 := Ln_ten hk
  have hT : Ln (q.num.natAbs * 10 ^ k) 20021 := Ln_mul (Ln_abs sq.1) h10
  have c1 := fun (W : World)    => arePlaces_yes (k : Int) W ⟨by omega, by omega⟩
  have C1 := Lib.hid c1
  clear c1
  have c2 := fun (W : World) (v0 : Value) (hh0 : rat.IsR W v0 q)  => cutOff_any v0 q k W hh0 sq hk
  have C2 := Lib.hid c2
  clear c2
  have c3 := fun (W : World) (v0 : Value) (hh0 : nat.IsN W v0 (q.num.natAbs * 10 ^ k % q.den))  => nat.Zero_any v0 (q.num.natAbs * 10 ^ k % q.den) W hh0
  rw [decide_eq_true hr] at c3
  have C3 := Lib.hid c3
  clear c3
  have c4 := fun (W : World) (v0 : Value) (hh0 : rat.IsR W v0 q)  => rat.Sign_any v0 q W hh0
  rw [hs] at c4
  have C4 := Lib.hid c4
  clear c4
  have c5 := fun (W : World) (v0 : Value) (hh0 : nat.IsN W v0 (q.num.natAbs * 10 ^ k / q.den))  => text_any false v0 (q.num.natAbs * 10 ^ k / q.den) k W hh0 ((Ln_less (Nat.div_le_self _ _) hT).le (by decide)) hk
  have C5 := Lib.hid c5
  clear c5
  generalize str (decText (signed false (q.num.natAbs * 10 ^ k / q.den)) k) = R at *
  go_enter Tryz.func80, Tryz.ntmps80
  go_wp2_with (first
    | (go_at_call 133; (with_reducible refine (C1.out _ ).mono ?_); rintro e w9 ⟨rfl, rfl⟩
       clear C1)
    | (go_at_call 134; (with_reducible refine (C2.out _ _ H_a.out).mono ?_); rintro e W1 ⟨s, r, rfl, ⟨h_s, n_s⟩, ⟨h_r, n_r⟩, hb⟩
       have H_s := Lib.hid h_s
       have N_s := Lib.hid n_s
       have H_r := Lib.hid h_r
       have N_r := Lib.hid n_r
       have HB1 := Lib.hid hb
       clear h_s n_s h_r n_r hb C2)
    | (go_at_call 42; (with_reducible refine (C3.out _ _ H_r.out).mono ?_); rintro e w9 ⟨rfl, rfl⟩
       clear C3)
    | (go_at_call 90; (with_reducible refine (C4.out _ _ (H_a.out.below HB1.out)).mono ?_); rintro e W2 ⟨rfl, hb⟩
       have HB2 := Lib.hid hb
       clear hb C4)
    | (go_at_call 135; (with_reducible refine (C5.out _ _ (H_s.out.below HB2.out)).mono ?_); rintro e W3 ⟨rfl, hb⟩
       have HB3 := Lib.hid hb
       clear hb C5)
    | (fail "no arm"))
  go_ret2
  exact ⟨rfl, (nat.below_tr (nat.below_tr HB1.out HB2.out) HB3.out)⟩
set_option maxRecDepth 100000 in
set_option maxHeartbeats 4000000 in
theorem Put_above (a : Value) (q : Rat) (k : Nat) (w : World) (ha : IsR w a q) (sq : Lr q 20000) (hk : k ≤ 20) (hr : q.num.natAbs * 10 ^ k % q.den = 0) (hs : sg q.num = 1) :
    Calls Tryz.prog 80 #[a, .int .i64 (k : Nat)] w fun e w' => e = .returned (.tuple #[.string (str (decText (signed false (q.num.natAbs * 10 ^ k / q.den)) k)), .bool true]) ∧ Below w.heap.size w w' := by
  have H_a := Lib.hid ha
  clear ha
  have h10 := Ln_ten hk
  have hT : Ln (q.num.natAbs * 10 ^ k) 20021 := Ln_mul (Ln_abs sq.1) h10
  have c1 := fun (W : World)    => arePlaces_yes (k : Int) W ⟨by omega, by omega⟩
  have C1 := Lib.hid c1
  clear c1
  have c2 := fun (W : World) (v0 : Value) (hh0 : rat.IsR W v0 q)  => cutOff_any v0 q k W hh0 sq hk
  have C2 := Lib.hid c2
  clear c2
  have c3 := fun (W : World) (v0 : Value) (hh0 : nat.IsN W v0 (q.num.natAbs * 10 ^ k % q.den))  => nat.Zero_any v0 (q.num.natAbs * 10 ^ k % q.den) W hh0
  rw [decide_eq_true hr] at c3
  have C3 := Lib.hid c3
  clear c3
  have c4 := fun (W : World) (v0 : Value) (hh0 : rat.IsR W v0 q)  => rat.Sign_any v0 q W hh0
  rw [hs] at c4
  have C4 := Lib.hid c4
  clear c4
  have c5 := fun (W : World) (v0 : Value) (hh0 : nat.IsN W v0 (q.num.natAbs * 10 ^ k / q.den))  => text_any false v0 (q.num.natAbs * 10 ^ k / q.den) k W hh0 ((Ln_less (Nat.div_le_self _ _) hT).le (by decide)) hk
  have C5 := Lib.hid c5
  clear c5
  generalize str (decText (signed false (q.num.natAbs * 10 ^ k / q.den)) k) = R at *
  go_enter Tryz.func80, Tryz.ntmps80
  go_wp2_with (first
    | (go_at_call 133; (with_reducible refine (C1.out _ ).mono ?_); rintro e w9 ⟨rfl, rfl⟩
       clear C1)
    | (go_at_call 134; (with_reducible refine (C2.out _ _ H_a.out).mono ?_); rintro e W1 ⟨s, r, rfl, ⟨h_s, n_s⟩, ⟨h_r, n_r⟩, hb⟩
       have H_s := Lib.hid h_s
       have N_s := Lib.hid n_s
       have H_r := Lib.hid h_r
       have N_r := Lib.hid n_r
       have HB1 := Lib.hid hb
       clear h_s n_s h_r n_r hb C2)
    | (go_at_call 42; (with_reducible refine (C3.out _ _ H_r.out).mono ?_); rintro e w9 ⟨rfl, rfl⟩
       clear C3)
    | (go_at_call 90; (with_reducible refine (C4.out _ _ (H_a.out.below HB1.out)).mono ?_); rintro e W2 ⟨rfl, hb⟩
       have HB2 := Lib.hid hb
       clear hb C4)
    | (go_at_call 135; (with_reducible refine (C5.out _ _ (H_s.out.below HB2.out)).mono ?_); rintro e W3 ⟨rfl, hb⟩
       have HB3 := Lib.hid hb
       clear hb C5)
    | (fail "no arm"))
  go_ret2
  exact ⟨rfl, (nat.below_tr (nat.below_tr HB1.out HB2.out) HB3.out)⟩
theorem Put_ok (a : Value) (q : Rat) (k : Nat) (w : World) (ha : IsR w a q) (sq : Lr q 20000) (hk : k ≤ 20) (hr : q.num.natAbs * 10 ^ k % q.den = 0) :
    Calls Tryz.prog 80 #[a, .int .i64 (k : Nat)] w fun e w' => e = .returned (.tuple #[.string (str (decText (signed (decide (q.num < 0)) (q.num.natAbs * 10 ^ k / q.den)) k)), .bool true]) ∧ Below w.heap.size w w' := by
  rcases sign_ways q.num with ⟨hs, hb⟩ | ⟨hs, hb⟩ | ⟨hs, hb⟩ <;> rw [hb]
  · exact Put_below a q k w ha sq hk hr hs
  · exact Put_none0 a q k w ha sq hk hr hs
  · exact Put_above a q k w ha sq hk hr hs
set_option maxRecDepth 100000 in
set_option maxHeartbeats 4000000 in
theorem Round_below (a : Value) (q : Rat) (k : Nat) (mode : Int) (w : World) (ha : IsR w a q) (sq : Lr q 20000) (hk : k ≤ 20) (hm : mode = 1 ∨ mode = 2 ∨ mode = 3) (hs : sg q.num = -1) :
    Calls Tryz.prog 82 #[a, .int .i64 (k : Nat), .int .i64 mode] w fun e w' => e = .returned (.tuple #[.string (str (decText (signed true (nearN (q.num.natAbs * 10 ^ k) q.den mode)) k)), .nilIface]) ∧ Below w.heap.size w w' := by
  have H_a := Lib.hid ha
  clear ha
  have h10 := Ln_ten hk
  have hT : Ln (q.num.natAbs * 10 ^ k) 20021 := Ln_mul (Ln_abs sq.1) h10
  have c1 := fun (W : World)    => arePlaces_yes (k : Int) W ⟨by omega, by omega⟩
  have C1 := Lib.hid c1
  clear c1
  have c2 := fun (W : World)    => isMode_yes mode W hm
  have C2 := Lib.hid c2
  clear c2
  have c3 := fun (W : World) (v0 : Value) (hh0 : rat.IsR W v0 q)  => rat.Sign_any v0 q W hh0
  rw [hs] at c3
  have C3 := Lib.hid c3
  clear c3
  have c4 := fun (W : World) (v0 : Value) (hh0 : rat.IsR W v0 q)  => rounded_any v0 q k mode W hh0 sq hk
  have C4 := Lib.hid c4
  clear c4
  have c5 := fun (W : World) (v0 : Value) (hh0 : nat.IsN W v0 (nearN (q.num.natAbs * 10 ^ k) q.den mode))  => text_any true v0 (nearN (q.num.natAbs * 10 ^ k) q.den mode) k W hh0 ((Ln_near mode hT).le (by decide)) hk
  have C5 := Lib.hid c5
  clear c5
  generalize str (decText (signed true (nearN (q.num.natAbs * 10 ^ k) q.den mode)) k) = R at *
  go_enter Tryz.func82, Tryz.ntmps82
  go_wp2_with (first
    | (go_at_call 133; (with_reducible refine (C1.out _ ).mono ?_); rintro e w9 ⟨rfl, rfl⟩
       clear C1)
    | (go_at_call 136; (with_reducible refine (C2.out _ ).mono ?_); rintro e w9 ⟨rfl, rfl⟩
       clear C2)
    | (go_at_call 90; (with_reducible refine (C3.out _ _ H_a.out).mono ?_); rintro e W1 ⟨rfl, hb⟩
       have HB1 := Lib.hid hb
       clear hb C3)
    | (go_at_call 137; (with_reducible refine (C4.out _ _ (H_a.out.below HB1.out)).mono ?_); rintro e W2 ⟨u, rfl, ⟨h_u, n_u⟩, hb⟩
       have H_u := Lib.hid h_u
       have N_u := Lib.hid n_u
       have HB2 := Lib.hid hb
       clear h_u n_u hb C4)
    | (go_at_call 135; (with_reducible refine (C5.out _ _ H_u.out).mono ?_); rintro e W3 ⟨rfl, hb⟩
       have HB3 := Lib.hid hb
       clear hb C5)
    | (fail "no arm"))
  go_ret2
  exact ⟨rfl, (nat.below_tr (nat.below_tr HB1.out HB2.out) HB3.out)⟩
set_option maxRecDepth 100000 in
set_option maxHeartbeats 4000000 in
theorem Round_none (a : Value) (q : Rat) (k : Nat) (mode : Int) (w : World) (ha : IsR w a q) (sq : Lr q 20000) (hk : k ≤ 20) (hm : mode = 1 ∨ mode = 2 ∨ mode = 3) (hs : sg q.num = 0) :
    Calls Tryz.prog 82 #[a, .int .i64 (k : Nat), .int .i64 mode] w fun e w' => e = .returned (.tuple #[.string (str (decText (signed false (nearN (q.num.natAbs * 10 ^ k) q.den mode)) k)), .nilIface]) ∧ Below w.heap.size w w' := by
  have H_a := Lib.hid ha
  clear ha
  have h10 := Ln_ten hk
  have hT : Ln (q.num.natAbs * 10 ^ k) 20021 := Ln_mul (Ln_abs sq.1) h10
  have c1 := fun (W : World)    => arePlaces_yes (k : Int) W ⟨by omega, by omega⟩
  have C1 := Lib.hid c1
  clear c1
  have c2 := fun (W : World)    => isMode_yes mode W hm
  have C2 := Lib.hid c2
  clear c2
  have c3 := fun (W : World) (v0 : Value) (hh0 : rat.IsR W v0 q)  => rat.Sign_any v0 q W hh0
  rw [hs] at c3
  have C3 := Lib.hid c3
  clear c3
  have c4 := fun (W : World) (v0 : Value) (hh0 : rat.IsR W v0 q)  => rounded_any v0 q k mode W hh0 sq hk
  have C4 := Lib.hid c4
  clear c4
  have c5 := fun (W : World) (v0 : Value) (hh0 : nat.IsN W v0 (nearN (q.num.natAbs * 10 ^ k) q.den mode))  => text_any false v0 (nearN (q.num.natAbs * 10 ^ k) q.den mode) k W hh0 ((Ln_near mode hT).le (by decide)) hk
  have C5 := Lib.hid c5
  clear c5
  generalize str (decText (signed false (nearN (q.num.natAbs * 10 ^ k) q.den mode)) k) = R at *
  go_enter Tryz.func82, Tryz.ntmps82
  go_wp2_with (first
    | (go_at_call 133; (with_reducible refine (C1.out _ ).mono ?_); rintro e w9 ⟨rfl, rfl⟩
       clear C1)
    | (go_at_call 136; (with_reducible refine (C2.out _ ).mono ?_); rintro e w9 ⟨rfl, rfl⟩
       clear C2)
    | (go_at_call 90; (with_reducible refine (C3.out _ _ H_a.out).mono ?_); rintro e W1 ⟨rfl, hb⟩
       have HB1 := Lib.hid hb
       clear hb C3)
    | (go_at_call 137; (with_reducible refine (C4.out _ _ (H_a.out.below HB1.out)).mono ?_); rintro e W2 ⟨u, rfl, ⟨h_u, n_u⟩, hb⟩
       have H_u := Lib.hid h_u
       have N_u := Lib.hid n_u
       have HB2 := Lib.hid hb
       clear h_u n_u hb C4)
    | (go_at_call 135; (with_reducible refine (C5.out _ _ H_u.out).mono ?_); rintro e W3 ⟨rfl, hb⟩
       have HB3 := Lib.hid hb
       clear hb C5)
    | (fail "no arm"))
  go_ret2
  exact ⟨rfl, (nat.below_tr (nat.below_tr HB1.out HB2.out) HB3.out)⟩
set_option maxRecDepth 100000 in
set_option maxHeartbeats 4000000 in
theorem Round_above (a : Value) (q : Rat) (k : Nat) (mode : Int) (w : World) (ha : IsR w a q) (sq : Lr q 20000) (hk : k ≤ 20) (hm : mode = 1 ∨ mode = 2 ∨ mode = 3) (hs : sg q.num = 1) :
    Calls Tryz.prog 82 #[a, .int .i64 (k : Nat), .int .i64 mode] w fun e w' => e = .returned (.tuple #[.string (str (decText (signed false (nearN (q.num.natAbs * 10 ^ k) q.den mode)) k)), .nilIface]) ∧ Below w.heap.size w w' := by
  have H_a := Lib.hid ha
  clear ha
  have h10 := Ln_ten hk
  have hT : Ln (q.num.natAbs * 10 ^ k) 20021 := Ln_mul (Ln_abs sq.1) h10
  have c1 := fun (W : World)    => arePlaces_yes (k : Int) W ⟨by omega, by omega⟩
  have C1 := Lib.hid c1
  clear c1
  have c2 := fun (W : World)    => isMode_yes mode W hm
  have C2 := Lib.hid c2
  clear c2
  have c3 := fun (W : World) (v0 : Value) (hh0 : rat.IsR W v0 q)  => rat.Sign_any v0 q W hh0
  rw [hs] at c3
  have C3 := Lib.hid c3
  clear c3
  have c4 := fun (W : World) (v0 : Value) (hh0 : rat.IsR W v0 q)  => rounded_any v0 q k mode W hh0 sq hk
  have C4 := Lib.hid c4
  clear c4
  have c5 := fun (W : World) (v0 : Value) (hh0 : nat.IsN W v0 (nearN (q.num.natAbs * 10 ^ k) q.den mode))  => text_any false v0 (nearN (q.num.natAbs * 10 ^ k) q.den mode) k W hh0 ((Ln_near mode hT).le (by decide)) hk
  have C5 := Lib.hid c5
  clear c5
  generalize str (decText (signed false (nearN (q.num.natAbs * 10 ^ k) q.den mode)) k) = R at *
  go_enter Tryz.func82, Tryz.ntmps82
  go_wp2_with (first
    | (go_at_call 133; (with_reducible refine (C1.out _ ).mono ?_); rintro e w9 ⟨rfl, rfl⟩
       clear C1)
    | (go_at_call 136; (with_reducible refine (C2.out _ ).mono ?_); rintro e w9 ⟨rfl, rfl⟩
       clear C2)
    | (go_at_call 90; (with_reducible refine (C3.out _ _ H_a.out).mono ?_); rintro e W1 ⟨rfl, hb⟩
       have HB1 := Lib.hid hb
       clear hb C3)
    | (go_at_call 137; (with_reducible refine (C4.out _ _ (H_a.out.below HB1.out)).mono ?_); rintro e W2 ⟨u, rfl, ⟨h_u, n_u⟩, hb⟩
       have H_u := Lib.hid h_u
       have N_u := Lib.hid n_u
       have HB2 := Lib.hid hb
       clear h_u n_u hb C4)
    | (go_at_call 135; (with_reducible refine (C5.out _ _ H_u.out).mono ?_); rintro e W3 ⟨rfl, hb⟩
       have HB3 := Lib.hid hb
       clear hb C5)
    | (fail "no arm"))
  go_ret2
  exact ⟨rfl, (nat.below_tr (nat.below_tr HB1.out HB2.out) HB3.out)⟩
theorem Round_ok (a : Value) (q : Rat) (k : Nat) (mode : Int) (w : World) (ha : IsR w a q) (sq : Lr q 20000) (hk : k ≤ 20) (hm : mode = 1 ∨ mode = 2 ∨ mode = 3) :
    Calls Tryz.prog 82 #[a, .int .i64 (k : Nat), .int .i64 mode] w fun e w' => e = .returned (.tuple #[.string (str (putText q k mode)), .nilIface]) ∧ Below w.heap.size w w' := by
  unfold putText
  rcases sign_ways q.num with ⟨hs, hb⟩ | ⟨hs, hb⟩ | ⟨hs, hb⟩ <;> rw [hb]
  · exact Round_below a q k mode w ha sq hk hm hs
  · exact Round_none a q k mode w ha sq hk hm hs
  · exact Round_above a q k mode w ha sq hk hm hs
set_option maxRecDepth 100000 in
set_option maxHeartbeats 4000000 in
theorem Units_below_in (a : Value) (q : Rat) (mode : Int) (w : World) (ha : IsR w a q) (sq : Lr q 20000) (hm : mode = 1 ∨ mode = 2 ∨ mode = 3) (hs : sg q.num = -1) (h1 : -9223372036854775808 ≤ signed true (nearN q.num.natAbs q.den mode)) (h2 : signed true (nearN q.num.natAbs q.den mode) < 9223372036854775808) :
    Calls Tryz.prog 84 #[a, .int .i64 mode] w fun e w' => e = .returned (.tuple #[.int .i64 (signed true (nearN q.num.natAbs q.den mode)), .nilIface]) ∧ Below w.heap.size w w' := by
  have H_a := Lib.hid ha
  clear ha
  have RO := fun W (v : Value) (h : IsR W v q) => rounded_any v q 0 mode W h sq (by decide)
  rw [show q.num.natAbs * 10 ^ 0 = q.num.natAbs by rw [Nat.pow_zero, Nat.mul_one], show ((0 : Nat) : Int) = 0 from rfl] at RO
  have RO := Lib.hid RO
  have c1 := fun (W : World) (v0 : Value) (hh0 : rat.IsR W v0 q)  => rat.Sign_any v0 q W hh0
  rw [hs] at c1
  have C1 := Lib.hid c1
  clear c1
  have c2 := fun (W : World) (v0 : Value) (hh0 : rat.IsR W v0 q)  => RO.out W v0 hh0
  have C2 := Lib.hid c2
  clear c2
  have c3 := fun (W : World) (v0 : Value) (hh0 : nat.IsN W v0 (nearN q.num.natAbs q.den mode))  => num.New_any true v0 (nearN q.num.natAbs q.den mode) W hh0
  rw [sgn_signed] at c3
  have C3 := Lib.hid c3
  clear c3
  have c4 := fun (W : World) (v0 : Value) (hh0 : num.IsZ W v0 (signed true (nearN q.num.natAbs q.den mode)))  => num.Small_in v0 (signed true (nearN q.num.natAbs q.den mode)) W hh0 h1 h2
  have C4 := Lib.hid c4
  clear c4
  have c5 := fun (W : World)    => isMode_yes mode W hm
  have C5 := Lib.hid c5
  clear c5
  generalize signed true (nearN q.num.natAbs q.den mode) = Z at *
  go_enter Tryz.func84, Tryz.ntmps84
  go_wp2_with (first
    | (go_at_call 90; (with_reducible refine (C1.out _ _ H_a.out).mono ?_); rintro e W1 ⟨rfl, hb⟩
       have HB1 := Lib.hid hb
       clear hb C1)
    | (go_at_call 137; (with_reducible refine (C2.out _ _ (H_a.out.below HB1.out)).mono ?_); rintro e W2 ⟨u, rfl, ⟨h_u, n_u⟩, hb⟩
       have H_u := Lib.hid h_u
       have N_u := Lib.hid n_u
       have HB2 := Lib.hid hb
       clear h_u n_u hb C2)
    | (go_at_call 97; (with_reducible refine (C3.out _ _ H_u.out).mono ?_); rintro e W3 ⟨z, rfl, ⟨h_z, n_z⟩, hb⟩
       have H_z := Lib.hid h_z
       have N_z := Lib.hid n_z
       have HB3 := Lib.hid hb
       clear h_z n_z hb C3)
    | (go_at_call 58; (with_reducible refine (C4.out _ _ H_z.out).mono ?_); rintro e w9 ⟨rfl, rfl⟩
       clear C4)
    | (go_at_call 136; (with_reducible refine (C5.out _ ).mono ?_); rintro e w9 ⟨rfl, rfl⟩
       clear C5)
    | (fail "no arm"))
  go_ret2
  exact ⟨rfl, (nat.below_tr (nat.below_tr HB1.out HB2.out) HB3.out)⟩
set_option maxRecDepth 100000 in
set_option maxHeartbeats 4000000 in
theorem Units_none_in (a : Value) (q : Rat) (mode : Int) (w : World) (ha : IsR w a q) (sq : Lr q 20000) (hm : mode = 1 ∨ mode = 2 ∨ mode = 3) (hs : sg q.num = 0) (h1 : -9223372036854775808 ≤ signed false (nearN q.num.natAbs q.den mode)) (h2 : signed false (nearN q.num.natAbs q.den mode) < 9223372036854775808) :
    Calls Tryz.prog 84 #[a, .int .i64 mode] w fun e w' => e = .returned (.tuple #[.int .i64 (signed false (nearN q.num.natAbs q.den mode)), .nilIface]) ∧ Below w.heap.size w w' := by
  have H_a := Lib.hid ha
  clear ha
  have RO := fun W (v : Value) (h : IsR W v q) => rounded_any v q 0 mode W h sq (by decide)
  rw [show q.num.natAbs * 10 ^ 0 = q.num.natAbs by rw [Nat.pow_zero, Nat.mul_one], show ((0 : Nat) : Int) = 0 from rfl] at RO
  have RO := Lib.hid RO
  have c1 := fun (W : World) (v0 : Value) (hh0 : rat.IsR W v0 q)  => rat.Sign_any v0 q W hh0
  rw [hs] at c1
  have C1 := Lib.hid c1
  clear c1
  have c2 := fun (W : World) (v0 : Value) (hh0 : rat.IsR W v0 q)  => RO.out W v0 hh0
  have C2 := Lib.hid c2
  clear c2
  have c3 := fun (W : World) (v0 : Value) (hh0 : nat.IsN W v0 (nearN q.num.natAbs q.den mode))  => num.New_any false v0 (nearN q.num.natAbs q.den mode) W hh0
  rw [sgn_signed] at c3
  have C3 := Lib.hid c3
  clear c3
  have c4 := fun (W : World) (v0 : Value) (hh0 : num.IsZ W v0 (signed false (nearN q.num.natAbs q.den mode)))  => num.Small_in v0 (signed false (nearN q.num.natAbs q.den mode)) W hh0 h1 h2
  have C4 := Lib.hid c4
  clear c4
  have c5 := fun (W : World)    => isMode_yes mode W hm
  have C5 := Lib.hid c5
  clear c5
  generalize signed false (nearN q.num.natAbs q.den mode) = Z at *
  go_enter Tryz.func84, Tryz.ntmps84
  go_wp2_with (first
    | (go_at_call 90; (with_reducible refine (C1.out _ _ H_a.out).mono ?_); rintro e W1 ⟨rfl, hb⟩
       have HB1 := Lib.hid hb
       clear hb C1)
    | (go_at_call 137; (with_reducible refine (C2.out _ _ (H_a.out.below HB1.out)).mono ?_); rintro e W2 ⟨u, rfl, ⟨h_u, n_u⟩, hb⟩
       have H_u := Lib.hid h_u
       have N_u := Lib.hid n_u
       have HB2 := Lib.hid hb
       clear h_u n_u hb C2)
    | (go_at_call 97; (with_reducible refine (C3.out _ _ H_u.out).mono ?_); rintro e W3 ⟨z, rfl, ⟨h_z, n_z⟩, hb⟩
       have H_z := Lib.hid h_z
       have N_z := Lib.hid n_z
       have HB3 := Lib.hid hb
       clear h_z n_z hb C3)
    | (go_at_call 58; (with_reducible refine (C4.out _ _ H_z.out).mono ?_); rintro e w9 ⟨rfl, rfl⟩
       clear C4)
    | (go_at_call 136; (with_reducible refine (C5.out _ ).mono ?_); rintro e w9 ⟨rfl, rfl⟩
       clear C5)
    | (fail "no arm"))
  go_ret2
  exact ⟨rfl, (nat.below_tr (nat.below_tr HB1.out HB2.out) HB3.out)⟩
set_option maxRecDepth 100000 in
set_option maxHeartbeats 4000000 in
theorem Units_above_in (a : Value) (q : Rat) (mode : Int) (w : World) (ha : IsR w a q) (sq : Lr q 20000) (hm : mode = 1 ∨ mode = 2 ∨ mode = 3) (hs : sg q.num = 1) (h1 : -9223372036854775808 ≤ signed false (nearN q.num.natAbs q.den mode)) (h2 : signed false (nearN q.num.natAbs q.den mode) < 9223372036854775808) :
    Calls Tryz.prog 84 #[a, .int .i64 mode] w fun e w' => e = .returned (.tuple #[.int .i64 (signed false (nearN q.num.natAbs q.den mode)), .nilIface]) ∧ Below w.heap.size w w' := by
  have H_a := Lib.hid ha
  clear ha
  have RO := fun W (v : Value) (h : IsR W v q) => rounded_any v q 0 mode W h sq (by decide)
  rw [show q.num.natAbs * 10 ^ 0 = q.num.natAbs by rw [Nat.pow_zero, Nat.mul_one], show ((0 : Nat) : Int) = 0 from rfl] at RO
  have RO := Lib.hid RO
  have c1 := fun (W : World) (v0 : Value) (hh0 : rat.IsR W v0 q)  => rat.Sign_any v0 q W hh0
  rw [hs] at c1
  have C1 := Lib.hid c1
  clear c1
  have c2 := fun (W : World) (v0 : Value) (hh0 : rat.IsR W v0 q)  => RO.out W v0 hh0
  have C2 := Lib.hid c2
  clear c2
  have c3 := fun (W : World) (v0 : Value) (hh0 : nat.IsN W v0 (nearN q.num.natAbs q.den mode))  => num.New_any false v0 (nearN q.num.natAbs q.den mode) W hh0
  rw [sgn_signed] at c3
  have C3 := Lib.hid c3
  clear c3
  have c4 := fun (W : World) (v0 : Value) (hh0 : num.IsZ W v0 (signed false (nearN q.num.natAbs q.den mode)))  => num.Small_in v0 (signed false (nearN q.num.natAbs q.den mode)) W hh0 h1 h2
  have C4 := Lib.hid c4
  clear c4
  have c5 := fun (W : World)    => isMode_yes mode W hm
  have C5 := Lib.hid c5
  clear c5
  generalize signed false (nearN q.num.natAbs q.den mode) = Z at *
  go_enter Tryz.func84, Tryz.ntmps84
  go_wp2_with (first
    | (go_at_call 90; (with_reducible refine (C1.out _ _ H_a.out).mono ?_); rintro e W1 ⟨rfl, hb⟩
       have HB1 := Lib.hid hb
       clear hb C1)
    | (go_at_call 137; (with_reducible refine (C2.out _ _ (H_a.out.below HB1.out)).mono ?_); rintro e W2 ⟨u, rfl, ⟨h_u, n_u⟩, hb⟩
       have H_u := Lib.hid h_u
       have N_u := Lib.hid n_u
       have HB2 := Lib.hid hb
       clear h_u n_u hb C2)
    | (go_at_call 97; (with_reducible refine (C3.out _ _ H_u.out).mono ?_); rintro e W3 ⟨z, rfl, ⟨h_z, n_z⟩, hb⟩
       have H_z := Lib.hid h_z
       have N_z := Lib.hid n_z
       have HB3 := Lib.hid hb
       clear h_z n_z hb C3)
    | (go_at_call 58; (with_reducible refine (C4.out _ _ H_z.out).mono ?_); rintro e w9 ⟨rfl, rfl⟩
       clear C4)
    | (go_at_call 136; (with_reducible refine (C5.out _ ).mono ?_); rintro e w9 ⟨rfl, rfl⟩
       clear C5)
    | (fail "no arm"))
  go_ret2
  exact ⟨rfl, (nat.below_tr (nat.below_tr HB1.out HB2.out) HB3.out)⟩
theorem Units_in (a : Value) (q : Rat) (mode : Int) (w : World) (ha : IsR w a q) (sq : Lr q 20000) (hm : mode = 1 ∨ mode = 2 ∨ mode = 3) (h1 : -9223372036854775808 ≤ signed (decide (q.num < 0)) (nearN q.num.natAbs q.den mode)) (h2 : signed (decide (q.num < 0)) (nearN q.num.natAbs q.den mode) < 9223372036854775808) :
    Calls Tryz.prog 84 #[a, .int .i64 mode] w fun e w' => e = .returned (.tuple #[.int .i64 (signed (decide (q.num < 0)) (nearN q.num.natAbs q.den mode)), .nilIface]) ∧ Below w.heap.size w w' := by
  rcases sign_ways q.num with ⟨hs, hb⟩ | ⟨hs, hb⟩ | ⟨hs, hb⟩ <;> rw [hb] at h1 h2 ⊢
  · exact Units_below_in a q mode w ha sq hm hs h1 h2
  · exact Units_none_in a q mode w ha sq hm hs h1 h2
  · exact Units_above_in a q mode w ha sq hm hs h1 h2
end Go.Proofs.YtfpooimjjpamoaaGreatDoor.dec
