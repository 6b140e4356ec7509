/-
  The steps of the walks, part 20: DecB, DecW, DecKit.
-/
import Derived.Test.YtlhmfgbaefaneaaGreatDoorB18
import Derived.Test.YtlhmfgbaefaneaaGreatDoorB19
import Derived.Test.YtlhmfgbaefaneaaGreatDoorB03
import Derived.Test.YtlhmfgbaefaneaaGreatDoorB14
import Derived.Test.YtlhmfgbaefaneaaGreatDoorB16
import Derived.Test.YtlhmfgbaefaneaaGreatDoorB02
import Derived.Test.YtlhmfgbaefaneaaGreatDoorB06
namespace Go.Proofs.YtlhmfgbaefaneaaGreatDoor.dec
open Go.RowKit Go.Proofs.YtlhmfgbaefaneaaGreatDoor.nat Go.Proofs.YtlhmfgbaefaneaaGreatDoor.num
open Go.Proofs.YtlhmfgbaefaneaaGreatDoor.rat (IsR Lr)
open Go.Proofs.YtlhmfgbaefaneaaGreatDoor.ref (str str_size str_append nearN nearUp signed decText)
set_option maxRecDepth 100000 in
set_option maxHeartbeats 4000000 in
theorem Round_below (a : Value) (q : Rat) (k : Nat) (mode : Int) (w : World) (ha : IsR w a q) (sq : Lr q 20000) (hk : k ≤ 20) (hm : mode = 1 ∨ mode = 2 ∨ mode = 3) (hs : sg q.num = -1) :
    Calls Tryz.prog 146 #[a, .int .i64 (k : Nat), .int .i64 mode] w fun e w' => e = .returned (.tuple #[.string (str (decText (signed true (nearN (q.num.natAbs * 10 ^ k) q.den mode)) k)), .nilIface]) ∧ Below w.heap.size w w' := by
  have H_a := Lib.hid ha
  clear ha
  have h10 := Ln_ten hk
  have hT : Ln (q.num.natAbs * 10 ^ k) 20021 := Ln_mul (Ln_abs sq.1) h10
  have c1 := fun (W : World)    => arePlaces_yes (k : Int) W ⟨by omega, by omega⟩
  have C1 := Lib.hid c1
  clear c1
  have c2 := fun (W : World)    => isMode_yes mode W hm
  have C2 := Lib.hid c2
  clear c2
  have c3 := fun (W : World) (v0 : Value) (hh0 : rat.IsR W v0 q)  => rat.Sign_any v0 q W hh0
  rw [hs] at c3
  have C3 := Lib.hid c3
  clear c3
  have c4 := fun (W : World) (v0 : Value) (hh0 : rat.IsR W v0 q)  => rounded_any v0 q k mode W hh0 sq hk
  have C4 := Lib.hid c4
  clear c4
  have c5 := fun (W : World) (v0 : Value) (hh0 : nat.IsN W v0 (nearN (q.num.natAbs * 10 ^ k) q.den mode))  => text_any true v0 (nearN (q.num.natAbs * 10 ^ k) q.den mode) k W hh0 ((Ln_near mode hT).le (by decide)) hk
  have C5 := Lib.hid c5
  clear c5
  generalize str (decText (signed true (nearN (q.num.natAbs * 10 ^ k) q.den mode)) k) = R at *
  go_enter Tryz.func146, Tryz.ntmps146
  go_wp2_with (first
    | (go_at_call 185; (with_reducible refine (C1.out _ ).mono ?_); rintro e w9 ⟨rfl, rfl⟩
       clear C1)
    | (go_at_call 186; (with_reducible refine (C2.out _ ).mono ?_); rintro e w9 ⟨rfl, rfl⟩
       clear C2)
    | (go_at_call 150; (with_reducible refine (C3.out _ _ H_a.out).mono ?_); rintro e W1 ⟨rfl, hb⟩
       have HB1 := Lib.hid hb
       clear hb C3)
    | (go_at_call 188; (with_reducible refine (C4.out _ _ (H_a.out.below HB1.out)).mono ?_); rintro e W2 ⟨u, rfl, ⟨h_u, n_u⟩, hb⟩
       have H_u := Lib.hid h_u
       have N_u := Lib.hid n_u
       have HB2 := Lib.hid hb
       clear h_u n_u hb C4)
    | (go_at_call 187; (with_reducible refine (C5.out _ _ H_u.out).mono ?_); rintro e W3 ⟨rfl, hb⟩
       have HB3 := Lib.hid hb
       clear hb C5)
    | (fail "no arm"))
  go_ret2
  exact ⟨rfl, (nat.below_tr (nat.below_tr HB1.out HB2.out) HB3.out)⟩
set_option maxRecDepth 100000 in
set_option maxHeartbeats 4000000 in
theorem Round_none (a : Value) (q : Rat) (k : Nat) (mode : Int) (w : World) (ha : IsR w a q) (sq : Lr q 20000) (hk : k ≤ 20) (hm : mode = 1 ∨ mode = 2 ∨ mode = 3) (hs : sg q.num = 0) :
    Calls Tryz.prog 146 #[a, .int .i64 (k : Nat), .int .i64 mode] w fun e w' => e = .returned (.tuple #[.string (str (decText (signed false (nearN (q.num.natAbs * 10 ^ k) q.den mode)) k)), .nilIface]) ∧ Below w.heap.size w w' := by
  have H_a := Lib.hid ha
  clear ha
  have h10 := Ln_ten hk
  have hT : Ln (q.num.natAbs * 10 ^ k) 20021 := Ln_mul (Ln_abs sq.1) h10
  have c1 := fun (W : World)    => arePlaces_yes (k : Int) W ⟨by omega, by omega⟩
  have C1 := Lib.hid c1
  clear c1
  have c2 := fun (W : World)    => isMode_yes mode W hm
  have C2 := Lib.hid c2
  clear c2
  have c3 := fun (W : World) (v0 : Value) (hh0 : rat.IsR W v0 q)  => rat.Sign_any v0 q W hh0
  rw [hs] at c3
  have C3 := Lib.hid c3
  clear c3
  have c4 := fun (W : World) (v0 : Value) (hh0 : rat.IsR W v0 q)  => rounded_any v0 q k mode W hh0 sq hk
  have C4 := Lib.hid c4
  clear c4
  have c5 := fun (W : World) (v0 : Value) (hh0 : nat.IsN W v0 (nearN (q.num.natAbs * 10 ^ k) q.den mode))  => text_any false v0 (nearN (q.num.natAbs * 10 ^ k) q.den mode) k W hh0 ((Ln_near mode hT).le (by decide)) hk
  have C5 := Lib.hid c5
  clear c5
  generalize str (decText (signed false (nearN (q.num.natAbs * 10 ^ k) q.den mode)) k) = R at *
  go_enter Tryz.func146, Tryz.ntmps146
  go_wp2_with (first
    | (go_at_call 185; (with_reducible refine (C1.out _ ).mono ?_); rintro e w9 ⟨rfl, rfl⟩
       clear C1)
    | (go_at_call 186; (with_reducible refine (C2.out _ ).mono ?_); rintro e w9 ⟨rfl, rfl⟩
       clear C2)
    | (go_at_call 150; (with_reducible refine (C3.out _ _ H_a.out).mono ?_); rintro e W1 ⟨rfl, hb⟩
       have HB1 := Lib.hid hb
       clear hb C3)
    | (go_at_call 188; (with_reducible refine (C4.out _ _ (H_a.out.below HB1.out)).mono ?_); rintro e W2 ⟨u, rfl, ⟨h_u, n_u⟩, hb⟩
       have H_u := Lib.hid h_u
       have N_u := Lib.hid n_u
       have HB2 := Lib.hid hb
       clear h_u n_u hb C4)
    | (go_at_call 187; (with_reducible refine (C5.out _ _ H_u.out).mono ?_); rintro e W3 ⟨rfl, hb⟩
       have HB3 := Lib.hid hb
       clear hb C5)
    | (fail "no arm"))
  go_ret2
  exact ⟨rfl, (nat.below_tr (nat.below_tr HB1.out HB2.out) HB3.out)⟩
set_option maxRecDepth 100000 in
set_option maxHeartbeats 4000000 in
theorem Round_above (a : Value) (q : Rat) (k : Nat) (mode : Int) (w : World) (ha : IsR w a q) (sq : Lr q 20000) (hk : k ≤ 20) (hm : mode = 1 ∨ mode = 2 ∨ mode = 3) (hs : sg q.num = 1) :
    Calls Tryz.prog 146 #[a, .int .i64 (k : Nat), .int .i64 mode] w fun e w' => e = .returned (.tuple #[.string (str (decText (signed false (nearN (q.num.natAbs * 10 ^ k) q.den mode)) k)), .nilIface]) ∧ Below w.heap.size w w' := by
  have H_a := Lib.hid ha
  clear ha
  have h10 := Ln_ten hk
  have hT : Ln (q.num.natAbs * 10 ^ k) 20021 := Ln_mul (Ln_abs sq.1) h10
  have c1 := fun (W : World)    => arePlaces_yes (k : Int) W ⟨by omega, by omega⟩
  have C1 := Lib.hid c1
  clear c1
  have c2 := fun (W : World)    => isMode_yes mode W hm
  have C2 := Lib.hid c2
  clear c2
  have c3 := fun (W : World) (v0 : Value) (hh0 : rat.IsR W v0 q)  => rat.Sign_any v0 q W hh0
  rw [hs] at c3
  have C3 := Lib.hid c3
  clear c3
  have c4 := fun (W : World) (v0 : Value) (hh0 : rat.IsR W v0 q)  => rounded_any v0 q k mode W hh0 sq hk
  have C4 := Lib.hid c4
  clear c4
  have c5 := fun (W : World) (v0 : Value) (hh0 : nat.IsN W v0 (nearN (q.num.natAbs * 10 ^ k) q.den mode))  => text_any false v0 (nearN (q.num.natAbs * 10 ^ k) q.den mode) k W hh0 ((Ln_near mode hT).le (by decide)) hk
  have C5 := Lib.hid c5
  clear c5
  generalize str (decText (signed false (nearN (q.num.natAbs * 10 ^ k) q.den mode)) k) = R at *
  go_enter Tryz.func146, Tryz.ntmps146
  go_wp2_with (first
    | (go_at_call 185; (with_reducible refine (C1.out _ ).mono ?_); rintro e w9 ⟨rfl, rfl⟩
       clear C1)
    | (go_at_call 186; (with_reducible refine (C2.out _ ).mono ?_); rintro e w9 ⟨rfl, rfl⟩
       clear C2)
    | (go_at_call 150; (with_reducible refine (C3.out _ _ H_a.out).mono ?_); rintro e W1 ⟨rfl, hb⟩
       have HB1 := Lib.hid hb
       clear hb C3)
    | (go_at_call 188; (with_reducible refine (C4.out _ _ (H_a.out.below HB1.out)).mono ?_); rintro e W2 ⟨u, rfl, ⟨h_u, n_u⟩, hb⟩
       have H_u := Lib.hid h_u
       have N_u := Lib.hid n_u
       have HB2 := Lib.hid hb
       clear h_u n_u hb C4)
    | (go_at_call 187; (with_reducible refine (C5.out _ _ H_u.out).mono ?_); rintro e W3 ⟨rfl, hb⟩
       have HB3 := Lib.hid hb
       clear hb C5)
    | (fail "no arm"))
  go_ret2
  exact ⟨rfl, (nat.below_tr (nat.below_tr HB1.out HB2.out) HB3.out)⟩
theorem Round_ok (a : Value) (q : Rat) (k : Nat) (mode : Int) (w : World) (ha : IsR w a q) (sq : Lr q 20000) (hk : k ≤ 20) (hm : mode = 1 ∨ mode = 2 ∨ mode = 3) :
    Calls Tryz.prog 146 #[a, .int .i64 (k : Nat), .int .i64 mode] w fun e w' => e = .returned (.tuple #[.string (str (putText q k mode)), .nilIface]) ∧ Below w.heap.size w w' := by
  unfold putText
  rcases sign_ways q.num with ⟨hs, hb⟩ | ⟨hs, hb⟩ | ⟨hs, hb⟩ <;> rw [hb]
  · exact Round_below a q k mode w ha sq hk hm hs
  · exact Round_none a q k mode w ha sq hk hm hs
  · exact Round_above a q k mode w ha sq hk hm hs
set_option maxRecDepth 100000 in
set_option maxHeartbeats 4000000 in
theorem Units_below_in (a : Value) (q : Rat) (mode : Int) (w : World) (ha : IsR w a q) (sq : Lr q 20000) (hm : mode = 1 ∨ mode = 2 ∨ mode = 3) (hs : sg q.num = -1) (h1 : -9223372036854775808 ≤ signed true (nearN q.num.natAbs q.den mode)) (h2 : signed true (nearN q.num.natAbs q.den mode) < 9223372036854775808) :
    Calls Tryz.prog 148 #[a, .int .i64 mode] w fun e w' => e = .returned (.tuple #[.int .i64 (signed true (nearN q.num.natAbs q.den mode)), .nilIface]) ∧ Below w.heap.size w w' := by
  have H_a := Lib.hid ha
  clear ha
  have RO := fun W (v : Value) (h : IsR W v q) => rounded_any v q 0 mode W h sq (by decide)
  rw [show q.num.natAbs * 10 ^ 0 = q.num.natAbs by rw [Nat.pow_zero, Nat.mul_one], show ((0 : Nat) : Int) = 0 from rfl] at RO
  have RO := Lib.hid RO
  have c1 := fun (W : World) (v0 : Value) (hh0 : rat.IsR W v0 q)  => rat.Sign_any v0 q W hh0
  rw [hs] at c1
  have C1 := Lib.hid c1
  clear c1
  have c2 := fun (W : World) (v0 : Value) (hh0 : rat.IsR W v0 q)  => RO.out W v0 hh0
  have C2 := Lib.hid c2
  clear c2
  have c3 := fun (W : World) (v0 : Value) (hh0 : nat.IsN W v0 (nearN q.num.natAbs q.den mode))  => num.New_any true v0 (nearN q.num.natAbs q.den mode) W hh0
  rw [sgn_signed] at c3
  have C3 := Lib.hid c3
  clear c3
  have c4 := fun (W : World) (v0 : Value) (hh0 : num.IsZ W v0 (signed true (nearN q.num.natAbs q.den mode)))  => num.Small_in v0 (signed true (nearN q.num.natAbs q.den mode)) W hh0 h1 h2
  have C4 := Lib.hid c4
  clear c4
  have c5 := fun (W : World)    => isMode_yes mode W hm
  have C5 := Lib.hid c5
  clear c5
  generalize signed true (nearN q.num.natAbs q.den mode) = Z at *
  go_enter Tryz.func148, Tryz.ntmps148
  go_wp2_with (first
    | (go_at_call 150; (with_reducible refine (C1.out _ _ H_a.out).mono ?_); rintro e W1 ⟨rfl, hb⟩
       have HB1 := Lib.hid hb
       clear hb C1)
    | (go_at_call 188; (with_reducible refine (C2.out _ _ (H_a.out.below HB1.out)).mono ?_); rintro e W2 ⟨u, rfl, ⟨h_u, n_u⟩, hb⟩
       have H_u := Lib.hid h_u
       have N_u := Lib.hid n_u
       have HB2 := Lib.hid hb
       clear h_u n_u hb C2)
    | (go_at_call 128; (with_reducible refine (C3.out _ _ H_u.out).mono ?_); rintro e W3 ⟨z, rfl, ⟨h_z, n_z⟩, hb⟩
       have H_z := Lib.hid h_z
       have N_z := Lib.hid n_z
       have HB3 := Lib.hid hb
       clear h_z n_z hb C3)
    | (go_at_call 192; (with_reducible refine (C4.out _ _ H_z.out).mono ?_); rintro e w9 ⟨rfl, rfl⟩
       clear C4)
    | (go_at_call 186; (with_reducible refine (C5.out _ ).mono ?_); rintro e w9 ⟨rfl, rfl⟩
       clear C5)
    | (fail "no arm"))
  go_ret2
  exact ⟨rfl, (nat.below_tr (nat.below_tr HB1.out HB2.out) HB3.out)⟩
set_option maxRecDepth 100000 in
set_option maxHeartbeats 4000000 in
theorem Units_none_in (a : Value) (q : Rat) (mode : Int) (w : World) (ha : IsR w a q) (sq : Lr q 20000) (hm : mode = 1 ∨ mode = 2 ∨ mode = 3) (hs : sg q.num = 0) (h1 : -9223372036854775808 ≤ signed false (nearN q.num.natAbs q.den mode)) (h2 : signed false (nearN q.num.natAbs q.den mode) < 9223372036854775808) :
    Calls Tryz.prog 148 #[a, .int .i64 mode] w fun e w' => e = .returned (.tuple #[.int .i64 (signed false (nearN q.num.natAbs q.den mode)), .nilIface]) ∧ Below w.heap.size w w' := by
  have H_a := Lib.hid ha
  clear ha
  have RO := fun W (v : Value) (h : IsR W v q) => rounded_any v q 0 mode W h sq (by decide)
  rw [show q.num.natAbs * 10 ^ 0 = q.num.natAbs by rw [Nat.pow_zero, Nat.mul_one], show ((0 : Nat) : Int) = 0 from rfl] at RO
  have RO := Lib.hid RO
  have c1 := fun (W : World) (v0 : Value) (hh0 : rat.IsR W v0 q)  => rat.Sign_any v0 q W hh0
  rw [hs] at c1
  have C1 := Lib.hid c1
  clear c1
  have c2 := fun (W : World) (v0 : Value) (hh0 : rat.IsR W v0 q)  => RO.out W v0 hh0
  have C2 := Lib.hid c2
  clear c2
  have c3 := fun (W : World) (v0 : Value) (hh0 : nat.IsN W v0 (nearN q.num.natAbs q.den mode))  => num.New_any false v0 (nearN q.num.natAbs q.den mode) W hh0
  rw [sgn_signed] at c3
  have C3 := Lib.hid c3
  clear c3
  have c4 := fun (W : World) (v0 : Value) (hh0 : num.IsZ W v0 (signed false (nearN q.num.natAbs q.den mode)))  => num.Small_in v0 (signed false (nearN q.num.natAbs q.den mode)) W hh0 h1 h2
  have C4 := Lib.hid c4
  clear c4
  have c5 := fun (W : World)    => isMode_yes mode W hm
  have C5 := Lib.hid c5
  clear c5
  generalize signed false (nearN q.num.natAbs q.den mode) = Z at *
  go_enter Tryz.func148, Tryz.ntmps148
  go_wp2_with (first
    | (go_at_call 150; (with_reducible refine (C1.out _ _ H_a.out).mono ?_); rintro e W1 ⟨rfl, hb⟩
       have HB1 := Lib.hid hb
       clear hb C1)
    | (go_at_call 188; (with_reducible refine (C2.out _ _ (H_a.out.below HB1.out)).mono ?_); rintro e W2 ⟨u, rfl, ⟨h_u, n_u⟩, hb⟩
       have H_u := Lib.hid h_u
       have N_u := Lib.hid n_u
       have HB2 := Lib.hid hb
       clear h_u n_u hb C2)
    | (go_at_call 128; (with_reducible refine (C3.out _ _ H_u.out).mono ?_); rintro e W3 ⟨z, rfl, ⟨h_z, n_z⟩, hb⟩
       have H_z := Lib.hid h_z
       have N_z := Lib.hid n_z
       have HB3 := Lib.hid hb
       clear h_z n_z hb C3)
    | (go_at_call 192; (with_reducible refine (C4.out _ _ H_z.out).mono ?_); rintro e w9 ⟨rfl, rfl⟩
       clear C4)
    | (go_at_call 186; (with_reducible refine (C5.out _ ).mono ?_); rintro e w9 ⟨rfl, rfl⟩
       clear C5)
    | (fail "no arm"))
  go_ret2
  exact ⟨rfl, (nat.below_tr (nat.below_tr HB1.out HB2.out) HB3.out)⟩
set_option maxRecDepth 100000 in
set_option maxHeartbeats 4000000 in
theorem Units_above_in (a : Value) (q : Rat) (mode : Int) (w : World) (ha : IsR w a q) (sq : Lr q 20000) (hm : mode = 1 ∨ mode = 2 ∨ mode = 3) (hs : sg q.num = 1) (h1 : -9223372036854775808 ≤ signed false (nearN q.num.natAbs q.den mode)) (h2 : signed false (nearN q.num.natAbs q.den mode) < 9223372036854775808) :
    Calls Tryz.prog 148 #[a, .int .i64 mode] w fun e w' => e = .returned (.tuple #[.int .i64 (signed false (nearN q.num.natAbs q.den mode)), .nilIface]) ∧ Below w.heap.size w w' := by
  have H_a := Lib.hid ha
  clear ha
  have RO := fun W (v : Value) (h : IsR W v q) => rounded_any v q 0 mode W h sq (by decide)
  rw [show q.num.natAbs * 10 ^ 0 = q.num.natAbs by rw [Nat.pow_zero, Nat.mul_one], show ((0 : Nat) : Int) = 0 from rfl] at RO
  have RO := Lib.hid RO
  have c1 := fun (W : World) (v0 : Value) (hh0 : rat.IsR W v0 q)  => rat.Sign_any v0 q W hh0
  rw [hs] at c1
  have C1 := Lib.hid c1
  clear c1
  have c2 := fun (W : World) (v0 : Value) (hh0 : rat.IsR W v0 q)  => RO.out W v0 hh0
  have C2 := Lib.hid c2
  clear c2
  have c3 := fun (W : World) (v0 : Value) (hh0 : nat.IsN W v0 (nearN q.num.natAbs q.den mode))  => num.New_any false v0 (nearN q.num.natAbs q.den mode) W hh0
  rw [sgn_signed] at c3
  have C3 := Lib.hid c3
  clear c3
  have c4 := fun (W : World) (v0 : Value) (hh0 : num.IsZ W v0 (signed false (nearN q.num.natAbs q.den mode)))  => num.Small_in v0 (signed false (nearN q.num.natAbs q.den mode)) W hh0 h1 h2
  have C4 := Lib.hid c4
  clear c4
  have c5 := fun (W : World)    => isMode_yes mode W hm
  have C5 := Lib.hid c5
  clear c5
  generalize signed false (nearN q.num.natAbs q.den mode) = Z at *
  go_enter Tryz.func148, Tryz.ntmps148
  go_wp2_with (first
    | (go_at_call 150; (with_reducible refine (C1.out _ _ H_a.out).mono ?_); rintro e W1 ⟨rfl, hb⟩
       have HB1 := Lib.hid hb
       clear hb C1)
    | (go_at_call 188; (with_reducible refine (C2.out _ _ (H_a.out.below HB1.out)).mono ?_); rintro e W2 ⟨u, rfl, ⟨h_u, n_u⟩, hb⟩
       have H_u := Lib.hid h_u
       have N_u := Lib.hid n_u
       have HB2 := Lib.hid hb
       clear h_u n_u hb C2)
    | (go_at_call 128; (with_reducible refine (C3.out _ _ H_u.out).mono ?_); rintro e W3 ⟨z, rfl, ⟨h_z, n_z⟩, hb⟩
       have H_z := Lib.hid h_z
       have N_z := Lib.hid n_z
       have HB3 := Lib.hid hb
       clear h_z n_z hb C3)
    | (go_at_call 192; (with_reducible refine (C4.out _ _ H_z.out).mono ?_); rintro e w9 ⟨rfl, rfl⟩
       clear C4)
    | (go_at_call 186; (with_reducible refine (C5.out _ ).mono ?_); rintro e w9 ⟨rfl, rfl⟩
       clear C5)
    | (fail "no arm"))
  go_ret2
  exact ⟨rfl, (nat.below_tr (nat.below_tr HB1.out HB2.out) HB3.out)⟩
theorem Units_in (a : Value) (q : Rat) (mode : Int) (w : World) (ha : IsR w a q) (sq : Lr q 20000) (hm : mode = 1 ∨ mode = 2 ∨ mode = 3) (h1 : -9223372036854775808 ≤ signed (decide (q.num < 0)) (nearN q.num.natAbs q.den mode)) (h2 : signed (decide (q.num < 0)) (nearN q.num.natAbs q.den mode) < 9223372036854775808) :
    Calls Tryz.prog 148 #[a, .int .i64 mode] w fun e w' => e = .returned (.tuple #[.int .i64 (signed (decide (q.num < 0)) (nearN q.num.natAbs q.den mode)), .nilIface]) ∧ Below w.heap.size w w' := by
  rcases sign_ways q.num with ⟨hs, hb⟩ | ⟨hs, hb⟩ | ⟨hs, hb⟩ <;> rw [hb] at h1 h2 ⊢
  · exact Units_below_in a q mode w ha sq hm hs h1 h2
  · exact Units_none_in a q mode w ha sq hm hs h1 h2
  · exact Units_above_in a q mode w ha sq hm hs h1 h2
end Go.Proofs.YtlhmfgbaefaneaaGreatDoor.dec
namespace Go.Proofs.YtlhmfgbaefaneaaGreatDoor.dec
open Go.Proofs.YtlhmfgbaefaneaaGreatDoor.ref (pad pad_length pad_nought pad_dec padTo decBody decText signed nearN nearUp Numeral seg ch IsDig DecBody DecForm pad_reads take_pad digits_of dec_numeral)
open Go.Proofs.YtlhmfgbaefaneaaGreatDoor.nat (pad_split pad_mod)
theorem pad_more (m x : Nat) (h : x < 10 ^ (m + 1)) : ∀ j, pad (j + (m + 1)) x = List.replicate j 48 ++ pad (m + 1) x
  | 0 => by rw [Nat.zero_add]; rfl
  | j + 1 => by
    rw [show j + 1 + (m + 1) = (j + (m + 1)) + 1 by omega, pad_nought (Nat.lt_of_lt_of_le h (Nat.pow_le_pow_right (by omega) (by omega))), pad_more m x h j]
    rfl
theorem digits_at (x : Nat) : ∃ m, x < 10 ^ (m + 1) ∧ (m = 0 ∨ 10 ^ m ≤ x) := by
  obtain ⟨m, h1, h2, -⟩ := digits_of x x (Nat.lt_of_lt_of_le (Nat.lt_pow_self (by omega)) (Nat.pow_le_pow_right (by omega) (Nat.le_succ x)))
  exact ⟨m, h1, h2⟩
theorem decBody_nought (x : Nat) : decBody x 0 = Lib.decDigits x := by
  have := dec_pos x
  unfold decBody
  rw [if_pos rfl]
  unfold padTo
  rw [show 0 + 1 - (Lib.decDigits x).length = 0 by omega]
  rfl
theorem decBody_parts (x : Nat) {k : Nat} (hk : 0 < k) : decBody x k = Lib.decDigits (x / 10 ^ k) ++ 46 :: pad k x := by
  obtain ⟨m, h1, h2⟩ := digits_at x
  have hD : Lib.decDigits x = pad (m + 1) x := (pad_dec m x h1 h2).symm
  obtain ⟨M, hM⟩ : ∃ M, M = max k m := ⟨_, rfl⟩
  have hP : padTo (Lib.decDigits x) k = pad (M + 1) x := by
    unfold padTo
    rw [hD, pad_length, ← pad_more m x h1, show k + 1 - (m + 1) + (m + 1) = M + 1 by omega]
  have hS : pad (M + 1) x = pad (M + 1 - k) (x / 10 ^ k) ++ pad k x := by
    have := pad_split (M + 1 - k) x k
    rwa [show M + 1 - k + k = M + 1 by omega] at this
  have hQ : pad (M + 1 - k) (x / 10 ^ k) = Lib.decDigits (x / 10 ^ k) := by
    rw [show M + 1 - k = (M - k) + 1 by omega]
    refine pad_dec (M - k) _ ?_ ?_
    · rw [Nat.div_lt_iff_lt_mul (Nat.pow_pos (by omega)), ← Nat.pow_add, show M - k + 1 + k = M + 1 by omega]
      exact Nat.lt_of_lt_of_le h1 (Nat.pow_le_pow_right (by omega) (by omega))
    · rcases (show M = k ∨ k < m ∧ M = m by omega) with h3 | ⟨h3, h4⟩
      · exact Or.inl (by omega)
      · refine Or.inr ?_
        rw [Nat.le_div_iff_mul_le (Nat.pow_pos (by omega)), ← Nat.pow_add, show M - k + k = m by omega]
        omega
  unfold decBody
  rw [if_neg (by omega), hP, pad_length, hS]
  have hl : (pad (M + 1 - k) (x / 10 ^ k)).length = M + 1 - k := pad_length _ _
  rw [List.take_left' hl, List.drop_left' hl, hQ]
theorem body_form {x k p : Nat} (h : x < 10 ^ (p + 1)) (hp : p < 4000) (hk : k ≤ 20) : DecBody (decBody x k) x k := by
  rcases Nat.eq_zero_or_pos k with rfl | h0
  · rw [decBody_nought]
    obtain ⟨h1, h2, -⟩ := dec_numeral h hp
    exact Or.inl ⟨rfl, h1, h2.symm⟩
  · rw [decBody_parts x h0]
    obtain ⟨h1, h2, -⟩ := dec_numeral (x := x / 10 ^ k) (Nat.lt_of_le_of_lt (Nat.div_le_self _ _) h) hp
    obtain ⟨h3, h4⟩ := pad_reads k x
    refine Or.inr ⟨_, _, rfl, h1, pad_length _ _, h0, hk, h3, ?_⟩
    rw [h2, h4, Nat.mul_comm]
    exact (Nat.div_add_mod _ _).symm
theorem text_form {x k p : Nat} {below : Bool} (h : x < 10 ^ (p + 1)) (hp : p < 4000) (hk : k ≤ 20) (hl : (decText (signed below x) k).length ≤ 60) :
    DecForm (decText (signed below x) k) (below && decide (x ≠ 0)) x k := by
  refine ⟨hl, decBody x k, ?_, ?_, body_form h hp hk⟩
  · rw [text_of]
    cases below <;> by_cases h0 : x = 0 <;> simp [h0]
  · intro hb
    simp at hb
    exact hb.2
theorem text_len {x k p : Nat} {below : Bool} (h : x < 10 ^ (p + 1)) (hp : p < 4000) : (decText (signed below x) k).length ≤ max p k + 3 := by
  have h1 : (decBody x k).length ≤ max p k + 2 := by
    rcases Nat.eq_zero_or_pos k with rfl | h0
    · rw [decBody_nought]
      have := (dec_numeral h hp).2.2
      omega
    · rw [decBody_parts x h0, List.length_append, List.length_cons, pad_length]
      by_cases hkp : k ≤ p
      · have h2 : x / 10 ^ k < 10 ^ (p - k + 1) := by
          rw [Nat.div_lt_iff_lt_mul (Nat.pow_pos (by omega)), ← Nat.pow_add, show p - k + 1 + k = p + 1 by omega]
          exact h
        have := (dec_numeral h2 (by omega)).2.2
        omega
      · have h2 : x / 10 ^ k = 0 := Nat.div_eq_of_lt (Nat.lt_of_lt_of_le h (Nat.pow_le_pow_right (by omega) (by omega)))
        rw [h2, Lib.decDigits_length, Lib.nDigits_small (by omega)]
        omega
  rw [text_of]
  split
  · rw [List.length_cons]; omega
  · omega
theorem signed_self (z : Int) : signed (decide (z < 0)) z.natAbs = z := by
  unfold signed
  by_cases h : z < 0 <;> simp [h] <;> omega
theorem int_form {z : Int} {k p : Nat} (h : z.natAbs < 10 ^ (p + 1)) (hp : max p k + 3 ≤ 60) (hk : k ≤ 20) : DecForm (decText z k) (decide (z < 0)) z.natAbs k := by
  have hl := text_len (below := decide (z < 0)) (k := k) h (by omega)
  have hf := text_form (below := decide (z < 0)) h (by omega) hk (by omega)
  rw [signed_self] at hf
  have e : (decide (z < 0) && decide (z.natAbs ≠ 0)) = decide (z < 0) := by
    by_cases h : z < 0 <;> simp [h]
    omega
  rwa [e] at hf
end Go.Proofs.YtlhmfgbaefaneaaGreatDoor.dec
namespace Go.Proofs.YtlhmfgbaefaneaaGreatDoor.law2
open Go.RowKit Go.Proofs.YtlhmfgbaefaneaaGreatDoor.nat
open Go.Proofs.YtlhmfgbaefaneaaGreatDoor.ref (str DecForm signed decText)
def Cells3 (w : World) (g : Nat) (v0 v1 v2 : Value) : Prop := w.cell? ⟨g, 0, none⟩ = some v0 ∧ w.cell? ⟨g, 1, none⟩ = some v1 ∧ w.cell? ⟨g, 2, none⟩ = some v2
theorem Cells3.below {w w' : World} {g : Nat} {v0 v1 v2 : Value} (h : Cells3 w g v0 v1 v2) (hb : Below w.heap.size w w') : Cells3 w' g v0 v1 v2 :=
  ⟨(hb.cell (p := ⟨g, 0, none⟩) (cell_lt h.1)).trans h.1, (hb.cell (p := ⟨g, 1, none⟩) (cell_lt h.2.1)).trans h.2.1, (hb.cell (p := ⟨g, 2, none⟩) (cell_lt h.2.2)).trans h.2.2⟩
theorem DGet_yes (l : List UInt8) (neg : Bool) (n k : Nat) (q : Rat) (w : World) (hq : q = ((signed neg n : Int) : Rat) / ((10 ^ k : Nat) : Rat)) (h : DecForm l neg n k) :
    Calls Tryz.prog 147 #[.string (str l)] w fun e w' => ∃ u, e = .returned (.tuple #[u, .int .i64 (k : Nat), .nilIface]) ∧ (rat.IsR w' u q ∧ u ≠ .pointer none) ∧ Below w.heap.size w w' := by
  have := dec.Get_ok l neg n k w h
  rwa [Rat.intCast_natCast, ← hq] at this
end Go.Proofs.YtlhmfgbaefaneaaGreatDoor.law2
