/-
  The steps of the walks, part 17: Div64.
-/
import Derived.Test.YtlhmfgbaefaneabGreatDoorB16
namespace Go.Proofs.YtlhmfgbaefaneabGreatDoor.nat
open Go.RowKit
theorem wrapMod (a : Nat) : IntKind.u64.wrap (a : Int) = ((a % 18446744073709551616 : Nat) : Int) := by rw [IntKind.wrap_u64]; omega
theorem pow_cast (s : Nat) : ((2 ^ s : Nat) : Int) = (2 : Int) ^ s := by simp
theorem wrapShl (x s : Nat) : IntKind.u64.wrap ((x : Int) * 2 ^ s) = ((x * 2 ^ s % 18446744073709551616 : Nat) : Int) := by
  rw [← wrapMod, Int.natCast_mul, pow_cast]
theorem divShr (x s : Nat) : (x : Int) / 2 ^ s = ((x / 2 ^ s : Nat) : Int) := by rw [Int.natCast_ediv, pow_cast]
theorem wrapMul (x y : Nat) : IntKind.u64.wrap ((x : Int) * (y : Int)) = ((x * y % 18446744073709551616 : Nat) : Int) := by rw [← wrapMod, Int.natCast_mul]
theorem divNat (x y : Nat) : (x : Int) / (y : Int) = ((x / y : Nat) : Int) := by rw [Int.natCast_ediv]
theorem parts_eq {H L V U u1 u0 X : Nat} (hN : (H + L) * 18446744073709551616 + V = X) (hU : U = H + L) (h1 : u1 = V / 4294967296) (h0 : u0 = V % 4294967296) : (U * 4294967296 + u1) * 4294967296 + u0 = X := by
  have h2 : V = u1 * 4294967296 + u0 := by omega
  have h3 : U * 4294967296 * 4294967296 = U * 18446744073709551616 := by rw [Nat.mul_assoc]
  rw [← hN, ← hU, h2, Nat.add_mul, h3, Nat.add_assoc]
def ERel (U u A B : Nat) (qv rv : Value) : Prop := ∃ q r : Nat, qv = .int .u64 q ∧ rv = .int .u64 r ∧ r < 4294967296 ∧ Est U u A B q r ∧ q ≤ 8589934592
theorem ERel.start {U u A B : Nat} {qv rv : Value} (hu : u < 4294967296) (hA : 2147483648 ≤ A) (hA2 : A < 4294967296) (hU : U < 18446744073709551616) (hq : qv = .int .u64 ((U / A : Nat) : Int)) (hr : rv = .int .u64 ((U : Int) - ((U / A * A : Nat) : Int))) : ERel U u A B qv rv := by
  have h1 := Nat.div_add_mod U A
  rw [Nat.mul_comm] at h1
  have h2 := Nat.mod_lt U (show 0 < A by omega)
  have h3 : U / A ≤ 8589934592 := by
    rw [Nat.div_le_iff_le_mul (by omega)]
    have := Nat.mul_le_mul_left 8589934592 hA
    omega
  refine ⟨U / A, U % A, hq, ?_, by omega, Est.init hu (by omega), h3⟩
  rw [hr]
  congr 1
  omega
set_option maxRecDepth 100000 in
set_option maxHeartbeats 16000000 in
theorem Div64_pos (hi lo y : Nat) (hh : hi < y) (hl : lo < 18446744073709551616) (hy : y < 18446744073709551616) (h0 : 0 < hi) (w : World) :
    Calls Tryz.prog 222 #[.int .u64 (hi : Int), .int .u64 (lo : Int), .int .u64 (y : Int)] w fun e w' => ∃ q r : Nat, e = .returned (.tuple #[.int .u64 (q : Int), .int .u64 (r : Int)]) ∧ (q * y + r = hi * 18446744073709551616 + lo ∧ r < y ∧ q < 18446744073709551616) ∧ w = w' := by
  obtain ⟨s, ⟨hs, hy1, hy2⟩, LZ⟩ := Lead64_ex y hy (by omega)
  obtain ⟨H, L, V, hH, hL, hV, hHb, hHL, hN, hor⟩ := shift_parts hs hh hl hy1
  obtain ⟨Y, hY⟩ : ∃ Y, Y = y * 2 ^ s := ⟨_, rfl⟩
  rw [← hY] at hy1 hy2 hHL
  obtain ⟨A, hA⟩ : ∃ A, A = Y / 4294967296 := ⟨_, rfl⟩
  obtain ⟨B, hB⟩ : ∃ B, B = Y % 4294967296 := ⟨_, rfl⟩
  obtain ⟨U, hUe⟩ : ∃ U, U = H + L := ⟨_, rfl⟩
  obtain ⟨u1, hu1e⟩ : ∃ u, u = V / 4294967296 := ⟨_, rfl⟩
  obtain ⟨u0, hu0e⟩ : ∃ u, u = V % 4294967296 := ⟨_, rfl⟩
  have hVb : V < 18446744073709551616 := by rw [hV]; exact Nat.mod_lt _ (by omega)
  have hYb : Y < 18446744073709551616 := hy1
  have hYe : Y = A * 4294967296 + B := by omega
  have hA1 : 2147483648 ≤ A := by omega
  have hA2 : A < 4294967296 := by omega
  have hBb : B < 4294967296 := by omega
  have hu1 : u1 < 4294967296 := by omega
  have hu0 : u0 < 4294967296 := by omega
  have hU : U < Y := by omega
  have F1 : IntKind.u64.wrap ((y : Int) * 2 ^ s) = (Y : Int) := by rw [wrapShl, ← hY, Nat.mod_eq_of_lt hYb]
  have F2 : (Y : Int) / 4294967296 = (A : Int) := by omega
  have F3 : bits .and .u64 (Y : Int) 4294967295 = (B : Int) := by rw [maskN Y hYb, hB]
  have F4 : IntKind.u64.wrap ((hi : Int) * 2 ^ s) = (H : Int) := by rw [wrapShl, ← hH, Nat.mod_eq_of_lt hHb]
  have F5 : (lo : Int) / 2 ^ (64 - s) = (L : Int) := by rw [divShr, hL]
  have F6 : bits .or .u64 (H : Int) (L : Int) = (U : Int) := by rw [bits_or_u64_nat H L hHb (by omega), hor, hUe]
  have F7 : IntKind.u64.wrap ((lo : Int) * 2 ^ s) = (V : Int) := by rw [wrapShl, hV]
  have F8 : (V : Int) / 4294967296 = (u1 : Int) := by omega
  have F9 : bits .and .u64 (V : Int) 4294967295 = (u0 : Int) := by rw [maskN V hVb, hu0e]
  obtain ⟨d1, hd1⟩ : ∃ n, n = U / A := ⟨_, rfl⟩
  obtain ⟨d2, hd2⟩ : ∃ n, n = d1 * A := ⟨_, rfl⟩
  have hd2b : d2 ≤ U := by rw [hd2, hd1]; exact Nat.div_mul_le_self _ _
  have F10 : (U : Int) / (A : Int) = (d1 : Int) := by rw [hd1, divNat]
  have hd1b : d1 < 18446744073709551616 := by rw [hd1]; exact Nat.lt_of_le_of_lt (Nat.div_le_self _ _) (by omega)
  have F11 : IntKind.u64.wrap ((d1 : Int) * (A : Int)) = (d2 : Int) := by rw [wrapMul, ← hd2, Nat.mod_eq_of_lt (by omega)]
  have hA0 : ¬ (A : Int) = 0 := by omega
  have hy00 : 0 < y := by omega
  have HW := Lib.hid (two_halves hY hy00 (parts_eq hN hUe hu1e hu0e))
  have HY := Lib.hid hYe
  have HD1 := Lib.hid hd1
  have HD2 := Lib.hid hd2
  have LZ' := Lib.hid LZ
  have hy0 : ((y : Int) == 0) = false := by simp; omega
  have hh0 : ((hi : Int) == 0) = false := by simp; omega
  have hlt : ¬ (y : Int) ≤ hi := by omega
  clear LZ hH hL hV hN hor hY hA hB hUe hu1e hu0e hHL hYe hd1 hd2
  go_enter Tryz.func222, Tryz.ntmps222
  go_wp2_with (go_at_call 220; refine (LZ'.out _).mono ?_; rintro e w' ⟨rfl, rfl⟩)
  go_loopw [15, 16] (fun qv rv wr => w' = wr ∧ ERel U u1 A B qv rv) (fun qv _ _ => (intOf qv).toNat)
  case atStart => exact ⟨rfl, ERel.start hu1 hA1 hA2 (by omega) (by rw [HD1.out]) (by rw [← HD1.out, ← HD2.out])⟩
  case round =>
    obtain ⟨rfl, hrel⟩ := hrel
    clear F1 F2 F3 F4 F5 F6 F7 F8 F9 F10 F11 hHb hVb hd2b hd1b LZ' HD1 HD2
    obtain ⟨q, r, rfl, rfl, hr, hest, hqb⟩ := hrel
    by_cases hb : (4294967296 : Int) ≤ (q : Int)
    · obtain ⟨hq0', hnx⟩ := hest.next (by rw [← HY.out]; exact hU) hu1 (Or.inl (by omega))
      have HNX := Lib.hid hnx
      clear hnx hest
      by_cases hout : (4294967296 : Int) ≤ (r : Int) + (A : Int)
      · have hq1 : (q - 1) = (U * 4294967296 + u1) / Y := by rw [HY.out]; exact (HNX.out.out (by omega) hBb (by rw [← HY.out]; exact hU) (by omega)).2
        have hq1b : (q - 1) < 4294967296 := by rw [hq1, HY.out]; exact est_lt hu1 (by rw [← HY.out]; exact hU)
        obtain ⟨Q1, hQ1⟩ : ∃ Q1 : Nat, Q1 = (q - 1) := ⟨_, rfl⟩
        have hQe : ((q : Int) - 1) = (Q1 : Int) := by omega
        rw [← hQ1] at hq1 hq1b
        have HQ1 := Lib.hid hq1
        obtain ⟨m1, hm1⟩ : ∃ n, n = U * 4294967296 % 18446744073709551616 := ⟨_, rfl⟩
        obtain ⟨m2, hm2⟩ : ∃ n, n = (m1 + u1) % 18446744073709551616 := ⟨_, rfl⟩
        obtain ⟨m3, hm3⟩ : ∃ n, n = Q1 * Y % 18446744073709551616 := ⟨_, rfl⟩
        obtain ⟨R, hRe⟩ : ∃ n, n = (U * 4294967296 + u1) % Y := ⟨_, rfl⟩
        have hR : R < Y := by rw [hRe]; exact Nat.mod_lt _ (by omega)
        have a1 : IntKind.u64.wrap ((U : Int) * 4294967296) = (m1 : Int) := by rw [hm1, ← wrapMod]; congr 1
        have a2 : IntKind.u64.wrap ((m1 : Int) + (u1 : Int)) = (m2 : Int) := by rw [hm2, ← wrapMod]; congr 1
        have a3 : IntKind.u64.wrap ((Q1 : Int) * (Y : Int)) = (m3 : Int) := by rw [hm3, wrapMul]
        have a3' : IntKind.u64.wrap (((q : Int) - 1) * (Y : Int)) = (m3 : Int) := by rw [hQe]; exact a3
        have a4 : IntKind.u64.wrap ((m2 : Int) - (m3 : Int)) = (R : Int) := by rw [hm2, hm1, hm3, hRe]; exact rest_wrap HQ1.out (by omega) hYb
        obtain ⟨c1, hc1⟩ : ∃ n, n = R / A := ⟨_, rfl⟩
        obtain ⟨c2, hc2⟩ : ∃ n, n = c1 * A := ⟨_, rfl⟩
        have hc2b : c2 ≤ R := by rw [hc2, hc1]; exact Nat.div_mul_le_self _ _
        have a5 : (R : Int) / (A : Int) = (c1 : Int) := by rw [hc1, divNat]
        have hc1b : c1 < 18446744073709551616 := by rw [hc1]; exact Nat.lt_of_le_of_lt (Nat.div_le_self _ _) (by omega)
        have a6 : IntKind.u64.wrap ((c1 : Int) * (A : Int)) = (c2 : Int) := by rw [wrapMul, ← hc2, Nat.mod_eq_of_lt (by omega)]
        have HR := Lib.hid hRe
        have HC1 := Lib.hid hc1
        have HC2 := Lib.hid hc2
        clear hq1 hm1 hm2 hm3 hRe hc1 hc2 hQ1
        go_wp2
        go_loopw [18, 16] (fun qv rv wr => w' = wr ∧ ERel R u0 A B qv rv) (fun qv _ _ => (intOf qv).toNat)
        case atStart => exact ⟨rfl, ERel.start hu0 hA1 hA2 (by omega) (by rw [HC1.out]) (by rw [← HC1.out, ← HC2.out])⟩
        case round =>
          obtain ⟨rfl, hrel⟩ := hrel
          obtain ⟨q, r, rfl, rfl, hr, hest, hqb⟩ := hrel
          by_cases hb : (4294967296 : Int) ≤ (q : Int)
          · obtain ⟨hq0', hnx⟩ := hest.next (by rw [← HY.out]; exact hR) hu0 (Or.inl (by omega))
            have HNX := Lib.hid hnx
            clear hnx hest
            by_cases hout : (4294967296 : Int) ≤ (r : Int) + (A : Int)
            · have hq0 : (q - 1) = (R * 4294967296 + u0) / Y := by rw [HY.out]; exact (HNX.out.out (by omega) hBb (by rw [← HY.out]; exact hR) (by omega)).2
              have hq0b : (q - 1) < 4294967296 := by rw [hq0, HY.out]; exact est_lt hu0 (by rw [← HY.out]; exact hR)
              obtain ⟨Q0, hQ0⟩ : ∃ Q0 : Nat, Q0 = (q - 1) := ⟨_, rfl⟩
              have hQe0 : ((q : Int) - 1) = (Q0 : Int) := by omega
              rw [← hQ0] at hq0 hq0b
              have HQ0 := Lib.hid hq0
              clear hq0 hQ0
              obtain ⟨n1, hn1⟩ : ∃ n, n = R * 4294967296 % 18446744073709551616 := ⟨_, rfl⟩
              obtain ⟨n2, hn2⟩ : ∃ n, n = (n1 + u0) % 18446744073709551616 := ⟨_, rfl⟩
              obtain ⟨n3, hn3⟩ : ∃ n, n = Q0 * Y % 18446744073709551616 := ⟨_, rfl⟩
              obtain ⟨R2, hR2⟩ : ∃ n, n = (R * 4294967296 + u0) % Y := ⟨_, rfl⟩
              obtain ⟨D, hD⟩ : ∃ n, n = R2 / 2 ^ s := ⟨_, rfl⟩
              have b1 : IntKind.u64.wrap ((R : Int) * 4294967296) = (n1 : Int) := by rw [hn1, ← wrapMod]; congr 1
              have b2 : IntKind.u64.wrap ((n1 : Int) + (u0 : Int)) = (n2 : Int) := by rw [hn2, ← wrapMod]; congr 1
              have b3 : IntKind.u64.wrap ((Q0 : Int) * (Y : Int)) = (n3 : Int) := by rw [hn3, wrapMul]
              have b3' : IntKind.u64.wrap (((q : Int) - 1) * (Y : Int)) = (n3 : Int) := by rw [hQe0]; exact b3
              have b4 : IntKind.u64.wrap ((n2 : Int) - (n3 : Int)) = (R2 : Int) := by rw [hn2, hn1, hn3, hR2]; exact rest_wrap HQ0.out (by omega) hYb
              have b5 : (R2 : Int) / 2 ^ s = (D : Int) := by rw [hD, divShr]
              have HF := Lib.hid (show (Q1 * 4294967296 + Q0) * y + D = hi * 18446744073709551616 + lo ∧ D < y from by rw [HQ1.out, HQ0.out, hD, hR2, HR.out]; exact HW.out)
              clear hn1 hn2 hn3 hR2 hD
              go_wp2
              go_ret2
              exact ⟨Q1 * 4294967296 + Q0, D, by go_num, ⟨HF.out.1, HF.out.2, by omega⟩, rfl⟩
            · go_wp2
              go_roundw
              case rel => exact ⟨trivial, q - 1, r + A, by go_num, by go_num, by omega, HNX.out, by omega⟩
              case measure => simp [intOf]; omega
          · obtain ⟨T, hT⟩ : ∃ T, T = q * B := ⟨_, rfl⟩
            have hTb : T < 18446744073709551616 := by
              rw [hT]
              have : q * B ≤ 4294967295 * 4294967295 := Nat.mul_le_mul (by omega) (by omega)
              omega
            have t1 : IntKind.u64.wrap ((q : Int) * (B : Int)) = (T : Int) := by rw [wrapMul, ← hT, Nat.mod_eq_of_lt hTb]
            by_cases hlt : 4294967296 * (r : Int) + (u0 : Int) < (T : Int)
            · obtain ⟨hq0', hnx⟩ := hest.next (by rw [← HY.out]; exact hR) hu0 (Or.inr (by rw [← hT]; omega))
              have HNX := Lib.hid hnx
              clear hnx hest hT
              by_cases hout : (4294967296 : Int) ≤ (r : Int) + (A : Int)
              · have hq0 : (q - 1) = (R * 4294967296 + u0) / Y := by rw [HY.out]; exact (HNX.out.out (by omega) hBb (by rw [← HY.out]; exact hR) (by omega)).2
                have hq0b : (q - 1) < 4294967296 := by rw [hq0, HY.out]; exact est_lt hu0 (by rw [← HY.out]; exact hR)
                obtain ⟨Q0, hQ0⟩ : ∃ Q0 : Nat, Q0 = (q - 1) := ⟨_, rfl⟩
                have hQe0 : ((q : Int) - 1) = (Q0 : Int) := by omega
                rw [← hQ0] at hq0 hq0b
                have HQ0 := Lib.hid hq0
                clear hq0 hQ0
                obtain ⟨n1, hn1⟩ : ∃ n, n = R * 4294967296 % 18446744073709551616 := ⟨_, rfl⟩
                obtain ⟨n2, hn2⟩ : ∃ n, n = (n1 + u0) % 18446744073709551616 := ⟨_, rfl⟩
                obtain ⟨n3, hn3⟩ : ∃ n, n = Q0 * Y % 18446744073709551616 := ⟨_, rfl⟩
                obtain ⟨R2, hR2⟩ : ∃ n, n = (R * 4294967296 + u0) % Y := ⟨_, rfl⟩
                obtain ⟨D, hD⟩ : ∃ n, n = R2 / 2 ^ s := ⟨_, rfl⟩
                have b1 : IntKind.u64.wrap ((R : Int) * 4294967296) = (n1 : Int) := by rw [hn1, ← wrapMod]; congr 1
                have b2 : IntKind.u64.wrap ((n1 : Int) + (u0 : Int)) = (n2 : Int) := by rw [hn2, ← wrapMod]; congr 1
                have b3 : IntKind.u64.wrap ((Q0 : Int) * (Y : Int)) = (n3 : Int) := by rw [hn3, wrapMul]
                have b3' : IntKind.u64.wrap (((q : Int) - 1) * (Y : Int)) = (n3 : Int) := by rw [hQe0]; exact b3
                have b4 : IntKind.u64.wrap ((n2 : Int) - (n3 : Int)) = (R2 : Int) := by rw [hn2, hn1, hn3, hR2]; exact rest_wrap HQ0.out (by omega) hYb
                have b5 : (R2 : Int) / 2 ^ s = (D : Int) := by rw [hD, divShr]
                have HF := Lib.hid (show (Q1 * 4294967296 + Q0) * y + D = hi * 18446744073709551616 + lo ∧ D < y from by rw [HQ1.out, HQ0.out, hD, hR2, HR.out]; exact HW.out)
                clear hn1 hn2 hn3 hR2 hD
                go_wp2
                go_ret2
                exact ⟨Q1 * 4294967296 + Q0, D, by go_num, ⟨HF.out.1, HF.out.2, by omega⟩, rfl⟩
              · go_wp2
                go_roundw
                case rel => exact ⟨trivial, q - 1, r + A, by go_num, by go_num, by omega, HNX.out, by omega⟩
                case measure => simp [intOf]; omega
            · have HE := Lib.hid (hest.le (by omega) (by rw [← hT]; omega))
              clear hest hT
              have hq0 : q = (R * 4294967296 + u0) / Y := by rw [HY.out]; exact HE.out
              have hq0b : q < 4294967296 := by rw [hq0, HY.out]; exact est_lt hu0 (by rw [← HY.out]; exact hR)
              obtain ⟨Q0, rfl⟩ : ∃ Q0 : Nat, Q0 = q := ⟨_, rfl⟩
              have HQ0 := Lib.hid hq0
              clear hq0
              obtain ⟨n1, hn1⟩ : ∃ n, n = R * 4294967296 % 18446744073709551616 := ⟨_, rfl⟩
              obtain ⟨n2, hn2⟩ : ∃ n, n = (n1 + u0) % 18446744073709551616 := ⟨_, rfl⟩
              obtain ⟨n3, hn3⟩ : ∃ n, n = Q0 * Y % 18446744073709551616 := ⟨_, rfl⟩
              obtain ⟨R2, hR2⟩ : ∃ n, n = (R * 4294967296 + u0) % Y := ⟨_, rfl⟩
              obtain ⟨D, hD⟩ : ∃ n, n = R2 / 2 ^ s := ⟨_, rfl⟩
              have b1 : IntKind.u64.wrap ((R : Int) * 4294967296) = (n1 : Int) := by rw [hn1, ← wrapMod]; congr 1
              have b2 : IntKind.u64.wrap ((n1 : Int) + (u0 : Int)) = (n2 : Int) := by rw [hn2, ← wrapMod]; congr 1
              have b3 : IntKind.u64.wrap ((Q0 : Int) * (Y : Int)) = (n3 : Int) := by rw [hn3, wrapMul]
              have b4 : IntKind.u64.wrap ((n2 : Int) - (n3 : Int)) = (R2 : Int) := by rw [hn2, hn1, hn3, hR2]; exact rest_wrap HQ0.out (by omega) hYb
              have b5 : (R2 : Int) / 2 ^ s = (D : Int) := by rw [hD, divShr]
              have HF := Lib.hid (show (Q1 * 4294967296 + Q0) * y + D = hi * 18446744073709551616 + lo ∧ D < y from by rw [HQ1.out, HQ0.out, hD, hR2, HR.out]; exact HW.out)
              clear hn1 hn2 hn3 hR2 hD
              go_wp2
              go_ret2
              exact ⟨Q1 * 4294967296 + Q0, D, by go_num, ⟨HF.out.1, HF.out.2, by omega⟩, rfl⟩
      · go_wp2
        go_roundw
        case rel => exact ⟨trivial, q - 1, r + A, by go_num, by go_num, by omega, HNX.out, by omega⟩
        case measure => simp [intOf]; omega
    · obtain ⟨T, hT⟩ : ∃ T, T = q * B := ⟨_, rfl⟩
      have hTb : T < 18446744073709551616 := by
        rw [hT]
        have : q * B ≤ 4294967295 * 4294967295 := Nat.mul_le_mul (by omega) (by omega)
        omega
      have t1 : IntKind.u64.wrap ((q : Int) * (B : Int)) = (T : Int) := by rw [wrapMul, ← hT, Nat.mod_eq_of_lt hTb]
      by_cases hlt : 4294967296 * (r : Int) + (u1 : Int) < (T : Int)
      · obtain ⟨hq0', hnx⟩ := hest.next (by rw [← HY.out]; exact hU) hu1 (Or.inr (by rw [← hT]; omega))
        have HNX := Lib.hid hnx
        clear hnx hest hT
        by_cases hout : (4294967296 : Int) ≤ (r : Int) + (A : Int)
        · have hq1 : (q - 1) = (U * 4294967296 + u1) / Y := by rw [HY.out]; exact (HNX.out.out (by omega) hBb (by rw [← HY.out]; exact hU) (by omega)).2
          have hq1b : (q - 1) < 4294967296 := by rw [hq1, HY.out]; exact est_lt hu1 (by rw [← HY.out]; exact hU)
          obtain ⟨Q1, hQ1⟩ : ∃ Q1 : Nat, Q1 = (q - 1) := ⟨_, rfl⟩
          have hQe : ((q : Int) - 1) = (Q1 : Int) := by omega
          rw [← hQ1] at hq1 hq1b
          have HQ1 := Lib.hid hq1
          obtain ⟨m1, hm1⟩ : ∃ n, n = U * 4294967296 % 18446744073709551616 := ⟨_, rfl⟩
          obtain ⟨m2, hm2⟩ : ∃ n, n = (m1 + u1) % 18446744073709551616 := ⟨_, rfl⟩
          obtain ⟨m3, hm3⟩ : ∃ n, n = Q1 * Y % 18446744073709551616 := ⟨_, rfl⟩
          obtain ⟨R, hRe⟩ : ∃ n, n = (U * 4294967296 + u1) % Y := ⟨_, rfl⟩
          have hR : R < Y := by rw [hRe]; exact Nat.mod_lt _ (by omega)
          have a1 : IntKind.u64.wrap ((U : Int) * 4294967296) = (m1 : Int) := by rw [hm1, ← wrapMod]; congr 1
          have a2 : IntKind.u64.wrap ((m1 : Int) + (u1 : Int)) = (m2 : Int) := by rw [hm2, ← wrapMod]; congr 1
          have a3 : IntKind.u64.wrap ((Q1 : Int) * (Y : Int)) = (m3 : Int) := by rw [hm3, wrapMul]
          have a3' : IntKind.u64.wrap (((q : Int) - 1) * (Y : Int)) = (m3 : Int) := by rw [hQe]; exact a3
          have a4 : IntKind.u64.wrap ((m2 : Int) - (m3 : Int)) = (R : Int) := by rw [hm2, hm1, hm3, hRe]; exact rest_wrap HQ1.out (by omega) hYb
          obtain ⟨c1, hc1⟩ : ∃ n, n = R / A := ⟨_, rfl⟩
          obtain ⟨c2, hc2⟩ : ∃ n, n = c1 * A := ⟨_, rfl⟩
          have hc2b : c2 ≤ R := by rw [hc2, hc1]; exact Nat.div_mul_le_self _ _
          have a5 : (R : Int) / (A : Int) = (c1 : Int) := by rw [hc1, divNat]
          have hc1b : c1 < 18446744073709551616 := by rw [hc1]; exact Nat.lt_of_le_of_lt (Nat.div_le_self _ _) (by omega)
          have a6 : IntKind.u64.wrap ((c1 : Int) * (A : Int)) = (c2 : Int) := by rw [wrapMul, ← hc2, Nat.mod_eq_of_lt (by omega)]
          have HR := Lib.hid hRe
          have HC1 := Lib.hid hc1
          have HC2 := Lib.hid hc2
          clear hq1 hm1 hm2 hm3 hRe hc1 hc2 hQ1
          go_wp2
          go_loopw [18, 16] (fun qv rv wr => w' = wr ∧ ERel R u0 A B qv rv) (fun qv _ _ => (intOf qv).toNat)
          case atStart => exact ⟨rfl, ERel.start hu0 hA1 hA2 (by omega) (by rw [HC1.out]) (by rw [← HC1.out, ← HC2.out])⟩
          case round =>
            obtain ⟨rfl, hrel⟩ := hrel
            obtain ⟨q, r, rfl, rfl, hr, hest, hqb⟩ := hrel
            by_cases hb : (4294967296 : Int) ≤ (q : Int)
            · obtain ⟨hq0', hnx⟩ := hest.next (by rw [← HY.out]; exact hR) hu0 (Or.inl (by omega))
              have HNX := Lib.hid hnx
              clear hnx hest
              by_cases hout : (4294967296 : Int) ≤ (r : Int) + (A : Int)
              · have hq0 : (q - 1) = (R * 4294967296 + u0) / Y := by rw [HY.out]; exact (HNX.out.out (by omega) hBb (by rw [← HY.out]; exact hR) (by omega)).2
                have hq0b : (q - 1) < 4294967296 := by rw [hq0, HY.out]; exact est_lt hu0 (by rw [← HY.out]; exact hR)
                obtain ⟨Q0, hQ0⟩ : ∃ Q0 : Nat, Q0 = (q - 1) := ⟨_, rfl⟩
                have hQe0 : ((q : Int) - 1) = (Q0 : Int) := by omega
                rw [← hQ0] at hq0 hq0b
                have HQ0 := Lib.hid hq0
                clear hq0 hQ0
                obtain ⟨n1, hn1⟩ : ∃ n, n = R * 4294967296 % 18446744073709551616 := ⟨_, rfl⟩
                obtain ⟨n2, hn2⟩ : ∃ n, n = (n1 + u0) % 18446744073709551616 := ⟨_, rfl⟩
                obtain ⟨n3, hn3⟩ : ∃ n, n = Q0 * Y % 18446744073709551616 := ⟨_, rfl⟩
                obtain ⟨R2, hR2⟩ : ∃ n, n = (R * 4294967296 + u0) % Y := ⟨_, rfl⟩
                obtain ⟨D, hD⟩ : ∃ n, n = R2 / 2 ^ s := ⟨_, rfl⟩
                have b1 : IntKind.u64.wrap ((R : Int) * 4294967296) = (n1 : Int) := by rw [hn1, ← wrapMod]; congr 1
                have b2 : IntKind.u64.wrap ((n1 : Int) + (u0 : Int)) = (n2 : Int) := by rw [hn2, ← wrapMod]; congr 1
                have b3 : IntKind.u64.wrap ((Q0 : Int) * (Y : Int)) = (n3 : Int) := by rw [hn3, wrapMul]
                have b3' : IntKind.u64.wrap (((q : Int) - 1) * (Y : Int)) = (n3 : Int) := by rw [hQe0]; exact b3
                have b4 : IntKind.u64.wrap ((n2 : Int) - (n3 : Int)) = (R2 : Int) := by rw [hn2, hn1, hn3, hR2]; exact rest_wrap HQ0.out (by omega) hYb
                have b5 : (R2 : Int) / 2 ^ s = (D : Int) := by rw [hD, divShr]
                have HF := Lib.hid (show (Q1 * 4294967296 + Q0) * y + D = hi * 18446744073709551616 + lo ∧ D < y from by rw [HQ1.out, HQ0.out, hD, hR2, HR.out]; exact HW.out)
                clear hn1 hn2 hn3 hR2 hD
                go_wp2
                go_ret2
                exact ⟨Q1 * 4294967296 + Q0, D, by go_num, ⟨HF.out.1, HF.out.2, by omega⟩, rfl⟩
              · go_wp2
                go_roundw
                case rel => exact ⟨trivial, q - 1, r + A, by go_num, by go_num, by omega, HNX.out, by omega⟩
                case measure => simp [intOf]; omega
            · obtain ⟨T, hT⟩ : ∃ T, T = q * B := ⟨_, rfl⟩
              have hTb : T < 18446744073709551616 := by
                rw [hT]
                have : q * B ≤ 4294967295 * 4294967295 := Nat.mul_le_mul (by omega) (by omega)
                omega
              have t1 : IntKind.u64.wrap ((q : Int) * (B : Int)) = (T : Int) := by rw [wrapMul, ← hT, Nat.mod_eq_of_lt hTb]
              by_cases hlt : 4294967296 * (r : Int) + (u0 : Int) < (T : Int)
              · obtain ⟨hq0', hnx⟩ := hest.next (by rw [← HY.out]; exact hR) hu0 (Or.inr (by rw [← hT]; omega))
                have HNX := Lib.hid hnx
                clear hnx hest hT
                by_cases hout : (4294967296 : Int) ≤ (r : Int) + (A : Int)
                · have hq0 : (q - 1) = (R * 4294967296 + u0) / Y := by rw [HY.out]; exact (HNX.out.out (by omega) hBb (by rw [← HY.out]; exact hR) (by omega)).2
                  have hq0b : (q - 1) < 4294967296 := by rw [hq0, HY.out]; exact est_lt hu0 (by rw [← HY.out]; exact hR)
                  obtain ⟨Q0, hQ0⟩ : ∃ Q0 : Nat, Q0 = (q - 1) := ⟨_, rfl⟩
                  have hQe0 : ((q : Int) - 1) = (Q0 : Int) := by omega
                  rw [← hQ0] at hq0 hq0b
                  have HQ0 := Lib.hid hq0
                  clear hq0 hQ0
                  obtain ⟨n1, hn1⟩ : ∃ n, n = R * 4294967296 % 18446744073709551616 := ⟨_, rfl⟩
                  obtain ⟨n2, hn2⟩ : ∃ n, n = (n1 + u0) % 18446744073709551616 := ⟨_, rfl⟩
                  obtain ⟨n3, hn3⟩ : ∃ n, n = Q0 * Y % 18446744073709551616 := ⟨_, rfl⟩
                  obtain ⟨R2, hR2⟩ : ∃ n, n = (R * 4294967296 + u0) % Y := ⟨_, rfl⟩
                  obtain ⟨D, hD⟩ : ∃ n, n = R2 / 2 ^ s := ⟨_, rfl⟩
                  have b1 : IntKind.u64.wrap ((R : Int) * 4294967296) = (n1 : Int) := by rw [hn1, ← wrapMod]; congr 1
                  have b2 : IntKind.u64.wrap ((n1 : Int) + (u0 : Int)) = (n2 : Int) := by rw [hn2, ← wrapMod]; congr 1
                  have b3 : IntKind.u64.wrap ((Q0 : Int) * (Y : Int)) = (n3 : Int) := by rw [hn3, wrapMul]
                  have b3' : IntKind.u64.wrap (((q : Int) - 1) * (Y : Int)) = (n3 : Int) := by rw [hQe0]; exact b3
                  have b4 : IntKind.u64.wrap ((n2 : Int) - (n3 : Int)) = (R2 : Int) := by rw [hn2, hn1, hn3, hR2]; exact rest_wrap HQ0.out (by omega) hYb
                  have b5 : (R2 : Int) / 2 ^ s = (D : Int) := by rw [hD, divShr]
                  have HF := Lib.hid (show (Q1 * 4294967296 + Q0) * y + D = hi * 18446744073709551616 + lo ∧ D < y from by rw [HQ1.out, HQ0.out, hD, hR2, HR.out]; exact HW.out)
                  clear hn1 hn2 hn3 hR2 hD
                  go_wp2
                  go_ret2
                  exact ⟨Q1 * 4294967296 + Q0, D, by go_num, ⟨HF.out.1, HF.out.2, by omega⟩, rfl⟩
                · go_wp2
                  go_roundw
                  case rel => exact ⟨trivial, q - 1, r + A, by go_num, by go_num, by omega, HNX.out, by omega⟩
                  case measure => simp [intOf]; omega
              · have HE := Lib.hid (hest.le (by omega) (by rw [← hT]; omega))
                clear hest hT
                have hq0 : q = (R * 4294967296 + u0) / Y := by rw [HY.out]; exact HE.out
                have hq0b : q < 4294967296 := by rw [hq0, HY.out]; exact est_lt hu0 (by rw [← HY.out]; exact hR)
                obtain ⟨Q0, rfl⟩ : ∃ Q0 : Nat, Q0 = q := ⟨_, rfl⟩
                have HQ0 := Lib.hid hq0
                clear hq0
                obtain ⟨n1, hn1⟩ : ∃ n, n = R * 4294967296 % 18446744073709551616 := ⟨_, rfl⟩
                obtain ⟨n2, hn2⟩ : ∃ n, n = (n1 + u0) % 18446744073709551616 := ⟨_, rfl⟩
                obtain ⟨n3, hn3⟩ : ∃ n, n = Q0 * Y % 18446744073709551616 := ⟨_, rfl⟩
                obtain ⟨R2, hR2⟩ : ∃ n, n = (R * 4294967296 + u0) % Y := ⟨_, rfl⟩
                obtain ⟨D, hD⟩ : ∃ n, n = R2 / 2 ^ s := ⟨_, rfl⟩
                have b1 : IntKind.u64.wrap ((R : Int) * 4294967296) = (n1 : Int) := by rw [hn1, ← wrapMod]; congr 1
                have b2 : IntKind.u64.wrap ((n1 : Int) + (u0 : Int)) = (n2 : Int) := by rw [hn2, ← wrapMod]; congr 1
                have b3 : IntKind.u64.wrap ((Q0 : Int) * (Y : Int)) = (n3 : Int) := by rw [hn3, wrapMul]
                have b4 : IntKind.u64.wrap ((n2 : Int) - (n3 : Int)) = (R2 : Int) := by rw [hn2, hn1, hn3, hR2]; exact rest_wrap HQ0.out (by omega) hYb
                have b5 : (R2 : Int) / 2 ^ s = (D : Int) := by rw [hD, divShr]
                have HF := Lib.hid (show (Q1 * 4294967296 + Q0) * y + D = hi * 18446744073709551616 + lo ∧ D < y from by rw [HQ1.out, HQ0.out, hD, hR2, HR.out]; exact HW.out)
                clear hn1 hn2 hn3 hR2 hD
                go_wp2
                go_ret2
                exact ⟨Q1 * 4294967296 + Q0, D, by go_num, ⟨HF.out.1, HF.out.2, by omega⟩, rfl⟩
        · go_wp2
          go_roundw
          case rel => exact ⟨trivial, q - 1, r + A, by go_num, by go_num, by omega, HNX.out, by omega⟩
          case measure => simp [intOf]; omega
      · have HE := Lib.hid (hest.le (by omega) (by rw [← hT]; omega))
        clear hest hT
        have hq1 : q = (U * 4294967296 + u1) / Y := by rw [HY.out]; exact HE.out
        have hq1b : q < 4294967296 := by rw [hq1, HY.out]; exact est_lt hu1 (by rw [← HY.out]; exact hU)
        obtain ⟨Q1, rfl⟩ : ∃ Q1 : Nat, Q1 = q := ⟨_, rfl⟩
        have HQ1 := Lib.hid hq1
        obtain ⟨m1, hm1⟩ : ∃ n, n = U * 4294967296 % 18446744073709551616 := ⟨_, rfl⟩
        obtain ⟨m2, hm2⟩ : ∃ n, n = (m1 + u1) % 18446744073709551616 := ⟨_, rfl⟩
        obtain ⟨m3, hm3⟩ : ∃ n, n = Q1 * Y % 18446744073709551616 := ⟨_, rfl⟩
        obtain ⟨R, hRe⟩ : ∃ n, n = (U * 4294967296 + u1) % Y := ⟨_, rfl⟩
        have hR : R < Y := by rw [hRe]; exact Nat.mod_lt _ (by omega)
        have a1 : IntKind.u64.wrap ((U : Int) * 4294967296) = (m1 : Int) := by rw [hm1, ← wrapMod]; congr 1
        have a2 : IntKind.u64.wrap ((m1 : Int) + (u1 : Int)) = (m2 : Int) := by rw [hm2, ← wrapMod]; congr 1
        have a3 : IntKind.u64.wrap ((Q1 : Int) * (Y : Int)) = (m3 : Int) := by rw [hm3, wrapMul]
        have a4 : IntKind.u64.wrap ((m2 : Int) - (m3 : Int)) = (R : Int) := by rw [hm2, hm1, hm3, hRe]; exact rest_wrap HQ1.out (by omega) hYb
        obtain ⟨c1, hc1⟩ : ∃ n, n = R / A := ⟨_, rfl⟩
        obtain ⟨c2, hc2⟩ : ∃ n, n = c1 * A := ⟨_, rfl⟩
        have hc2b : c2 ≤ R := by rw [hc2, hc1]; exact Nat.div_mul_le_self _ _
        have a5 : (R : Int) / (A : Int) = (c1 : Int) := by rw [hc1, divNat]
        have hc1b : c1 < 18446744073709551616 := by rw [hc1]; exact Nat.lt_of_le_of_lt (Nat.div_le_self _ _) (by omega)
        have a6 : IntKind.u64.wrap ((c1 : Int) * (A : Int)) = (c2 : Int) := by rw [wrapMul, ← hc2, Nat.mod_eq_of_lt (by omega)]
        have HR := Lib.hid hRe
        have HC1 := Lib.hid hc1
        have HC2 := Lib.hid hc2
        clear hq1 hm1 hm2 hm3 hRe hc1 hc2
        go_wp2
        go_loopw [18, 16] (fun qv rv wr => w' = wr ∧ ERel R u0 A B qv rv) (fun qv _ _ => (intOf qv).toNat)
        case atStart => exact ⟨rfl, ERel.start hu0 hA1 hA2 (by omega) (by rw [HC1.out]) (by rw [← HC1.out, ← HC2.out])⟩
        case round =>
          obtain ⟨rfl, hrel⟩ := hrel
          obtain ⟨q, r, rfl, rfl, hr, hest, hqb⟩ := hrel
          by_cases hb : (4294967296 : Int) ≤ (q : Int)
          · obtain ⟨hq0', hnx⟩ := hest.next (by rw [← HY.out]; exact hR) hu0 (Or.inl (by omega))
            have HNX := Lib.hid hnx
            clear hnx hest
            by_cases hout : (4294967296 : Int) ≤ (r : Int) + (A : Int)
            · have hq0 : (q - 1) = (R * 4294967296 + u0) / Y := by rw [HY.out]; exact (HNX.out.out (by omega) hBb (by rw [← HY.out]; exact hR) (by omega)).2
              have hq0b : (q - 1) < 4294967296 := by rw [hq0, HY.out]; exact est_lt hu0 (by rw [← HY.out]; exact hR)
              obtain ⟨Q0, hQ0⟩ : ∃ Q0 : Nat, Q0 = (q - 1) := ⟨_, rfl⟩
              have hQe0 : ((q : Int) - 1) = (Q0 : Int) := by omega
              rw [← hQ0] at hq0 hq0b
              have HQ0 := Lib.hid hq0
              clear hq0 hQ0
              obtain ⟨n1, hn1⟩ : ∃ n, n = R * 4294967296 % 18446744073709551616 := ⟨_, rfl⟩
              obtain ⟨n2, hn2⟩ : ∃ n, n = (n1 + u0) % 18446744073709551616 := ⟨_, rfl⟩
              obtain ⟨n3, hn3⟩ : ∃ n, n = Q0 * Y % 18446744073709551616 := ⟨_, rfl⟩
              obtain ⟨R2, hR2⟩ : ∃ n, n = (R * 4294967296 + u0) % Y := ⟨_, rfl⟩
              obtain ⟨D, hD⟩ : ∃ n, n = R2 / 2 ^ s := ⟨_, rfl⟩
              have b1 : IntKind.u64.wrap ((R : Int) * 4294967296) = (n1 : Int) := by rw [hn1, ← wrapMod]; congr 1
              have b2 : IntKind.u64.wrap ((n1 : Int) + (u0 : Int)) = (n2 : Int) := by rw [hn2, ← wrapMod]; congr 1
              have b3 : IntKind.u64.wrap ((Q0 : Int) * (Y : Int)) = (n3 : Int) := by rw [hn3, wrapMul]
              have b3' : IntKind.u64.wrap (((q : Int) - 1) * (Y : Int)) = (n3 : Int) := by rw [hQe0]; exact b3
              have b4 : IntKind.u64.wrap ((n2 : Int) - (n3 : Int)) = (R2 : Int) := by rw [hn2, hn1, hn3, hR2]; exact rest_wrap HQ0.out (by omega) hYb
              have b5 : (R2 : Int) / 2 ^ s = (D : Int) := by rw [hD, divShr]
              have HF := Lib.hid (show (Q1 * 4294967296 + Q0) * y + D = hi * 18446744073709551616 + lo ∧ D < y from by rw [HQ1.out, HQ0.out, hD, hR2, HR.out]; exact HW.out)
              clear hn1 hn2 hn3 hR2 hD
              go_wp2
              go_ret2
              exact ⟨Q1 * 4294967296 + Q0, D, by go_num, ⟨HF.out.1, HF.out.2, by omega⟩, rfl⟩
            · go_wp2
              go_roundw
              case rel => exact ⟨trivial, q - 1, r + A, by go_num, by go_num, by omega, HNX.out, by omega⟩
              case measure => simp [intOf]; omega
          · obtain ⟨T, hT⟩ : ∃ T, T = q * B := ⟨_, rfl⟩
            have hTb : T < 18446744073709551616 := by
              rw [hT]
              have : q * B ≤ 4294967295 * 4294967295 := Nat.mul_le_mul (by omega) (by omega)
              omega
            have t1 : IntKind.u64.wrap ((q : Int) * (B : Int)) = (T : Int) := by rw [wrapMul, ← hT, Nat.mod_eq_of_lt hTb]
            by_cases hlt : 4294967296 * (r : Int) + (u0 : Int) < (T : Int)
            · obtain ⟨hq0', hnx⟩ := hest.next (by rw [← HY.out]; exact hR) hu0 (Or.inr (by rw [← hT]; omega))
              have HNX := Lib.hid hnx
              clear hnx hest hT
              by_cases hout : (4294967296 : Int) ≤ (r : Int) + (A : Int)
              · have hq0 : (q - 1) = (R * 4294967296 + u0) / Y := by rw [HY.out]; exact (HNX.out.out (by omega) hBb (by rw [← HY.out]; exact hR) (by omega)).2
                have hq0b : (q - 1) < 4294967296 := by rw [hq0, HY.out]; exact est_lt hu0 (by rw [← HY.out]; exact hR)
                obtain ⟨Q0, hQ0⟩ : ∃ Q0 : Nat, Q0 = (q - 1) := ⟨_, rfl⟩
                have hQe0 : ((q : Int) - 1) = (Q0 : Int) := by omega
                rw [← hQ0] at hq0 hq0b
                have HQ0 := Lib.hid hq0
                clear hq0 hQ0
                obtain ⟨n1, hn1⟩ : ∃ n, n = R * 4294967296 % 18446744073709551616 := ⟨_, rfl⟩
                obtain ⟨n2, hn2⟩ : ∃ n, n = (n1 + u0) % 18446744073709551616 := ⟨_, rfl⟩
                obtain ⟨n3, hn3⟩ : ∃ n, n = Q0 * Y % 18446744073709551616 := ⟨_, rfl⟩
                obtain ⟨R2, hR2⟩ : ∃ n, n = (R * 4294967296 + u0) % Y := ⟨_, rfl⟩
                obtain ⟨D, hD⟩ : ∃ n, n = R2 / 2 ^ s := ⟨_, rfl⟩
                have b1 : IntKind.u64.wrap ((R : Int) * 4294967296) = (n1 : Int) := by rw [hn1, ← wrapMod]; congr 1
                have b2 : IntKind.u64.wrap ((n1 : Int) + (u0 : Int)) = (n2 : Int) := by rw [hn2, ← wrapMod]; congr 1
                have b3 : IntKind.u64.wrap ((Q0 : Int) * (Y : Int)) = (n3 : Int) := by rw [hn3, wrapMul]
                have b3' : IntKind.u64.wrap (((q : Int) - 1) * (Y : Int)) = (n3 : Int) := by rw [hQe0]; exact b3
                have b4 : IntKind.u64.wrap ((n2 : Int) - (n3 : Int)) = (R2 : Int) := by rw [hn2, hn1, hn3, hR2]; exact rest_wrap HQ0.out (by omega) hYb
                have b5 : (R2 : Int) / 2 ^ s = (D : Int) := by rw [hD, divShr]
                have HF := Lib.hid (show (Q1 * 4294967296 + Q0) * y + D = hi * 18446744073709551616 + lo ∧ D < y from by rw [HQ1.out, HQ0.out, hD, hR2, HR.out]; exact HW.out)
                clear hn1 hn2 hn3 hR2 hD
                go_wp2
                go_ret2
                exact ⟨Q1 * 4294967296 + Q0, D, by go_num, ⟨HF.out.1, HF.out.2, by omega⟩, rfl⟩
              · go_wp2
                go_roundw
                case rel => exact ⟨trivial, q - 1, r + A, by go_num, by go_num, by omega, HNX.out, by omega⟩
                case measure => simp [intOf]; omega
            · have HE := Lib.hid (hest.le (by omega) (by rw [← hT]; omega))
              clear hest hT
              have hq0 : q = (R * 4294967296 + u0) / Y := by rw [HY.out]; exact HE.out
              have hq0b : q < 4294967296 := by rw [hq0, HY.out]; exact est_lt hu0 (by rw [← HY.out]; exact hR)
              obtain ⟨Q0, rfl⟩ : ∃ Q0 : Nat, Q0 = q := ⟨_, rfl⟩
              have HQ0 := Lib.hid hq0
              clear hq0
              obtain ⟨n1, hn1⟩ : ∃ n, n = R * 4294967296 % 18446744073709551616 := ⟨_, rfl⟩
              obtain ⟨n2, hn2⟩ : ∃ n, n = (n1 + u0) % 18446744073709551616 := ⟨_, rfl⟩
              obtain ⟨n3, hn3⟩ : ∃ n, n = Q0 * Y % 18446744073709551616 := ⟨_, rfl⟩
              obtain ⟨R2, hR2⟩ : ∃ n, n = (R * 4294967296 + u0) % Y := ⟨_, rfl⟩
              obtain ⟨D, hD⟩ : ∃ n, n = R2 / 2 ^ s := ⟨_, rfl⟩
              have b1 : IntKind.u64.wrap ((R : Int) * 4294967296) = (n1 : Int) := by rw [hn1, ← wrapMod]; congr 1
              have b2 : IntKind.u64.wrap ((n1 : Int) + (u0 : Int)) = (n2 : Int) := by rw [hn2, ← wrapMod]; congr 1
              have b3 : IntKind.u64.wrap ((Q0 : Int) * (Y : Int)) = (n3 : Int) := by rw [hn3, wrapMul]
              have b4 : IntKind.u64.wrap ((n2 : Int) - (n3 : Int)) = (R2 : Int) := by rw [hn2, hn1, hn3, hR2]; exact rest_wrap HQ0.out (by omega) hYb
              have b5 : (R2 : Int) / 2 ^ s = (D : Int) := by rw [hD, divShr]
              have HF := Lib.hid (show (Q1 * 4294967296 + Q0) * y + D = hi * 18446744073709551616 + lo ∧ D < y from by rw [HQ1.out, HQ0.out, hD, hR2, HR.out]; exact HW.out)
              clear hn1 hn2 hn3 hR2 hD
              go_wp2
              go_ret2
              exact ⟨Q1 * 4294967296 + Q0, D, by go_num, ⟨HF.out.1, HF.out.2, by omega⟩, rfl⟩
end Go.Proofs.YtlhmfgbaefaneabGreatDoor.nat
