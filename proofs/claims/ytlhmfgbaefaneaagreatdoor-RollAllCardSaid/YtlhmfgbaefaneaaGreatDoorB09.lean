/-
  The steps of the walks, part 9: Kara, DivA, Div64, DivW.
-/
import Derived.Deep.RegionHeld3
import Derived.Laws.Bits64b
import Derived.Test.YtlhmfgbaefaneaaGreatDoorB08
namespace Go.Proofs.YtlhmfgbaefaneaaGreatDoor.nat
open Go.RowKit
theorem Dig.strip {l : List Nat} (h : Dig l) : digs (val l) = l.take (digs (val l)).length := by
  induction l with
  | nil => rw [show val [] = 0 from rfl, digs_zero]; rfl
  | cons d l ih =>
    have h1 := h.head
    have ih := ih h.tail
    have hv : val (d :: l) = d + 18446744073709551616 * val l := rfl
    by_cases h0 : val (d :: l) = 0
    · rw [h0, digs_zero]; rfl
    · rw [digs_pos h0, show val (d :: l) % 18446744073709551616 = d by omega, show val (d :: l) / 18446744073709551616 = val l by omega]
      rw [List.length_cons, List.take_succ_cons, ← ih]
theorem trim_x (ao : Option Addr) (n cap : Nat) (l : List Nat) (w : World) (h : Rd w (.slice ao n cap) l) (hn : l.length = n) (hs : n ≤ 4000000) (hd : Dig l) :
    Calls Tryz.prog 209 #[.slice ao n cap] w fun e w' => e = .returned (.slice ao (digs (val l)).length cap) ∧ w' = w := by
  subst hn
  refine (trim_at ao cap l w h hs).mono ?_
  rintro e w' ⟨k, rfl, ⟨hk, hv, hn⟩, rfl⟩
  have he : l.take k = digs (val l) := by rw [← hv]; exact (hn hd).eq_digs
  refine ⟨?_, rfl⟩
  rw [← he, List.length_take, Nat.min_eq_left hk]
theorem Rd.strip {w : World} {ao : Option Addr} {n cap : Nat} {l : List Nat} (h : Rd w (.slice ao n cap) l) (hd : Dig l) : Rd w (.slice ao (digs (val l)).length cap) (digs (val l)) := by
  obtain ⟨ao', cap', he, ⟨h1, h4⟩, h2, h3⟩ := h
  simp only [Value.slice.injEq] at he
  obtain ⟨rfl, rfl, rfl⟩ := he
  have hl := digs_len_val hd
  refine ⟨ao, cap, rfl, ⟨by omega, h4⟩, h2, ?_⟩
  rcases h3 with rfl | ⟨g, off, hg, hc⟩
  · left; rw [show val [] = 0 from rfl, digs_zero]
  · right
    refine ⟨g, off, hg, fun k hk => ?_⟩
    rw [hc k (by omega)]
    have := hd.strip
    rw [show dg (digs (val l)) k = dg l k by rw [this, dg_take hk]]
theorem val_parts (l : List Nat) (k : Nat) (hk : k ≤ l.length) : val l = val (l.take k) + 18446744073709551616 ^ k * val (l.drop k) := by
  have := val_append (l.take k) (l.drop k)
  rwa [List.take_append_drop, List.length_take, Nat.min_eq_left hk] at this
theorem no_carry {V S P c : Nat} (h : V + P * c = S) (hs : S < P) : V = S := by
  rcases Nat.eq_zero_or_pos c with rfl | hc
  · simpa using h
  · have := Nat.le_mul_of_pos_right P hc
    omega
theorem addInto_at (g h T cap : Nat) (sx : Value) (L x : List Nat) (w : World) (hL : L.length = T) (hh : h ≤ T) (hr : Row w g L) (hd : Dig L) (hx : Rd w sx x) (hap : Apart g sx) (hdx : Dig x) (hle : x.length ≤ T - h) (hsum : val L + 18446744073709551616 ^ h * val x < 18446744073709551616 ^ T) (hT : T ≤ 4000000) (hcap : T - h ≤ cap) (hcm : cap ≤ maxLen) :
    Calls Tryz.prog 211 #[.slice (some ⟨g, h, none⟩) (T - h) cap, sx] w fun e w' => ∃ (c : Nat) (L' : List Nat), e = .returned (.int .u64 (c : Nat)) ∧ (L'.length = T ∧ Dig L' ∧ val L' = val L + 18446744073709551616 ^ h * val x ∧ Row w' g L') ∧ w.grownBy w' (some g) := by
  have hlt : (L.take h).length = h := by rw [List.length_take]; omega
  refine (addInto_any g h (T - h) cap sx (L.take h) (L.drop h) [] x w hlt (by rw [List.length_drop]; omega) (by simpa using hr) (hd.drop _) hx hap hdx hle (by omega) hcap hcm).mono ?_
  rintro e w' ⟨Z', c, rfl, ⟨hl, hd', hc, hv, hrow⟩, hgr⟩
  refine ⟨c, L.take h ++ Z', rfl, ⟨by rw [List.length_append, hlt, hl]; omega, (hd.take _).append hd', ?_, by simpa using hrow⟩, hgr⟩
  refine no_carry (P := 18446744073709551616 ^ T) (c := c) ?_ hsum
  rw [val_append, hlt, val_parts L h (by omega), Nat.add_assoc, Nat.add_assoc, ← Nat.mul_add, ← hv, Nat.mul_add, ← Nat.mul_assoc, ← Nat.pow_add, show h + (T - h) = T by omega]
def ProdIs (n : Nat) : Prop := ∀ (sx sy : Value) (x y : List Nat) (w : World), Rd w sx x → Rd w sy y → Dig x → Dig y → x.length ≤ 1000000 → y.length ≤ 1000000 → (x.length ≤ n ∨ y.length ≤ n) →
  Calls Tryz.prog 167 #[sx, sy] w fun e w' => ∃ sv, e = .returned sv ∧ Own w' w.heap.size sv (digs (val x * val y)) ∧ Below w.heap.size w w'
theorem kara (xl xh yl yh P : Nat) : xl * yl + P * ((xl + xh) * (yl + yh) - xl * yl - xh * yh) + P * P * (xh * yh) = (xl + P * xh) * (yl + P * yh) ∧ xl * yl + xh * yh ≤ (xl + xh) * (yl + yh) ∧ (xl + xh) * (yl + yh) - xl * yl - xh * yh = xl * yh + xh * yl := by
  have e : (xl + xh) * (yl + yh) = xl * yl + xh * yh + (xl * yh + xh * yl) := by
    rw [Nat.add_mul, Nat.mul_add, Nat.mul_add]; omega
  have e2 : (xl + xh) * (yl + yh) - xl * yl - xh * yh = xl * yh + xh * yl := by omega
  refine ⟨?_, by omega, e2⟩
  rw [e2, Nat.add_mul, Nat.mul_add, Nat.mul_add, Nat.mul_add]
  have a1 : P * (xl * yh) = xl * (P * yh) := by rw [Nat.mul_left_comm]
  have a2 : P * (xh * yl) = P * xh * yl := by rw [Nat.mul_assoc]
  have a3 : P * P * (xh * yh) = P * xh * (P * yh) := by rw [Nat.mul_mul_mul_comm]
  rw [a1, a2, a3]
  omega
theorem prod_v {n : Nat} (IH : ProdIs n) {sx sy : Value} {x y : List Nat} {X Y : Nat} {w : World} (hX : val x = X) (hY : val y = Y) (hx : Rd w sx x) (hy : Rd w sy y) (hdx : Dig x) (hdy : Dig y) (hn : x.length ≤ 1000000) (hm : y.length ≤ 1000000) (h : x.length ≤ n ∨ y.length ≤ n) :
    Calls Tryz.prog 167 #[sx, sy] w fun e w' => ∃ sv, e = .returned sv ∧ Own w' w.heap.size sv (digs (X * Y)) ∧ Below w.heap.size w w' := by
  subst hX; subst hY
  exact IH sx sy x y w hx hy hdx hdy hn hm h
theorem sum_v {sx sy : Value} {x y : List Nat} {X Y : Nat} {w : World} (hX : val x = X) (hY : val y = Y) (hx : Rd w sx x) (hy : Rd w sy y) (hdx : Dig x) (hdy : Dig y) (hn : x.length ≤ 2000000) (hm : y.length ≤ 2000000) :
    Calls Tryz.prog 179 #[sx, sy] w fun e w' => ∃ sv, e = .returned sv ∧ Own w' w.heap.size sv (digs (X + Y)) ∧ Below w.heap.size w w' := by
  subst hX; subst hY
  exact sum_any sx sy x y w hx hy hdx hdy hn hm
theorem pow_two' (a : Nat) : 18446744073709551616 ^ a * 18446744073709551616 ^ a = 18446744073709551616 ^ (2 * a) := by rw [← Nat.pow_add]; congr 1; omega
theorem mul_pow_lt {a b p q : Nat} (ha : a < 18446744073709551616 ^ p) (hb : b < 18446744073709551616 ^ q) : a * b < 18446744073709551616 ^ (p + q) := by
  rw [Nat.pow_add]
  exact Nat.mul_lt_mul'' ha hb
theorem add_pow_lt {a b p : Nat} (ha : a < 18446744073709551616 ^ p) (hb : b < 18446744073709551616 ^ p) : a + b < 18446744073709551616 ^ (p + 1) := by
  have h2 : 18446744073709551616 ^ (p + 1) = 18446744073709551616 * 18446744073709551616 ^ p := by rw [Nat.pow_succ, Nat.mul_comm]
  rw [h2]
  generalize 18446744073709551616 ^ p = P at *
  omega
theorem kara_sizes {n h X vx vy xl xh yl yh : Nat} (hn : n ≤ 2 * h) (h2 : h + 2 ≤ n) (h3 : 2 * h ≤ n + 1) (hX : X = vx * vy) (ex : vx = xl + 18446744073709551616 ^ h * xh) (ey : vy = yl + 18446744073709551616 ^ h * yh)
    (bx : vx < 18446744073709551616 ^ n) (by' : vy < 18446744073709551616 ^ n) (b1 : xl < 18446744073709551616 ^ h) (b2 : xh < 18446744073709551616 ^ (n - h)) (b3 : yl < 18446744073709551616 ^ h) (b4 : yh < 18446744073709551616 ^ (n - h)) :
    (digs (xl * yl)).length ≤ 2 * h ∧ (digs (xh * yh)).length ≤ 2 * n - 2 * h ∧ (digs (xl + xh)).length ≤ h + 1 ∧ (digs (yl + yh)).length ≤ h + 1 ∧ (digs ((xl + xh) * (yl + yh))).length ≤ 2 * h + 2 ∧
    xl * yl + xh * yh ≤ (xl + xh) * (yl + yh) ∧ (digs ((xl + xh) * (yl + yh) - xl * yl - xh * yh)).length ≤ 2 * n - h ∧
    xl * yl + 18446744073709551616 ^ h * ((xl + xh) * (yl + yh) - xl * yl - xh * yh) < 18446744073709551616 ^ (2 * n) ∧
    xl * yl + 18446744073709551616 ^ h * ((xl + xh) * (yl + yh) - xl * yl - xh * yh) + 18446744073709551616 ^ (2 * h) * (xh * yh) = X ∧ X < 18446744073709551616 ^ (2 * n) := by
  obtain ⟨k1, k2, k3⟩ := kara xl xh yl yh (18446744073709551616 ^ h)
  have hXn : X < 18446744073709551616 ^ (2 * n) := by
    have := mul_pow_lt bx by'
    rw [hX]
    rwa [show n + n = 2 * n by omega] at this
  rw [pow_two', ← ex, ← ey, ← hX] at k1
  have b2' : xh < 18446744073709551616 ^ h := Nat.lt_of_lt_of_le b2 (pow_le (by omega))
  have b4' : yh < 18446744073709551616 ^ h := Nat.lt_of_lt_of_le b4 (pow_le (by omega))
  have s1 := add_pow_lt b1 b2'
  have s2 := add_pow_lt b3 b4'
  have s3 := mul_pow_lt s1 s2
  have m1 : xl * yh < 18446744073709551616 ^ (2 * n - h - 1) := Nat.lt_of_lt_of_le (mul_pow_lt b1 b4) (pow_le (by omega))
  have m2 : xh * yl < 18446744073709551616 ^ (2 * n - h - 1) := Nat.lt_of_lt_of_le (mul_pow_lt b2 b3) (pow_le (by omega))
  have m3 := add_pow_lt m1 m2
  rw [← k3, show 2 * n - h - 1 + 1 = 2 * n - h by omega] at m3
  refine ⟨digs_len (Nat.lt_of_lt_of_le (mul_pow_lt b1 b3) (pow_le (by omega))), digs_len (Nat.lt_of_lt_of_le (mul_pow_lt b2 b4) (pow_le (by omega))), digs_len s1, digs_len s2, digs_len (Nat.lt_of_lt_of_le s3 (pow_le (by omega))), k2, digs_len m3, ?_, k1, hXn⟩
  refine Nat.lt_of_le_of_lt ?_ hXn
  rw [← k1]
  exact Nat.le_add_right _ _
end Go.Proofs.YtlhmfgbaefaneaaGreatDoor.nat
namespace Go.Proofs.YtlhmfgbaefaneaaGreatDoor.nat
open Go.RowKit
def Est (U u A B q r : Nat) : Prop := q * A + r = U ∧ (U * 4294967296 + u) / (A * 4294967296 + B) ≤ q
theorem Est.init {U u A B : Nat} (hu : u < 4294967296) (hA : 0 < A) : Est U u A B (U / A) (U % A) := by
  refine ⟨by rw [Nat.mul_comm]; exact Nat.div_add_mod U A, ?_⟩
  have h1 : (U * 4294967296 + u) / (A * 4294967296 + B) ≤ (U * 4294967296 + u) / (4294967296 * A) := Nat.div_le_div_left (by omega) (by omega)
  rw [← Nat.div_div_eq_div_mul, show (U * 4294967296 + u) / 4294967296 = U by omega] at h1
  exact h1
theorem Est.times {U u A B q r : Nat} (h : Est U u A B q r) : q * (A * 4294967296 + B) + r * 4294967296 = U * 4294967296 + q * B := by
  have h1 := h.1
  have : q * (A * 4294967296 + B) = q * A * 4294967296 + q * B := by rw [Nat.mul_add, Nat.mul_assoc]
  omega
theorem Est.le {U u A B q r : Nat} (h : Est U u A B q r) (hA : 0 < A) (ht : q * B ≤ 4294967296 * r + u) : q = (U * 4294967296 + u) / (A * 4294967296 + B) := by
  have h1 := h.times
  have h2 := h.2
  refine Nat.le_antisymm ?_ h2
  rw [Nat.le_div_iff_mul_le (by omega)]
  omega
theorem Est.next {U u A B q r : Nat} (h : Est U u A B q r) (hY : U < A * 4294967296 + B) (hu : u < 4294967296) (ht : 4294967296 ≤ q ∨ 4294967296 * r + u < q * B) : 0 < q ∧ Est U u A B (q - 1) (r + A) := by
  have h1 := h.times
  have h2 := h.2
  have hlt : (U * 4294967296 + u) / (A * 4294967296 + B) < q := by
    rcases ht with h3 | h3
    · refine Nat.lt_of_lt_of_le ?_ h3
      rw [Nat.div_lt_iff_lt_mul (by omega)]
      have : U * 4294967296 + 4294967296 ≤ (A * 4294967296 + B) * 4294967296 := by omega
      rw [Nat.mul_comm 4294967296]
      omega
    · rw [Nat.div_lt_iff_lt_mul (by omega)]
      omega
  have hq0 : 0 < q := Nat.lt_of_le_of_lt (Nat.zero_le _) hlt
  refine ⟨hq0, ?_, Nat.le_sub_one_of_lt hlt⟩
  have h3 := h.1
  have : (q - 1) * A + A = q * A := by
    rw [← Nat.succ_mul]; congr 1; omega
  omega
theorem Est.out {U u A B q r : Nat} (h : Est U u A B q r) (hA : 0 < A) (hB : B < 4294967296) (hY : U < A * 4294967296 + B) (hr : 4294967296 ≤ r) : q < 4294967296 ∧ q = (U * 4294967296 + u) / (A * 4294967296 + B) := by
  have h1 := h.1
  have hq : q < 4294967296 := by
    rcases Nat.lt_or_ge q 4294967296 with h2 | h2
    · exact h2
    · have := Nat.mul_le_mul_right A h2
      omega
  refine ⟨hq, h.le hA ?_⟩
  have : q * B ≤ 4294967295 * 4294967295 := Nat.mul_le_mul (by omega) (by omega)
  omega
theorem est_lt {U u A B : Nat} (hu : u < 4294967296) (hY : U < A * 4294967296 + B) : (U * 4294967296 + u) / (A * 4294967296 + B) < 4294967296 := by
  rw [Nat.div_lt_iff_lt_mul (by omega)]
  have : U * 4294967296 + 4294967296 ≤ (A * 4294967296 + B) * 4294967296 := by omega
  rw [Nat.mul_comm 4294967296]
  omega
theorem rest_aux {U u P R : Nat} (h : P + R = U * 4294967296 + u) (hR : R < 18446744073709551616) :
    IntKind.u64.wrap ((((U * 4294967296 % 18446744073709551616 + u) % 18446744073709551616 : Nat) : Int) - ((P % 18446744073709551616 : Nat) : Int)) = (R : Int) := by
  rw [IntKind.wrap_u64]
  omega
theorem rest_wrap {U u Y q : Nat} (hq : q = (U * 4294967296 + u) / Y) (hY0 : 0 < Y) (hY : Y < 18446744073709551616) :
    IntKind.u64.wrap ((((U * 4294967296 % 18446744073709551616 + u) % 18446744073709551616 : Nat) : Int) - ((q * Y % 18446744073709551616 : Nat) : Int)) = (((U * 4294967296 + u) % Y : Nat) : Int) := by
  refine rest_aux ?_ (Nat.lt_trans (Nat.mod_lt _ hY0) hY)
  rw [hq, Nat.mul_comm]
  exact Nat.div_add_mod _ _
theorem shift_parts {hi lo y s : Nat} (hs : s ≤ 63) (hh : hi < y) (hl : lo < 18446744073709551616) (hy1 : y * 2 ^ s < 18446744073709551616) :
    ∃ H L V : Nat, H = hi * 2 ^ s ∧ L = lo / 2 ^ (64 - s) ∧ V = lo * 2 ^ s % 18446744073709551616 ∧ H < 18446744073709551616 ∧ H + L < y * 2 ^ s ∧ (H + L) * 18446744073709551616 + V = (hi * 18446744073709551616 + lo) * 2 ^ s ∧ H ||| L = H + L := by
  refine ⟨_, _, _, rfl, rfl, rfl, ?_, ?_, ?_, ?_⟩
  · exact Nat.lt_of_le_of_lt (Nat.mul_le_mul_right _ (Nat.le_of_lt hh)) hy1
  · have hL : lo / 2 ^ (64 - s) < 2 ^ s := by
      rw [Nat.div_lt_iff_lt_mul (Nat.pow_pos (by omega)), ← Nat.pow_add, show s + (64 - s) = 64 by omega]
      exact hl
    have : (hi + 1) * 2 ^ s ≤ y * 2 ^ s := Nat.mul_le_mul_right _ hh
    rw [Nat.succ_mul] at this
    omega
  · have e : 2 ^ (64 - s) * 2 ^ s = 18446744073709551616 := by rw [← Nat.pow_add, show 64 - s + s = 64 by omega]
    have h1 : lo * 2 ^ s / 18446744073709551616 = lo / 2 ^ (64 - s) := by
      rw [← e, Nat.mul_div_mul_right _ _ (Nat.pow_pos (by omega))]
    have h2 := Nat.div_add_mod (lo * 2 ^ s) 18446744073709551616
    rw [h1] at h2
    rw [Nat.add_mul, Nat.add_mul, Nat.mul_right_comm hi]
    omega
  · have hL : lo / 2 ^ (64 - s) < 2 ^ s := by
      rw [Nat.div_lt_iff_lt_mul (Nat.pow_pos (by omega)), ← Nat.pow_add, show s + (64 - s) = 64 by omega]
      exact hl
    have := Nat.shiftLeft_add_eq_or_of_lt hL hi
    rw [Nat.shiftLeft_eq] at this
    exact this.symm
theorem halves_aux {N y s Y q1 r1 q0 r2 V u0 : Nat} (hY : Y = y * 2 ^ s) (hN : V * 4294967296 + u0 = N * 2 ^ s) (d1 : Y * q1 + r1 = V) (d2 : Y * q0 + r2 = r1 * 4294967296 + u0) (m2 : r2 < Y) :
    (q1 * 4294967296 + q0) * y + r2 / 2 ^ s = N ∧ r2 / 2 ^ s < y := by
  have hp : 0 < 2 ^ s := Nat.pow_pos (by omega)
  have e : Y * (q1 * 4294967296 + q0) + r2 = N * 2 ^ s := by
    rw [← hN, ← d1, Nat.mul_add, ← Nat.mul_assoc, Nat.add_mul, Nat.add_assoc, d2, Nat.add_assoc]
  have e2 : N * 2 ^ s = 2 ^ s * (y * (q1 * 4294967296 + q0)) + r2 := by
    rw [← e, hY, Nat.mul_comm y, Nat.mul_assoc]
  have hd : 2 ^ s ∣ r2 := by
    have h1 : 2 ^ s ∣ N * 2 ^ s := Nat.dvd_mul_left _ _
    rw [e2] at h1
    exact (Nat.dvd_add_right (Nat.dvd_mul_right _ _)).1 h1
  obtain ⟨r, rfl⟩ := hd
  rw [Nat.mul_div_cancel_left _ hp]
  constructor
  · rw [← Nat.mul_add, Nat.mul_comm] at e2
    have := Nat.eq_of_mul_eq_mul_left hp e2
    rw [Nat.mul_comm _ y]
    exact this.symm
  · rw [hY, Nat.mul_comm y] at m2
    exact Nat.lt_of_mul_lt_mul_left m2
theorem two_halves {N y s Y U u1 u0 : Nat} (hY : Y = y * 2 ^ s) (hy : 0 < y) (hN : (U * 4294967296 + u1) * 4294967296 + u0 = N * 2 ^ s) :
    ((U * 4294967296 + u1) / Y * 4294967296 + ((U * 4294967296 + u1) % Y * 4294967296 + u0) / Y) * y + ((U * 4294967296 + u1) % Y * 4294967296 + u0) % Y / 2 ^ s = N ∧ ((U * 4294967296 + u1) % Y * 4294967296 + u0) % Y / 2 ^ s < y :=
  halves_aux hY hN (Nat.div_add_mod _ _) (Nat.div_add_mod _ _) (Nat.mod_lt _ (by rw [hY]; exact Nat.mul_pos hy (Nat.pow_pos (by omega))))
end Go.Proofs.YtlhmfgbaefaneaaGreatDoor.nat
namespace Go.Proofs.YtlhmfgbaefaneaaGreatDoor.nat
open Go.RowKit
theorem wrapMod (a : Nat) : IntKind.u64.wrap (a : Int) = ((a % 18446744073709551616 : Nat) : Int) := by rw [IntKind.wrap_u64]; omega
theorem pow_cast (s : Nat) : ((2 ^ s : Nat) : Int) = (2 : Int) ^ s := by simp
theorem wrapShl (x s : Nat) : IntKind.u64.wrap ((x : Int) * 2 ^ s) = ((x * 2 ^ s % 18446744073709551616 : Nat) : Int) := by
  rw [← wrapMod, Int.natCast_mul, pow_cast]
theorem divShr (x s : Nat) : (x : Int) / 2 ^ s = ((x / 2 ^ s : Nat) : Int) := by rw [Int.natCast_ediv, pow_cast]
theorem wrapMul (x y : Nat) : IntKind.u64.wrap ((x : Int) * (y : Int)) = ((x * y % 18446744073709551616 : Nat) : Int) := by rw [← wrapMod, Int.natCast_mul]
theorem divNat (x y : Nat) : (x : Int) / (y : Int) = ((x / y : Nat) : Int) := by rw [Int.natCast_ediv]
theorem parts_eq {H L V U u1 u0 X : Nat} (hN : (H + L) * 18446744073709551616 + V = X) (hU : U = H + L) (h1 : u1 = V / 4294967296) (h0 : u0 = V % 4294967296) : (U * 4294967296 + u1) * 4294967296 + u0 = X := by
  have h2 : V = u1 * 4294967296 + u0 := by omega
  have h3 : U * 4294967296 * 4294967296 = U * 18446744073709551616 := by rw [Nat.mul_assoc]
  rw [← hN, ← hU, h2, Nat.add_mul, h3, Nat.add_assoc]
def ERel (U u A B : Nat) (qv rv : Value) : Prop := ∃ q r : Nat, qv = .int .u64 q ∧ rv = .int .u64 r ∧ r < 4294967296 ∧ Est U u A B q r ∧ q ≤ 8589934592
theorem ERel.start {U u A B : Nat} {qv rv : Value} (hu : u < 4294967296) (hA : 2147483648 ≤ A) (hA2 : A < 4294967296) (hU : U < 18446744073709551616) (hq : qv = .int .u64 ((U / A : Nat) : Int)) (hr : rv = .int .u64 ((U : Int) - ((U / A * A : Nat) : Int))) : ERel U u A B qv rv := by
  have h1 := Nat.div_add_mod U A
  rw [Nat.mul_comm] at h1
  have h2 := Nat.mod_lt U (show 0 < A by omega)
  have h3 : U / A ≤ 8589934592 := by
    rw [Nat.div_le_iff_le_mul (by omega)]
    have := Nat.mul_le_mul_left 8589934592 hA
    omega
  refine ⟨U / A, U % A, hq, ?_, by omega, Est.init hu (by omega), h3⟩
  rw [hr]
  congr 1
  omega
set_option maxRecDepth 100000 in
set_option maxHeartbeats 16000000 in
theorem Div64_pos (hi lo y : Nat) (hh : hi < y) (hl : lo < 18446744073709551616) (hy : y < 18446744073709551616) (h0 : 0 < hi) (w : World) :
    Calls Tryz.prog 260 #[.int .u64 (hi : Int), .int .u64 (lo : Int), .int .u64 (y : Int)] w fun e w' => ∃ q r : Nat, e = .returned (.tuple #[.int .u64 (q : Int), .int .u64 (r : Int)]) ∧ (q * y + r = hi * 18446744073709551616 + lo ∧ r < y ∧ q < 18446744073709551616) ∧ w = w' := by
  obtain ⟨s, ⟨hs, hy1, hy2⟩, LZ⟩ := Lead64_ex y hy (by omega)
  obtain ⟨H, L, V, hH, hL, hV, hHb, hHL, hN, hor⟩ := shift_parts hs hh hl hy1
  obtain ⟨Y, hY⟩ : ∃ Y, Y = y * 2 ^ s := ⟨_, rfl⟩
  rw [← hY] at hy1 hy2 hHL
  obtain ⟨A, hA⟩ : ∃ A, A = Y / 4294967296 := ⟨_, rfl⟩
  obtain ⟨B, hB⟩ : ∃ B, B = Y % 4294967296 := ⟨_, rfl⟩
  obtain ⟨U, hUe⟩ : ∃ U, U = H + L := ⟨_, rfl⟩
  obtain ⟨u1, hu1e⟩ : ∃ u, u = V / 4294967296 := ⟨_, rfl⟩
  obtain ⟨u0, hu0e⟩ : ∃ u, u = V % 4294967296 := ⟨_, rfl⟩
  have hVb : V < 18446744073709551616 := by rw [hV]; exact Nat.mod_lt _ (by omega)
  have hYb : Y < 18446744073709551616 := hy1
  have hYe : Y = A * 4294967296 + B := by omega
  have hA1 : 2147483648 ≤ A := by omega
  have hA2 : A < 4294967296 := by omega
  have hBb : B < 4294967296 := by omega
  have hu1 : u1 < 4294967296 := by omega
  have hu0 : u0 < 4294967296 := by omega
  have hU : U < Y := by omega
  have F1 : IntKind.u64.wrap ((y : Int) * 2 ^ s) = (Y : Int) := by rw [wrapShl, ← hY, Nat.mod_eq_of_lt hYb]
  have F2 : (Y : Int) / 4294967296 = (A : Int) := by omega
  have F3 : bits .and .u64 (Y : Int) 4294967295 = (B : Int) := by rw [maskN Y hYb, hB]
  have F4 : IntKind.u64.wrap ((hi : Int) * 2 ^ s) = (H : Int) := by rw [wrapShl, ← hH, Nat.mod_eq_of_lt hHb]
  have F5 : (lo : Int) / 2 ^ (64 - s) = (L : Int) := by rw [divShr, hL]
  have F6 : bits .or .u64 (H : Int) (L : Int) = (U : Int) := by rw [bits_or_u64_nat H L hHb (by omega), hor, hUe]
  have F7 : IntKind.u64.wrap ((lo : Int) * 2 ^ s) = (V : Int) := by rw [wrapShl, hV]
  have F8 : (V : Int) / 4294967296 = (u1 : Int) := by omega
  have F9 : bits .and .u64 (V : Int) 4294967295 = (u0 : Int) := by rw [maskN V hVb, hu0e]
  obtain ⟨d1, hd1⟩ : ∃ n, n = U / A := ⟨_, rfl⟩
  obtain ⟨d2, hd2⟩ : ∃ n, n = d1 * A := ⟨_, rfl⟩
  have hd2b : d2 ≤ U := by rw [hd2, hd1]; exact Nat.div_mul_le_self _ _
  have F10 : (U : Int) / (A : Int) = (d1 : Int) := by rw [hd1, divNat]
  have hd1b : d1 < 18446744073709551616 := by rw [hd1]; exact Nat.lt_of_le_of_lt (Nat.div_le_self _ _) (by omega)
  have F11 : IntKind.u64.wrap ((d1 : Int) * (A : Int)) = (d2 : Int) := by rw [wrapMul, ← hd2, Nat.mod_eq_of_lt (by omega)]
  have hA0 : ¬ (A : Int) = 0 := by omega
  have hy00 : 0 < y := by omega
  have HW := Lib.hid (two_halves hY hy00 (parts_eq hN hUe hu1e hu0e))
  have HY := Lib.hid hYe
  have HD1 := Lib.hid hd1
  have HD2 := Lib.hid hd2
  have LZ' := Lib.hid LZ
  have hy0 : ((y : Int) == 0) = false := by simp; omega
  have hh0 : ((hi : Int) == 0) = false := by simp; omega
  have hlt : ¬ (y : Int) ≤ hi := by omega
  clear LZ hH hL hV hN hor hY hA hB hUe hu1e hu0e hHL hYe hd1 hd2
  go_enter Tryz.func260, Tryz.ntmps260
  go_wp2_with (go_at_call 258; refine (LZ'.out _).mono ?_; rintro e w' ⟨rfl, rfl⟩)
  go_loopw [15, 16] (fun qv rv wr => w' = wr ∧ ERel U u1 A B qv rv) (fun qv _ _ => (intOf qv).toNat)
  case atStart => exact ⟨rfl, ERel.start hu1 hA1 hA2 (by omega) (by rw [HD1.out]) (by rw [← HD1.out, ← HD2.out])⟩
  case round =>
    obtain ⟨rfl, hrel⟩ := hrel
    clear F1 F2 F3 F4 F5 F6 F7 F8 F9 F10 F11 hHb hVb hd2b hd1b LZ' HD1 HD2
    obtain ⟨q, r, rfl, rfl, hr, hest, hqb⟩ := hrel
    by_cases hb : (4294967296 : Int) ≤ (q : Int)
    · obtain ⟨hq0', hnx⟩ := hest.next (by rw [← HY.out]; exact hU) hu1 (Or.inl (by omega))
      have HNX := Lib.hid hnx
      clear hnx hest
      by_cases hout : (4294967296 : Int) ≤ (r : Int) + (A : Int)
      · have hq1 : (q - 1) = (U * 4294967296 + u1) / Y := by rw [HY.out]; exact (HNX.out.out (by omega) hBb (by rw [← HY.out]; exact hU) (by omega)).2
        have hq1b : (q - 1) < 4294967296 := by rw [hq1, HY.out]; exact est_lt hu1 (by rw [← HY.out]; exact hU)
        obtain ⟨Q1, hQ1⟩ : ∃ Q1 : Nat, Q1 = (q - 1) := ⟨_, rfl⟩
        have hQe : ((q : Int) - 1) = (Q1 : Int) := by omega
        rw [← hQ1] at hq1 hq1b
        have HQ1 := Lib.hid hq1
        obtain ⟨m1, hm1⟩ : ∃ n, n = U * 4294967296 % 18446744073709551616 := ⟨_, rfl⟩
        obtain ⟨m2, hm2⟩ : ∃ n, n = (m1 + u1) % 18446744073709551616 := ⟨_, rfl⟩
        obtain ⟨m3, hm3⟩ : ∃ n, n = Q1 * Y % 18446744073709551616 := ⟨_, rfl⟩
        obtain ⟨R, hRe⟩ : ∃ n, n = (U * 4294967296 + u1) % Y := ⟨_, rfl⟩
        have hR : R < Y := by rw [hRe]; exact Nat.mod_lt _ (by omega)
        have a1 : IntKind.u64.wrap ((U : Int) * 4294967296) = (m1 : Int) := by rw [hm1, ← wrapMod]; congr 1
        have a2 : IntKind.u64.wrap ((m1 : Int) + (u1 : Int)) = (m2 : Int) := by rw [hm2, ← wrapMod]; congr 1
        have a3 : IntKind.u64.wrap ((Q1 : Int) * (Y : Int)) = (m3 : Int) := by rw [hm3, wrapMul]
        have a3' : IntKind.u64.wrap (((q : Int) - 1) * (Y : Int)) = (m3 : Int) := by rw [hQe]; exact a3
        have a4 : IntKind.u64.wrap ((m2 : Int) - (m3 : Int)) = (R : Int) := by rw [hm2, hm1, hm3, hRe]; exact rest_wrap HQ1.out (by omega) hYb
        obtain ⟨c1, hc1⟩ : ∃ n, n = R / A := ⟨_, rfl⟩
        obtain ⟨c2, hc2⟩ : ∃ n, n = c1 * A := ⟨_, rfl⟩
        have hc2b : c2 ≤ R := by rw [hc2, hc1]; exact Nat.div_mul_le_self _ _
        have a5 : (R : Int) / (A : Int) = (c1 : Int) := by rw [hc1, divNat]
        have hc1b : c1 < 18446744073709551616 := by rw [hc1]; exact Nat.lt_of_le_of_lt (Nat.div_le_self _ _) (by omega)
        have a6 : IntKind.u64.wrap ((c1 : Int) * (A : Int)) = (c2 : Int) := by rw [wrapMul, ← hc2, Nat.mod_eq_of_lt (by omega)]
        have HR := Lib.hid hRe
        have HC1 := Lib.hid hc1
        have HC2 := Lib.hid hc2
        clear hq1 hm1 hm2 hm3 hRe hc1 hc2 hQ1
        go_wp2
        go_loopw [18, 16] (fun qv rv wr => w' = wr ∧ ERel R u0 A B qv rv) (fun qv _ _ => (intOf qv).toNat)
        case atStart => exact ⟨rfl, ERel.start hu0 hA1 hA2 (by omega) (by rw [HC1.out]) (by rw [← HC1.out, ← HC2.out])⟩
        case round =>
          obtain ⟨rfl, hrel⟩ := hrel
          obtain ⟨q, r, rfl, rfl, hr, hest, hqb⟩ := hrel
          by_cases hb : (4294967296 : Int) ≤ (q : Int)
          · obtain ⟨hq0', hnx⟩ := hest.next (by rw [← HY.out]; exact hR) hu0 (Or.inl (by omega))
            have HNX := Lib.hid hnx
            clear hnx hest
            by_cases hout : (4294967296 : Int) ≤ (r : Int) + (A : Int)
            · have hq0 : (q - 1) = (R * 4294967296 + u0) / Y := by rw [HY.out]; exact (HNX.out.out (by omega) hBb (by rw [← HY.out]; exact hR) (by omega)).2
              have hq0b : (q - 1) < 4294967296 := by rw [hq0, HY.out]; exact est_lt hu0 (by rw [← HY.out]; exact hR)
              obtain ⟨Q0, hQ0⟩ : ∃ Q0 : Nat, Q0 = (q - 1) := ⟨_, rfl⟩
              have hQe0 : ((q : Int) - 1) = (Q0 : Int) := by omega
              rw [← hQ0] at hq0 hq0b
              have HQ0 := Lib.hid hq0
              clear hq0 hQ0
              obtain ⟨n1, hn1⟩ : ∃ n, n = R * 4294967296 % 18446744073709551616 := ⟨_, rfl⟩
              obtain ⟨n2, hn2⟩ : ∃ n, n = (n1 + u0) % 18446744073709551616 := ⟨_, rfl⟩
              obtain ⟨n3, hn3⟩ : ∃ n, n = Q0 * Y % 18446744073709551616 := ⟨_, rfl⟩
              obtain ⟨R2, hR2⟩ : ∃ n, n = (R * 4294967296 + u0) % Y := ⟨_, rfl⟩
              obtain ⟨D, hD⟩ : ∃ n, n = R2 / 2 ^ s := ⟨_, rfl⟩
              have b1 : IntKind.u64.wrap ((R : Int) * 4294967296) = (n1 : Int) := by rw [hn1, ← wrapMod]; congr 1
              have b2 : IntKind.u64.wrap ((n1 : Int) + (u0 : Int)) = (n2 : Int) := by rw [hn2, ← wrapMod]; congr 1
              have b3 : IntKind.u64.wrap ((Q0 : Int) * (Y : Int)) = (n3 : Int) := by rw [hn3, wrapMul]
              have b3' : IntKind.u64.wrap (((q : Int) - 1) * (Y : Int)) = (n3 : Int) := by rw [hQe0]; exact b3
              have b4 : IntKind.u64.wrap ((n2 : Int) - (n3 : Int)) = (R2 : Int) := by rw [hn2, hn1, hn3, hR2]; exact rest_wrap HQ0.out (by omega) hYb
              have b5 : (R2 : Int) / 2 ^ s = (D : Int) := by rw [hD, divShr]
              have HF := Lib.hid (show (Q1 * 4294967296 + Q0) * y + D = hi * 18446744073709551616 + lo ∧ D < y from by rw [HQ1.out, HQ0.out, hD, hR2, HR.out]; exact HW.out)
              clear hn1 hn2 hn3 hR2 hD
              go_wp2
              go_ret2
              exact ⟨Q1 * 4294967296 + Q0, D, by go_num, ⟨HF.out.1, HF.out.2, by omega⟩, rfl⟩
            · go_wp2
              go_roundw
              case rel => exact ⟨trivial, q - 1, r + A, by go_num, by go_num, by omega, HNX.out, by omega⟩
              case measure => simp [intOf]; omega
          · obtain ⟨T, hT⟩ : ∃ T, T = q * B := ⟨_, rfl⟩
            have hTb : T < 18446744073709551616 := by
              rw [hT]
              have : q * B ≤ 4294967295 * 4294967295 := Nat.mul_le_mul (by omega) (by omega)
              omega
            have t1 : IntKind.u64.wrap ((q : Int) * (B : Int)) = (T : Int) := by rw [wrapMul, ← hT, Nat.mod_eq_of_lt hTb]
            by_cases hlt : 4294967296 * (r : Int) + (u0 : Int) < (T : Int)
            · obtain ⟨hq0', hnx⟩ := hest.next (by rw [← HY.out]; exact hR) hu0 (Or.inr (by rw [← hT]; omega))
              have HNX := Lib.hid hnx
              clear hnx hest hT
              by_cases hout : (4294967296 : Int) ≤ (r : Int) + (A : Int)
              · have hq0 : (q - 1) = (R * 4294967296 + u0) / Y := by rw [HY.out]; exact (HNX.out.out (by omega) hBb (by rw [← HY.out]; exact hR) (by omega)).2
                have hq0b : (q - 1) < 4294967296 := by rw [hq0, HY.out]; exact est_lt hu0 (by rw [← HY.out]; exact hR)
                obtain ⟨Q0, hQ0⟩ : ∃ Q0 : Nat, Q0 = (q - 1) := ⟨_, rfl⟩
                have hQe0 : ((q : Int) - 1) = (Q0 : Int) := by omega
                rw [← hQ0] at hq0 hq0b
                have HQ0 := Lib.hid hq0
                clear hq0 hQ0
                obtain ⟨n1, hn1⟩ : ∃ n, n = R * 4294967296 % 18446744073709551616 := ⟨_, rfl⟩
                obtain ⟨n2, hn2⟩ : ∃ n, n = (n1 + u0) % 18446744073709551616 := ⟨_, rfl⟩
                obtain ⟨n3, hn3⟩ : ∃ n, n = Q0 * Y % 18446744073709551616 := ⟨_, rfl⟩
                obtain ⟨R2, hR2⟩ : ∃ n, n = (R * 4294967296 + u0) % Y := ⟨_, rfl⟩
                obtain ⟨D, hD⟩ : ∃ n, n = R2 / 2 ^ s := ⟨_, rfl⟩
                have b1 : IntKind.u64.wrap ((R : Int) * 4294967296) = (n1 : Int) := by rw [hn1, ← wrapMod]; congr 1
                have b2 : IntKind.u64.wrap ((n1 : Int) + (u0 : Int)) = (n2 : Int) := by rw [hn2, ← wrapMod]; congr 1
                have b3 : IntKind.u64.wrap ((Q0 : Int) * (Y : Int)) = (n3 : Int) := by rw [hn3, wrapMul]
                have b3' : IntKind.u64.wrap (((q : Int) - 1) * (Y : Int)) = (n3 : Int) := by rw [hQe0]; exact b3
                have b4 : IntKind.u64.wrap ((n2 : Int) - (n3 : Int)) = (R2 : Int) := by rw [hn2, hn1, hn3, hR2]; exact rest_wrap HQ0.out (by omega) hYb
                have b5 : (R2 : Int) / 2 ^ s = (D : Int) := by rw [hD, divShr]
                have HF := Lib.hid (show (Q1 * 4294967296 + Q0) * y + D = hi * 18446744073709551616 + lo ∧ D < y from by rw [HQ1.out, HQ0.out, hD, hR2, HR.out]; exact HW.out)
                clear hn1 hn2 hn3 hR2 hD
                go_wp2
                go_ret2
                exact ⟨Q1 * 4294967296 + Q0, D, by go_num, ⟨HF.out.1, HF.out.2, by omega⟩, rfl⟩
              · go_wp2
                go_roundw
                case rel => exact ⟨trivial, q - 1, r + A, by go_num, by go_num, by omega, HNX.out, by omega⟩
                case measure => simp [intOf]; omega
            · have HE := Lib.hid (hest.le (by omega) (by rw [← hT]; omega))
              clear hest hT
              have hq0 : q = (R * 4294967296 + u0) / Y := by rw [HY.out]; exact HE.out
              have hq0b : q < 4294967296 := by rw [hq0, HY.out]; exact est_lt hu0 (by rw [← HY.out]; exact hR)
              obtain ⟨Q0, rfl⟩ : ∃ Q0 : Nat, Q0 = q := ⟨_, rfl⟩
              have HQ0 := Lib.hid hq0
              clear hq0
              obtain ⟨n1, hn1⟩ : ∃ n, n = R * 4294967296 % 18446744073709551616 := ⟨_, rfl⟩
              obtain ⟨n2, hn2⟩ : ∃ n, n = (n1 + u0) % 18446744073709551616 := ⟨_, rfl⟩
              obtain ⟨n3, hn3⟩ : ∃ n, n = Q0 * Y % 18446744073709551616 := ⟨_, rfl⟩
              obtain ⟨R2, hR2⟩ : ∃ n, n = (R * 4294967296 + u0) % Y := ⟨_, rfl⟩
              obtain ⟨D, hD⟩ : ∃ n, n = R2 / 2 ^ s := ⟨_, rfl⟩
              have b1 : IntKind.u64.wrap ((R : Int) * 4294967296) = (n1 : Int) := by rw [hn1, ← wrapMod]; congr 1
              have b2 : IntKind.u64.wrap ((n1 : Int) + (u0 : Int)) = (n2 : Int) := by rw [hn2, ← wrapMod]; congr 1
              have b3 : IntKind.u64.wrap ((Q0 : Int) * (Y : Int)) = (n3 : Int) := by rw [hn3, wrapMul]
              have b4 : IntKind.u64.wrap ((n2 : Int) - (n3 : Int)) = (R2 : Int) := by rw [hn2, hn1, hn3, hR2]; exact rest_wrap HQ0.out (by omega) hYb
              have b5 : (R2 : Int) / 2 ^ s = (D : Int) := by rw [hD, divShr]
              have HF := Lib.hid (show (Q1 * 4294967296 + Q0) * y + D = hi * 18446744073709551616 + lo ∧ D < y from by rw [HQ1.out, HQ0.out, hD, hR2, HR.out]; exact HW.out)
              clear hn1 hn2 hn3 hR2 hD
              go_wp2
              go_ret2
              exact ⟨Q1 * 4294967296 + Q0, D, by go_num, ⟨HF.out.1, HF.out.2, by omega⟩, rfl⟩
      · go_wp2
        go_roundw
        case rel => exact ⟨trivial, q - 1, r + A, by go_num, by go_num, by omega, HNX.out, by omega⟩
        case measure => simp [intOf]; omega
    · obtain ⟨T, hT⟩ : ∃ T, T = q * B := ⟨_, rfl⟩
      have hTb : T < 18446744073709551616 := by
        rw [hT]
        have : q * B ≤ 4294967295 * 4294967295 := Nat.mul_le_mul (by omega) (by omega)
        omega
      have t1 : IntKind.u64.wrap ((q : Int) * (B : Int)) = (T : Int) := by rw [wrapMul, ← hT, Nat.mod_eq_of_lt hTb]
      by_cases hlt : 4294967296 * (r : Int) + (u1 : Int) < (T : Int)
      · obtain ⟨hq0', hnx⟩ := hest.next (by rw [← HY.out]; exact hU) hu1 (Or.inr (by rw [← hT]; omega))
        have HNX := Lib.hid hnx
        clear hnx hest hT
        by_cases hout : (4294967296 : Int) ≤ (r : Int) + (A : Int)
        · have hq1 : (q - 1) = (U * 4294967296 + u1) / Y := by rw [HY.out]; exact (HNX.out.out (by omega) hBb (by rw [← HY.out]; exact hU) (by omega)).2
          have hq1b : (q - 1) < 4294967296 := by rw [hq1, HY.out]; exact est_lt hu1 (by rw [← HY.out]; exact hU)
          obtain ⟨Q1, hQ1⟩ : ∃ Q1 : Nat, Q1 = (q - 1) := ⟨_, rfl⟩
          have hQe : ((q : Int) - 1) = (Q1 : Int) := by omega
          rw [← hQ1] at hq1 hq1b
          have HQ1 := Lib.hid hq1
          obtain ⟨m1, hm1⟩ : ∃ n, n = U * 4294967296 % 18446744073709551616 := ⟨_, rfl⟩
          obtain ⟨m2, hm2⟩ : ∃ n, n = (m1 + u1) % 18446744073709551616 := ⟨_, rfl⟩
          obtain ⟨m3, hm3⟩ : ∃ n, n = Q1 * Y % 18446744073709551616 := ⟨_, rfl⟩
          obtain ⟨R, hRe⟩ : ∃ n, n = (U * 4294967296 + u1) % Y := ⟨_, rfl⟩
          have hR : R < Y := by rw [hRe]; exact Nat.mod_lt _ (by omega)
          have a1 : IntKind.u64.wrap ((U : Int) * 4294967296) = (m1 : Int) := by rw [hm1, ← wrapMod]; congr 1
          have a2 : IntKind.u64.wrap ((m1 : Int) + (u1 : Int)) = (m2 : Int) := by rw [hm2, ← wrapMod]; congr 1
          have a3 : IntKind.u64.wrap ((Q1 : Int) * (Y : Int)) = (m3 : Int) := by rw [hm3, wrapMul]
          have a3' : IntKind.u64.wrap (((q : Int) - 1) * (Y : Int)) = (m3 : Int) := by rw [hQe]; exact a3
          have a4 : IntKind.u64.wrap ((m2 : Int) - (m3 : Int)) = (R : Int) := by rw [hm2, hm1, hm3, hRe]; exact rest_wrap HQ1.out (by omega) hYb
          obtain ⟨c1, hc1⟩ : ∃ n, n = R / A := ⟨_, rfl⟩
          obtain ⟨c2, hc2⟩ : ∃ n, n = c1 * A := ⟨_, rfl⟩
          have hc2b : c2 ≤ R := by rw [hc2, hc1]; exact Nat.div_mul_le_self _ _
          have a5 : (R : Int) / (A : Int) = (c1 : Int) := by rw [hc1, divNat]
          have hc1b : c1 < 18446744073709551616 := by rw [hc1]; exact Nat.lt_of_le_of_lt (Nat.div_le_self _ _) (by omega)
          have a6 : IntKind.u64.wrap ((c1 : Int) * (A : Int)) = (c2 : Int) := by rw [wrapMul, ← hc2, Nat.mod_eq_of_lt (by omega)]
          have HR := Lib.hid hRe
          have HC1 := Lib.hid hc1
          have HC2 := Lib.hid hc2
          clear hq1 hm1 hm2 hm3 hRe hc1 hc2 hQ1
          go_wp2
          go_loopw [18, 16] (fun qv rv wr => w' = wr ∧ ERel R u0 A B qv rv) (fun qv _ _ => (intOf qv).toNat)
          case atStart => exact ⟨rfl, ERel.start hu0 hA1 hA2 (by omega) (by rw [HC1.out]) (by rw [← HC1.out, ← HC2.out])⟩
          case round =>
            obtain ⟨rfl, hrel⟩ := hrel
            obtain ⟨q, r, rfl, rfl, hr, hest, hqb⟩ := hrel
            by_cases hb : (4294967296 : Int) ≤ (q : Int)
            · obtain ⟨hq0', hnx⟩ := hest.next (by rw [← HY.out]; exact hR) hu0 (Or.inl (by omega))
              have HNX := Lib.hid hnx
              clear hnx hest
              by_cases hout : (4294967296 : Int) ≤ (r : Int) + (A : Int)
              · have hq0 : (q - 1) = (R * 4294967296 + u0) / Y := by rw [HY.out]; exact (HNX.out.out (by omega) hBb (by rw [← HY.out]; exact hR) (by omega)).2
                have hq0b : (q - 1) < 4294967296 := by rw [hq0, HY.out]; exact est_lt hu0 (by rw [← HY.out]; exact hR)
                obtain ⟨Q0, hQ0⟩ : ∃ Q0 : Nat, Q0 = (q - 1) := ⟨_, rfl⟩
                have hQe0 : ((q : Int) - 1) = (Q0 : Int) := by omega
                rw [← hQ0] at hq0 hq0b
                have HQ0 := Lib.hid hq0
                clear hq0 hQ0
                obtain ⟨n1, hn1⟩ : ∃ n, n = R * 4294967296 % 18446744073709551616 := ⟨_, rfl⟩
                obtain ⟨n2, hn2⟩ : ∃ n, n = (n1 + u0) % 18446744073709551616 := ⟨_, rfl⟩
                obtain ⟨n3, hn3⟩ : ∃ n, n = Q0 * Y % 18446744073709551616 := ⟨_, rfl⟩
                obtain ⟨R2, hR2⟩ : ∃ n, n = (R * 4294967296 + u0) % Y := ⟨_, rfl⟩
                obtain ⟨D, hD⟩ : ∃ n, n = R2 / 2 ^ s := ⟨_, rfl⟩
                have b1 : IntKind.u64.wrap ((R : Int) * 4294967296) = (n1 : Int) := by rw [hn1, ← wrapMod]; congr 1
                have b2 : IntKind.u64.wrap ((n1 : Int) + (u0 : Int)) = (n2 : Int) := by rw [hn2, ← wrapMod]; congr 1
                have b3 : IntKind.u64.wrap ((Q0 : Int) * (Y : Int)) = (n3 : Int) := by rw [hn3, wrapMul]
                have b3' : IntKind.u64.wrap (((q : Int) - 1) * (Y : Int)) = (n3 : Int) := by rw [hQe0]; exact b3
                have b4 : IntKind.u64.wrap ((n2 : Int) - (n3 : Int)) = (R2 : Int) := by rw [hn2, hn1, hn3, hR2]; exact rest_wrap HQ0.out (by omega) hYb
                have b5 : (R2 : Int) / 2 ^ s = (D : Int) := by rw [hD, divShr]
                have HF := Lib.hid (show (Q1 * 4294967296 + Q0) * y + D = hi * 18446744073709551616 + lo ∧ D < y from by rw [HQ1.out, HQ0.out, hD, hR2, HR.out]; exact HW.out)
                clear hn1 hn2 hn3 hR2 hD
                go_wp2
                go_ret2
                exact ⟨Q1 * 4294967296 + Q0, D, by go_num, ⟨HF.out.1, HF.out.2, by omega⟩, rfl⟩
              · go_wp2
                go_roundw
                case rel => exact ⟨trivial, q - 1, r + A, by go_num, by go_num, by omega, HNX.out, by omega⟩
                case measure => simp [intOf]; omega
            · obtain ⟨T, hT⟩ : ∃ T, T = q * B := ⟨_, rfl⟩
              have hTb : T < 18446744073709551616 := by
                rw [hT]
                have : q * B ≤ 4294967295 * 4294967295 := Nat.mul_le_mul (by omega) (by omega)
                omega
              have t1 : IntKind.u64.wrap ((q : Int) * (B : Int)) = (T : Int) := by rw [wrapMul, ← hT, Nat.mod_eq_of_lt hTb]
              by_cases hlt : 4294967296 * (r : Int) + (u0 : Int) < (T : Int)
              · obtain ⟨hq0', hnx⟩ := hest.next (by rw [← HY.out]; exact hR) hu0 (Or.inr (by rw [← hT]; omega))
                have HNX := Lib.hid hnx
                clear hnx hest hT
                by_cases hout : (4294967296 : Int) ≤ (r : Int) + (A : Int)
                · have hq0 : (q - 1) = (R * 4294967296 + u0) / Y := by rw [HY.out]; exact (HNX.out.out (by omega) hBb (by rw [← HY.out]; exact hR) (by omega)).2
                  have hq0b : (q - 1) < 4294967296 := by rw [hq0, HY.out]; exact est_lt hu0 (by rw [← HY.out]; exact hR)
                  obtain ⟨Q0, hQ0⟩ : ∃ Q0 : Nat, Q0 = (q - 1) := ⟨_, rfl⟩
                  have hQe0 : ((q : Int) - 1) = (Q0 : Int) := by omega
                  rw [← hQ0] at hq0 hq0b
                  have HQ0 := Lib.hid hq0
                  clear hq0 hQ0
                  obtain ⟨n1, hn1⟩ : ∃ n, n = R * 4294967296 % 18446744073709551616 := ⟨_, rfl⟩
                  obtain ⟨n2, hn2⟩ : ∃ n, n = (n1 + u0) % 18446744073709551616 := ⟨_, rfl⟩
                  obtain ⟨n3, hn3⟩ : ∃ n, n = Q0 * Y % 18446744073709551616 := ⟨_, rfl⟩
                  obtain ⟨R2, hR2⟩ : ∃ n, n = (R * 4294967296 + u0) % Y := ⟨_, rfl⟩
                  obtain ⟨D, hD⟩ : ∃ n, n = R2 / 2 ^ s := ⟨_, rfl⟩
                  have b1 : IntKind.u64.wrap ((R : Int) * 4294967296) = (n1 : Int) := by rw [hn1, ← wrapMod]; congr 1
                  have b2 : IntKind.u64.wrap ((n1 : Int) + (u0 : Int)) = (n2 : Int) := by rw [hn2, ← wrapMod]; congr 1
                  have b3 : IntKind.u64.wrap ((Q0 : Int) * (Y : Int)) = (n3 : Int) := by rw [hn3, wrapMul]
                  have b3' : IntKind.u64.wrap (((q : Int) - 1) * (Y : Int)) = (n3 : Int) := by rw [hQe0]; exact b3
                  have b4 : IntKind.u64.wrap ((n2 : Int) - (n3 : Int)) = (R2 : Int) := by rw [hn2, hn1, hn3, hR2]; exact rest_wrap HQ0.out (by omega) hYb
                  have b5 : (R2 : Int) / 2 ^ s = (D : Int) := by rw [hD, divShr]
                  have HF := Lib.hid (show (Q1 * 4294967296 + Q0) * y + D = hi * 18446744073709551616 + lo ∧ D < y from by rw [HQ1.out, HQ0.out, hD, hR2, HR.out]; exact HW.out)
                  clear hn1 hn2 hn3 hR2 hD
                  go_wp2
                  go_ret2
                  exact ⟨Q1 * 4294967296 + Q0, D, by go_num, ⟨HF.out.1, HF.out.2, by omega⟩, rfl⟩
                · go_wp2
                  go_roundw
                  case rel => exact ⟨trivial, q - 1, r + A, by go_num, by go_num, by omega, HNX.out, by omega⟩
                  case measure => simp [intOf]; omega
              · have HE := Lib.hid (hest.le (by omega) (by rw [← hT]; omega))
                clear hest hT
                have hq0 : q = (R * 4294967296 + u0) / Y := by rw [HY.out]; exact HE.out
                have hq0b : q < 4294967296 := by rw [hq0, HY.out]; exact est_lt hu0 (by rw [← HY.out]; exact hR)
                obtain ⟨Q0, rfl⟩ : ∃ Q0 : Nat, Q0 = q := ⟨_, rfl⟩
                have HQ0 := Lib.hid hq0
                clear hq0
                obtain ⟨n1, hn1⟩ : ∃ n, n = R * 4294967296 % 18446744073709551616 := ⟨_, rfl⟩
                obtain ⟨n2, hn2⟩ : ∃ n, n = (n1 + u0) % 18446744073709551616 := ⟨_, rfl⟩
                obtain ⟨n3, hn3⟩ : ∃ n, n = Q0 * Y % 18446744073709551616 := ⟨_, rfl⟩
                obtain ⟨R2, hR2⟩ : ∃ n, n = (R * 4294967296 + u0) % Y := ⟨_, rfl⟩
                obtain ⟨D, hD⟩ : ∃ n, n = R2 / 2 ^ s := ⟨_, rfl⟩
                have b1 : IntKind.u64.wrap ((R : Int) * 4294967296) = (n1 : Int) := by rw [hn1, ← wrapMod]; congr 1
                have b2 : IntKind.u64.wrap ((n1 : Int) + (u0 : Int)) = (n2 : Int) := by rw [hn2, ← wrapMod]; congr 1
                have b3 : IntKind.u64.wrap ((Q0 : Int) * (Y : Int)) = (n3 : Int) := by rw [hn3, wrapMul]
                have b4 : IntKind.u64.wrap ((n2 : Int) - (n3 : Int)) = (R2 : Int) := by rw [hn2, hn1, hn3, hR2]; exact rest_wrap HQ0.out (by omega) hYb
                have b5 : (R2 : Int) / 2 ^ s = (D : Int) := by rw [hD, divShr]
                have HF := Lib.hid (show (Q1 * 4294967296 + Q0) * y + D = hi * 18446744073709551616 + lo ∧ D < y from by rw [HQ1.out, HQ0.out, hD, hR2, HR.out]; exact HW.out)
                clear hn1 hn2 hn3 hR2 hD
                go_wp2
                go_ret2
                exact ⟨Q1 * 4294967296 + Q0, D, by go_num, ⟨HF.out.1, HF.out.2, by omega⟩, rfl⟩
        · go_wp2
          go_roundw
          case rel => exact ⟨trivial, q - 1, r + A, by go_num, by go_num, by omega, HNX.out, by omega⟩
          case measure => simp [intOf]; omega
      · have HE := Lib.hid (hest.le (by omega) (by rw [← hT]; omega))
        clear hest hT
        have hq1 : q = (U * 4294967296 + u1) / Y := by rw [HY.out]; exact HE.out
        have hq1b : q < 4294967296 := by rw [hq1, HY.out]; exact est_lt hu1 (by rw [← HY.out]; exact hU)
        obtain ⟨Q1, rfl⟩ : ∃ Q1 : Nat, Q1 = q := ⟨_, rfl⟩
        have HQ1 := Lib.hid hq1
        obtain ⟨m1, hm1⟩ : ∃ n, n = U * 4294967296 % 18446744073709551616 := ⟨_, rfl⟩
        obtain ⟨m2, hm2⟩ : ∃ n, n = (m1 + u1) % 18446744073709551616 := ⟨_, rfl⟩
        obtain ⟨m3, hm3⟩ : ∃ n, n = Q1 * Y % 18446744073709551616 := ⟨_, rfl⟩
        obtain ⟨R, hRe⟩ : ∃ n, n = (U * 4294967296 + u1) % Y := ⟨_, rfl⟩
        have hR : R < Y := by rw [hRe]; exact Nat.mod_lt _ (by omega)
        have a1 : IntKind.u64.wrap ((U : Int) * 4294967296) = (m1 : Int) := by rw [hm1, ← wrapMod]; congr 1
        have a2 : IntKind.u64.wrap ((m1 : Int) + (u1 : Int)) = (m2 : Int) := by rw [hm2, ← wrapMod]; congr 1
        have a3 : IntKind.u64.wrap ((Q1 : Int) * (Y : Int)) = (m3 : Int) := by rw [hm3, wrapMul]
        have a4 : IntKind.u64.wrap ((m2 : Int) - (m3 : Int)) = (R : Int) := by rw [hm2, hm1, hm3, hRe]; exact rest_wrap HQ1.out (by omega) hYb
        obtain ⟨c1, hc1⟩ : ∃ n, n = R / A := ⟨_, rfl⟩
        obtain ⟨c2, hc2⟩ : ∃ n, n = c1 * A := ⟨_, rfl⟩
        have hc2b : c2 ≤ R := by rw [hc2, hc1]; exact Nat.div_mul_le_self _ _
        have a5 : (R : Int) / (A : Int) = (c1 : Int) := by rw [hc1, divNat]
        have hc1b : c1 < 18446744073709551616 := by rw [hc1]; exact Nat.lt_of_le_of_lt (Nat.div_le_self _ _) (by omega)
        have a6 : IntKind.u64.wrap ((c1 : Int) * (A : Int)) = (c2 : Int) := by rw [wrapMul, ← hc2, Nat.mod_eq_of_lt (by omega)]
        have HR := Lib.hid hRe
        have HC1 := Lib.hid hc1
        have HC2 := Lib.hid hc2
        clear hq1 hm1 hm2 hm3 hRe hc1 hc2
        go_wp2
        go_loopw [18, 16] (fun qv rv wr => w' = wr ∧ ERel R u0 A B qv rv) (fun qv _ _ => (intOf qv).toNat)
        case atStart => exact ⟨rfl, ERel.start hu0 hA1 hA2 (by omega) (by rw [HC1.out]) (by rw [← HC1.out, ← HC2.out])⟩
        case round =>
          obtain ⟨rfl, hrel⟩ := hrel
          obtain ⟨q, r, rfl, rfl, hr, hest, hqb⟩ := hrel
          by_cases hb : (4294967296 : Int) ≤ (q : Int)
          · obtain ⟨hq0', hnx⟩ := hest.next (by rw [← HY.out]; exact hR) hu0 (Or.inl (by omega))
            have HNX := Lib.hid hnx
            clear hnx hest
            by_cases hout : (4294967296 : Int) ≤ (r : Int) + (A : Int)
            · have hq0 : (q - 1) = (R * 4294967296 + u0) / Y := by rw [HY.out]; exact (HNX.out.out (by omega) hBb (by rw [← HY.out]; exact hR) (by omega)).2
              have hq0b : (q - 1) < 4294967296 := by rw [hq0, HY.out]; exact est_lt hu0 (by rw [← HY.out]; exact hR)
              obtain ⟨Q0, hQ0⟩ : ∃ Q0 : Nat, Q0 = (q - 1) := ⟨_, rfl⟩
              have hQe0 : ((q : Int) - 1) = (Q0 : Int) := by omega
              rw [← hQ0] at hq0 hq0b
              have HQ0 := Lib.hid hq0
              clear hq0 hQ0
              obtain ⟨n1, hn1⟩ : ∃ n, n = R * 4294967296 % 18446744073709551616 := ⟨_, rfl⟩
              obtain ⟨n2, hn2⟩ : ∃ n, n = (n1 + u0) % 18446744073709551616 := ⟨_, rfl⟩
              obtain ⟨n3, hn3⟩ : ∃ n, n = Q0 * Y % 18446744073709551616 := ⟨_, rfl⟩
              obtain ⟨R2, hR2⟩ : ∃ n, n = (R * 4294967296 + u0) % Y := ⟨_, rfl⟩
              obtain ⟨D, hD⟩ : ∃ n, n = R2 / 2 ^ s := ⟨_, rfl⟩
              have b1 : IntKind.u64.wrap ((R : Int) * 4294967296) = (n1 : Int) := by rw [hn1, ← wrapMod]; congr 1
              have b2 : IntKind.u64.wrap ((n1 : Int) + (u0 : Int)) = (n2 : Int) := by rw [hn2, ← wrapMod]; congr 1
              have b3 : IntKind.u64.wrap ((Q0 : Int) * (Y : Int)) = (n3 : Int) := by rw [hn3, wrapMul]
              have b3' : IntKind.u64.wrap (((q : Int) - 1) * (Y : Int)) = (n3 : Int) := by rw [hQe0]; exact b3
              have b4 : IntKind.u64.wrap ((n2 : Int) - (n3 : Int)) = (R2 : Int) := by rw [hn2, hn1, hn3, hR2]; exact rest_wrap HQ0.out (by omega) hYb
              have b5 : (R2 : Int) / 2 ^ s = (D : Int) := by rw [hD, divShr]
              have HF := Lib.hid (show (Q1 * 4294967296 + Q0) * y + D = hi * 18446744073709551616 + lo ∧ D < y from by rw [HQ1.out, HQ0.out, hD, hR2, HR.out]; exact HW.out)
              clear hn1 hn2 hn3 hR2 hD
              go_wp2
              go_ret2
              exact ⟨Q1 * 4294967296 + Q0, D, by go_num, ⟨HF.out.1, HF.out.2, by omega⟩, rfl⟩
            · go_wp2
              go_roundw
              case rel => exact ⟨trivial, q - 1, r + A, by go_num, by go_num, by omega, HNX.out, by omega⟩
              case measure => simp [intOf]; omega
          · obtain ⟨T, hT⟩ : ∃ T, T = q * B := ⟨_, rfl⟩
            have hTb : T < 18446744073709551616 := by
              rw [hT]
              have : q * B ≤ 4294967295 * 4294967295 := Nat.mul_le_mul (by omega) (by omega)
              omega
            have t1 : IntKind.u64.wrap ((q : Int) * (B : Int)) = (T : Int) := by rw [wrapMul, ← hT, Nat.mod_eq_of_lt hTb]
            by_cases hlt : 4294967296 * (r : Int) + (u0 : Int) < (T : Int)
            · obtain ⟨hq0', hnx⟩ := hest.next (by rw [← HY.out]; exact hR) hu0 (Or.inr (by rw [← hT]; omega))
              have HNX := Lib.hid hnx
              clear hnx hest hT
              by_cases hout : (4294967296 : Int) ≤ (r : Int) + (A : Int)
              · have hq0 : (q - 1) = (R * 4294967296 + u0) / Y := by rw [HY.out]; exact (HNX.out.out (by omega) hBb (by rw [← HY.out]; exact hR) (by omega)).2
                have hq0b : (q - 1) < 4294967296 := by rw [hq0, HY.out]; exact est_lt hu0 (by rw [← HY.out]; exact hR)
                obtain ⟨Q0, hQ0⟩ : ∃ Q0 : Nat, Q0 = (q - 1) := ⟨_, rfl⟩
                have hQe0 : ((q : Int) - 1) = (Q0 : Int) := by omega
                rw [← hQ0] at hq0 hq0b
                have HQ0 := Lib.hid hq0
                clear hq0 hQ0
                obtain ⟨n1, hn1⟩ : ∃ n, n = R * 4294967296 % 18446744073709551616 := ⟨_, rfl⟩
                obtain ⟨n2, hn2⟩ : ∃ n, n = (n1 + u0) % 18446744073709551616 := ⟨_, rfl⟩
                obtain ⟨n3, hn3⟩ : ∃ n, n = Q0 * Y % 18446744073709551616 := ⟨_, rfl⟩
                obtain ⟨R2, hR2⟩ : ∃ n, n = (R * 4294967296 + u0) % Y := ⟨_, rfl⟩
                obtain ⟨D, hD⟩ : ∃ n, n = R2 / 2 ^ s := ⟨_, rfl⟩
                have b1 : IntKind.u64.wrap ((R : Int) * 4294967296) = (n1 : Int) := by rw [hn1, ← wrapMod]; congr 1
                have b2 : IntKind.u64.wrap ((n1 : Int) + (u0 : Int)) = (n2 : Int) := by rw [hn2, ← wrapMod]; congr 1
                have b3 : IntKind.u64.wrap ((Q0 : Int) * (Y : Int)) = (n3 : Int) := by rw [hn3, wrapMul]
                have b3' : IntKind.u64.wrap (((q : Int) - 1) * (Y : Int)) = (n3 : Int) := by rw [hQe0]; exact b3
                have b4 : IntKind.u64.wrap ((n2 : Int) - (n3 : Int)) = (R2 : Int) := by rw [hn2, hn1, hn3, hR2]; exact rest_wrap HQ0.out (by omega) hYb
                have b5 : (R2 : Int) / 2 ^ s = (D : Int) := by rw [hD, divShr]
                have HF := Lib.hid (show (Q1 * 4294967296 + Q0) * y + D = hi * 18446744073709551616 + lo ∧ D < y from by rw [HQ1.out, HQ0.out, hD, hR2, HR.out]; exact HW.out)
                clear hn1 hn2 hn3 hR2 hD
                go_wp2
                go_ret2
                exact ⟨Q1 * 4294967296 + Q0, D, by go_num, ⟨HF.out.1, HF.out.2, by omega⟩, rfl⟩
              · go_wp2
                go_roundw
                case rel => exact ⟨trivial, q - 1, r + A, by go_num, by go_num, by omega, HNX.out, by omega⟩
                case measure => simp [intOf]; omega
            · have HE := Lib.hid (hest.le (by omega) (by rw [← hT]; omega))
              clear hest hT
              have hq0 : q = (R * 4294967296 + u0) / Y := by rw [HY.out]; exact HE.out
              have hq0b : q < 4294967296 := by rw [hq0, HY.out]; exact est_lt hu0 (by rw [← HY.out]; exact hR)
              obtain ⟨Q0, rfl⟩ : ∃ Q0 : Nat, Q0 = q := ⟨_, rfl⟩
              have HQ0 := Lib.hid hq0
              clear hq0
              obtain ⟨n1, hn1⟩ : ∃ n, n = R * 4294967296 % 18446744073709551616 := ⟨_, rfl⟩
              obtain ⟨n2, hn2⟩ : ∃ n, n = (n1 + u0) % 18446744073709551616 := ⟨_, rfl⟩
              obtain ⟨n3, hn3⟩ : ∃ n, n = Q0 * Y % 18446744073709551616 := ⟨_, rfl⟩
              obtain ⟨R2, hR2⟩ : ∃ n, n = (R * 4294967296 + u0) % Y := ⟨_, rfl⟩
              obtain ⟨D, hD⟩ : ∃ n, n = R2 / 2 ^ s := ⟨_, rfl⟩
              have b1 : IntKind.u64.wrap ((R : Int) * 4294967296) = (n1 : Int) := by rw [hn1, ← wrapMod]; congr 1
              have b2 : IntKind.u64.wrap ((n1 : Int) + (u0 : Int)) = (n2 : Int) := by rw [hn2, ← wrapMod]; congr 1
              have b3 : IntKind.u64.wrap ((Q0 : Int) * (Y : Int)) = (n3 : Int) := by rw [hn3, wrapMul]
              have b4 : IntKind.u64.wrap ((n2 : Int) - (n3 : Int)) = (R2 : Int) := by rw [hn2, hn1, hn3, hR2]; exact rest_wrap HQ0.out (by omega) hYb
              have b5 : (R2 : Int) / 2 ^ s = (D : Int) := by rw [hD, divShr]
              have HF := Lib.hid (show (Q1 * 4294967296 + Q0) * y + D = hi * 18446744073709551616 + lo ∧ D < y from by rw [HQ1.out, HQ0.out, hD, hR2, HR.out]; exact HW.out)
              clear hn1 hn2 hn3 hR2 hD
              go_wp2
              go_ret2
              exact ⟨Q1 * 4294967296 + Q0, D, by go_num, ⟨HF.out.1, HF.out.2, by omega⟩, rfl⟩
end Go.Proofs.YtlhmfgbaefaneaaGreatDoor.nat
namespace Go.Proofs.YtlhmfgbaefaneaaGreatDoor.nat
open Go.RowKit
set_option maxRecDepth 100000 in
set_option maxHeartbeats 1000000 in
theorem Div64_any (hi lo y : Nat) (hh : hi < y) (hl : lo < 18446744073709551616) (hy : y < 18446744073709551616) (w : World) :
    Calls Tryz.prog 260 #[.int .u64 (hi : Int), .int .u64 (lo : Int), .int .u64 (y : Int)] w fun e w' => ∃ q r : Nat, e = .returned (.tuple #[.int .u64 (q : Int), .int .u64 (r : Int)]) ∧ (q * y + r = hi * 18446744073709551616 + lo ∧ r < y ∧ q < 18446744073709551616) ∧ ∃ m, w' = w.drewN m := by
  rcases Nat.eq_zero_or_pos hi with rfl | h0
  · obtain ⟨Q, hQ⟩ : ∃ Q, Q = lo / y := ⟨_, rfl⟩
    obtain ⟨R, hR⟩ : ∃ R, R = lo % y := ⟨_, rfl⟩
    have hy0 : ((y : Int) == 0) = false := by simp; omega
    have hy1 : ¬ (y : Int) = 0 := by omega
    have hy2 : ¬ (y : Int) ≤ 0 := by omega
    have F1 : (lo : Int) / (y : Int) = (Q : Int) := by rw [hQ, divNat]
    have F2 : (lo : Int) % (y : Int) = (R : Int) := by rw [hR, Int.natCast_emod]
    have hRy : R < y := by rw [hR]; exact Nat.mod_lt _ hh
    have hQl : Q ≤ lo := by rw [hQ]; exact Nat.div_le_self _ _
    have hQb : Q < 18446744073709551616 := by omega
    have hRb : R < 18446744073709551616 := by omega
    have HE := Lib.hid (show Q * y + R = lo by rw [hQ, hR, Nat.mul_comm]; exact Nat.div_add_mod _ _)
    clear hQ hR
    go_enter Tryz.func260, Tryz.ntmps260
    go_wp2
    go_quiet (fail)
    go_wp2
    go_ret2
    refine ⟨Q, R, ?_, ⟨by rw [HE.out]; omega, hRy, hQb⟩, _, rfl⟩
    show Ending.returned (.tuple #[.int .u64 (Q : Int), .int .u64 ((lo : Int) % (y : Int))]) = _
    rw [F2]
  · refine (Div64_pos hi lo y hh hl hy h0 w).mono ?_
    rintro e w' ⟨q, r, rfl, h, rfl⟩
    exact ⟨q, r, rfl, h, 0, rfl⟩
theorem Row.drew {w : World} {g : Nat} {L : List Nat} (h : Row w g L) (n : Nat) : Row (w.drewN n) g L := h
def WRel (w : World) (g y : Nat) (Z : List Nat) (k r : Nat) (wr : World) : Prop :=
  ∃ Z', Z'.length = Z.length ∧ Dig Z' ∧ Z'.take k = Z.take k ∧ val (Z'.drop k) * y + r = val (Z.drop k) ∧ r < y ∧ Row wr g Z' ∧ w.grownBy wr (some g)
theorem WRel.next {w wr : World} {g y k r q r' m : Nat} {Z Z' : List Nat} (h0 : Z'.length = Z.length) (h1 : Dig Z') (h2 : Z'.take k = Z.take k) (h3 : val (Z'.drop k) * y + r = val (Z.drop k)) (h5 : Row wr g Z') (h6 : w.grownBy wr (some g)) (hk : 0 < k) (hkl : k ≤ Z.length)
    (hq : q * y + r' = r * 18446744073709551616 + dg Z' (k - 1)) (hr : r' < y) (hqb : q < 18446744073709551616) : WRel w g y Z (k - 1) r' ((wr.drewN m).setCell ⟨g, k - 1, none⟩ (.int .u64 (q : Nat))) := by
  have e1 : dg Z' (k - 1) = dg Z (k - 1) := by
    rw [← dg_take (n := k) (by omega), h2, dg_take (by omega)]
  refine ⟨Z'.set (k - 1) q, by simpa using h0, h1.set hqb, ?_, ?_, hr, (h5.drew m).set _ (by omega) rfl, grown_trans h6 (grown_trans (grown_of_below (drew_below wr m) _) (grown_set _ _ _ _))⟩
  · rw [List.take_set, List.set_eq_of_length_le (by rw [List.length_take]; omega)]
    have := congrArg (List.take (k - 1)) h2
    rwa [List.take_take, List.take_take, Nat.min_eq_left (by omega)] at this
  · have e2 : (Z'.set (k - 1) q).drop (k - 1) = q :: Z'.drop k := by
      rw [drop_dg _ (k - 1) (by rw [List.length_set]; omega), dg_set_same (by omega), List.drop_set_of_lt (by omega), show k - 1 + 1 = k by omega]
    rw [e2, drop_dg Z (k - 1) (by omega), show k - 1 + 1 = k by omega, val, val, ← h3, ← e1]
    have : (q + 18446744073709551616 * val (Z'.drop k)) * y = q * y + 18446744073709551616 * (val (Z'.drop k) * y) := by rw [Nat.add_mul, Nat.mul_assoc]
    rw [this]
    omega
set_option maxRecDepth 100000 in
set_option maxHeartbeats 1000000 in
theorem divideByWord_own {B : Nat} (sv : Value) (z : List Nat) (y : Nat) (w : World) (hO : Own w B sv z) (hdz : Dig z) (hy : y < 18446744073709551616) (hy0 : 0 < y) (hn : z.length ≤ 4000000) :
    Calls Tryz.prog 221 #[sv, .int .u64 (y : Nat)] w fun e w' => ∃ (z' : List Nat) (r : Nat), e = .returned (.int .u64 (r : Nat)) ∧ (z'.length = z.length ∧ Dig z' ∧ val z' * y + r = val z ∧ r < y ∧ Own w' B sv z') ∧ Below B w w' := by
  obtain ⟨ao, cap, rfl, ⟨h1, h4⟩, h2, h3⟩ := id hO
  have HO := Lib.hid hO
  rcases h3 with rfl | ⟨g, rfl, hB, hrow⟩
  · simp only [List.length_nil]
    clear hO h4 hn h1
    go_enter Tryz.func221, Tryz.ntmps221
    go_wp2
    go_loopw [5, 6] (fun rv iv wr => iv = .int .i64 (-1) ∧ rv = .int .u64 0 ∧ w = wr) (fun _ _ _ => 0)
    case atStart => exact ⟨rfl, rfl, rfl⟩
    case round =>
      obtain ⟨rfl, rfl, rfl⟩ := hrel
      go_wp2
      go_ret
      exact ⟨[], 0, rfl, ⟨rfl, Dig.nil, by simp [val], hy0, HO.out⟩, Below.refl _ _⟩
  · obtain ⟨n, hnl⟩ : ∃ n, z.length = n := ⟨_, rfl⟩
    have HN := Lib.hid hnl
    have HS := Lib.hid (show WRel w g y z n 0 w from ⟨z, rfl, hdz, rfl, by rw [List.drop_eq_nil_of_le (by omega)]; simp [val], hy0, hrow, grown_refl _ _⟩)
    have hgl := hrow.lt
    unfold maxLen at h2
    rw [hnl] at h1 hn ⊢
    clear hO hdz hrow hnl h4
    go_enter Tryz.func221, Tryz.ntmps221
    go_wp2
    go_loopw [5, 6] (fun rv iv wr => ∃ k r : Nat, iv = .int .i64 ((k : Int) - 1) ∧ rv = .int .u64 r ∧ k ≤ n ∧ WRel w g y z k r wr) (fun _ iv _ => (intOf iv + 1).toNat)
    case atStart => exact ⟨n, 0, rfl, rfl, Nat.le_refl _, HS.out⟩
    case round =>
      obtain ⟨k, r, rfl, rfl, hk, hrel⟩ := hrel
      obtain ⟨Z', hl, hd, htk, hv, hr, hrow, hgr⟩ := hrel
      by_cases hk0 : k = 0
      · subst hk0
        have HV := Lib.hid hv
        clear hv htk
        go_wp2
        go_ret
        refine ⟨Z', r, rfl, ⟨by rw [hl, HN.out], hd, by simpa using HV.out, hr, ?_⟩, ?_⟩
        · have := Own.of_row (cap := cap) hrow hB (by rw [hl, HN.out]; exact h1) (by unfold maxLen; omega)
          rwa [hl, HN.out] at this
        · exact ⟨hgr.os, hgr.tape, hgr.output, hgr.size, fun k hk => hgr.block k (by omega) (by simp; omega)⟩
      · have hk1 : 0 < k := by omega
        have c1 := hrow.cell (k - 1) (by rw [hl, HN.out]; omega)
        have f1 := hrow.free (k - 1)
        have hzd := dg_lt hd (k - 1)
        have HNX := Lib.hid (fun q r' m => WRel.next (q := q) (r' := r') (m := m) hl hd htk hv hrow hgr hk1 (by rw [HN.out]; exact hk))
        have e2 : ((k : Int) - 1).toNat = k - 1 := by omega
        have e3 : (k : Int) - 1 < (n : Int) := by omega
        have e4 : (0 : Int) ≤ (k : Int) - 1 := by omega
        generalize dg Z' (k - 1) = d at *
        clear hl hd htk hv hrow hgr HS HO
        go_wp2_with (go_at_call 260; refine (Div64_any r d y hr hzd hy _).mono ?_; rintro e w2 ⟨q, r', rfl, ⟨q1, q2, q3⟩, m, rfl⟩; have HR := Lib.hid (HNX.out q r' m q1 q2 q3); clear q1)
        go_roundw
        case rel => exact ⟨k - 1, r', by go_num, rfl, by omega, HR.out⟩
        case measure => simp [intOf]; omega
end Go.Proofs.YtlhmfgbaefaneaaGreatDoor.nat
