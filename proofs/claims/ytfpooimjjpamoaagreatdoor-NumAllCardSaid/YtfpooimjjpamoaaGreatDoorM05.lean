/-
  The steps of the walks, part 5: Short, Kara, DivA.
-/
import Derived.Deep.RegionHeld3
import Derived.Laws.Bits64b
import Derived.Test.YtfpooimjjpamoaaGreatDoorM04
namespace Go.Proofs.YtfpooimjjpamoaaGreatDoor.nat
open Go.RowKit
theorem make_int (w : World) (i : Int) (n : Nat) (hi : i = n) (hn : n ≤ 8000000) : ∃ W1, (Instr.makeSlice 24 (.int .i64 i) (.int .i64 i)).run Tryz.prog w = .ok (.slice (some ⟨w.heap.size, 0, none⟩) n n) W1 ∧
    Row W1 w.heap.size (List.replicate n 0) ∧ Below w.heap.size w W1 := by
  subst hi
  obtain ⟨W1, h1, h2, h3, _⟩ := make_ex w n hn
  exact ⟨W1, h1, h2, h3⟩
theorem dg_app (A Z : List Nat) (j : Nat) : dg (A ++ Z) (A.length + j) = dg Z j := by
  simp only [dg, List.getD_eq_getElem?_getD]
  rw [List.getElem?_append_right (by omega), Nat.add_sub_cancel_left]
theorem dg_drop (Z : List Nat) (i j : Nat) : dg (Z.drop i) j = dg Z (i + j) := by simp [dg]
def PRel (w : World) (x y : List Nat) (g T i : Nat) (wr : World) : Prop :=
  ∃ Z, Z.length = T ∧ Dig Z ∧ Row wr g Z ∧ Below w.heap.size w wr ∧ val Z = val x * val (y.take i) ∧ ∀ j, x.length + i ≤ j → dg Z j = 0
theorem PRel.next {w wr w2 : World} {x y Z Z' : List Nat} {g T i a : Nat} (hl : Z.length = T) (hv : val Z = val x * val (y.take i)) (hz : ∀ j, x.length + i ≤ j → dg Z j = 0) (hb : Below w.heap.size w wr) (hg : w.heap.size ≤ g) (hT : x.length + i < T)
    (hl' : Z'.length = T - i) (hd' : Dig (Z.take i ++ Z')) (hv' : val Z' + 18446744073709551616 ^ x.length * a = val (Z.drop i) + val x * dg y i) (hu : ∀ j, x.length ≤ j → dg Z' j = dg (Z.drop i) j) (hr : Row w2 g (Z.take i ++ (Z' ++ []))) (hgr : wr.grownBy w2 (some g)) (ha : a < 18446744073709551616)
    {u : Int} (hu' : u = (a : Nat)) : PRel w x y g T (i + 1) (w2.setCell ⟨g, i + x.length, none⟩ (.int .u64 u)) := by
  have hlt : (Z.take i).length = i := by rw [List.length_take]; omega
  have hL : (Z.take i ++ Z').length = T := by rw [List.length_append, hlt, hl']; omega
  have hr2 : Row w2 g (Z.take i ++ Z') := by simpa using hr
  have e0 : dg Z' x.length = 0 := by
    rw [hu _ (Nat.le_refl _), dg_drop]
    exact hz (i + x.length) (by omega)
  have e1 : dg (Z.take i ++ Z') (i + x.length) = 0 := by
    have := dg_app (Z.take i) Z' x.length
    rw [hlt] at this
    rw [this, e0]
  refine ⟨(Z.take i ++ Z').set (i + x.length) a, by rw [List.length_set, hL], hd'.set ha, hr2.set _ (by omega) hu', below_grown (below_grown hb hgr hb.size hg) (grown_set _ _ _ _) ?_ hg, ?_, ?_⟩
  · have := hb.size; have := hgr.size; omega
  · have h1 := val_set (l := Z.take i ++ Z') (j := i + x.length) (d := a) (by omega)
    rw [e1, Nat.mul_zero, Nat.add_zero] at h1
    rw [h1, val_append, hlt, Nat.pow_add, Nat.mul_assoc, Nat.add_assoc, ← Nat.mul_add, hv', val_take_succ, Nat.mul_add, Nat.mul_add, ← hv]
    have h2 : val Z = val (Z.take i) + 18446744073709551616 ^ i * val (Z.drop i) := by
      have := val_append (Z.take i) (Z.drop i)
      rwa [List.take_append_drop, hlt] at this
    rw [h2, Nat.add_assoc]
    congr 2
    rw [Nat.mul_left_comm]
  · intro j hj
    rw [dg_set_other (by omega)]
    have := dg_app (Z.take i) Z' (j - i)
    rw [hlt, show i + (j - i) = j by omega] at this
    rw [this, hu _ (by omega), dg_drop, show i + (j - i) = j by omega]
    exact hz j (by omega)
set_option maxRecDepth 100000 in
set_option maxHeartbeats 2000000 in
theorem shortProduct_any (sx sy : Value) (x y : List Nat) (w : World) (hx : Rd w sx x) (hy : Rd w sy y) (hdx : Dig x) (hdy : Dig y) (hn : x.length ≤ 2000000) (hm : y.length ≤ 2000000) :
    Calls Tryz.prog 157 #[sx, sy] w fun e w' => ∃ sv, e = .returned sv ∧ Own w' w.heap.size sv (digs (val x * val y)) ∧ Below w.heap.size w w' := by
  have HX := Lib.hid hx
  have HY := Lib.hid hy
  have HDX := Lib.hid hdx
  have HDY := Lib.hid hdy
  obtain ⟨ao, xcap, rfl, ⟨h1, -⟩, h2, -⟩ := hx
  obtain ⟨bo, ycap, rfl, ⟨k1, -⟩, k2, -⟩ := hy
  obtain ⟨N, hN⟩ : ∃ N, x.length = N := ⟨_, rfl⟩
  obtain ⟨M, hM⟩ : ∃ M, y.length = M := ⟨_, rfl⟩
  have HN := Lib.hid hN
  have HM := Lib.hid hM
  obtain ⟨W1, hmk, hrow, hb⟩ := make_int w ((N : Int) + M) (N + M) (by omega) (by omega)
  have HS := Lib.hid (show PRel w x y w.heap.size (N + M) 0 W1 from ⟨_, by simp, dig_zeros _, hrow, hb, by rw [val_zeros]; simp [val], fun j _ => dg_zeros _ _⟩)
  rw [hN] at h1 hn HX ⊢
  rw [hM] at k1 hm HY ⊢
  clear hdx hdy hN hM hrow hb
  go_enter Tryz.func157, Tryz.ntmps157
  go_wp2
  go_loopw [16] (fun iv wr => ∃ i : Nat, i ≤ M ∧ iv = .int .i64 i ∧ PRel w x y w.heap.size (N + M) i wr) (fun iv _ => M - (intOf iv).toNat)
  case atStart => exact ⟨0, Nat.zero_le _, rfl, HS.out⟩
  case round =>
    obtain ⟨i, him, rfl, hrel⟩ := hrel
    obtain ⟨Z, hl, hd, hrow, hb, hv, hz⟩ := hrel
    by_cases hlt : i < M
    · obtain ⟨gy, oy, rfl, hcy⟩ := lenpos HY.out (by omega)
      have c2 := (HY.out.below hb).cellAt i hlt
      have D2 := dg_lt HDY.out i
      have HAP := Lib.hid (addProduct_any w.heap.size i (N + M - i) (N + M - i) (dg y i) (.slice ao N xcap) (Z.take i) (Z.drop i) [] x wr (by rw [List.length_take]; omega) (by rw [List.length_drop]; omega) (by simpa using hrow) (hd.drop _) (HX.out.below hb) (HX.out.apart (Nat.le_refl _)) HDX.out (by rw [HN.out]; omega) D2 (by omega))
      have HL := Lib.hid hl
      have HD := Lib.hid hd
      have HB := Lib.hid hb
      have HV := Lib.hid hv
      have HZ := Lib.hid hz
      have HDy := Lib.hid (show ∃ d, d = dg y i from ⟨_, rfl⟩)
      obtain ⟨d, hdd⟩ := HDy.out
      rw [← hdd] at c2 HAP D2
      have HDd := Lib.hid hdd
      clear hl hd hb hv hz hrow hcy hmk HS hdd HDy
      have e1 : ((i : Int) + (N : Int)).toNat = i + N := by omega
      go_wp2_with (go_at_call 191; refine (HAP.out).mono ?_; rintro e w2 ⟨Z', a, rfl, ⟨hl', hd', ha, hv', hu, hr⟩, hgr⟩; have f1 := hr.free (i + N); have c3 := hr.cell (i + N) (by rw [List.length_append, List.length_append, List.length_take, hl', HL.out, List.length_nil]; omega); have HP := Lib.hid (PRel.next (u := (a : Int)) HL.out HV.out HZ.out HB.out (Nat.le_refl _) (by rw [HN.out]; omega) hl' ((HD.out.take _).append hd') (by rw [← HDd.out]; exact hv') hu hr hgr ha rfl); clear hl' hd' ha hv' hu hr hgr HAP)
      go_roundw
      case rel => exact ⟨i + 1, by omega, by go_num, by have := HP.out; rw [HN.out] at this; exact this⟩
      case measure => simp [intOf]; omega
    · have : i = M := by omega
      subst this
      have hv2 : val Z = val x * val y := by rw [hv, List.take_of_length_le (by rw [HM.out]; omega)]
      have hO : Own wr w.heap.size (.slice (some ⟨w.heap.size, 0, none⟩) (N + i) (N + i)) Z := by
        have := Own.of_row (cap := N + i) hrow (Nat.le_refl _) (by omega) (by unfold maxLen; omega)
        rwa [hl] at this
      have HT := Lib.hid (trim_own _ Z wr hO (by omega) hd)
      rw [hv2] at HT
      have HB := Lib.hid hb
      clear hl hd hrow hb hv hz hv2 hO HS hmk
      go_wp2_with (go_at_call 145; refine (HT.out).mono ?_; rintro e w3 ⟨sv, rfl, hO3, rfl⟩; have HO3 := Lib.hid hO3; clear hO3)
      go_ret
      exact ⟨sv, rfl, HO3.out, HB.out⟩
end Go.Proofs.YtfpooimjjpamoaaGreatDoor.nat
namespace Go.Proofs.YtfpooimjjpamoaaGreatDoor.nat
open Go.RowKit
theorem Dig.strip {l : List Nat} (h : Dig l) : digs (val l) = l.take (digs (val l)).length := by
  induction l with
  | nil => rw [show val [] = 0 from rfl, digs_zero]; rfl
  | cons d l ih =>
    have h1 := h.head
    have ih := ih h.tail
    have hv : val (d :: l) = d + 18446744073709551616 * val l := rfl
    by_cases h0 : val (d :: l) = 0
    · rw [h0, digs_zero]; rfl
    · rw [digs_pos h0, show val (d :: l) % 18446744073709551616 = d by omega, show val (d :: l) / 18446744073709551616 = val l by omega]
      rw [List.length_cons, List.take_succ_cons, ← ih]
theorem trim_x (ao : Option Addr) (n cap : Nat) (l : List Nat) (w : World) (h : Rd w (.slice ao n cap) l) (hn : l.length = n) (hs : n ≤ 4000000) (hd : Dig l) :
    Calls Tryz.prog 145 #[.slice ao n cap] w fun e w' => e = .returned (.slice ao (digs (val l)).length cap) ∧ w' = w := by
  subst hn
  refine (trim_at ao cap l w h hs).mono ?_
  rintro e w' ⟨k, rfl, ⟨hk, hv, hn⟩, rfl⟩
  have he : l.take k = digs (val l) := by rw [← hv]; exact (hn hd).eq_digs
  refine ⟨?_, rfl⟩
  rw [← he, List.length_take, Nat.min_eq_left hk]
theorem Rd.strip {w : World} {ao : Option Addr} {n cap : Nat} {l : List Nat} (h : Rd w (.slice ao n cap) l) (hd : Dig l) : Rd w (.slice ao (digs (val l)).length cap) (digs (val l)) := by
  obtain ⟨ao', cap', he, ⟨h1, h4⟩, h2, h3⟩ := h
  simp only [Value.slice.injEq] at he
  obtain ⟨rfl, rfl, rfl⟩ := he
  have hl := digs_len_val hd
  refine ⟨ao, cap, rfl, ⟨by omega, h4⟩, h2, ?_⟩
  rcases h3 with rfl | ⟨g, off, hg, hc⟩
  · left; rw [show val [] = 0 from rfl, digs_zero]
  · right
    refine ⟨g, off, hg, fun k hk => ?_⟩
    rw [hc k (by omega)]
    have := hd.strip
    rw [show dg (digs (val l)) k = dg l k by rw [this, dg_take hk]]
theorem val_parts (l : List Nat) (k : Nat) (hk : k ≤ l.length) : val l = val (l.take k) + 18446744073709551616 ^ k * val (l.drop k) := by
  have := val_append (l.take k) (l.drop k)
  rwa [List.take_append_drop, List.length_take, Nat.min_eq_left hk] at this
theorem no_carry {V S P c : Nat} (h : V + P * c = S) (hs : S < P) : V = S := by
  rcases Nat.eq_zero_or_pos c with rfl | hc
  · simpa using h
  · have := Nat.le_mul_of_pos_right P hc
    omega
theorem addInto_at (g h T cap : Nat) (sx : Value) (L x : List Nat) (w : World) (hL : L.length = T) (hh : h ≤ T) (hr : Row w g L) (hd : Dig L) (hx : Rd w sx x) (hap : Apart g sx) (hdx : Dig x) (hle : x.length ≤ T - h) (hsum : val L + 18446744073709551616 ^ h * val x < 18446744073709551616 ^ T) (hT : T ≤ 4000000) (hcap : T - h ≤ cap) (hcm : cap ≤ maxLen) :
    Calls Tryz.prog 156 #[.slice (some ⟨g, h, none⟩) (T - h) cap, sx] w fun e w' => ∃ (c : Nat) (L' : List Nat), e = .returned (.int .u64 (c : Nat)) ∧ (L'.length = T ∧ Dig L' ∧ val L' = val L + 18446744073709551616 ^ h * val x ∧ Row w' g L') ∧ w.grownBy w' (some g) := by
  have hlt : (L.take h).length = h := by rw [List.length_take]; omega
  refine (addInto_any g h (T - h) cap sx (L.take h) (L.drop h) [] x w hlt (by rw [List.length_drop]; omega) (by simpa using hr) (hd.drop _) hx hap hdx hle (by omega) hcap hcm).mono ?_
  rintro e w' ⟨Z', c, rfl, ⟨hl, hd', hc, hv, hrow⟩, hgr⟩
  refine ⟨c, L.take h ++ Z', rfl, ⟨by rw [List.length_append, hlt, hl]; omega, (hd.take _).append hd', ?_, by simpa using hrow⟩, hgr⟩
  refine no_carry (P := 18446744073709551616 ^ T) (c := c) ?_ hsum
  rw [val_append, hlt, val_parts L h (by omega), Nat.add_assoc, Nat.add_assoc, ← Nat.mul_add, ← hv, Nat.mul_add, ← Nat.mul_assoc, ← Nat.pow_add, show h + (T - h) = T by omega]
def ProdIs (n : Nat) : Prop := ∀ (sx sy : Value) (x y : List Nat) (w : World), Rd w sx x → Rd w sy y → Dig x → Dig y → x.length ≤ 1000000 → y.length ≤ 1000000 → (x.length ≤ n ∨ y.length ≤ n) →
  Calls Tryz.prog 115 #[sx, sy] w fun e w' => ∃ sv, e = .returned sv ∧ Own w' w.heap.size sv (digs (val x * val y)) ∧ Below w.heap.size w w'
theorem kara (xl xh yl yh P : Nat) : xl * yl + P * ((xl + xh) * (yl + yh) - xl * yl - xh * yh) + P * P * (xh * yh) = (xl + P * xh) * (yl + P * yh) ∧ xl * yl + xh * yh ≤ (xl + xh) * (yl + yh) ∧ (xl + xh) * (yl + yh) - xl * yl - xh * yh = xl * yh + xh * yl := by
  have e : (xl + xh) * (yl + yh) = xl * yl + xh * yh + (xl * yh + xh * yl) := by
    rw [Nat.add_mul, Nat.mul_add, Nat.mul_add]; omega
  have e2 : (xl + xh) * (yl + yh) - xl * yl - xh * yh = xl * yh + xh * yl := by omega
  refine ⟨?_, by omega, e2⟩
  rw [e2, Nat.add_mul, Nat.mul_add, Nat.mul_add, Nat.mul_add]
  have a1 : P * (xl * yh) = xl * (P * yh) := by rw [Nat.mul_left_comm]
  have a2 : P * (xh * yl) = P * xh * yl := by rw [Nat.mul_assoc]
  have a3 : P * P * (xh * yh) = P * xh * (P * yh) := by rw [Nat.mul_mul_mul_comm]
  rw [a1, a2, a3]
  omega
theorem prod_v {n : Nat} (IH : ProdIs n) {sx sy : Value} {x y : List Nat} {X Y : Nat} {w : World} (hX : val x = X) (hY : val y = Y) (hx : Rd w sx x) (hy : Rd w sy y) (hdx : Dig x) (hdy : Dig y) (hn : x.length ≤ 1000000) (hm : y.length ≤ 1000000) (h : x.length ≤ n ∨ y.length ≤ n) :
    Calls Tryz.prog 115 #[sx, sy] w fun e w' => ∃ sv, e = .returned sv ∧ Own w' w.heap.size sv (digs (X * Y)) ∧ Below w.heap.size w w' := by
  subst hX; subst hY
  exact IH sx sy x y w hx hy hdx hdy hn hm h
theorem sum_v {sx sy : Value} {x y : List Nat} {X Y : Nat} {w : World} (hX : val x = X) (hY : val y = Y) (hx : Rd w sx x) (hy : Rd w sy y) (hdx : Dig x) (hdy : Dig y) (hn : x.length ≤ 2000000) (hm : y.length ≤ 2000000) :
    Calls Tryz.prog 114 #[sx, sy] w fun e w' => ∃ sv, e = .returned sv ∧ Own w' w.heap.size sv (digs (X + Y)) ∧ Below w.heap.size w w' := by
  subst hX; subst hY
  exact sum_any sx sy x y w hx hy hdx hdy hn hm
theorem pow_two' (a : Nat) : 18446744073709551616 ^ a * 18446744073709551616 ^ a = 18446744073709551616 ^ (2 * a) := by rw [← Nat.pow_add]; congr 1; omega
theorem mul_pow_lt {a b p q : Nat} (ha : a < 18446744073709551616 ^ p) (hb : b < 18446744073709551616 ^ q) : a * b < 18446744073709551616 ^ (p + q) := by
  rw [Nat.pow_add]
  exact Nat.mul_lt_mul'' ha hb
theorem add_pow_lt {a b p : Nat} (ha : a < 18446744073709551616 ^ p) (hb : b < 18446744073709551616 ^ p) : a + b < 18446744073709551616 ^ (p + 1) := by
  have h2 : 18446744073709551616 ^ (p + 1) = 18446744073709551616 * 18446744073709551616 ^ p := by rw [Nat.pow_succ, Nat.mul_comm]
  rw [h2]
  generalize 18446744073709551616 ^ p = P at *
  omega
theorem kara_sizes {n h X vx vy xl xh yl yh : Nat} (hn : n ≤ 2 * h) (h2 : h + 2 ≤ n) (h3 : 2 * h ≤ n + 1) (hX : X = vx * vy) (ex : vx = xl + 18446744073709551616 ^ h * xh) (ey : vy = yl + 18446744073709551616 ^ h * yh)
    (bx : vx < 18446744073709551616 ^ n) (by' : vy < 18446744073709551616 ^ n) (b1 : xl < 18446744073709551616 ^ h) (b2 : xh < 18446744073709551616 ^ (n - h)) (b3 : yl < 18446744073709551616 ^ h) (b4 : yh < 18446744073709551616 ^ (n - h)) :
    (digs (xl * yl)).length ≤ 2 * h ∧ (digs (xh * yh)).length ≤ 2 * n - 2 * h ∧ (digs (xl + xh)).length ≤ h + 1 ∧ (digs (yl + yh)).length ≤ h + 1 ∧ (digs ((xl + xh) * (yl + yh))).length ≤ 2 * h + 2 ∧
    xl * yl + xh * yh ≤ (xl + xh) * (yl + yh) ∧ (digs ((xl + xh) * (yl + yh) - xl * yl - xh * yh)).length ≤ 2 * n - h ∧
    xl * yl + 18446744073709551616 ^ h * ((xl + xh) * (yl + yh) - xl * yl - xh * yh) < 18446744073709551616 ^ (2 * n) ∧
    xl * yl + 18446744073709551616 ^ h * ((xl + xh) * (yl + yh) - xl * yl - xh * yh) + 18446744073709551616 ^ (2 * h) * (xh * yh) = X ∧ X < 18446744073709551616 ^ (2 * n) := by
  obtain ⟨k1, k2, k3⟩ := kara xl xh yl yh (18446744073709551616 ^ h)
  have hXn : X < 18446744073709551616 ^ (2 * n) := by
    have := mul_pow_lt bx by'
    rw [hX]
    rwa [show n + n = 2 * n by omega] at this
  rw [pow_two', ← ex, ← ey, ← hX] at k1
  have b2' : xh < 18446744073709551616 ^ h := Nat.lt_of_lt_of_le b2 (pow_le (by omega))
  have b4' : yh < 18446744073709551616 ^ h := Nat.lt_of_lt_of_le b4 (pow_le (by omega))
  have s1 := add_pow_lt b1 b2'
  have s2 := add_pow_lt b3 b4'
  have s3 := mul_pow_lt s1 s2
  have m1 : xl * yh < 18446744073709551616 ^ (2 * n - h - 1) := Nat.lt_of_lt_of_le (mul_pow_lt b1 b4) (pow_le (by omega))
  have m2 : xh * yl < 18446744073709551616 ^ (2 * n - h - 1) := Nat.lt_of_lt_of_le (mul_pow_lt b2 b3) (pow_le (by omega))
  have m3 := add_pow_lt m1 m2
  rw [← k3, show 2 * n - h - 1 + 1 = 2 * n - h by omega] at m3
  refine ⟨digs_len (Nat.lt_of_lt_of_le (mul_pow_lt b1 b3) (pow_le (by omega))), digs_len (Nat.lt_of_lt_of_le (mul_pow_lt b2 b4) (pow_le (by omega))), digs_len s1, digs_len s2, digs_len (Nat.lt_of_lt_of_le s3 (pow_le (by omega))), k2, digs_len m3, ?_, k1, hXn⟩
  refine Nat.lt_of_le_of_lt ?_ hXn
  rw [← k1]
  exact Nat.le_add_right _ _
end Go.Proofs.YtfpooimjjpamoaaGreatDoor.nat
namespace Go.Proofs.YtfpooimjjpamoaaGreatDoor.nat
open Go.RowKit
def Est (U u A B q r : Nat) : Prop := q * A + r = U ∧ (U * 4294967296 + u) / (A * 4294967296 + B) ≤ q
theorem Est.init {U u A B : Nat} (hu : u < 4294967296) (hA : 0 < A) : Est U u A B (U / A) (U % A) := by
  refine ⟨by rw [Nat.mul_comm]; exact Nat.div_add_mod U A, ?_⟩
  have h1 : (U * 4294967296 + u) / (A * 4294967296 + B) ≤ (U * 4294967296 + u) / (4294967296 * A) := Nat.div_le_div_left (by omega) (by omega)
  rw [← Nat.div_div_eq_div_mul, show (U * 4294967296 + u) / 4294967296 = U by omega] at h1
  exact h1
theorem Est.times {U u A B q r : Nat} (h : Est U u A B q r) : q * (A * 4294967296 + B) + r * 4294967296 = U * 4294967296 + q * B := by
  have h1 := h.1
  have : q * (A * 4294967296 + B) = q * A * 4294967296 + q * B := by rw [Nat.mul_add, Nat.mul_assoc]
  omega
theorem Est.le {U u A B q r : Nat} (h : Est U u A B q r) (hA : 0 < A) (ht : q * B ≤ 4294967296 * r + u) : q = (U * 4294967296 + u) / (A * 4294967296 + B) := by
  have h1 := h.times
  have h2 := h.2
  refine Nat.le_antisymm ?_ h2
  rw [Nat.le_div_iff_mul_le (by omega)]
  omega
theorem Est.next {U u A B q r : Nat} (h : Est U u A B q r) (hY : U < A * 4294967296 + B) (hu : u < 4294967296) (ht : 4294967296 ≤ q ∨ 4294967296 * r + u < q * B) : 0 < q ∧ Est U u A B (q - 1) (r + A) := by
  have h1 := h.times
  have h2 := h.2
  have hlt : (U * 4294967296 + u) / (A * 4294967296 + B) < q := by
    rcases ht with h3 | h3
    · refine Nat.lt_of_lt_of_le ?_ h3
      rw [Nat.div_lt_iff_lt_mul (by omega)]
      have : U * 4294967296 + 4294967296 ≤ (A * 4294967296 + B) * 4294967296 := by omega
      rw [Nat.mul_comm 4294967296]
      omega
    · rw [Nat.div_lt_iff_lt_mul (by omega)]
      omega
  have hq0 : 0 < q := Nat.lt_of_le_of_lt (Nat.zero_le _) hlt
  refine ⟨hq0, ?_, Nat.le_sub_one_of_lt hlt⟩
  have h3 := h.1
  have : (q - 1) * A + A = q * A := by
    rw [← Nat.succ_mul]; congr 1; omega
  omega
theorem Est.out {U u A B q r : Nat} (h : Est U u A B q r) (hA : 0 < A) (hB : B < 4294967296) (hY : U < A * 4294967296 + B) (hr : 4294967296 ≤ r) : q < 4294967296 ∧ q = (U * 4294967296 + u) / (A * 4294967296 + B) := by
  have h1 := h.1
  have hq : q < 4294967296 := by
    rcases Nat.lt_or_ge q 4294967296 with h2 | h2
    · exact h2
    · have := Nat.mul_le_mul_right A h2
      omega
  refine ⟨hq, h.le hA ?_⟩
  have : q * B ≤ 4294967295 * 4294967295 := Nat.mul_le_mul (by omega) (by omega)
  omega
theorem est_lt {U u A B : Nat} (hu : u < 4294967296) (hY : U < A * 4294967296 + B) : (U * 4294967296 + u) / (A * 4294967296 + B) < 4294967296 := by
  rw [Nat.div_lt_iff_lt_mul (by omega)]
  have : U * 4294967296 + 4294967296 ≤ (A * 4294967296 + B) * 4294967296 := by omega
  rw [Nat.mul_comm 4294967296]
  omega
theorem rest_aux {U u P R : Nat} (h : P + R = U * 4294967296 + u) (hR : R < 18446744073709551616) :
    IntKind.u64.wrap ((((U * 4294967296 % 18446744073709551616 + u) % 18446744073709551616 : Nat) : Int) - ((P % 18446744073709551616 : Nat) : Int)) = (R : Int) := by
  rw [IntKind.wrap_u64]
  omega
theorem rest_wrap {U u Y q : Nat} (hq : q = (U * 4294967296 + u) / Y) (hY0 : 0 < Y) (hY : Y < 18446744073709551616) :
    IntKind.u64.wrap ((((U * 4294967296 % 18446744073709551616 + u) % 18446744073709551616 : Nat) : Int) - ((q * Y % 18446744073709551616 : Nat) : Int)) = (((U * 4294967296 + u) % Y : Nat) : Int) := by
  refine rest_aux ?_ (Nat.lt_trans (Nat.mod_lt _ hY0) hY)
  rw [hq, Nat.mul_comm]
  exact Nat.div_add_mod _ _
theorem shift_parts {hi lo y s : Nat} (hs : s ≤ 63) (hh : hi < y) (hl : lo < 18446744073709551616) (hy1 : y * 2 ^ s < 18446744073709551616) :
    ∃ H L V : Nat, H = hi * 2 ^ s ∧ L = lo / 2 ^ (64 - s) ∧ V = lo * 2 ^ s % 18446744073709551616 ∧ H < 18446744073709551616 ∧ H + L < y * 2 ^ s ∧ (H + L) * 18446744073709551616 + V = (hi * 18446744073709551616 + lo) * 2 ^ s ∧ H ||| L = H + L := by
  refine ⟨_, _, _, rfl, rfl, rfl, ?_, ?_, ?_, ?_⟩
  · exact Nat.lt_of_le_of_lt (Nat.mul_le_mul_right _ (Nat.le_of_lt hh)) hy1
  · have hL : lo / 2 ^ (64 - s) < 2 ^ s := by
      rw [Nat.div_lt_iff_lt_mul (Nat.pow_pos (by omega)), ← Nat.pow_add, show s + (64 - s) = 64 by omega]
      exact hl
    have : (hi + 1) * 2 ^ s ≤ y * 2 ^ s := Nat.mul_le_mul_right _ hh
    rw [Nat.succ_mul] at this
    omega
  · have e : 2 ^ (64 - s) * 2 ^ s = 18446744073709551616 := by rw [← Nat.pow_add, show 64 - s + s = 64 by omega]
    have h1 : lo * 2 ^ s / 18446744073709551616 = lo / 2 ^ (64 - s) := by
      rw [← e, Nat.mul_div_mul_right _ _ (Nat.pow_pos (by omega))]
    have h2 := Nat.div_add_mod (lo * 2 ^ s) 18446744073709551616
    rw [h1] at h2
    rw [Nat.add_mul, Nat.add_mul, Nat.mul_right_comm hi]
    omega
  · have hL : lo / 2 ^ (64 - s) < 2 ^ s := by
      rw [Nat.div_lt_iff_lt_mul (Nat.pow_pos (by omega)), ← Nat.pow_add, show s + (64 - s) = 64 by omega]
      exact hl
    have := Nat.shiftLeft_add_eq_or_of_lt hL hi
    rw [Nat.shiftLeft_eq] at this
    exact this.symm
theorem halves_aux {N y s Y q1 r1 q0 r2 V u0 : Nat} (hY : Y = y * 2 ^ s) (hN : V * 4294967296 + u0 = N * 2 ^ s) (d1 : Y * q1 + r1 = V) (d2 : Y * q0 + r2 = r1 * 4294967296 + u0) (m2 : r2 < Y) :
    (q1 * 4294967296 + q0) * y + r2 / 2 ^ s = N ∧ r2 / 2 ^ s < y := by
  have hp : 0 < 2 ^ s := Nat.pow_pos (by omega)
  have e : Y * (q1 * 4294967296 + q0) + r2 = N * 2 ^ s := by
    rw [← hN, ← d1, Nat.mul_add, ← Nat.mul_assoc, Nat.add_mul, Nat.add_assoc, d2, Nat.add_assoc]
  have e2 : N * 2 ^ s = 2 ^ s * (y * (q1 * 4294967296 + q0)) + r2 := by
    rw [← e, hY, Nat.mul_comm y, Nat.mul_assoc]
  have hd : 2 ^ s ∣ r2 := by
    have h1 : 2 ^ s ∣ N * 2 ^ s := Nat.dvd_mul_left _ _
    rw [e2] at h1
    exact (Nat.dvd_add_right (Nat.dvd_mul_right _ _)).1 h1
  obtain ⟨r, rfl⟩ := hd
  rw [Nat.mul_div_cancel_left _ hp]
  constructor
  · rw [← Nat.mul_add, Nat.mul_comm] at e2
    have := Nat.eq_of_mul_eq_mul_left hp e2
    rw [Nat.mul_comm _ y]
    exact this.symm
  · rw [hY, Nat.mul_comm y] at m2
    exact Nat.lt_of_mul_lt_mul_left m2
theorem two_halves {N y s Y U u1 u0 : Nat} (hY : Y = y * 2 ^ s) (hy : 0 < y) (hN : (U * 4294967296 + u1) * 4294967296 + u0 = N * 2 ^ s) :
    ((U * 4294967296 + u1) / Y * 4294967296 + ((U * 4294967296 + u1) % Y * 4294967296 + u0) / Y) * y + ((U * 4294967296 + u1) % Y * 4294967296 + u0) % Y / 2 ^ s = N ∧ ((U * 4294967296 + u1) % Y * 4294967296 + u0) % Y / 2 ^ s < y :=
  halves_aux hY hN (Nat.div_add_mod _ _) (Nat.div_add_mod _ _) (Nat.mod_lt _ (by rw [hY]; exact Nat.mul_pos hy (Nat.pow_pos (by omega))))
end Go.Proofs.YtfpooimjjpamoaaGreatDoor.nat
