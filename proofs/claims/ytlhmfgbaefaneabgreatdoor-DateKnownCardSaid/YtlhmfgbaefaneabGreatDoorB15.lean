/-
  The steps of the walks, part 15: Sum, Prod1, Short, Kara.
-/
import Derived.Deep.RegionHeld3
import Derived.Test.YtlhmfgbaefaneabGreatDoorB14
namespace Go.Proofs.YtlhmfgbaefaneabGreatDoor.nat
open Go.RowKit
theorem dig_room {x : List Nat} (h : Dig x) (n : Nat) : Dig (x ++ List.replicate n 0) := h.append (dig_zeros n)
theorem val_room (x : List Nat) (n : Nat) : val (x ++ List.replicate n 0) = val x := by rw [val_append, val_zeros]; omega
theorem len_room {x : List Nat} {n : Nat} (h : x.length ≤ n) : (x ++ List.replicate (n - x.length) 0).length = n := by simp; omega
theorem Row.whole {w : World} {g : Nat} {Z : List Nat} (h : Row w g Z) : Row w g ([] ++ (Z ++ [])) := by simpa using h
theorem Row.unwhole {w : World} {g : Nat} {Z : List Nat} (h : Row w g ([] ++ (Z ++ []))) : Row w g Z := by simpa using h
theorem pow_le {a b : Nat} (h : a ≤ b) : 18446744073709551616 ^ a ≤ 18446744073709551616 ^ b := Nat.pow_le_pow_right (by omega) h
theorem val_lt' {l : List Nat} {n : Nat} (h : Dig l) (hl : l.length ≤ n) : val l < 18446744073709551616 ^ n := Nat.lt_of_lt_of_le (val_lt h) (pow_le hl)
theorem digs_len {x n : Nat} (h : x < 18446744073709551616 ^ n) : (digs x).length ≤ n := by
  by_cases hne : digs x = []
  · rw [hne]; simp
  · have h1 := (norm_digs x).low hne
    rw [val_digs] at h1
    have : 18446744073709551616 ^ ((digs x).length - 1) < 18446744073709551616 ^ n := Nat.lt_of_le_of_lt h1 h
    have := (Nat.pow_lt_pow_iff_right (a := 18446744073709551616) (by omega)).1 this
    omega
theorem digs_len_val {l : List Nat} (h : Dig l) : (digs (val l)).length ≤ l.length := digs_len (val_lt h)
theorem sum_carry {V X Y c S : Nat} (h : V + 18446744073709551616 ^ (S + 1) * c = X + Y) (hx : X < 18446744073709551616 ^ S) (hy : Y < 18446744073709551616 ^ S) : V = X + Y := by
  rcases Nat.eq_zero_or_pos c with rfl | hc
  · rw [Nat.mul_zero] at h
    exact h
  · have h1 := Nat.le_mul_of_pos_right (18446744073709551616 ^ (S + 1)) hc
    have h2 : 18446744073709551616 ^ (S + 1) = 18446744073709551616 * 18446744073709551616 ^ S := by rw [Nat.pow_succ, Nat.mul_comm]
    have h3 : 18446744073709551616 * 18446744073709551616 ^ S ≤ 18446744073709551616 ^ (S + 1) * c := by rw [← h2]; exact h1
    clear h1 h2
    generalize 18446744073709551616 ^ (S + 1) * c = T at *
    generalize 18446744073709551616 ^ S = P at *
    omega
theorem room_int (sx : Value) (x : List Nat) (i : Int) (n : Nat) (w : World) (hi : i = n) (hx : Rd w sx x) (hle : x.length ≤ n) (hn : n ≤ 8000000) :
    Calls Tryz.prog 187 #[sx, .int .i64 i] w fun e w' => e = .returned (.slice (some ⟨w.heap.size, 0, none⟩) n n) ∧ Row w' w.heap.size (x ++ List.replicate (n - x.length) 0) ∧ Below w.heap.size w w' := by
  subst hi
  exact room_any sx x n w hx hle hn
set_option maxRecDepth 100000 in
set_option maxHeartbeats 1000000 in
theorem sum_any (sx sy : Value) (x y : List Nat) (w : World) (hx : Rd w sx x) (hy : Rd w sy y) (hdx : Dig x) (hdy : Dig y) (hn : x.length ≤ 2000000) (hm : y.length ≤ 2000000) :
    Calls Tryz.prog 161 #[sx, sy] w fun e w' => ∃ sv, e = .returned sv ∧ Own w' w.heap.size sv (digs (val x + val y)) ∧ Below w.heap.size w w' := by
  have HX := Lib.hid hx
  have HY := Lib.hid hy
  have HDX := Lib.hid hdx
  have HDY := Lib.hid hdy
  obtain ⟨ao, xcap, rfl, ⟨h1, -⟩, h2, -⟩ := hx
  obtain ⟨bo, ycap, rfl, ⟨k1, -⟩, k2, -⟩ := hy
  obtain ⟨N, hN⟩ : ∃ N, x.length = N := ⟨_, rfl⟩
  obtain ⟨M, hM⟩ : ∃ M, y.length = M := ⟨_, rfl⟩
  obtain ⟨S, hS, hS1, hS2⟩ : ∃ S : Nat, max (N : Int) (M : Int) = (S : Int) ∧ N ≤ S ∧ M ≤ S ∧ S ≤ 2000000 := ⟨max N M, by omega, by omega, by omega, by omega⟩
  obtain ⟨hS2, hS3⟩ := hS2
  have HN := Lib.hid hN
  have HM := Lib.hid hM
  have HS := Lib.hid hS
  rw [hN] at h1 hn HX ⊢
  rw [hM] at k1 hm HY ⊢
  clear hdx hdy hN hM hS
  go_enter Tryz.func161, Tryz.ntmps161
  go_wp2_with (go_at_call 187; refine (room_int _ x _ (S + 1) w (by rw [HS.out]; omega) HX.out (by rw [HN.out]; omega) (by omega)).mono ?_; rintro e w1 ⟨rfl, hr1, hb1⟩)
  have HB1 := Lib.hid hb1
  have hadd := addInto_any w.heap.size 0 (S + 1) (S + 1) (.slice bo M ycap) [] (x ++ List.replicate (S + 1 - x.length) 0) [] y w1 rfl (len_room (by rw [HN.out]; omega)) hr1.whole (dig_room HDX.out _) (HY.out.below hb1) (HY.out.apart (Nat.le_refl _)) HDY.out (by rw [HM.out]; omega) (by omega) (Nat.le_refl _) (by unfold maxLen; omega)
  have HAD := Lib.hid hadd
  clear hadd hr1 hb1
  go_wp2_with (go_at_call 146; refine (HAD.out).mono ?_; rintro e w2 ⟨Z', c, rfl, ⟨hl, hd, hc, hv, hrow⟩, hgr⟩)
  have hc0 : val Z' = val x + val y := by
    rw [val_room] at hv
    exact sum_carry hv (val_lt' HDX.out (by rw [HN.out]; exact hS1)) (val_lt' HDY.out (by rw [HM.out]; exact hS2))
  have hO : Own w2 w.heap.size (.slice (some ⟨w.heap.size, 0, none⟩) (S + 1) (S + 1)) Z' := by
    have := Own.of_row (cap := S + 1) hrow.unwhole (Nat.le_refl _) (by omega) (by unfold maxLen; omega)
    rwa [hl] at this
  have HT := Lib.hid (trim_own _ Z' w2 hO (by omega) hd)
  have HB2 := Lib.hid (below_grown HB1.out hgr HB1.out.size (Nat.le_refl _))
  rw [hc0] at HT
  clear hl hd hc hv hrow hgr hO hc0
  go_wp2_with (go_at_call 144; refine (HT.out).mono ?_; rintro e w3 ⟨sv, rfl, hO3, rfl⟩; have HO3 := Lib.hid hO3; clear hO3)
  go_ret
  exact ⟨sv, rfl, HO3.out, HB2.out⟩
set_option maxRecDepth 100000 in
set_option maxHeartbeats 1000000 in
theorem subFrom_own {B : Nat} (sv sx : Value) (z x : List Nat) (w : World) (hO : Own w B sv z) (hx : Rd w sx x) (hdz : Dig z) (hnx : Norm x) (hl : x.length ≤ z.length) (hv : val x ≤ val z) (hn : z.length ≤ 4000000) (hap : ∀ g, B ≤ g → Apart g sx) :
    Calls Tryz.prog 186 #[sv, sx] w fun e w' => ∃ z', e = .returned (.tuple #[]) ∧ (z'.length = z.length ∧ Dig z' ∧ val z' + val x = val z ∧ Own w' B sv z') ∧ Below B w w' := by
  have hO' := hO
  obtain ⟨ao, cap, rfl, ⟨h1, h4⟩, h2, h3⟩ := hO'
  rcases h3 with rfl | ⟨g, rfl, hB, hrow⟩
  · obtain rfl : x = [] := List.eq_nil_of_length_eq_zero (by simpa using hl)
    obtain ⟨bo, xcap, rfl, -⟩ := hx
    have HO := Lib.hid hO
    simp only [List.length_nil]
    clear hO hap h4 hdz hnx hl hv hn
    go_enter Tryz.func186, Tryz.ntmps186
    go_wp2
    go_loopw [4, 10] (fun cv iv wr => iv = .int .i64 0 ∧ cv = .int .u64 0 ∧ w = wr) (fun _ _ _ => 0)
    case atStart => exact ⟨rfl, rfl, rfl⟩
    case round =>
      obtain ⟨rfl, rfl, rfl⟩ := hrel
      go_wp2
      go_loopw [4, 7] (fun cv iv wr => iv = .int .i64 0 ∧ cv = .int .u64 0 ∧ w = wr) (fun _ _ _ => 0)
      case atStart => exact ⟨rfl, rfl, rfl⟩
      case round =>
        obtain ⟨rfl, rfl, rfl⟩ := hrel
        go_wp2
        refine bodyPost_end (results_none rfl _ _ _) rfl ?_
        exact ⟨[], rfl, ⟨rfl, Dig.nil, rfl, HO.out⟩, Below.refl _ _⟩
  · refine (subFrom_any g 0 z.length cap sx [] z [] x w rfl rfl hrow.whole hdz hx (hap g hB) hnx.1 hl hv hn h1 h2).mono ?_
    rintro e w' ⟨Z', rfl, ⟨hl', hd', hv', hr'⟩, hgr⟩
    refine ⟨Z', rfl, ⟨hl', hd', hv', ?_⟩, ?_⟩
    · have := Own.of_row (cap := cap) hr'.unwhole hB (by omega) h2
      rwa [hl'] at this
    · exact ⟨hgr.os, hgr.tape, hgr.output, hgr.size, fun k hk => by
        by_cases hkw : k < w.heap.size
        · exact hgr.block k hkw (by simp; omega)
        · have := hrow.lt
          omega⟩
set_option maxRecDepth 100000 in
set_option maxHeartbeats 1000000 in
theorem difference_any (sx sy : Value) (x y : List Nat) (w : World) (hx : Rd w sx x) (hy : Rd w sy y) (hdx : Dig x) (hdy : Norm y) (hle : val y ≤ val x) (hn : x.length ≤ 2000000) :
    Calls Tryz.prog 183 #[sx, sy] w fun e w' => ∃ sv, e = .returned sv ∧ Own w' w.heap.size sv (digs (val x - val y)) ∧ Below w.heap.size w w' := by
  have HX := Lib.hid hx
  have HY := Lib.hid hy
  have HDX := Lib.hid hdx
  have HDY := Lib.hid hdy
  have HLE := Lib.hid hle
  have hlen : y.length ≤ x.length := by
    rw [hdy.eq_digs]
    exact digs_len (Nat.lt_of_le_of_lt hle (val_lt hdx))
  have HL := Lib.hid hlen
  clear hx hy hdx hdy hle hlen
  go_enter Tryz.func183, Tryz.ntmps183
  go_wp2_with (go_at_call 166; refine (Clone_any _ x w HX.out (by omega)).mono ?_; rintro e w1 ⟨sv, rfl, hO, hb1⟩)
  have HO := Lib.hid hO
  have HB1 := Lib.hid hb1
  have HSF := Lib.hid (subFrom_own sv sy x y w1 hO (HY.out.below hb1) HDX.out HDY.out HL.out HLE.out (by omega) (fun g hg => HY.out.apart hg))
  clear hO hb1
  go_wp2_with (go_at_call 186; refine (HSF.out).mono ?_; rintro e w2 ⟨Z', rfl, ⟨hl, hd, hv, hO2⟩, hb2⟩)
  have HT := Lib.hid (trim_own _ Z' w2 hO2 (by omega) hd)
  have HB2 := Lib.hid (HB1.out.trans hb2)
  rw [show val Z' = val x - val y by omega] at HT
  clear hl hd hv hO2 hb2 HSF
  go_wp2_with (go_at_call 144; refine (HT.out).mono ?_; rintro e w3 ⟨sv', rfl, hO3, rfl⟩; have HO3 := Lib.hid hO3; clear hO3)
  go_ret
  exact ⟨sv', rfl, HO3.out, HB2.out⟩
end Go.Proofs.YtlhmfgbaefaneabGreatDoor.nat
namespace Go.Proofs.YtlhmfgbaefaneabGreatDoor.nat
open Go.RowKit
theorem mul64_ex (x y : Nat) (hx : x < 18446744073709551616) (hy : y < 18446744073709551616) : ∃ h l : Nat, h < 18446744073709551616 ∧ l < 18446744073709551616 ∧ l + 18446744073709551616 * h = x * y ∧
    ∀ w, Calls Tryz.prog 174 #[.int .u64 (x : Int), .int .u64 (y : Int)] w fun e w' => e = .returned (.tuple #[.int .u64 (h : Int), .int .u64 (l : Int)]) ∧ w' = w :=
  ⟨x * y / 18446744073709551616, x * y % 18446744073709551616, Nat.div_lt_of_lt_mul (Nat.mul_lt_mul'' hx hy), Nat.mod_lt _ (by omega), Nat.mod_add_div _ _, fun w => Mul64_any x y hx hy w⟩
theorem mac_ex (z x y a : Nat) (hz : z < 18446744073709551616) (hx : x < 18446744073709551616) (hy : y < 18446744073709551616) (ha : a < 18446744073709551616) : ∃ h l s1 k1 s k2 : Nat,
    (∀ w, Calls Tryz.prog 174 #[.int .u64 (x : Int), .int .u64 (y : Int)] w fun e w' => e = .returned (.tuple #[.int .u64 (h : Int), .int .u64 (l : Int)]) ∧ w' = w) ∧
    (∀ w, (callFunc 185 #[.int .u64 (l : Int), .int .u64 (a : Int), .int .u64 0]).run Tryz.prog w = .ok (.value (.tuple #[.int .u64 (s1 : Int), .int .u64 (k1 : Int)])) w) ∧
    (∀ w, (callFunc 185 #[.int .u64 (z : Int), .int .u64 (s1 : Int), .int .u64 0]).run Tryz.prog w = .ok (.value (.tuple #[.int .u64 (s : Int), .int .u64 (k2 : Int)])) w) ∧
    s < 18446744073709551616 ∧ h + k1 < 18446744073709551616 ∧ h + k1 + k2 < 18446744073709551616 ∧ s + 18446744073709551616 * (h + k1 + k2) = z + x * y + a := by
  obtain ⟨h, l, b1, b2, e1, r1⟩ := mul64_ex x y hx hy
  obtain ⟨s1, k1, b3, b4, e2, r2⟩ := add64_ex l a 0 b2 ha (by omega)
  obtain ⟨s, k2, b5, b6, e3, r3⟩ := add64_ex z s1 0 hz b3 (by omega)
  have hp : x * y ≤ 18446744073709551615 * 18446744073709551615 := Nat.mul_le_mul (by omega) (by omega)
  exact ⟨h, l, s1, k1, s, k2, r1, r2, r3, b5, by omega, by omega, by omega⟩
theorem msc_ex (z x y a : Nat) (hz : z < 18446744073709551616) (hx : x < 18446744073709551616) (hy : y < 18446744073709551616) (ha : a < 18446744073709551616) : ∃ h l s1 k1 s k2 : Nat,
    (∀ w, Calls Tryz.prog 174 #[.int .u64 (x : Int), .int .u64 (y : Int)] w fun e w' => e = .returned (.tuple #[.int .u64 (h : Int), .int .u64 (l : Int)]) ∧ w' = w) ∧
    (∀ w, (callFunc 185 #[.int .u64 (l : Int), .int .u64 (a : Int), .int .u64 0]).run Tryz.prog w = .ok (.value (.tuple #[.int .u64 (s1 : Int), .int .u64 (k1 : Int)])) w) ∧
    (∀ w, (callFunc 223 #[.int .u64 (z : Int), .int .u64 (s1 : Int), .int .u64 0]).run Tryz.prog w = .ok (.value (.tuple #[.int .u64 (s : Int), .int .u64 (k2 : Int)])) w) ∧
    s < 18446744073709551616 ∧ h + k1 < 18446744073709551616 ∧ h + k1 + k2 < 18446744073709551616 ∧ s + x * y + a = z + 18446744073709551616 * (h + k1 + k2) := by
  obtain ⟨h, l, b1, b2, e1, r1⟩ := mul64_ex x y hx hy
  obtain ⟨s1, k1, b3, b4, e2, r2⟩ := add64_ex l a 0 b2 ha (by omega)
  obtain ⟨s, k2, b5, b6, e3, r3⟩ := sub64_ex z s1 0 hz b3 (by omega)
  have hp : x * y ≤ 18446744073709551615 * 18446744073709551615 := Nat.mul_le_mul (by omega) (by omega)
  exact ⟨h, l, s1, k1, s, k2, r1, r2, r3, b5, by omega, by omega, by omega⟩
def MRel (w : World) (g y : Nat) (A Z C x : List Nat) (i a : Nat) (wr : World) : Prop :=
  ∃ Z', Z'.length = Z.length ∧ Dig Z' ∧ a < 18446744073709551616 ∧ Row wr g (A ++ (Z' ++ C)) ∧ w.grownBy wr (some g) ∧ val Z' + 18446744073709551616 ^ i * a = val Z + val (x.take i) * y ∧ ∀ j, i ≤ j → dg Z' j = dg Z j
theorem MRel.next {w wr : World} {g y off : Nat} {A Z C x Z' : List Nat} {i a s k : Nat} (h0 : Z'.length = Z.length) (h1 : Dig Z') (h3 : Row wr g (A ++ (Z' ++ C))) (h4 : w.grownBy wr (some g)) (h5 : val Z' + 18446744073709551616 ^ i * a = val Z + val (x.take i) * y) (h6 : ∀ j, i ≤ j → dg Z' j = dg Z j)
    (hA : A.length = off) (hi : i < Z.length) (hs : s < 18446744073709551616) (hk : k < 18446744073709551616) (he : s + 18446744073709551616 * k = dg Z' i + dg x i * y + a) : MRel w g y A Z C x (i + 1) k (wr.setCell ⟨g, off + i, none⟩ (.int .u64 (s : Nat))) :=
  ⟨Z'.set i s, by simpa using h0, h1.set hs, hk, h3.zset hA i (by omega) rfl, grown_trans h4 (grown_set _ _ _ _), by rw [add_one (by omega) he h5, val_take_succ, Nat.add_mul, Nat.mul_assoc]; omega, fun j hj => by rw [dg_set_other (by omega)]; exact h6 j (by omega)⟩
set_option maxRecDepth 100000 in
set_option maxHeartbeats 4000000 in
theorem addProduct_any (g off n cap y : Nat) (sx : Value) (A Z C x : List Nat) (w : World) (hA : A.length = off) (hZ : Z.length = n) (hr : Row w g (A ++ (Z ++ C))) (hdz : Dig Z) (hx : Rd w sx x) (hap : Apart g sx) (hdx : Dig x) (hle : x.length ≤ n) (hy : y < 18446744073709551616) (hn : n ≤ 4000000) :
    Calls Tryz.prog 184 #[.slice (some ⟨g, off, none⟩) n cap, sx, .int .u64 (y : Nat)] w fun e w' => ∃ Z' a, e = .returned (.int .u64 (a : Nat)) ∧ (Z'.length = n ∧ Dig Z' ∧ a < 18446744073709551616 ∧ val Z' + 18446744073709551616 ^ x.length * a = val Z + val x * y ∧ (∀ j, x.length ≤ j → dg Z' j = dg Z j) ∧ Row w' g (A ++ (Z' ++ C))) ∧ w.grownBy w' (some g) := by
  have hx' := hx
  obtain ⟨ao, xcap, rfl, ⟨h1, h4⟩, h2, h3⟩ := hx'
  obtain ⟨m, hm⟩ : ∃ m, x.length = m := ⟨_, rfl⟩
  have HM := Lib.hid hm
  have HX := Lib.hid hx
  have HAP := Lib.hid hap
  have HDX := Lib.hid hdx
  have HA := Lib.hid hA
  have HZ := Lib.hid hZ
  unfold maxLen at h2
  rw [hm] at h1 hle HX HAP ⊢
  have HS := Lib.hid (show MRel w g y A Z C x 0 0 w from ⟨Z, rfl, hdz, by omega, hr, grown_refl _ _, by simp [val], fun _ _ => rfl⟩)
  clear hx hap hdx hA hZ hm hr hdz h3 h4
  go_enter Tryz.func184, Tryz.ntmps184
  go_wp2
  go_loopw [7, 15] (fun cv iv wr => ∃ i a : Nat, iv = .int .i64 i ∧ cv = .int .u64 a ∧ i ≤ m ∧ MRel w g y A Z C x i a wr) (fun _ iv _ => m - (intOf iv).toNat)
  case atStart => exact ⟨0, 0, rfl, rfl, Nat.zero_le _, HS.out⟩
  case round =>
    obtain ⟨i, a, rfl, rfl, him, hrel⟩ := hrel
    obtain ⟨Z', hl, hd, ha, hrow, hgr, hv, hup⟩ := hrel
    by_cases hlt : i < m
    · obtain ⟨gx, ox, rfl, hcx⟩ := lenpos HX.out (by omega)
      have c1 := hrow.zcell HA.out i (by rw [hl, HZ.out]; omega)
      have f1 := hrow.free (off + i)
      have c2 := (HX.out.kept hgr HAP.out).cellAt i hlt
      obtain ⟨h, l, s1, k1, s, k2, r1, r2, r3, hs, b1, b2, he⟩ := mac_ex (dg Z' i) (dg x i) y a (dg_lt hd i) (dg_lt HDX.out i) hy ha
      have HN := Lib.hid (MRel.next hl hd hrow hgr hv hup HA.out (by rw [HZ.out]; omega) hs b2 he)
      have R1 := Lib.hid r1
      generalize dg Z' i = d1 at c1 r3
      generalize dg x i = d2 at c2 r1 R1
      clear he hcx hrow hgr hv hl hd HS r1 hup
      go_wp2_with (go_at_call 174; refine (R1.out _).mono ?_; rintro e w' ⟨rfl, rfl⟩)
      go_roundw
      case rel => exact ⟨i + 1, h + k1 + k2, by go_num, by go_num, by omega, HN.out⟩
      case measure => simp [intOf]; omega
    · have : i = m := by omega
      subst this
      have HV := Lib.hid hv
      have HU := Lib.hid hup
      clear hv HS hup
      go_wp2
      go_ret
      refine ⟨Z', a, rfl, ⟨by rw [hl, HZ.out], hd, ha, ?_, HU.out, hrow⟩, hgr⟩
      have := HV.out
      rw [List.take_of_length_le (by rw [HM.out]; omega)] at this
      exact this
def SRel (w : World) (g y : Nat) (A Z C x : List Nat) (i a : Nat) (wr : World) : Prop :=
  ∃ Z', Z'.length = Z.length ∧ Dig Z' ∧ a < 18446744073709551616 ∧ Row wr g (A ++ (Z' ++ C)) ∧ w.grownBy wr (some g) ∧ val Z' + val (x.take i) * y = val Z + 18446744073709551616 ^ i * a ∧ ∀ j, i ≤ j → dg Z' j = dg Z j
theorem SRel.next {w wr : World} {g y off : Nat} {A Z C x Z' : List Nat} {i a s k : Nat} (h0 : Z'.length = Z.length) (h1 : Dig Z') (h3 : Row wr g (A ++ (Z' ++ C))) (h4 : w.grownBy wr (some g)) (h5 : val Z' + val (x.take i) * y = val Z + 18446744073709551616 ^ i * a) (h6 : ∀ j, i ≤ j → dg Z' j = dg Z j)
    (hA : A.length = off) (hi : i < Z.length) (hs : s < 18446744073709551616) (hk : k < 18446744073709551616) (he : s + dg x i * y + a = dg Z' i + 18446744073709551616 * k) : SRel w g y A Z C x (i + 1) k (wr.setCell ⟨g, off + i, none⟩ (.int .u64 (s : Nat))) :=
  ⟨Z'.set i s, by simpa using h0, h1.set hs, hk, h3.zset hA i (by omega) rfl, grown_trans h4 (grown_set _ _ _ _), by rw [val_take_succ, Nat.add_mul, Nat.mul_assoc]; exact sub_one (by omega) he h5, fun j hj => by rw [dg_set_other (by omega)]; exact h6 j (by omega)⟩
set_option maxRecDepth 100000 in
set_option maxHeartbeats 4000000 in
theorem subProduct_any (g off n cap y : Nat) (sx : Value) (A Z C x : List Nat) (w : World) (hA : A.length = off) (hZ : Z.length = n) (hr : Row w g (A ++ (Z ++ C))) (hdz : Dig Z) (hx : Rd w sx x) (hap : Apart g sx) (hdx : Dig x) (hle : x.length ≤ n) (hy : y < 18446744073709551616) (hn : n ≤ 4000000) :
    Calls Tryz.prog 238 #[.slice (some ⟨g, off, none⟩) n cap, sx, .int .u64 (y : Nat)] w fun e w' => ∃ Z' a, e = .returned (.int .u64 (a : Nat)) ∧ (Z'.length = n ∧ Dig Z' ∧ a < 18446744073709551616 ∧ val Z' + val x * y = val Z + 18446744073709551616 ^ x.length * a ∧ (∀ j, x.length ≤ j → dg Z' j = dg Z j) ∧ Row w' g (A ++ (Z' ++ C))) ∧ w.grownBy w' (some g) := by
  have hx' := hx
  obtain ⟨ao, xcap, rfl, ⟨h1, h4⟩, h2, h3⟩ := hx'
  obtain ⟨m, hm⟩ : ∃ m, x.length = m := ⟨_, rfl⟩
  have HM := Lib.hid hm
  have HX := Lib.hid hx
  have HAP := Lib.hid hap
  have HDX := Lib.hid hdx
  have HA := Lib.hid hA
  have HZ := Lib.hid hZ
  unfold maxLen at h2
  rw [hm] at h1 hle HX HAP ⊢
  have HS := Lib.hid (show SRel w g y A Z C x 0 0 w from ⟨Z, rfl, hdz, by omega, hr, grown_refl _ _, by simp [val], fun _ _ => rfl⟩)
  clear hx hap hdx hA hZ hm hr hdz h3 h4
  go_enter Tryz.func238, Tryz.ntmps238
  go_wp2
  go_loopw [7, 15] (fun cv iv wr => ∃ i a : Nat, iv = .int .i64 i ∧ cv = .int .u64 a ∧ i ≤ m ∧ SRel w g y A Z C x i a wr) (fun _ iv _ => m - (intOf iv).toNat)
  case atStart => exact ⟨0, 0, rfl, rfl, Nat.zero_le _, HS.out⟩
  case round =>
    obtain ⟨i, a, rfl, rfl, him, hrel⟩ := hrel
    obtain ⟨Z', hl, hd, ha, hrow, hgr, hv, hup⟩ := hrel
    by_cases hlt : i < m
    · obtain ⟨gx, ox, rfl, hcx⟩ := lenpos HX.out (by omega)
      have c1 := hrow.zcell HA.out i (by rw [hl, HZ.out]; omega)
      have f1 := hrow.free (off + i)
      have c2 := (HX.out.kept hgr HAP.out).cellAt i hlt
      obtain ⟨h, l, s1, k1, s, k2, r1, r2, r3, hs, b1, b2, he⟩ := msc_ex (dg Z' i) (dg x i) y a (dg_lt hd i) (dg_lt HDX.out i) hy ha
      have HN := Lib.hid (SRel.next hl hd hrow hgr hv hup HA.out (by rw [HZ.out]; omega) hs b2 he)
      have R1 := Lib.hid r1
      generalize dg Z' i = d1 at c1 r3
      generalize dg x i = d2 at c2 r1 R1
      clear he hcx hrow hgr hv hl hd HS r1 hup
      go_wp2_with (go_at_call 174; refine (R1.out _).mono ?_; rintro e w' ⟨rfl, rfl⟩)
      go_roundw
      case rel => exact ⟨i + 1, h + k1 + k2, by go_num, by go_num, by omega, HN.out⟩
      case measure => simp [intOf]; omega
    · have : i = m := by omega
      subst this
      have HV := Lib.hid hv
      have HU := Lib.hid hup
      clear hv HS hup
      go_wp2
      go_ret
      refine ⟨Z', a, rfl, ⟨by rw [hl, HZ.out], hd, ha, ?_, HU.out, hrow⟩, hgr⟩
      have := HV.out
      rw [List.take_of_length_le (by rw [HM.out]; omega)] at this
      exact this
end Go.Proofs.YtlhmfgbaefaneabGreatDoor.nat
namespace Go.Proofs.YtlhmfgbaefaneabGreatDoor.nat
open Go.RowKit
theorem make_int (w : World) (i : Int) (n : Nat) (hi : i = n) (hn : n ≤ 8000000) : ∃ W1, (Instr.makeSlice 114 (.int .i64 i) (.int .i64 i)).run Tryz.prog w = .ok (.slice (some ⟨w.heap.size, 0, none⟩) n n) W1 ∧
    Row W1 w.heap.size (List.replicate n 0) ∧ Below w.heap.size w W1 := by
  subst hi
  obtain ⟨W1, h1, h2, h3, _⟩ := make_ex w n hn
  exact ⟨W1, h1, h2, h3⟩
theorem dg_app (A Z : List Nat) (j : Nat) : dg (A ++ Z) (A.length + j) = dg Z j := by
  simp only [dg, List.getD_eq_getElem?_getD]
  rw [List.getElem?_append_right (by omega), Nat.add_sub_cancel_left]
theorem dg_drop (Z : List Nat) (i j : Nat) : dg (Z.drop i) j = dg Z (i + j) := by simp [dg]
def PRel (w : World) (x y : List Nat) (g T i : Nat) (wr : World) : Prop :=
  ∃ Z, Z.length = T ∧ Dig Z ∧ Row wr g Z ∧ Below w.heap.size w wr ∧ val Z = val x * val (y.take i) ∧ ∀ j, x.length + i ≤ j → dg Z j = 0
theorem PRel.next {w wr w2 : World} {x y Z Z' : List Nat} {g T i a : Nat} (hl : Z.length = T) (hv : val Z = val x * val (y.take i)) (hz : ∀ j, x.length + i ≤ j → dg Z j = 0) (hb : Below w.heap.size w wr) (hg : w.heap.size ≤ g) (hT : x.length + i < T)
    (hl' : Z'.length = T - i) (hd' : Dig (Z.take i ++ Z')) (hv' : val Z' + 18446744073709551616 ^ x.length * a = val (Z.drop i) + val x * dg y i) (hu : ∀ j, x.length ≤ j → dg Z' j = dg (Z.drop i) j) (hr : Row w2 g (Z.take i ++ (Z' ++ []))) (hgr : wr.grownBy w2 (some g)) (ha : a < 18446744073709551616)
    {u : Int} (hu' : u = (a : Nat)) : PRel w x y g T (i + 1) (w2.setCell ⟨g, i + x.length, none⟩ (.int .u64 u)) := by
  have hlt : (Z.take i).length = i := by rw [List.length_take]; omega
  have hL : (Z.take i ++ Z').length = T := by rw [List.length_append, hlt, hl']; omega
  have hr2 : Row w2 g (Z.take i ++ Z') := by simpa using hr
  have e0 : dg Z' x.length = 0 := by
    rw [hu _ (Nat.le_refl _), dg_drop]
    exact hz (i + x.length) (by omega)
  have e1 : dg (Z.take i ++ Z') (i + x.length) = 0 := by
    have := dg_app (Z.take i) Z' x.length
    rw [hlt] at this
    rw [this, e0]
  refine ⟨(Z.take i ++ Z').set (i + x.length) a, by rw [List.length_set, hL], hd'.set ha, hr2.set _ (by omega) hu', below_grown (below_grown hb hgr hb.size hg) (grown_set _ _ _ _) ?_ hg, ?_, ?_⟩
  · have := hb.size; have := hgr.size; omega
  · have h1 := val_set (l := Z.take i ++ Z') (j := i + x.length) (d := a) (by omega)
    rw [e1, Nat.mul_zero, Nat.add_zero] at h1
    rw [h1, val_append, hlt, Nat.pow_add, Nat.mul_assoc, Nat.add_assoc, ← Nat.mul_add, hv', val_take_succ, Nat.mul_add, Nat.mul_add, ← hv]
    have h2 : val Z = val (Z.take i) + 18446744073709551616 ^ i * val (Z.drop i) := by
      have := val_append (Z.take i) (Z.drop i)
      rwa [List.take_append_drop, hlt] at this
    rw [h2, Nat.add_assoc]
    congr 2
    rw [Nat.mul_left_comm]
  · intro j hj
    rw [dg_set_other (by omega)]
    have := dg_app (Z.take i) Z' (j - i)
    rw [hlt, show i + (j - i) = j by omega] at this
    rw [this, hu _ (by omega), dg_drop, show i + (j - i) = j by omega]
    exact hz j (by omega)
set_option maxRecDepth 100000 in
set_option maxHeartbeats 2000000 in
theorem shortProduct_any (sx sy : Value) (x y : List Nat) (w : World) (hx : Rd w sx x) (hy : Rd w sy y) (hdx : Dig x) (hdy : Dig y) (hn : x.length ≤ 2000000) (hm : y.length ≤ 2000000) :
    Calls Tryz.prog 145 #[sx, sy] w fun e w' => ∃ sv, e = .returned sv ∧ Own w' w.heap.size sv (digs (val x * val y)) ∧ Below w.heap.size w w' := by
  have HX := Lib.hid hx
  have HY := Lib.hid hy
  have HDX := Lib.hid hdx
  have HDY := Lib.hid hdy
  obtain ⟨ao, xcap, rfl, ⟨h1, -⟩, h2, -⟩ := hx
  obtain ⟨bo, ycap, rfl, ⟨k1, -⟩, k2, -⟩ := hy
  obtain ⟨N, hN⟩ : ∃ N, x.length = N := ⟨_, rfl⟩
  obtain ⟨M, hM⟩ : ∃ M, y.length = M := ⟨_, rfl⟩
  have HN := Lib.hid hN
  have HM := Lib.hid hM
  obtain ⟨W1, hmk, hrow, hb⟩ := make_int w ((N : Int) + M) (N + M) (by omega) (by omega)
  have HS := Lib.hid (show PRel w x y w.heap.size (N + M) 0 W1 from ⟨_, by simp, dig_zeros _, hrow, hb, by rw [val_zeros]; simp [val], fun j _ => dg_zeros _ _⟩)
  rw [hN] at h1 hn HX ⊢
  rw [hM] at k1 hm HY ⊢
  clear hdx hdy hN hM hrow hb
  go_enter Tryz.func145, Tryz.ntmps145
  go_wp2
  go_loopw [16] (fun iv wr => ∃ i : Nat, i ≤ M ∧ iv = .int .i64 i ∧ PRel w x y w.heap.size (N + M) i wr) (fun iv _ => M - (intOf iv).toNat)
  case atStart => exact ⟨0, Nat.zero_le _, rfl, HS.out⟩
  case round =>
    obtain ⟨i, him, rfl, hrel⟩ := hrel
    obtain ⟨Z, hl, hd, hrow, hb, hv, hz⟩ := hrel
    by_cases hlt : i < M
    · obtain ⟨gy, oy, rfl, hcy⟩ := lenpos HY.out (by omega)
      have c2 := (HY.out.below hb).cellAt i hlt
      have D2 := dg_lt HDY.out i
      have HAP := Lib.hid (addProduct_any w.heap.size i (N + M - i) (N + M - i) (dg y i) (.slice ao N xcap) (Z.take i) (Z.drop i) [] x wr (by rw [List.length_take]; omega) (by rw [List.length_drop]; omega) (by simpa using hrow) (hd.drop _) (HX.out.below hb) (HX.out.apart (Nat.le_refl _)) HDX.out (by rw [HN.out]; omega) D2 (by omega))
      have HL := Lib.hid hl
      have HD := Lib.hid hd
      have HB := Lib.hid hb
      have HV := Lib.hid hv
      have HZ := Lib.hid hz
      have HDy := Lib.hid (show ∃ d, d = dg y i from ⟨_, rfl⟩)
      obtain ⟨d, hdd⟩ := HDy.out
      rw [← hdd] at c2 HAP D2
      have HDd := Lib.hid hdd
      clear hl hd hb hv hz hrow hcy hmk HS hdd HDy
      have e1 : ((i : Int) + (N : Int)).toNat = i + N := by omega
      go_wp2_with (go_at_call 184; refine (HAP.out).mono ?_; rintro e w2 ⟨Z', a, rfl, ⟨hl', hd', ha, hv', hu, hr⟩, hgr⟩; have f1 := hr.free (i + N); have c3 := hr.cell (i + N) (by rw [List.length_append, List.length_append, List.length_take, hl', HL.out, List.length_nil]; omega); have HP := Lib.hid (PRel.next (u := (a : Int)) HL.out HV.out HZ.out HB.out (Nat.le_refl _) (by rw [HN.out]; omega) hl' ((HD.out.take _).append hd') (by rw [← HDd.out]; exact hv') hu hr hgr ha rfl); clear hl' hd' ha hv' hu hr hgr HAP)
      go_roundw
      case rel => exact ⟨i + 1, by omega, by go_num, by have := HP.out; rw [HN.out] at this; exact this⟩
      case measure => simp [intOf]; omega
    · have : i = M := by omega
      subst this
      have hv2 : val Z = val x * val y := by rw [hv, List.take_of_length_le (by rw [HM.out]; omega)]
      have hO : Own wr w.heap.size (.slice (some ⟨w.heap.size, 0, none⟩) (N + i) (N + i)) Z := by
        have := Own.of_row (cap := N + i) hrow (Nat.le_refl _) (by omega) (by unfold maxLen; omega)
        rwa [hl] at this
      have HT := Lib.hid (trim_own _ Z wr hO (by omega) hd)
      rw [hv2] at HT
      have HB := Lib.hid hb
      clear hl hd hrow hb hv hz hv2 hO HS hmk
      go_wp2_with (go_at_call 144; refine (HT.out).mono ?_; rintro e w3 ⟨sv, rfl, hO3, rfl⟩; have HO3 := Lib.hid hO3; clear hO3)
      go_ret
      exact ⟨sv, rfl, HO3.out, HB.out⟩
end Go.Proofs.YtlhmfgbaefaneabGreatDoor.nat
namespace Go.Proofs.YtlhmfgbaefaneabGreatDoor.nat
open Go.RowKit
theorem Dig.strip {l : List Nat} (h : Dig l) : digs (val l) = l.take (digs (val l)).length := by
  induction l with
  | nil => rw [show val [] = 0 from rfl, digs_zero]; rfl
  | cons d l ih =>
    have h1 := h.head
    have ih := ih h.tail
    have hv : val (d :: l) = d + 18446744073709551616 * val l := rfl
    by_cases h0 : val (d :: l) = 0
    · rw [h0, digs_zero]; rfl
    · rw [digs_pos h0, show val (d :: l) % 18446744073709551616 = d by omega, show val (d :: l) / 18446744073709551616 = val l by omega]
      rw [List.length_cons, List.take_succ_cons, ← ih]
theorem trim_x (ao : Option Addr) (n cap : Nat) (l : List Nat) (w : World) (h : Rd w (.slice ao n cap) l) (hn : l.length = n) (hs : n ≤ 4000000) (hd : Dig l) :
    Calls Tryz.prog 144 #[.slice ao n cap] w fun e w' => e = .returned (.slice ao (digs (val l)).length cap) ∧ w' = w := by
  subst hn
  refine (trim_at ao cap l w h hs).mono ?_
  rintro e w' ⟨k, rfl, ⟨hk, hv, hn⟩, rfl⟩
  have he : l.take k = digs (val l) := by rw [← hv]; exact (hn hd).eq_digs
  refine ⟨?_, rfl⟩
  rw [← he, List.length_take, Nat.min_eq_left hk]
theorem Rd.strip {w : World} {ao : Option Addr} {n cap : Nat} {l : List Nat} (h : Rd w (.slice ao n cap) l) (hd : Dig l) : Rd w (.slice ao (digs (val l)).length cap) (digs (val l)) := by
  obtain ⟨ao', cap', he, ⟨h1, h4⟩, h2, h3⟩ := h
  simp only [Value.slice.injEq] at he
  obtain ⟨rfl, rfl, rfl⟩ := he
  have hl := digs_len_val hd
  refine ⟨ao, cap, rfl, ⟨by omega, h4⟩, h2, ?_⟩
  rcases h3 with rfl | ⟨g, off, hg, hc⟩
  · left; rw [show val [] = 0 from rfl, digs_zero]
  · right
    refine ⟨g, off, hg, fun k hk => ?_⟩
    rw [hc k (by omega)]
    have := hd.strip
    rw [show dg (digs (val l)) k = dg l k by rw [this, dg_take hk]]
theorem val_parts (l : List Nat) (k : Nat) (hk : k ≤ l.length) : val l = val (l.take k) + 18446744073709551616 ^ k * val (l.drop k) := by
  have := val_append (l.take k) (l.drop k)
  rwa [List.take_append_drop, List.length_take, Nat.min_eq_left hk] at this
theorem no_carry {V S P c : Nat} (h : V + P * c = S) (hs : S < P) : V = S := by
  rcases Nat.eq_zero_or_pos c with rfl | hc
  · simpa using h
  · have := Nat.le_mul_of_pos_right P hc
    omega
theorem addInto_at (g h T cap : Nat) (sx : Value) (L x : List Nat) (w : World) (hL : L.length = T) (hh : h ≤ T) (hr : Row w g L) (hd : Dig L) (hx : Rd w sx x) (hap : Apart g sx) (hdx : Dig x) (hle : x.length ≤ T - h) (hsum : val L + 18446744073709551616 ^ h * val x < 18446744073709551616 ^ T) (hT : T ≤ 4000000) (hcap : T - h ≤ cap) (hcm : cap ≤ maxLen) :
    Calls Tryz.prog 146 #[.slice (some ⟨g, h, none⟩) (T - h) cap, sx] w fun e w' => ∃ (c : Nat) (L' : List Nat), e = .returned (.int .u64 (c : Nat)) ∧ (L'.length = T ∧ Dig L' ∧ val L' = val L + 18446744073709551616 ^ h * val x ∧ Row w' g L') ∧ w.grownBy w' (some g) := by
  have hlt : (L.take h).length = h := by rw [List.length_take]; omega
  refine (addInto_any g h (T - h) cap sx (L.take h) (L.drop h) [] x w hlt (by rw [List.length_drop]; omega) (by simpa using hr) (hd.drop _) hx hap hdx hle (by omega) hcap hcm).mono ?_
  rintro e w' ⟨Z', c, rfl, ⟨hl, hd', hc, hv, hrow⟩, hgr⟩
  refine ⟨c, L.take h ++ Z', rfl, ⟨by rw [List.length_append, hlt, hl]; omega, (hd.take _).append hd', ?_, by simpa using hrow⟩, hgr⟩
  refine no_carry (P := 18446744073709551616 ^ T) (c := c) ?_ hsum
  rw [val_append, hlt, val_parts L h (by omega), Nat.add_assoc, Nat.add_assoc, ← Nat.mul_add, ← hv, Nat.mul_add, ← Nat.mul_assoc, ← Nat.pow_add, show h + (T - h) = T by omega]
def ProdIs (n : Nat) : Prop := ∀ (sx sy : Value) (x y : List Nat) (w : World), Rd w sx x → Rd w sy y → Dig x → Dig y → x.length ≤ 1000000 → y.length ≤ 1000000 → (x.length ≤ n ∨ y.length ≤ n) →
  Calls Tryz.prog 117 #[sx, sy] w fun e w' => ∃ sv, e = .returned sv ∧ Own w' w.heap.size sv (digs (val x * val y)) ∧ Below w.heap.size w w'
theorem kara (xl xh yl yh P : Nat) : xl * yl + P * ((xl + xh) * (yl + yh) - xl * yl - xh * yh) + P * P * (xh * yh) = (xl + P * xh) * (yl + P * yh) ∧ xl * yl + xh * yh ≤ (xl + xh) * (yl + yh) ∧ (xl + xh) * (yl + yh) - xl * yl - xh * yh = xl * yh + xh * yl := by
  have e : (xl + xh) * (yl + yh) = xl * yl + xh * yh + (xl * yh + xh * yl) := by
    rw [Nat.add_mul, Nat.mul_add, Nat.mul_add]; omega
  have e2 : (xl + xh) * (yl + yh) - xl * yl - xh * yh = xl * yh + xh * yl := by omega
  refine ⟨?_, by omega, e2⟩
  rw [e2, Nat.add_mul, Nat.mul_add, Nat.mul_add, Nat.mul_add]
  have a1 : P * (xl * yh) = xl * (P * yh) := by rw [Nat.mul_left_comm]
  have a2 : P * (xh * yl) = P * xh * yl := by rw [Nat.mul_assoc]
  have a3 : P * P * (xh * yh) = P * xh * (P * yh) := by rw [Nat.mul_mul_mul_comm]
  rw [a1, a2, a3]
  omega
theorem prod_v {n : Nat} (IH : ProdIs n) {sx sy : Value} {x y : List Nat} {X Y : Nat} {w : World} (hX : val x = X) (hY : val y = Y) (hx : Rd w sx x) (hy : Rd w sy y) (hdx : Dig x) (hdy : Dig y) (hn : x.length ≤ 1000000) (hm : y.length ≤ 1000000) (h : x.length ≤ n ∨ y.length ≤ n) :
    Calls Tryz.prog 117 #[sx, sy] w fun e w' => ∃ sv, e = .returned sv ∧ Own w' w.heap.size sv (digs (X * Y)) ∧ Below w.heap.size w w' := by
  subst hX; subst hY
  exact IH sx sy x y w hx hy hdx hdy hn hm h
theorem sum_v {sx sy : Value} {x y : List Nat} {X Y : Nat} {w : World} (hX : val x = X) (hY : val y = Y) (hx : Rd w sx x) (hy : Rd w sy y) (hdx : Dig x) (hdy : Dig y) (hn : x.length ≤ 2000000) (hm : y.length ≤ 2000000) :
    Calls Tryz.prog 161 #[sx, sy] w fun e w' => ∃ sv, e = .returned sv ∧ Own w' w.heap.size sv (digs (X + Y)) ∧ Below w.heap.size w w' := by
  subst hX; subst hY
  exact sum_any sx sy x y w hx hy hdx hdy hn hm
theorem pow_two' (a : Nat) : 18446744073709551616 ^ a * 18446744073709551616 ^ a = 18446744073709551616 ^ (2 * a) := by rw [← Nat.pow_add]; congr 1; omega
theorem mul_pow_lt {a b p q : Nat} (ha : a < 18446744073709551616 ^ p) (hb : b < 18446744073709551616 ^ q) : a * b < 18446744073709551616 ^ (p + q) := by
  rw [Nat.pow_add]
  exact Nat.mul_lt_mul'' ha hb
theorem add_pow_lt {a b p : Nat} (ha : a < 18446744073709551616 ^ p) (hb : b < 18446744073709551616 ^ p) : a + b < 18446744073709551616 ^ (p + 1) := by
  have h2 : 18446744073709551616 ^ (p + 1) = 18446744073709551616 * 18446744073709551616 ^ p := by rw [Nat.pow_succ, Nat.mul_comm]
  rw [h2]
  generalize 18446744073709551616 ^ p = P at *
  omega
theorem kara_sizes {n h X vx vy xl xh yl yh : Nat} (hn : n ≤ 2 * h) (h2 : h + 2 ≤ n) (h3 : 2 * h ≤ n + 1) (hX : X = vx * vy) (ex : vx = xl + 18446744073709551616 ^ h * xh) (ey : vy = yl + 18446744073709551616 ^ h * yh)
    (bx : vx < 18446744073709551616 ^ n) (by' : vy < 18446744073709551616 ^ n) (b1 : xl < 18446744073709551616 ^ h) (b2 : xh < 18446744073709551616 ^ (n - h)) (b3 : yl < 18446744073709551616 ^ h) (b4 : yh < 18446744073709551616 ^ (n - h)) :
    (digs (xl * yl)).length ≤ 2 * h ∧ (digs (xh * yh)).length ≤ 2 * n - 2 * h ∧ (digs (xl + xh)).length ≤ h + 1 ∧ (digs (yl + yh)).length ≤ h + 1 ∧ (digs ((xl + xh) * (yl + yh))).length ≤ 2 * h + 2 ∧
    xl * yl + xh * yh ≤ (xl + xh) * (yl + yh) ∧ (digs ((xl + xh) * (yl + yh) - xl * yl - xh * yh)).length ≤ 2 * n - h ∧
    xl * yl + 18446744073709551616 ^ h * ((xl + xh) * (yl + yh) - xl * yl - xh * yh) < 18446744073709551616 ^ (2 * n) ∧
    xl * yl + 18446744073709551616 ^ h * ((xl + xh) * (yl + yh) - xl * yl - xh * yh) + 18446744073709551616 ^ (2 * h) * (xh * yh) = X ∧ X < 18446744073709551616 ^ (2 * n) := by
  obtain ⟨k1, k2, k3⟩ := kara xl xh yl yh (18446744073709551616 ^ h)
  have hXn : X < 18446744073709551616 ^ (2 * n) := by
    have := mul_pow_lt bx by'
    rw [hX]
    rwa [show n + n = 2 * n by omega] at this
  rw [pow_two', ← ex, ← ey, ← hX] at k1
  have b2' : xh < 18446744073709551616 ^ h := Nat.lt_of_lt_of_le b2 (pow_le (by omega))
  have b4' : yh < 18446744073709551616 ^ h := Nat.lt_of_lt_of_le b4 (pow_le (by omega))
  have s1 := add_pow_lt b1 b2'
  have s2 := add_pow_lt b3 b4'
  have s3 := mul_pow_lt s1 s2
  have m1 : xl * yh < 18446744073709551616 ^ (2 * n - h - 1) := Nat.lt_of_lt_of_le (mul_pow_lt b1 b4) (pow_le (by omega))
  have m2 : xh * yl < 18446744073709551616 ^ (2 * n - h - 1) := Nat.lt_of_lt_of_le (mul_pow_lt b2 b3) (pow_le (by omega))
  have m3 := add_pow_lt m1 m2
  rw [← k3, show 2 * n - h - 1 + 1 = 2 * n - h by omega] at m3
  refine ⟨digs_len (Nat.lt_of_lt_of_le (mul_pow_lt b1 b3) (pow_le (by omega))), digs_len (Nat.lt_of_lt_of_le (mul_pow_lt b2 b4) (pow_le (by omega))), digs_len s1, digs_len s2, digs_len (Nat.lt_of_lt_of_le s3 (pow_le (by omega))), k2, digs_len m3, ?_, k1, hXn⟩
  refine Nat.lt_of_le_of_lt ?_ hXn
  rw [← k1]
  exact Nat.le_add_right _ _
end Go.Proofs.YtlhmfgbaefaneabGreatDoor.nat
