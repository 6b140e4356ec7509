/-
  The steps of the walks, part 12: Lehmer, Mix, High, Lead, Apply.
-/
import Derived.Test.YtlhmfgbaefaneaaGreatDoorB11
namespace Go.Proofs.YtlhmfgbaefaneaaGreatDoor.nat
def LInv (a0 b0 : Nat) (e : Bool) (nX nY tX tY a b : Nat) : Prop :=
  (e = false → a + nY * b0 = nX * a0 ∧ b + tX * a0 = tY * b0 ∧ nX * tY = nY * tX + 1) ∧ (e = true → a + nX * a0 = nY * b0 ∧ b + tY * b0 = tX * a0 ∧ nY * tX = nX * tY + 1)
theorem LInv.sum {a0 b0 : Nat} {e : Bool} {nX nY tX tY a b : Nat} (h : LInv a0 b0 e nX nY tX tY a b) : a0 = tY * a + nY * b ∧ b0 = tX * a + nX * b := by
  cases e
  · obtain ⟨h1, h2, h3⟩ := h.1 rfl
    constructor <;> grind
  · obtain ⟨h1, h2, h3⟩ := h.2 rfl
    constructor <;> grind
theorem LInv.next {a0 b0 : Nat} {e : Bool} {nX nY tX tY a b q r : Nat} (h : LInv a0 b0 e nX nY tX tY a b) (hq : a = b * q + r) : LInv a0 b0 (!e) tX tY (nX + q * tX) (nY + q * tY) b r := by
  cases e
  · obtain ⟨h1, h2, h3⟩ := h.1 rfl
    refine ⟨by simp, fun _ => ⟨by omega, ?_, ?_⟩⟩ <;> grind
  · obtain ⟨h1, h2, h3⟩ := h.2 rfl
    refine ⟨fun _ => ⟨by omega, ?_, ?_⟩, by simp⟩ <;> grind
def QIs (x y : Nat) (e : Bool) (nX nY Q : Nat) : Prop := (e = false → Q + nY * y = nX * x) ∧ (e = true → Q + nX * x = nY * y)
def OldOK (x y : Nat) (e : Bool) (oX oY nX nY : Nat) : Prop :=
  ∃ P Q, QIs x y (!e) oX oY P ∧ QIs x y e nX nY Q ∧ Q < P ∧ P ≤ y ∧ x = nY * P + oY * Q ∧ y = nX * P + oX * Q
structure LS (x y a0 b0 : Nat) (e : Bool) (oX oY nX nY tX tY a b : Nat) : Prop where
  inv : LInv a0 b0 e nX nY tX tY a b
  le : b ≤ a
  k : (oX = 0 ∧ oY = 0 ∧ nX = 1 ∧ nY = 0 ∧ tX = 0 ∧ tY = 1 ∧ e = false) ∨
    (nX ≤ nY ∧ tX ≤ tY ∧ 1 ≤ nY ∧ nY ≤ a ∧ (∃ Q, QIs x y e nX nY Q ∧ Q ≤ y) ∧ (oY = 0 ∨ OldOK x y e oX oY nX nY))
theorem LS.start {x y a0 b0 : Nat} (h : b0 ≤ a0) : LS x y a0 b0 false 0 0 1 0 0 1 a0 b0 := ⟨⟨fun _ => by omega, by simp⟩, h, Or.inl (by simp)⟩
theorem LS.room {x y a0 b0 W : Nat} {e : Bool} {oX oY nX nY tX tY a b : Nat} (h : LS x y a0 b0 e oX oY nX nY tX tY a b) (ha : a0 < W) (hb0 : b0 < W) (hb : 1 ≤ b) : nX < W ∧ nY + tY < W ∧ tX < W ∧ a < W := by
  obtain ⟨e1, e2⟩ := h.inv.sum
  have hab := h.le
  have h1 : tY * 1 ≤ tY * a := Nat.mul_le_mul_left _ (by omega)
  have h2 : nY * 1 ≤ nY * b := Nat.mul_le_mul_left _ hb
  have h3 : tX * 1 ≤ tX * a := Nat.mul_le_mul_left _ (by omega)
  have h4 : nX * 1 ≤ nX * b := Nat.mul_le_mul_left _ hb
  refine ⟨by omega, by omega, by omega, ?_⟩
  have : 1 ≤ tY := by
    rcases h.k with h5 | ⟨h5, h6, h7, _⟩
    · omega
    · rcases Nat.eq_zero_or_pos tY with h0 | h0
      · have hx : tX = 0 := by omega
        cases e
        · have := (h.inv.1 rfl).2.2
          rw [h0, hx] at this
          omega
        · have := (h.inv.2 rfl).2.2
          rw [h0, hx] at this
          omega
      · exact h0
  have := Nat.le_mul_of_pos_left a this
  omega
theorem sure_next {x y a0 b0 x0 y0 F : Nat} {e : Bool} {nX nY tX tY a b Q : Nat} (hx : x = a0 * F + x0) (hy : y = b0 * F + y0) (hx0 : x0 < F) (hy0 : y0 < F) (hi : LInv a0 b0 e nX nY tX tY a b) (hn : nX ≤ nY) (ht : tX ≤ tY) (hn1 : 1 ≤ nY)
    (hb : tY ≤ b) (hab : b + (nY + tY) ≤ a) (hQ : QIs x y e nX nY Q) : ∃ V, QIs x y (!e) tX tY V ∧ V < Q := by
  have m1 : tY * y0 ≤ b * F := Nat.mul_le_mul hb (by omega)
  have m2 : tX * x0 ≤ b * F := Nat.mul_le_mul (by omega) (by omega)
  have m3 : (nX + tX) * x0 < (nY + tY) * F := Nat.mul_lt_mul_of_le_of_lt (by omega) hx0 (by omega)
  have m4 : (nY + tY) * y0 < (nY + tY) * F := Nat.mul_lt_mul_of_le_of_lt (Nat.le_refl _) hy0 (by omega)
  have m5 : (b + (nY + tY)) * F ≤ a * F := Nat.mul_le_mul_right _ hab
  rw [Nat.add_mul] at m3 m4
  rw [Nat.add_mul] at m5
  rw [Nat.add_mul] at m5
  cases e
  · obtain ⟨h1, h2, h3⟩ := hi.1 rfl
    have q1 := hQ.1 rfl
    have f1 : a * F + nY * b0 * F = nX * a0 * F := by rw [← Nat.add_mul, h1]
    have f2 : b * F + tX * a0 * F = tY * b0 * F := by rw [← Nat.add_mul, h2]
    have g1 : nX * x = nX * a0 * F + nX * x0 := by rw [hx, Nat.mul_add, Nat.mul_assoc]
    have g2 : nY * y = nY * b0 * F + nY * y0 := by rw [hy, Nat.mul_add, Nat.mul_assoc]
    have g3 : tX * x = tX * a0 * F + tX * x0 := by rw [hx, Nat.mul_add, Nat.mul_assoc]
    have g4 : tY * y = tY * b0 * F + tY * y0 := by rw [hy, Nat.mul_add, Nat.mul_assoc]
    rw [Nat.add_mul] at m4
    refine ⟨tY * y - tX * x, ⟨by simp, fun _ => ?_⟩, ?_⟩ <;> omega
  · obtain ⟨h1, h2, h3⟩ := hi.2 rfl
    have q1 := hQ.2 rfl
    have f1 : a * F + nX * a0 * F = nY * b0 * F := by rw [← Nat.add_mul, h1]
    have f2 : b * F + tY * b0 * F = tX * a0 * F := by rw [← Nat.add_mul, h2]
    have g1 : nX * x = nX * a0 * F + nX * x0 := by rw [hx, Nat.mul_add, Nat.mul_assoc]
    have g2 : nY * y = nY * b0 * F + nY * y0 := by rw [hy, Nat.mul_add, Nat.mul_assoc]
    have g3 : tX * x = tX * a0 * F + tX * x0 := by rw [hx, Nat.mul_add, Nat.mul_assoc]
    have g4 : tY * y = tY * b0 * F + tY * y0 := by rw [hy, Nat.mul_add, Nat.mul_assoc]
    rw [Nat.add_mul] at m3
    refine ⟨tX * x - tY * y, ⟨fun _ => ?_, by simp⟩, ?_⟩ <;> omega
theorem QIs.sums {x y a0 b0 : Nat} {e : Bool} {nX nY tX tY a b Q V : Nat} (hi : LInv a0 b0 e nX nY tX tY a b) (hQ : QIs x y e nX nY Q) (hV : QIs x y (!e) tX tY V) : x = tY * Q + nY * V ∧ y = tX * Q + nX * V := by
  cases e
  · obtain ⟨h1, h2, h3⟩ := hi.1 rfl
    have q1 := hQ.1 rfl
    have q2 := hV.2 rfl
    constructor <;> grind
  · obtain ⟨h1, h2, h3⟩ := hi.2 rfl
    have q1 := hQ.2 rfl
    have q2 := hV.1 rfl
    constructor <;> grind
theorem LS.next {x y a0 b0 x0 y0 F q r : Nat} {e : Bool} {oX oY nX nY tX tY a b : Nat} (hx : x = a0 * F + x0) (hy : y = b0 * F + y0) (hx0 : x0 < F) (hy0 : y0 < F) (h : LS x y a0 b0 e oX oY nX nY tX tY a b) (hb : tY ≤ b) (hab : b + (nY + tY) ≤ a) (hb1 : 1 ≤ b)
    (hq : a = b * q + r) (hr : r < b) : LS x y a0 b0 (!e) nX nY tX tY (nX + q * tX) (nY + q * tY) b r := by
  refine ⟨h.inv.next hq, by omega, Or.inr ?_⟩
  have hq1 : 1 ≤ q := by
    rcases Nat.eq_zero_or_pos q with h0 | h0
    · subst h0; omega
    · exact h0
  rcases h.k with ⟨rfl, rfl, rfl, rfl, rfl, rfl, rfl⟩ | ⟨k1, k2, k3, k4, ⟨Q, k5, k6⟩, k7⟩
  · refine ⟨by omega, by omega, by omega, hb1, ⟨y, ⟨by simp, fun _ => by omega⟩, Nat.le_refl _⟩, Or.inl rfl⟩
  · obtain ⟨V, v1, v2⟩ := sure_next hx hy hx0 hy0 h.inv k1 k2 k3 hb hab k5
    obtain ⟨s1, s2⟩ := QIs.sums h.inv k5 v1
    have ht1 : 1 ≤ tY := by
      rcases Nat.eq_zero_or_pos tY with h0 | h0
      · have hx : tX = 0 := by omega
        cases e
        · have := (h.inv.1 rfl).2.2
          rw [h0, hx] at this
          omega
        · have := (h.inv.2 rfl).2.2
          rw [h0, hx] at this
          omega
      · exact h0
    have hm : q * tX ≤ q * tY := Nat.mul_le_mul_left _ k2
    exact ⟨k2, by omega, ht1, hb, ⟨V, v1, by omega⟩, Or.inr ⟨Q, V, by simpa using k5, v1, v2, k6, s1, s2⟩⟩
theorem OldOK.gcd {x y : Nat} {e : Bool} {oX oY nX nY P Q : Nat} (hP : QIs x y (!e) oX oY P) (hQ : QIs x y e nX nY Q) (h1 : x = nY * P + oY * Q) (h2 : y = nX * P + oX * Q) : Nat.gcd P Q = Nat.gcd x y := by
  apply Nat.dvd_antisymm
  · apply Nat.dvd_gcd
    · rw [h1]
      exact Nat.dvd_add (Nat.dvd_mul_left_of_dvd (Nat.gcd_dvd_left P Q) _) (Nat.dvd_mul_left_of_dvd (Nat.gcd_dvd_right P Q) _)
    · rw [h2]
      exact Nat.dvd_add (Nat.dvd_mul_left_of_dvd (Nat.gcd_dvd_left P Q) _) (Nat.dvd_mul_left_of_dvd (Nat.gcd_dvd_right P Q) _)
  · have dx := Nat.gcd_dvd_left x y
    have dy := Nat.gcd_dvd_right x y
    apply Nat.dvd_gcd
    · cases e
      · have := hP.2 rfl
        refine (Nat.dvd_add_right (Nat.dvd_mul_left_of_dvd dx oX)).1 ?_
        rw [Nat.add_comm, this]
        exact Nat.dvd_mul_left_of_dvd dy _
      · have := hP.1 rfl
        refine (Nat.dvd_add_right (Nat.dvd_mul_left_of_dvd dy oY)).1 ?_
        rw [Nat.add_comm, this]
        exact Nat.dvd_mul_left_of_dvd dx _
    · cases e
      · have := hQ.1 rfl
        refine (Nat.dvd_add_right (Nat.dvd_mul_left_of_dvd dy nY)).1 ?_
        rw [Nat.add_comm, this]
        exact Nat.dvd_mul_left_of_dvd dx _
      · have := hQ.2 rfl
        refine (Nat.dvd_add_right (Nat.dvd_mul_left_of_dvd dx nX)).1 ?_
        rw [Nat.add_comm, this]
        exact Nat.dvd_mul_left_of_dvd dy _
end Go.Proofs.YtlhmfgbaefaneaaGreatDoor.nat
namespace Go.Proofs.YtlhmfgbaefaneaaGreatDoor.nat
open Go.RowKit
theorem word_rd {w : World} {d : Nat} : Rd (w.alloc (.cells #[Value.int .u64 (d : Int)] 104)) (.slice (some ⟨w.heap.size, 0, none⟩) 1 1) [d] := (word_own (w := w) (d := d) (B := w.heap.size) (Nat.le_refl _)).rd
set_option maxRecDepth 100000 in
set_option maxHeartbeats 4000000 in
theorem mix_any (sx sy : Value) (x y : List Nat) (p q : Nat) (w : World) (hx : Rd w sx x) (hy : Rd w sy y) (hdx : Dig x) (hdy : Dig y) (hp : p < 18446744073709551616) (hq : q < 18446744073709551616) (hle : val y * q ≤ val x * p) (hn : x.length ≤ 1000000) (hm : y.length ≤ 1000000) :
    Calls Tryz.prog 259 #[sx, .int .u64 (p : Nat), sy, .int .u64 (q : Nat)] w fun e w' => ∃ sv, e = .returned sv ∧ Own w' w.heap.size sv (digs (val x * p - val y * q)) ∧ Below w.heap.size w w' := by
  obtain ⟨ao, xcap, rfl, ⟨h1, -⟩, h2, -⟩ := id hx
  obtain ⟨bo, ycap, rfl, ⟨k1, -⟩, k2, -⟩ := id hy
  obtain ⟨N, hN⟩ : ∃ N, x.length = N := ⟨_, rfl⟩
  obtain ⟨M, hM⟩ : ∃ M, y.length = M := ⟨_, rfl⟩
  obtain ⟨S, hS, hS1, hS2, hS3⟩ : ∃ S : Nat, max (N : Int) (M : Int) = (S : Int) ∧ N ≤ S ∧ M ≤ S ∧ S ≤ 1000000 := ⟨max N M, by omega, by omega, by omega, by omega⟩
  rw [hN] at h1 hn hx ⊢
  rw [hM] at k1 hm hy ⊢
  obtain ⟨W1, hmk, hrow, hb⟩ := make_int w ((S : Int) + 1) (S + 1) (by omega) (by omega)
  have HX := Lib.hid hx
  have HY := Lib.hid hy
  have HDX := Lib.hid hdx
  have HDY := Lib.hid hdy
  have HN := Lib.hid hN
  have HM := Lib.hid hM
  have HLE := Lib.hid hle
  have HB1 := Lib.hid hb
  have HG := Lib.hid (show w.heap.size < W1.heap.size from hrow.lt)
  have AP := Lib.hid (addProduct_any w.heap.size 0 (S + 1) (S + 1) p (.slice ao N xcap) [] (List.replicate (S + 1) 0) [] x W1 rfl (by simp) hrow.whole (dig_zeros _) (hx.below hb) (hx.apart (Nat.le_refl _)) hdx (by omega) hp (by omega))
  have i1 : (N : Int) < (S : Int) + 1 := by omega
  have i2 : (M : Int) ≤ (S : Int) + 1 := by omega
  have i3 : ¬ (S + 1 = M) := by omega
  have i4 : ¬ (M = S + 1) := by omega
  clear hx hy hdx hdy hN hM hle hb hrow
  go_enter Tryz.func259, Tryz.ntmps259
  go_wp2_with (first
    | (go_at_call 253; refine (AP.out).mono ?_; rintro e w2 ⟨Z1, a, rfl, ⟨hl1, hd1, hab, hv1, hu1, hr1⟩, hg1⟩
       have r1 := hr1.unwhole
       have c1 := r1.cell N (by rw [hl1]; omega)
       have f1 := r1.free N
       have hz1 : dg Z1 N = 0 := by rw [hu1 N (by rw [HN.out]; omega), dg_zeros]
       have v2 : val (Z1.set N a) = val x * p := by
         have := val_set (l := Z1) (j := N) (d := a) (by omega)
         rw [hz1, Nat.mul_zero, Nat.add_zero, ← HN.out, hv1, val_zeros, Nat.zero_add, HN.out] at this
         exact this
       have r2 := r1.set N (by rw [hl1]; omega) (u := (a : Int)) (d := a) rfl
       have b2 := below_grown HB1.out hg1 HB1.out.size (Nat.le_refl _)
       have b3 := below_grown b2 (grown_set w2 w.heap.size N (.int .u64 (a : Int))) b2.size (Nat.le_refl _)
       have SP := Lib.hid (subProduct_any w.heap.size 0 (S + 1) (S + 1) q (.slice bo M ycap) [] (Z1.set N a) [] y _ rfl (by rw [List.length_set, hl1]) r2.whole (hd1.set hab) (HY.out.below b3) (HY.out.apart (Nat.le_refl _)) HDY.out (by rw [HM.out]; omega) hq (by omega))
       have HV2 := Lib.hid v2
       have HB3 := Lib.hid b3
       clear AP hl1 hd1 hab hv1 hu1 hr1 hg1 r1 hz1 v2 r2 b2 b3)
    | (go_at_call 275; refine (SP.out).mono ?_; rintro e w3 ⟨Z3, owed, rfl, ⟨hl3, hd3, hob, hv3, -, hr3⟩, hg3⟩
       have r3 := hr3.unwhole
       have b4 := below_grown HB3.out hg3 HB3.out.size (Nat.le_refl _)
       rw [HV2.out, HM.out] at hv3
       have p3 := val_parts Z3 M (by omega)
       have t3 := val_lt' (hd3.take M) (show (Z3.take M).length ≤ M by rw [List.length_take]; omega)
       have how : owed ≤ val (Z3.drop M) := by
         rcases Nat.lt_or_ge (val (Z3.drop M)) owed with h | h
         · exfalso
           have h5 : 18446744073709551616 ^ M * (val (Z3.drop M) + 1) ≤ 18446744073709551616 ^ M * owed := Nat.mul_le_mul_left _ h
           rw [Nat.mul_succ] at h5
           have := HLE.out
           omega
         · exact h
       have hlt : (Z3.take M).length = M := by rw [List.length_take]; omega
       have hba : Below w3.heap.size w3 (w3.alloc (.cells #[Value.int .u64 (owed : Int)] 104)) := (Below.refl _ _).alloc (Nat.le_refl _) _
       have SF := Lib.hid (subFrom_any w.heap.size M (S + 1 - M) (S + 1 - M) (.slice (some ⟨w3.heap.size, 0, none⟩) 1 1) (Z3.take M) (Z3.drop M) [] [owed] (w3.alloc (.cells #[Value.int .u64 (owed : Int)] 104)) hlt (by rw [List.length_drop]; omega) (by simpa using (r3.below hba r3.lt)) (hd3.drop _) word_rd
         (by rintro ad n c he _; simp only [Value.slice.injEq, Option.some.injEq] at he; obtain ⟨rfl, _, _⟩ := he; have := r3.lt; simp only; omega) (Dig.cons hob Dig.nil) (by simp; omega) (by simpa [val] using how) (by omega) (Nat.le_refl _) (by unfold maxLen; omega))
       have HFin := Lib.hid (show ∀ V, V + owed = val (Z3.drop M) → val (Z3.take M) + 18446744073709551616 ^ M * V = val x * p - val y * q from fun V hV => by
         have h6 : 18446744073709551616 ^ M * V + 18446744073709551616 ^ M * owed = 18446744073709551616 ^ M * val (Z3.drop M) := by rw [← Nat.mul_add, hV]
         omega)
       have HB5 := Lib.hid (b4.trans (hba.mono b4.size))
       have HD3 := Lib.hid (hd3.take M)
       have HL3 := Lib.hid hlt
       clear SP hl3 hd3 hob hv3 hr3 hg3 r3 b4 p3 t3 how hlt hba)
    | (go_at_call 224; refine (SF.out).mono ?_; rintro e w5 ⟨Z5, rfl, ⟨hl5, hd5, hv5, hr5⟩, hg5⟩
       have r5 : Row w5 w.heap.size (Z3.take M ++ Z5) := by simpa using hr5
       have l5 : (Z3.take M ++ Z5).length = S + 1 := by rw [List.length_append, HL3.out, hl5]; omega
       have hO : Own w5 w.heap.size (.slice (some ⟨w.heap.size, 0, none⟩) (S + 1) (S + 1)) (Z3.take M ++ Z5) := by
         have := Own.of_row (cap := S + 1) r5 (Nat.le_refl _) (by omega) (by unfold maxLen; omega)
         rwa [l5] at this
       have v5 : val (Z3.take M ++ Z5) = val x * p - val y * q := by
         rw [val_append, HL3.out]
         exact HFin.out _ (by simpa [val] using hv5)
       have HT := Lib.hid (trim_own _ _ w5 hO (by omega) (HD3.out.append hd5))
       rw [v5] at HT
       have HB6 := Lib.hid (below_grown HB5.out hg5 HB5.out.size (Nat.le_refl _))
       clear SF hl5 hd5 hv5 hr5 hg5 r5 l5 hO v5)
    | (go_at_call 209; refine (HT.out).mono ?_; rintro e w6 ⟨sv, rfl, ho, rfl⟩; have HO := Lib.hid ho; clear HT ho))
  go_ret
  exact ⟨sv, rfl, HO.out, HB6.out⟩
end Go.Proofs.YtlhmfgbaefaneaaGreatDoor.nat
namespace Go.Proofs.YtlhmfgbaefaneaaGreatDoor.nat
open Go.RowKit
def hi2 (l : List Nat) (N : Nat) : Nat := dg l (N - 1) * 18446744073709551616 + dg l (N - 2)
theorem val_hi2 {l : List Nat} {N : Nat} (hl : l.length ≤ N) (hN : 2 ≤ N) : val l = val (l.take (N - 2)) + 18446744073709551616 ^ (N - 2) * hi2 l N := by
  obtain ⟨k, rfl⟩ : ∃ k, N = k + 2 := ⟨N - 2, by omega⟩
  have h0 : val l = val (l.take (k + 1 + 1)) := by rw [List.take_of_length_le (by omega)]
  have p1 : 18446744073709551616 ^ (k + 1) = 18446744073709551616 ^ k * 18446744073709551616 := by rw [Nat.pow_succ]
  rw [h0, val_take_succ, val_take_succ, p1, Nat.mul_assoc, Nat.add_assoc, ← Nat.mul_add]
  unfold hi2
  rw [show k + 2 - 1 = k + 1 by omega, show k + 2 - 2 = k by omega]
  congr 2
  omega
theorem high_parts {l : List Nat} {N R : Nat} (hl : l.length ≤ N) (hN : 2 ≤ N) (hd : Dig l) : ∃ x0, val l = hi2 l N / 2 ^ R * (18446744073709551616 ^ (N - 2) * 2 ^ R) + x0 ∧ x0 < 18446744073709551616 ^ (N - 2) * 2 ^ R := by
  have h1 := val_hi2 hl hN
  have h2 := Nat.div_add_mod (hi2 l N) (2 ^ R)
  have h3 := val_lt' (hd.take (N - 2)) (show (l.take (N - 2)).length ≤ N - 2 by rw [List.length_take]; omega)
  have h4 : hi2 l N % 2 ^ R + 1 ≤ 2 ^ R := Nat.mod_lt _ (Nat.pow_pos (by omega))
  have h5 := Nat.mul_le_mul_left (18446744073709551616 ^ (N - 2)) h4
  rw [Nat.mul_succ] at h5
  refine ⟨val (l.take (N - 2)) + 18446744073709551616 ^ (N - 2) * (hi2 l N % 2 ^ R), ?_, by omega⟩
  have h6 : 18446744073709551616 ^ (N - 2) * hi2 l N = hi2 l N / 2 ^ R * (18446744073709551616 ^ (N - 2) * 2 ^ R) + 18446744073709551616 ^ (N - 2) * (hi2 l N % 2 ^ R) := by
    rw [← Nat.mul_assoc, Nat.mul_comm (hi2 l N / 2 ^ R), Nat.mul_assoc, ← Nat.mul_add, Nat.mul_comm (hi2 l N / 2 ^ R), h2]
  omega
theorem hi2_word {l : List Nat} {N s : Nat} (hs : s ≤ 63) : hi2 l N / 2 ^ (64 - s) = dg l (N - 1) * 2 ^ s + dg l (N - 2) / 2 ^ (64 - s) := by
  unfold hi2
  have e : (18446744073709551616 : Nat) = 2 ^ s * 2 ^ (64 - s) := by rw [← Nat.pow_add, show s + (64 - s) = 64 by omega]
  rw [e, ← Nat.mul_assoc, Nat.mul_comm _ (2 ^ (64 - s)), Nat.mul_add_div (Nat.pow_pos (by omega))]
theorem low_word {t s : Nat} (ht : t < 18446744073709551616) (hs : s ≤ 63) : t / 2 ^ (64 - s) < 2 ^ s := by
  rw [Nat.div_lt_iff_lt_mul (Nat.pow_pos (by omega)), ← Nat.pow_add, show s + (64 - s) = 64 by omega]
  exact ht
theorem high_le {x y : List Nat} {N R : Nat} (hx : x.length ≤ N) (hy : y.length ≤ N) (hN : 2 ≤ N) (hdx : Dig x) (hle : val y ≤ val x) : hi2 y N ≤ hi2 x N ∧ hi2 y N / 2 ^ R ≤ hi2 x N / 2 ^ R ∧ (dg x (N - 2) < 18446744073709551616 → dg y (N - 1) ≤ dg x (N - 1)) := by
  have h1 := val_hi2 hx hN
  have h2 := val_hi2 hy hN
  have h3 := val_lt' (hdx.take (N - 2)) (show (x.take (N - 2)).length ≤ N - 2 by rw [List.length_take]; omega)
  have h4 : hi2 y N ≤ hi2 x N := by
    rcases Nat.lt_or_ge (hi2 x N) (hi2 y N) with h | h
    · exfalso
      have h5 : 18446744073709551616 ^ (N - 2) * (hi2 x N + 1) ≤ 18446744073709551616 ^ (N - 2) * hi2 y N := Nat.mul_le_mul_left _ h
      rw [Nat.mul_succ] at h5
      omega
    · exact h
  refine ⟨h4, Nat.div_le_div_right h4, fun ht => ?_⟩
  unfold hi2 at h4
  omega
end Go.Proofs.YtlhmfgbaefaneaaGreatDoor.nat
namespace Go.Proofs.YtlhmfgbaefaneaaGreatDoor.nat
open Go.RowKit
theorem LS.one {x y a0 b0 : Nat} {e : Bool} {oX oY nX nY tX tY a b : Nat} (h : LS x y a0 b0 e oX oY nX nY tX tY a b) : 1 ≤ tY := by
  rcases h.k with h5 | ⟨h5, h6, h7, _⟩
  · omega
  · rcases Nat.eq_zero_or_pos tY with h0 | h0
    · have hx : tX = 0 := by omega
      cases e
      · have := (h.inv.1 rfl).2.2
        rw [h0, hx] at this
        omega
      · have := (h.inv.2 rfl).2.2
        rw [h0, hx] at this
        omega
    · exact h0
def five (oX oY nX nY : Nat) (e : Bool) : Obj := .cells #[.int .u64 (oX : Nat), .int .u64 (oY : Nat), .int .u64 (nX : Nat), .int .u64 (nY : Nat), .bool e] 228 (0, 0)
theorem five_cells {w : World} {b oX oY nX nY : Nat} {e : Bool} (h : w.heap[b]? = some (five oX oY nX nY e)) :
    w.cell? ⟨b, 0, none⟩ = some (.int .u64 (oX : Nat)) ∧ w.cell? ⟨b, 1, none⟩ = some (.int .u64 (oY : Nat)) ∧ w.cell? ⟨b, 2, none⟩ = some (.int .u64 (nX : Nat)) ∧ w.cell? ⟨b, 3, none⟩ = some (.int .u64 (nY : Nat)) ∧ w.cell? ⟨b, 4, none⟩ = some (.bool e) ∧ ∀ k, w.frozen? ⟨b, k, none⟩ = false := by
  unfold five at h
  refine ⟨?_, ?_, ?_, ?_, ?_, fun k => ?_⟩ <;> simp [World.cell?, World.frozen?, h]
theorem five_set {w : World} {b oX oY nX nY uX uY vX vY : Nat} {e f : Bool} (h : w.heap[b]? = some (five oX oY nX nY e)) :
    (((((w.setCell ⟨b, 0, none⟩ (.int .u64 (uX : Nat))).setCell ⟨b, 2, none⟩ (.int .u64 (vX : Nat))).setCell ⟨b, 1, none⟩ (.int .u64 (uY : Nat))).setCell ⟨b, 3, none⟩ (.int .u64 (vY : Nat))).setCell ⟨b, 4, none⟩ (.bool f)).heap[b]? = some (five uX uY vX vY f) := by
  unfold five at h ⊢
  have h1 := heap_setCell_same w b 0 _ _ (.int .u64 (uX : Nat)) h
  have h2 := heap_setCell_same _ b 2 _ _ (.int .u64 (vX : Nat)) h1
  have h3 := heap_setCell_same _ b 1 _ _ (.int .u64 (uY : Nat)) h2
  have h4 := heap_setCell_same _ b 3 _ _ (.int .u64 (vY : Nat)) h3
  have h5 := heap_setCell_same _ b 4 _ _ (.bool f) h4
  rw [h5]
  rfl
theorem five_other {w : World} {b k : Nat} {v0 v1 v2 v3 v4 : Value} (h : k ≠ b) :
    (((((w.setCell ⟨b, 0, none⟩ v0).setCell ⟨b, 2, none⟩ v1).setCell ⟨b, 1, none⟩ v2).setCell ⟨b, 3, none⟩ v3).setCell ⟨b, 4, none⟩ v4).heap[k]? = w.heap[k]? := by
  rw [Below.heap_setCell _ _ _ _ h, Below.heap_setCell _ _ _ _ h, Below.heap_setCell _ _ _ _ h, Below.heap_setCell _ _ _ _ h, Below.heap_setCell _ _ _ _ h]
def FRel (w : World) (X Y a0 b0 : Nat) (av bv xv yv : Value) (wr : World) : Prop :=
  ∃ (e : Bool) (oX oY nX nY tX tY a b : Nat), av = .int .u64 (a : Nat) ∧ bv = .int .u64 (b : Nat) ∧ xv = .int .u64 (tX : Nat) ∧ yv = .int .u64 (tY : Nat) ∧ LS X Y a0 b0 e oX oY nX nY tX tY a b ∧ (oX < 18446744073709551616 ∧ oY < 18446744073709551616 ∧ nX < 18446744073709551616 ∧ nY < 18446744073709551616) ∧
    wr.heap[w.heap.size + 1]? = some (five oX oY nX nY e) ∧ wr.heap[w.heap.size]? = some (five 0 0 0 0 false) ∧ Below w.heap.size w wr
def LeadEnd (w : World) (X Y : Nat) (e' : Ending) (w' : World) : Prop :=
  ∃ (e : Bool) (oX oY nX nY : Nat), e' = .returned (.agg #[.int .u64 (oX : Nat), .int .u64 (oY : Nat), .int .u64 (nX : Nat), .int .u64 (nY : Nat), .bool e]) ∧
    ((oX < 18446744073709551616 ∧ oY < 18446744073709551616 ∧ nX < 18446744073709551616 ∧ nY < 18446744073709551616) ∧ (oY = 0 ∨ OldOK X Y e oX oY nX nY)) ∧ Below w.heap.size w w'
theorem five_fill {w : World} {b oX oY nX nY uX uY vX vY : Nat} {e f : Bool} (h : w.heap[b]? = some (five oX oY nX nY e)) :
    (((((w.setCell ⟨b, 0, none⟩ (.int .u64 (uX : Nat))).setCell ⟨b, 1, none⟩ (.int .u64 (uY : Nat))).setCell ⟨b, 2, none⟩ (.int .u64 (vX : Nat))).setCell ⟨b, 3, none⟩ (.int .u64 (vY : Nat))).setCell ⟨b, 4, none⟩ (.bool f)).heap[b]? = some (five uX uY vX vY f) := by
  unfold five at h ⊢
  have h1 := heap_setCell_same w b 0 _ _ (.int .u64 (uX : Nat)) h
  have h2 := heap_setCell_same _ b 1 _ _ (.int .u64 (uY : Nat)) h1
  have h3 := heap_setCell_same _ b 2 _ _ (.int .u64 (vX : Nat)) h2
  have h4 := heap_setCell_same _ b 3 _ _ (.int .u64 (vY : Nat)) h3
  have h5 := heap_setCell_same _ b 4 _ _ (.bool f) h4
  rw [h5]
  rfl
set_option maxRecDepth 100000 in
set_option maxHeartbeats 8000000 in
theorem leadingSteps_any (sx sy : Value) (x y : List Nat) (w : World) (hx : Rd w sx x) (hy : Rd w sy y) (hnx : Norm x) (hdy : Dig y) (hN2 : 2 ≤ x.length) (hM2 : 2 ≤ y.length) (hs : x.length ≤ 900000) (hle : val y ≤ val x) (hlen : y.length ≤ x.length) :
    Calls Tryz.prog 219 #[sx, sy] w fun e' w' => LeadEnd w (val x) (val y) e' w' := by
  obtain ⟨ao, xcap, rfl, ⟨h1, -⟩, h2, -⟩ := id hx
  obtain ⟨bo, ycap, rfl, ⟨k1, -⟩, k2, -⟩ := id hy
  obtain ⟨N, hN⟩ : ∃ N, x.length = N := ⟨_, rfl⟩
  obtain ⟨M, hM⟩ : ∃ M, y.length = M := ⟨_, rfl⟩
  rw [hN] at h1 hs hN2 hlen hx ⊢
  rw [hM] at k1 hM2 hlen hy ⊢
  obtain ⟨gx, ox, rfl, -⟩ := lenpos hx (by omega)
  obtain ⟨gy, oy, rfl, -⟩ := lenpos hy (by omega)
  unfold maxLen at h2 k2
  have htop := norm_top hnx (by omega)
  rw [hN] at htop
  obtain ⟨s, ⟨hs63, hs1, hs2⟩, LZ⟩ := Lead64_ex (dg x (N - 1)) (dg_lt hnx.1 _) htop
  obtain ⟨x0, px, px0⟩ := high_parts (R := 64 - s) (Nat.le_of_eq hN) hN2 hnx.1
  obtain ⟨y0, py, py0⟩ := high_parts (R := 64 - s) (show y.length ≤ N by omega) hN2 hdy
  obtain ⟨-, hb0a0, htops⟩ := high_le (R := 64 - s) (Nat.le_of_eq hN) (show y.length ≤ N by omega) hN2 hnx.1 hle
  have htops := htops (dg_lt hnx.1 _)
  rw [hi2_word hs63] at px
  rw [hi2_word hs63] at py
  rw [hi2_word hs63, hi2_word hs63] at hb0a0
  have lx := low_word (dg_lt hnx.1 (N - 2)) hs63
  have ly := low_word (dg_lt hdy (N - 2)) hs63
  have c1 := hx.cellAt (N - 1) (by omega)
  have c2 := hx.cellAt (N - 2) (by omega)
  have hm3 : dg y (N - 1) * 2 ^ s < 18446744073709551616 := Nat.lt_of_le_of_lt (Nat.mul_le_mul_right _ htops) hs1
  obtain ⟨m1, hm1⟩ : ∃ m, m = dg x (N - 1) * 2 ^ s := ⟨_, rfl⟩
  obtain ⟨m2, hm2⟩ : ∃ m, m = dg x (N - 2) / 2 ^ (64 - s) := ⟨_, rfl⟩
  obtain ⟨m3, hm3e⟩ : ∃ m, m = dg y (N - 1) * 2 ^ s := ⟨_, rfl⟩
  obtain ⟨m4, hm4⟩ : ∃ m, m = dg y (N - 2) / 2 ^ (64 - s) := ⟨_, rfl⟩
  rw [← hm1, ← hm2] at px hb0a0
  rw [← hm3e, ← hm4] at py hb0a0
  rw [← hm2] at lx
  rw [← hm4] at ly
  have b1 : m1 < 18446744073709551616 := by rw [hm1]; exact hs1
  have b3 : m3 < 18446744073709551616 := by rw [hm3e]; exact hm3
  have s63 : 2 ^ s ≤ 9223372036854775808 := by
    have : 2 ^ s ≤ 2 ^ 63 := Nat.pow_le_pow_right (by omega) hs63
    omega
  have o1 : m1 ||| m2 = m1 + m2 := by rw [Nat.or_comm, or_add lx hm1]; omega
  have o3 : m3 ||| m4 = m3 + m4 := by rw [Nat.or_comm, or_add ly hm3e]; omega
  obtain ⟨a0, ha0⟩ : ∃ a, a = m1 + m2 := ⟨_, rfl⟩
  obtain ⟨b0, hb0⟩ : ∃ b, b = m3 + m4 := ⟨_, rfl⟩
  rw [← ha0] at px hb0a0
  rw [← hb0] at py hb0a0
  have ba : a0 < 18446744073709551616 := by rw [ha0, ← o1]; exact Nat.or_lt_two_pow (n := 64) b1 (by omega)
  have bb : b0 < 18446744073709551616 := by omega
  have F1 : IntKind.u64.wrap ((dg x (N - 1) : Nat) * 2 ^ s) = (m1 : Int) := by rw [wrapShl, ← hm1, Nat.mod_eq_of_lt b1]
  have F2 : ((dg x (N - 2) : Nat) : Int) / 2 ^ (64 - s) = (m2 : Int) := by rw [divShr, ← hm2]
  have F3 : bits .or .u64 (m1 : Int) (m2 : Int) = (a0 : Int) := by rw [bits_or_u64_nat _ _ b1 (by omega), o1, ← ha0]
  have F4 : IntKind.u64.wrap ((dg y (N - 1) : Nat) * 2 ^ s) = (m3 : Int) := by rw [wrapShl, ← hm3e, Nat.mod_eq_of_lt b3]
  have F5 : ((dg y (N - 2) : Nat) : Int) / 2 ^ (64 - s) = (m4 : Int) := by rw [divShr, ← hm4]
  have F6 : bits .or .u64 (m3 : Int) (m4 : Int) = (b0 : Int) := by rw [bits_or_u64_nat _ _ b3 (by omega), o3, ← hb0]
  have LSS := Lib.hid (LS.start (x := val x) (y := val y) hb0a0)
  have HY := Lib.hid hy
  have HPX := Lib.hid px
  have HPY := Lib.hid py
  have HP0 := Lib.hid (And.intro px0 py0)
  have HBA := Lib.hid (And.intro ba bb)
  have Hm3 := Lib.hid hm3e
  have Hm4 := Lib.hid hm4
  have Hb0 := Lib.hid hb0
  have HM := Lib.hid hM
  have HDY := Lib.hid hdy
  have n1 : gx < w.heap.size := cell_lt c1
  have n2 : gy < w.heap.size := cell_lt (hy.cellAt 0 (by omega))
  have q1 := fun o => (((Below.refl w.heap.size w).alloc (Nat.le_refl _) o).cell (p := ⟨gx, ox + (N - 1), none⟩) n1).trans c1
  have q2 := fun o => (((Below.refl w.heap.size w).alloc (Nat.le_refl _) o).cell (p := ⟨gx, ox + (N - 2), none⟩) n1).trans c2
  obtain ⟨t1, ht1⟩ : ∃ t, t = dg x (N - 1) := ⟨_, rfl⟩
  obtain ⟨t0, ht0⟩ : ∃ t, t = dg x (N - 2) := ⟨_, rfl⟩
  obtain ⟨y1, hy1⟩ : ∃ t, t = dg y (N - 1) := ⟨_, rfl⟩
  obtain ⟨y0', hy0⟩ : ∃ t, t = dg y (N - 2) := ⟨_, rfl⟩
  rw [← ht1] at F1 q1 LZ
  rw [← ht0] at F2 q2
  rw [← hy1] at F4
  rw [← hy0] at F5
  have Hy1 := Lib.hid hy1
  have Hy0 := Lib.hid hy0
  have LZ' := Lib.hid LZ
  have e1 : ((N : Int) - 1).toNat = N - 1 := by omega
  have g1 : IntKind.i64.wrap ((N : Int) - 1 - 1) = ((N - 2 : Nat) : Int) := by rw [IntKind.wrap_i64]; omega
  have g2 : ((N : Int) - 1 - 1).toNat = N - 2 := by omega
  have g3 : IntKind.i64.wrap (64 - (s : Int)) = ((64 - s : Nat) : Int) := by rw [IntKind.wrap_i64]; omega
  have g4 : 64 - (s : Int) = ((64 - s : Nat) : Int) := by omega
  have i1 : (N : Int) - 1 < (N : Int) := by omega
  have i2 : ((N - 2 : Nat) : Int) < (N : Int) := by omega
  have i3 : (0 : Int) ≤ (N : Int) - 1 := by omega
  obtain ⟨X, hX⟩ : ∃ X, X = val x := ⟨_, rfl⟩
  obtain ⟨Y, hYe⟩ : ∃ Y, Y = val y := ⟨_, rfl⟩
  rw [← hX] at HPX LSS ⊢
  rw [← hYe] at HPY LSS ⊢
  have LSTART := Lib.hid (fun (n : Nat) => show FRel w X Y a0 b0 (.int .u64 (a0 : Nat)) (.int .u64 (b0 : Nat)) (.int .u64 ((0 : Nat) : Int)) (.int .u64 ((1 : Nat) : Int)) (((w.alloc (five 0 0 0 0 false)).drewN n).alloc (five 0 0 1 0 false)) from
    ⟨false, 0, 0, 1, 0, 0, 1, a0, b0, rfl, rfl, rfl, rfl, LSS.out, by omega, by
      have := heap_alloc_new ((w.alloc (five 0 0 0 0 false)).drewN n) (five 0 0 1 0 false)
      rwa [show ((w.alloc (five 0 0 0 0 false)).drewN n).heap.size = w.heap.size + 1 from by show (w.alloc _).heap.size = _; simp] at this, by
      have h1 := Below.heap_alloc ((w.alloc (five 0 0 0 0 false)).drewN n) (five 0 0 1 0 false) w.heap.size (by show _ < (w.alloc _).heap.size; simp)
      exact h1.trans (heap_alloc_new w _), ((drewN_below ((Below.refl _ _).alloc (Nat.le_refl _) _) n).alloc (by show _ ≤ (w.alloc _).heap.size; simp) _)⟩)
  clear hx hnx hdy hN htop hs1 hs2 LZ px px0 py py0 hb0a0 htops lx ly c1 c2 hm3 hm1 hm2 hm3e hm4 b1 b3 s63 o1 o3 ha0 hb0 ba bb LSS ht1 ht0 hy1 hy0 hX hYe hle hy hM
  have UNF : five = fun oX oY nX nY e => Obj.cells #[.int .u64 (oX : Nat), .int .u64 (oY : Nat), .int .u64 (nX : Nat), .int .u64 (nY : Nat), .bool e] 228 (0, 0) := rfl
  rcases (show M = N ∨ (M < N ∧ N - 1 = M) ∨ M + 2 ≤ N by omega) with hMN | ⟨hMN, hMN1⟩ | hMN
  · subst hMN
    have d1 := HY.out.cellAt (M - 1) (by omega)
    have d2 := HY.out.cellAt (M - 2) (by omega)
    rw [← Hy1.out] at d1
    rw [← Hy0.out] at d2
    have q3 := fun o => (((Below.refl w.heap.size w).alloc (Nat.le_refl _) o).cell (p := ⟨gy, oy + (M - 1), none⟩) n2).trans d1
    have q4 := fun o => (((Below.refl w.heap.size w).alloc (Nat.le_refl _) o).cell (p := ⟨gy, oy + (M - 2), none⟩) n2).trans d2
    rw [UNF] at LSTART
    clear d1 d2
    go_enter Tryz.func219, Tryz.ntmps219
    go_wp2_with (go_at_call 258; refine (LZ'.out _).mono ?_; rintro e w' ⟨rfl, rfl⟩)
    go_quiet (fail)
    go_wp2
    go_quiet (fail)
    go_wp2
    go_loopw [7, 8, 10, 11] (fun av bv xv yv wr => FRel w X Y a0 b0 av bv xv yv wr) (fun _ bv _ _ _ => (intOf bv).toNat)
    case atStart => exact LSTART.out _
    case round =>
      obtain ⟨e, oX, oY, nX, nY, tX, tY, a, b, rfl, rfl, rfl, rfl, hls, hbd, hF, hR, hb⟩ := hrel
      clear LSTART UNF
      have hab := hls.le
      have hone := hls.one
      obtain ⟨c0, c1, c2, c3, c4, cf⟩ := five_cells hF
      have cf0 := cf 0; have cf1 := cf 1; have cf2 := cf 2; have cf3 := cf 3; have cf4 := cf 4
      by_cases t1' : (tY : Int) ≤ (b : Int)
      · obtain ⟨r1, r2, r3, r4⟩ := hls.room HBA.out.1 HBA.out.2 (by omega)
        by_cases t2 : (nY : Int) + (tY : Int) ≤ (a : Int) - (b : Int)
        · obtain ⟨q, hq⟩ : ∃ q, q = a / b := ⟨_, rfl⟩
          obtain ⟨r, hr⟩ : ∃ r, r = a % b := ⟨_, rfl⟩
          have hdiv : a = b * q + r := by rw [hq, hr]; exact (Nat.div_add_mod a b).symm
          have hrb : r < b := by rw [hr]; exact Nat.mod_lt _ (by omega)
          have hnx := LS.next HPX.out HPY.out HP0.out.1 HP0.out.2 hls (by omega) (by omega) (by omega) hdiv hrb
          obtain ⟨s1, s2⟩ := hnx.inv.sum
          obtain ⟨u1, hu1⟩ : ∃ u, u = q * tX := ⟨_, rfl⟩
          obtain ⟨u2, hu2⟩ : ∃ u, u = q * tY := ⟨_, rfl⟩
          rw [← hu1, ← hu2] at hnx
          rw [← hu1] at s2
          rw [← hu2] at s1
          have z1 : nX + u1 < 18446744073709551616 := by
            have := Nat.le_mul_of_pos_right (nX + u1) (show 0 < b by omega)
            have := HBA.out.2
            omega
          have z2 : nY + u2 < 18446744073709551616 := by
            have := Nat.le_mul_of_pos_right (nY + u2) (show 0 < b by omega)
            have := HBA.out.1
            omega
          have G1 : (a : Int) / (b : Int) = (q : Int) := by rw [hq, divNat]
          have G2 : (a : Int) % (b : Int) = (r : Int) := by rw [hr, Int.natCast_emod]
          have G3 : IntKind.u64.wrap ((q : Int) * (tX : Int)) = (u1 : Int) := by rw [wrapMul, ← hu1, Nat.mod_eq_of_lt (by omega)]
          have G4 : IntKind.u64.wrap ((q : Int) * (tY : Int)) = (u2 : Int) := by rw [wrapMul, ← hu2, Nat.mod_eq_of_lt (by omega)]
          have hqb : q < 18446744073709551616 := by rw [hq]; exact Nat.lt_of_le_of_lt (Nat.div_le_self _ _) r4
          have hb0' : ¬ (b : Int) = 0 := by omega
          have HNX := Lib.hid hnx
          have HF := Lib.hid hF
          have HR := Lib.hid hR
          have HB := Lib.hid hb
          have Hz := Lib.hid (And.intro z1 z2)
          have tyb : tY < 18446744073709551616 := by omega
          clear hls hq hr hdiv hnx s1 s2 hu1 hu2 hF hR hb cf
          go_wp2
          go_quiet (fail)
          go_wp2
          go_roundw
          case rel =>
            have k1 := five_set (uX := nX) (uY := nY) (vX := tX) (vY := tY) (f := !e) (show (wr.drewN nq).heap[w.heap.size + 1]? = _ from HF.out)
            refine ⟨!e, nX, nY, tX, tY, nX + u1, nY + u2, b, r, by go_num, G2 ▸ rfl, by go_num, by go_num, HNX.out, ⟨r1, hbd.2.2.2, r3, tyb⟩, k1, ?_, ?_⟩
            · exact (five_other (w := wr.drewN nq) (by omega)).trans HR.out
            · exact ((((((drewN_below HB.out nq).setCell (p := ⟨w.heap.size + 1, 0, none⟩) (Nat.le_succ _) _).setCell (p := ⟨w.heap.size + 1, 2, none⟩) (Nat.le_succ _) _).setCell (p := ⟨w.heap.size + 1, 1, none⟩) (Nat.le_succ _) _).setCell (p := ⟨w.heap.size + 1, 3, none⟩) (Nat.le_succ _) _).setCell (p := ⟨w.heap.size + 1, 4, none⟩) (Nat.le_succ _) _)
          case measure => simp [intOf]; omega
        · have HK := Lib.hid (show oY = 0 ∨ OldOK X Y e oX oY nX nY from hls.k.elim (fun h => Or.inl h.2.1) (fun h => h.2.2.2.2.2))
          have HB := Lib.hid hb
          have HBD := Lib.hid hbd
          obtain ⟨d0, d1, d2, d3, d4, df⟩ := five_cells hR
          have df0 := df 0; have df1 := df 1; have df2 := df 2; have df3 := df 3; have df4 := df 4
          have HW := Lib.hid (five_cells (five_fill (uX := oX) (uY := oY) (vX := nX) (vY := nY) (f := e) hR))
          clear hls hb hbd cf df
          go_wp2
          obtain ⟨x0', x1', x2', x3', x4', -⟩ := HW.out
          refine bodyPost_ret (v := .agg #[.int .u64 (oX : Nat), .int .u64 (oY : Nat), .int .u64 (nX : Nat), .int .u64 (nY : Nat), .bool e]) ?_ rfl ?_
          · simp [results, Tryz.results219, go_sem, x0', x1', x2', x3', x4']
          · exact ⟨e, oX, oY, nX, nY, rfl, ⟨HBD.out, HK.out⟩, ((((HB.out.setCell (p := ⟨w.heap.size, 0, none⟩) (Nat.le_refl _) _).setCell (p := ⟨w.heap.size, 1, none⟩) (Nat.le_refl _) _).setCell (p := ⟨w.heap.size, 2, none⟩) (Nat.le_refl _) _).setCell (p := ⟨w.heap.size, 3, none⟩) (Nat.le_refl _) _).setCell (p := ⟨w.heap.size, 4, none⟩) (Nat.le_refl _) _⟩
      · have HK := Lib.hid (show oY = 0 ∨ OldOK X Y e oX oY nX nY from hls.k.elim (fun h => Or.inl h.2.1) (fun h => h.2.2.2.2.2))
        have HB := Lib.hid hb
        have HBD := Lib.hid hbd
        obtain ⟨d0, d1, d2, d3, d4, df⟩ := five_cells hR
        have df0 := df 0; have df1 := df 1; have df2 := df 2; have df3 := df 3; have df4 := df 4
        have HW := Lib.hid (five_cells (five_fill (uX := oX) (uY := oY) (vX := nX) (vY := nY) (f := e) hR))
        clear hls hb hbd cf df
        go_wp2
        obtain ⟨x0', x1', x2', x3', x4', -⟩ := HW.out
        refine bodyPost_ret (v := .agg #[.int .u64 (oX : Nat), .int .u64 (oY : Nat), .int .u64 (nX : Nat), .int .u64 (nY : Nat), .bool e]) ?_ rfl ?_
        · simp [results, Tryz.results219, go_sem, x0', x1', x2', x3', x4']
        · exact ⟨e, oX, oY, nX, nY, rfl, ⟨HBD.out, HK.out⟩, ((((HB.out.setCell (p := ⟨w.heap.size, 0, none⟩) (Nat.le_refl _) _).setCell (p := ⟨w.heap.size, 1, none⟩) (Nat.le_refl _) _).setCell (p := ⟨w.heap.size, 2, none⟩) (Nat.le_refl _) _).setCell (p := ⟨w.heap.size, 3, none⟩) (Nat.le_refl _) _).setCell (p := ⟨w.heap.size, 4, none⟩) (Nat.le_refl _) _⟩
  · have d2 := HY.out.cellAt (N - 2) (by omega)
    rw [← Hy0.out] at d2
    have q4 := fun o => (((Below.refl w.heap.size w).alloc (Nat.le_refl _) o).cell (p := ⟨gy, oy + (N - 2), none⟩) n2).trans d2
    have hm30 : m3 = 0 := by rw [Hm3.out, dg_out (by rw [HM.out]; omega), Nat.zero_mul]
    have hb4 : (m4 : Int) = (b0 : Int) := by have := Hb0.out; omega
    have j1 : ((N : Int) - 1 - (M : Int) == -1) = false := by simp only [beq_eq_false_iff_ne, ne_eq]; omega
    have j2 : ((N : Int) - 1 - (M : Int) == 0) = true := by simp only [beq_iff_eq]; omega
    have j3 : (N : Int) - 2 < (M : Int) := by omega
    have j4 : ((N - 2 : Nat) : Int) < (M : Int) := by omega
    rw [hb4] at F5
    rw [UNF] at LSTART
    clear d2 hm30 F6 F4 hb4 hMN1
    go_enter Tryz.func219, Tryz.ntmps219
    go_wp2_with (go_at_call 258; refine (LZ'.out _).mono ?_; rintro e w' ⟨rfl, rfl⟩)
    go_quiet (fail)
    go_wp2
    go_loopw [7, 8, 10, 11] (fun av bv xv yv wr => FRel w X Y a0 b0 av bv xv yv wr) (fun _ bv _ _ _ => (intOf bv).toNat)
    case atStart => exact LSTART.out _
    case round =>
      obtain ⟨e, oX, oY, nX, nY, tX, tY, a, b, rfl, rfl, rfl, rfl, hls, hbd, hF, hR, hb⟩ := hrel
      clear LSTART UNF
      have hab := hls.le
      have hone := hls.one
      obtain ⟨c0, c1, c2, c3, c4, cf⟩ := five_cells hF
      have cf0 := cf 0; have cf1 := cf 1; have cf2 := cf 2; have cf3 := cf 3; have cf4 := cf 4
      by_cases t1' : (tY : Int) ≤ (b : Int)
      · obtain ⟨r1, r2, r3, r4⟩ := hls.room HBA.out.1 HBA.out.2 (by omega)
        by_cases t2 : (nY : Int) + (tY : Int) ≤ (a : Int) - (b : Int)
        · obtain ⟨q, hq⟩ : ∃ q, q = a / b := ⟨_, rfl⟩
          obtain ⟨r, hr⟩ : ∃ r, r = a % b := ⟨_, rfl⟩
          have hdiv : a = b * q + r := by rw [hq, hr]; exact (Nat.div_add_mod a b).symm
          have hrb : r < b := by rw [hr]; exact Nat.mod_lt _ (by omega)
          have hnx := LS.next HPX.out HPY.out HP0.out.1 HP0.out.2 hls (by omega) (by omega) (by omega) hdiv hrb
          obtain ⟨s1, s2⟩ := hnx.inv.sum
          obtain ⟨u1, hu1⟩ : ∃ u, u = q * tX := ⟨_, rfl⟩
          obtain ⟨u2, hu2⟩ : ∃ u, u = q * tY := ⟨_, rfl⟩
          rw [← hu1, ← hu2] at hnx
          rw [← hu1] at s2
          rw [← hu2] at s1
          have z1 : nX + u1 < 18446744073709551616 := by
            have := Nat.le_mul_of_pos_right (nX + u1) (show 0 < b by omega)
            have := HBA.out.2
            omega
          have z2 : nY + u2 < 18446744073709551616 := by
            have := Nat.le_mul_of_pos_right (nY + u2) (show 0 < b by omega)
            have := HBA.out.1
            omega
          have G1 : (a : Int) / (b : Int) = (q : Int) := by rw [hq, divNat]
          have G2 : (a : Int) % (b : Int) = (r : Int) := by rw [hr, Int.natCast_emod]
          have G3 : IntKind.u64.wrap ((q : Int) * (tX : Int)) = (u1 : Int) := by rw [wrapMul, ← hu1, Nat.mod_eq_of_lt (by omega)]
          have G4 : IntKind.u64.wrap ((q : Int) * (tY : Int)) = (u2 : Int) := by rw [wrapMul, ← hu2, Nat.mod_eq_of_lt (by omega)]
          have hqb : q < 18446744073709551616 := by rw [hq]; exact Nat.lt_of_le_of_lt (Nat.div_le_self _ _) r4
          have hb0' : ¬ (b : Int) = 0 := by omega
          have HNX := Lib.hid hnx
          have HF := Lib.hid hF
          have HR := Lib.hid hR
          have HB := Lib.hid hb
          have Hz := Lib.hid (And.intro z1 z2)
          have tyb : tY < 18446744073709551616 := by omega
          clear hls hq hr hdiv hnx s1 s2 hu1 hu2 hF hR hb cf
          go_wp2
          go_quiet (fail)
          go_wp2
          go_roundw
          case rel =>
            have k1 := five_set (uX := nX) (uY := nY) (vX := tX) (vY := tY) (f := !e) (show (wr.drewN nq).heap[w.heap.size + 1]? = _ from HF.out)
            refine ⟨!e, nX, nY, tX, tY, nX + u1, nY + u2, b, r, by go_num, G2 ▸ rfl, by go_num, by go_num, HNX.out, ⟨r1, hbd.2.2.2, r3, tyb⟩, k1, ?_, ?_⟩
            · exact (five_other (w := wr.drewN nq) (by omega)).trans HR.out
            · exact ((((((drewN_below HB.out nq).setCell (p := ⟨w.heap.size + 1, 0, none⟩) (Nat.le_succ _) _).setCell (p := ⟨w.heap.size + 1, 2, none⟩) (Nat.le_succ _) _).setCell (p := ⟨w.heap.size + 1, 1, none⟩) (Nat.le_succ _) _).setCell (p := ⟨w.heap.size + 1, 3, none⟩) (Nat.le_succ _) _).setCell (p := ⟨w.heap.size + 1, 4, none⟩) (Nat.le_succ _) _)
          case measure => simp [intOf]; omega
        · have HK := Lib.hid (show oY = 0 ∨ OldOK X Y e oX oY nX nY from hls.k.elim (fun h => Or.inl h.2.1) (fun h => h.2.2.2.2.2))
          have HB := Lib.hid hb
          have HBD := Lib.hid hbd
          obtain ⟨d0, d1, d2, d3, d4, df⟩ := five_cells hR
          have df0 := df 0; have df1 := df 1; have df2 := df 2; have df3 := df 3; have df4 := df 4
          have HW := Lib.hid (five_cells (five_fill (uX := oX) (uY := oY) (vX := nX) (vY := nY) (f := e) hR))
          clear hls hb hbd cf df
          go_wp2
          obtain ⟨x0', x1', x2', x3', x4', -⟩ := HW.out
          refine bodyPost_ret (v := .agg #[.int .u64 (oX : Nat), .int .u64 (oY : Nat), .int .u64 (nX : Nat), .int .u64 (nY : Nat), .bool e]) ?_ rfl ?_
          · simp [results, Tryz.results219, go_sem, x0', x1', x2', x3', x4']
          · exact ⟨e, oX, oY, nX, nY, rfl, ⟨HBD.out, HK.out⟩, ((((HB.out.setCell (p := ⟨w.heap.size, 0, none⟩) (Nat.le_refl _) _).setCell (p := ⟨w.heap.size, 1, none⟩) (Nat.le_refl _) _).setCell (p := ⟨w.heap.size, 2, none⟩) (Nat.le_refl _) _).setCell (p := ⟨w.heap.size, 3, none⟩) (Nat.le_refl _) _).setCell (p := ⟨w.heap.size, 4, none⟩) (Nat.le_refl _) _⟩
      · have HK := Lib.hid (show oY = 0 ∨ OldOK X Y e oX oY nX nY from hls.k.elim (fun h => Or.inl h.2.1) (fun h => h.2.2.2.2.2))
        have HB := Lib.hid hb
        have HBD := Lib.hid hbd
        obtain ⟨d0, d1, d2, d3, d4, df⟩ := five_cells hR
        have df0 := df 0; have df1 := df 1; have df2 := df 2; have df3 := df 3; have df4 := df 4
        have HW := Lib.hid (five_cells (five_fill (uX := oX) (uY := oY) (vX := nX) (vY := nY) (f := e) hR))
        clear hls hb hbd cf df
        go_wp2
        obtain ⟨x0', x1', x2', x3', x4', -⟩ := HW.out
        refine bodyPost_ret (v := .agg #[.int .u64 (oX : Nat), .int .u64 (oY : Nat), .int .u64 (nX : Nat), .int .u64 (nY : Nat), .bool e]) ?_ rfl ?_
        · simp [results, Tryz.results219, go_sem, x0', x1', x2', x3', x4']
        · exact ⟨e, oX, oY, nX, nY, rfl, ⟨HBD.out, HK.out⟩, ((((HB.out.setCell (p := ⟨w.heap.size, 0, none⟩) (Nat.le_refl _) _).setCell (p := ⟨w.heap.size, 1, none⟩) (Nat.le_refl _) _).setCell (p := ⟨w.heap.size, 2, none⟩) (Nat.le_refl _) _).setCell (p := ⟨w.heap.size, 3, none⟩) (Nat.le_refl _) _).setCell (p := ⟨w.heap.size, 4, none⟩) (Nat.le_refl _) _⟩
  · have hm30 : m3 = 0 := by rw [Hm3.out, dg_out (by rw [HM.out]; omega), Nat.zero_mul]
    have hm40 : m4 = 0 := by rw [Hm4.out, dg_out (by rw [HM.out]; omega), Nat.zero_div]
    have hb4 : b0 = 0 := by have := Hb0.out; omega
    have j1 : ((N : Int) - 1 - (M : Int) == -1) = false := by simp only [beq_eq_false_iff_ne, ne_eq]; omega
    have j2 : ((N : Int) - 1 - (M : Int) == 0) = false := by simp only [beq_eq_false_iff_ne, ne_eq]; omega
    rw [UNF] at LSTART
    clear hm30 hm40 F6 F4 F5
    have Hb4 := Lib.hid hb4
    clear hb4
    go_enter Tryz.func219, Tryz.ntmps219
    go_wp2_with (go_at_call 258; refine (LZ'.out _).mono ?_; rintro e w' ⟨rfl, rfl⟩)
    go_quiet (fail)
    go_wp2
    go_loopw [7, 8, 10, 11] (fun av bv xv yv wr => FRel w X Y a0 b0 av bv xv yv wr) (fun _ bv _ _ _ => (intOf bv).toNat)
    case atStart => (have h := LSTART.out nq; rw [Hb4.out] at h; rw [Hb4.out]; exact h)
    case round =>
      obtain ⟨e, oX, oY, nX, nY, tX, tY, a, b, rfl, rfl, rfl, rfl, hls, hbd, hF, hR, hb⟩ := hrel
      clear LSTART UNF
      have hab := hls.le
      have hone := hls.one
      obtain ⟨c0, c1, c2, c3, c4, cf⟩ := five_cells hF
      have cf0 := cf 0; have cf1 := cf 1; have cf2 := cf 2; have cf3 := cf 3; have cf4 := cf 4
      by_cases t1' : (tY : Int) ≤ (b : Int)
      · obtain ⟨r1, r2, r3, r4⟩ := hls.room HBA.out.1 HBA.out.2 (by omega)
        by_cases t2 : (nY : Int) + (tY : Int) ≤ (a : Int) - (b : Int)
        · obtain ⟨q, hq⟩ : ∃ q, q = a / b := ⟨_, rfl⟩
          obtain ⟨r, hr⟩ : ∃ r, r = a % b := ⟨_, rfl⟩
          have hdiv : a = b * q + r := by rw [hq, hr]; exact (Nat.div_add_mod a b).symm
          have hrb : r < b := by rw [hr]; exact Nat.mod_lt _ (by omega)
          have hnx := LS.next HPX.out HPY.out HP0.out.1 HP0.out.2 hls (by omega) (by omega) (by omega) hdiv hrb
          obtain ⟨s1, s2⟩ := hnx.inv.sum
          obtain ⟨u1, hu1⟩ : ∃ u, u = q * tX := ⟨_, rfl⟩
          obtain ⟨u2, hu2⟩ : ∃ u, u = q * tY := ⟨_, rfl⟩
          rw [← hu1, ← hu2] at hnx
          rw [← hu1] at s2
          rw [← hu2] at s1
          have z1 : nX + u1 < 18446744073709551616 := by
            have := Nat.le_mul_of_pos_right (nX + u1) (show 0 < b by omega)
            have := HBA.out.2
            omega
          have z2 : nY + u2 < 18446744073709551616 := by
            have := Nat.le_mul_of_pos_right (nY + u2) (show 0 < b by omega)
            have := HBA.out.1
            omega
          have G1 : (a : Int) / (b : Int) = (q : Int) := by rw [hq, divNat]
          have G2 : (a : Int) % (b : Int) = (r : Int) := by rw [hr, Int.natCast_emod]
          have G3 : IntKind.u64.wrap ((q : Int) * (tX : Int)) = (u1 : Int) := by rw [wrapMul, ← hu1, Nat.mod_eq_of_lt (by omega)]
          have G4 : IntKind.u64.wrap ((q : Int) * (tY : Int)) = (u2 : Int) := by rw [wrapMul, ← hu2, Nat.mod_eq_of_lt (by omega)]
          have hqb : q < 18446744073709551616 := by rw [hq]; exact Nat.lt_of_le_of_lt (Nat.div_le_self _ _) r4
          have hb0' : ¬ (b : Int) = 0 := by omega
          have HNX := Lib.hid hnx
          have HF := Lib.hid hF
          have HR := Lib.hid hR
          have HB := Lib.hid hb
          have Hz := Lib.hid (And.intro z1 z2)
          have tyb : tY < 18446744073709551616 := by omega
          clear hls hq hr hdiv hnx s1 s2 hu1 hu2 hF hR hb cf
          go_wp2
          go_quiet (fail)
          go_wp2
          go_roundw
          case rel =>
            have k1 := five_set (uX := nX) (uY := nY) (vX := tX) (vY := tY) (f := !e) (show (wr.drewN nq).heap[w.heap.size + 1]? = _ from HF.out)
            refine ⟨!e, nX, nY, tX, tY, nX + u1, nY + u2, b, r, by go_num, G2 ▸ rfl, by go_num, by go_num, HNX.out, ⟨r1, hbd.2.2.2, r3, tyb⟩, k1, ?_, ?_⟩
            · exact (five_other (w := wr.drewN nq) (by omega)).trans HR.out
            · exact ((((((drewN_below HB.out nq).setCell (p := ⟨w.heap.size + 1, 0, none⟩) (Nat.le_succ _) _).setCell (p := ⟨w.heap.size + 1, 2, none⟩) (Nat.le_succ _) _).setCell (p := ⟨w.heap.size + 1, 1, none⟩) (Nat.le_succ _) _).setCell (p := ⟨w.heap.size + 1, 3, none⟩) (Nat.le_succ _) _).setCell (p := ⟨w.heap.size + 1, 4, none⟩) (Nat.le_succ _) _)
          case measure => simp [intOf]; omega
        · have HK := Lib.hid (show oY = 0 ∨ OldOK X Y e oX oY nX nY from hls.k.elim (fun h => Or.inl h.2.1) (fun h => h.2.2.2.2.2))
          have HB := Lib.hid hb
          have HBD := Lib.hid hbd
          obtain ⟨d0, d1, d2, d3, d4, df⟩ := five_cells hR
          have df0 := df 0; have df1 := df 1; have df2 := df 2; have df3 := df 3; have df4 := df 4
          have HW := Lib.hid (five_cells (five_fill (uX := oX) (uY := oY) (vX := nX) (vY := nY) (f := e) hR))
          clear hls hb hbd cf df
          go_wp2
          obtain ⟨x0', x1', x2', x3', x4', -⟩ := HW.out
          refine bodyPost_ret (v := .agg #[.int .u64 (oX : Nat), .int .u64 (oY : Nat), .int .u64 (nX : Nat), .int .u64 (nY : Nat), .bool e]) ?_ rfl ?_
          · simp [results, Tryz.results219, go_sem, x0', x1', x2', x3', x4']
          · exact ⟨e, oX, oY, nX, nY, rfl, ⟨HBD.out, HK.out⟩, ((((HB.out.setCell (p := ⟨w.heap.size, 0, none⟩) (Nat.le_refl _) _).setCell (p := ⟨w.heap.size, 1, none⟩) (Nat.le_refl _) _).setCell (p := ⟨w.heap.size, 2, none⟩) (Nat.le_refl _) _).setCell (p := ⟨w.heap.size, 3, none⟩) (Nat.le_refl _) _).setCell (p := ⟨w.heap.size, 4, none⟩) (Nat.le_refl _) _⟩
      · have HK := Lib.hid (show oY = 0 ∨ OldOK X Y e oX oY nX nY from hls.k.elim (fun h => Or.inl h.2.1) (fun h => h.2.2.2.2.2))
        have HB := Lib.hid hb
        have HBD := Lib.hid hbd
        obtain ⟨d0, d1, d2, d3, d4, df⟩ := five_cells hR
        have df0 := df 0; have df1 := df 1; have df2 := df 2; have df3 := df 3; have df4 := df 4
        have HW := Lib.hid (five_cells (five_fill (uX := oX) (uY := oY) (vX := nX) (vY := nY) (f := e) hR))
        clear hls hb hbd cf df
        go_wp2
        obtain ⟨x0', x1', x2', x3', x4', -⟩ := HW.out
        refine bodyPost_ret (v := .agg #[.int .u64 (oX : Nat), .int .u64 (oY : Nat), .int .u64 (nX : Nat), .int .u64 (nY : Nat), .bool e]) ?_ rfl ?_
        · simp [results, Tryz.results219, go_sem, x0', x1', x2', x3', x4']
        · exact ⟨e, oX, oY, nX, nY, rfl, ⟨HBD.out, HK.out⟩, ((((HB.out.setCell (p := ⟨w.heap.size, 0, none⟩) (Nat.le_refl _) _).setCell (p := ⟨w.heap.size, 1, none⟩) (Nat.le_refl _) _).setCell (p := ⟨w.heap.size, 2, none⟩) (Nat.le_refl _) _).setCell (p := ⟨w.heap.size, 3, none⟩) (Nat.le_refl _) _).setCell (p := ⟨w.heap.size, 4, none⟩) (Nat.le_refl _) _⟩
end Go.Proofs.YtlhmfgbaefaneaaGreatDoor.nat
namespace Go.Proofs.YtlhmfgbaefaneaaGreatDoor.nat
open Go.RowKit
set_option maxRecDepth 100000 in
set_option maxHeartbeats 4000000 in
theorem apply_even (sx sy : Value) (x y : List Nat) (oX oY nX nY P Q : Nat) (w : World) (hx : Rd w sx x) (hy : Rd w sy y) (hdx : Dig x) (hdy : Dig y) (hs : x.length ≤ 900000) (ht : y.length ≤ 900000) (hb : oX < 18446744073709551616 ∧ oY < 18446744073709551616 ∧ nX < 18446744073709551616 ∧ nY < 18446744073709551616)
    (hP : P + val y * oY = val x * oX) (hQ : Q + val x * nX = val y * nY) :
    Calls Tryz.prog 220 #[.agg #[.int .u64 (oX : Nat), .int .u64 (oY : Nat), .int .u64 (nX : Nat), .int .u64 (nY : Nat), .bool true], sx, sy] w fun e' w' => ∃ sa sb, e' = .returned (.tuple #[sa, sb]) ∧ (Own w' w.heap.size sa (digs P) ∧ Own w' w.heap.size sb (digs Q)) ∧ Below w.heap.size w w' := by
  obtain ⟨b1, b2, b3, b4⟩ := hb
  have HBa := Lib.hid ((Below.refl w.heap.size w).alloc (Nat.le_refl _) (five oX oY nX nY true))
  have HX := Lib.hid hx
  have HY := Lib.hid hy
  have M1 := Lib.hid (fun (w' : World) (hb : Below w.heap.size w w') => mix_any sx sy x y oX oY w' (hx.below hb) (hy.below hb) hdx hdy (by omega) (by omega) (by omega) (by omega) (by omega))
  have M2 := Lib.hid (fun (w' : World) (hb : Below w.heap.size w w') => mix_any sy sx y x nY nX w' (hy.below hb) (hx.below hb) hdy hdx (by omega) (by omega) (by omega) (by omega) (by omega))
  rw [show val x * oX - val y * oY = P by omega] at M1
  rw [show val y * nY - val x * nX = Q by omega] at M2
  obtain ⟨ao, xcap, rfl, -⟩ := id hx
  obtain ⟨bo, ycap, rfl, -⟩ := id hy
  obtain ⟨N, hN⟩ : ∃ N, x.length = N := ⟨_, rfl⟩
  obtain ⟨M, hM⟩ : ∃ M, y.length = M := ⟨_, rfl⟩
  rw [hN, hM] at M1 M2 ⊢
  obtain ⟨c0, c1, c2, c3, c4, -⟩ := five_cells (heap_alloc_new w (five oX oY nX nY true))
  have HSZ := Lib.hid (show (w.alloc (five oX oY nX nY true)).heap.size = w.heap.size + 1 by simp)
  clear hx hy hP hQ hs ht hN hM
  unfold five at HBa c0 c1 c2 c3 c4 HSZ
  go_enter Tryz.func220, Tryz.ntmps220
  go_wp2
  revert HBa c0 c1 c2 c3 c4 HSZ
  generalize w.alloc (Obj.cells #[Value.int .u64 (oX : Nat), .int .u64 (oY : Nat), .int .u64 (nX : Nat), .int .u64 (nY : Nat), .bool true] 228 (0, 0)) = w1
  intro HBa c0 c1 c2 c3 c4 HSZ
  go_region_held3 (fun w' => w'.cell? ⟨w.heap.size, 0, none⟩ = some (.int .u64 (oX : Nat)) ∧ w'.cell? ⟨w.heap.size, 1, none⟩ = some (.int .u64 (oY : Nat)) ∧ w'.cell? ⟨w.heap.size, 2, none⟩ = some (.int .u64 (nX : Nat)) ∧ w'.cell? ⟨w.heap.size, 3, none⟩ = some (.int .u64 (nY : Nat)))
    (first | exact ⟨‹_›, ‹_›, ‹_›, ‹_›⟩ | exact ⟨c0, c1, c2, c3⟩ | go_keep)
    (first
      | (go_at_call 259; with_reducible refine (M1.out _ HBa.out.drew).mono ?_; rintro e' w2 ⟨sa, rfl, ho, hb2⟩
         have HOA := Lib.hid ho
         have HB2 := Lib.hid (HBa.out.drew.trans (hb2.mono HBa.out.size))
         have d0 := (hb2.cell (p := ⟨w.heap.size, 0, none⟩) (show w.heap.size < w1.heap.size by rw [HSZ.out]; omega)).trans c0
         have d1 := (hb2.cell (p := ⟨w.heap.size, 1, none⟩) (show w.heap.size < w1.heap.size by rw [HSZ.out]; omega)).trans c1
         have d2 := (hb2.cell (p := ⟨w.heap.size, 2, none⟩) (show w.heap.size < w1.heap.size by rw [HSZ.out]; omega)).trans c2
         have d3 := (hb2.cell (p := ⟨w.heap.size, 3, none⟩) (show w.heap.size < w1.heap.size by rw [HSZ.out]; omega)).trans c3
         clear M1 ho hb2)
      | (go_at_call 259; with_reducible refine (M2.out _ HB2.out).mono ?_; rintro e' w3 ⟨sb, rfl, ho, hb3⟩
         have HOB := Lib.hid (ho.mono (B' := w.heap.size) HB2.out.size)
         have HOA3 := Lib.hid ((HOA.out.below hb3).mono (B' := w.heap.size) HBa.out.size)
         have HB3 := Lib.hid (HB2.out.trans (hb3.mono HB2.out.size))
         have f0 := (hb3.cell (cell_lt d0)).trans d0
         have f1 := (hb3.cell (cell_lt d1)).trans d1
         have f2 := (hb3.cell (cell_lt d2)).trans d2
         have f3 := (hb3.cell (cell_lt d3)).trans d3
         clear M2 ho hb3))
  go_wp2
  go_ret2
  exact ⟨_, _, rfl, ⟨HOA3.out, HOB.out⟩, HB3.out⟩
set_option maxRecDepth 100000 in
set_option maxHeartbeats 4000000 in
theorem apply_odd (sx sy : Value) (x y : List Nat) (oX oY nX nY P Q : Nat) (w : World) (hx : Rd w sx x) (hy : Rd w sy y) (hdx : Dig x) (hdy : Dig y) (hs : x.length ≤ 900000) (ht : y.length ≤ 900000) (hb : oX < 18446744073709551616 ∧ oY < 18446744073709551616 ∧ nX < 18446744073709551616 ∧ nY < 18446744073709551616)
    (hP : P + val x * oX = val y * oY) (hQ : Q + val y * nY = val x * nX) :
    Calls Tryz.prog 220 #[.agg #[.int .u64 (oX : Nat), .int .u64 (oY : Nat), .int .u64 (nX : Nat), .int .u64 (nY : Nat), .bool false], sx, sy] w fun e' w' => ∃ sa sb, e' = .returned (.tuple #[sa, sb]) ∧ (Own w' w.heap.size sa (digs P) ∧ Own w' w.heap.size sb (digs Q)) ∧ Below w.heap.size w w' := by
  obtain ⟨b1, b2, b3, b4⟩ := hb
  have HBa := Lib.hid ((Below.refl w.heap.size w).alloc (Nat.le_refl _) (five oX oY nX nY false))
  have HX := Lib.hid hx
  have HY := Lib.hid hy
  have M1 := Lib.hid (fun (w' : World) (hb : Below w.heap.size w w') => mix_any sy sx y x oY oX w' (hy.below hb) (hx.below hb) hdy hdx (by omega) (by omega) (by omega) (by omega) (by omega))
  have M2 := Lib.hid (fun (w' : World) (hb : Below w.heap.size w w') => mix_any sx sy x y nX nY w' (hx.below hb) (hy.below hb) hdx hdy (by omega) (by omega) (by omega) (by omega) (by omega))
  rw [show val y * oY - val x * oX = P by omega] at M1
  rw [show val x * nX - val y * nY = Q by omega] at M2
  obtain ⟨ao, xcap, rfl, -⟩ := id hx
  obtain ⟨bo, ycap, rfl, -⟩ := id hy
  obtain ⟨N, hN⟩ : ∃ N, x.length = N := ⟨_, rfl⟩
  obtain ⟨M, hM⟩ : ∃ M, y.length = M := ⟨_, rfl⟩
  rw [hN, hM] at M1 M2 ⊢
  obtain ⟨c0, c1, c2, c3, c4, -⟩ := five_cells (heap_alloc_new w (five oX oY nX nY false))
  have HSZ := Lib.hid (show (w.alloc (five oX oY nX nY false)).heap.size = w.heap.size + 1 by simp)
  clear hx hy hP hQ hs ht hN hM
  unfold five at HBa c0 c1 c2 c3 c4 HSZ
  go_enter Tryz.func220, Tryz.ntmps220
  go_wp2
  revert HBa c0 c1 c2 c3 c4 HSZ
  generalize w.alloc (Obj.cells #[Value.int .u64 (oX : Nat), .int .u64 (oY : Nat), .int .u64 (nX : Nat), .int .u64 (nY : Nat), .bool false] 228 (0, 0)) = w1
  intro HBa c0 c1 c2 c3 c4 HSZ
  go_region_held3 (fun w' => w'.cell? ⟨w.heap.size, 0, none⟩ = some (.int .u64 (oX : Nat)) ∧ w'.cell? ⟨w.heap.size, 1, none⟩ = some (.int .u64 (oY : Nat)) ∧ w'.cell? ⟨w.heap.size, 2, none⟩ = some (.int .u64 (nX : Nat)) ∧ w'.cell? ⟨w.heap.size, 3, none⟩ = some (.int .u64 (nY : Nat)))
    (first | exact ⟨‹_›, ‹_›, ‹_›, ‹_›⟩ | exact ⟨c0, c1, c2, c3⟩ | go_keep)
    (first
      | (go_at_call 259; with_reducible refine (M1.out _ HBa.out.drew).mono ?_; rintro e' w2 ⟨sa, rfl, ho, hb2⟩
         have HOA := Lib.hid ho
         have HB2 := Lib.hid (HBa.out.drew.trans (hb2.mono HBa.out.size))
         have d0 := (hb2.cell (p := ⟨w.heap.size, 0, none⟩) (show w.heap.size < w1.heap.size by rw [HSZ.out]; omega)).trans c0
         have d1 := (hb2.cell (p := ⟨w.heap.size, 1, none⟩) (show w.heap.size < w1.heap.size by rw [HSZ.out]; omega)).trans c1
         have d2 := (hb2.cell (p := ⟨w.heap.size, 2, none⟩) (show w.heap.size < w1.heap.size by rw [HSZ.out]; omega)).trans c2
         have d3 := (hb2.cell (p := ⟨w.heap.size, 3, none⟩) (show w.heap.size < w1.heap.size by rw [HSZ.out]; omega)).trans c3
         clear M1 ho hb2)
      | (go_at_call 259; with_reducible refine (M2.out _ HB2.out).mono ?_; rintro e' w3 ⟨sb, rfl, ho, hb3⟩
         have HOB := Lib.hid (ho.mono (B' := w.heap.size) HB2.out.size)
         have HOA3 := Lib.hid ((HOA.out.below hb3).mono (B' := w.heap.size) HBa.out.size)
         have HB3 := Lib.hid (HB2.out.trans (hb3.mono HB2.out.size))
         have f0 := (hb3.cell (cell_lt d0)).trans d0
         have f1 := (hb3.cell (cell_lt d1)).trans d1
         have f2 := (hb3.cell (cell_lt d2)).trans d2
         have f3 := (hb3.cell (cell_lt d3)).trans d3
         clear M2 ho hb3))
  go_wp2
  go_ret2
  exact ⟨_, _, rfl, ⟨HOA3.out, HOB.out⟩, HB3.out⟩
theorem apply_any (sx sy : Value) (x y : List Nat) (e : Bool) (oX oY nX nY : Nat) (w : World) (hx : Rd w sx x) (hy : Rd w sy y) (hdx : Dig x) (hdy : Dig y) (hs : x.length ≤ 900000) (ht : y.length ≤ 900000) (hb : oX < 18446744073709551616 ∧ oY < 18446744073709551616 ∧ nX < 18446744073709551616 ∧ nY < 18446744073709551616)
    (hO : OldOK (val x) (val y) e oX oY nX nY) :
    Calls Tryz.prog 220 #[.agg #[.int .u64 (oX : Nat), .int .u64 (oY : Nat), .int .u64 (nX : Nat), .int .u64 (nY : Nat), .bool e], sx, sy] w fun e' w' => ∃ P Q sa sb, e' = .returned (.tuple #[sa, sb]) ∧ (Q < P ∧ P ≤ val y ∧ Nat.gcd P Q = Nat.gcd (val x) (val y) ∧ Own w' w.heap.size sa (digs P) ∧ Own w' w.heap.size sb (digs Q)) ∧ Below w.heap.size w w' := by
  obtain ⟨P, Q, hP, hQ, h1, h2, h3, h4⟩ := hO
  have hg := OldOK.gcd hP hQ h3 h4
  cases e
  · have p := hP.2 rfl
    have q := hQ.1 rfl
    refine (apply_odd sx sy x y oX oY nX nY P Q w hx hy hdx hdy hs ht hb (by rw [Nat.mul_comm (val x), Nat.mul_comm (val y)]; exact p) (by rw [Nat.mul_comm (val x), Nat.mul_comm (val y)]; exact q)).mono ?_
    rintro e' w' ⟨sa, sb, rfl, ⟨ha, hb⟩, hbl⟩
    exact ⟨P, Q, sa, sb, rfl, ⟨h1, h2, hg, ha, hb⟩, hbl⟩
  · have p := hP.1 rfl
    have q := hQ.2 rfl
    refine (apply_even sx sy x y oX oY nX nY P Q w hx hy hdx hdy hs ht hb (by rw [Nat.mul_comm (val x), Nat.mul_comm (val y)]; exact p) (by rw [Nat.mul_comm (val x), Nat.mul_comm (val y)]; exact q)).mono ?_
    rintro e' w' ⟨sa, sb, rfl, ⟨ha, hb⟩, hbl⟩
    exact ⟨P, Q, sa, sb, rfl, ⟨h1, h2, hg, ha, hb⟩, hbl⟩
end Go.Proofs.YtlhmfgbaefaneaaGreatDoor.nat
