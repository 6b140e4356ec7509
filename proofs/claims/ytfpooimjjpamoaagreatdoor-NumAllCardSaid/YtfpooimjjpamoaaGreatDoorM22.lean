/-
  The steps of the walks, part 22: IntB, IntC.
-/
import Derived.Test.YtfpooimjjpamoaaGreatDoorM18
import Derived.Test.YtfpooimjjpamoaaGreatDoorM21
namespace Go.Proofs.YtfpooimjjpamoaaGreatDoor.num
open Go.RowKit Go.Proofs.YtfpooimjjpamoaaGreatDoor.nat
theorem sgn_add {z y : Int} (h : decide (z < 0) = decide (y < 0)) : sgn (decide (z < 0)) (z.natAbs + y.natAbs) = z + y := by
  unfold sgn
  by_cases h1 : z < 0 <;> by_cases h2 : y < 0 <;> simp [h1, h2] at h ⊢ <;> omega
theorem sgn_sub1 {z y : Int} (h : decide (z < 0) ≠ decide (y < 0)) (hle : y.natAbs ≤ z.natAbs) : sgn (decide (z < 0)) (z.natAbs - y.natAbs) = z + y := by
  unfold sgn
  by_cases h1 : z < 0 <;> by_cases h2 : y < 0 <;> simp [h1, h2] at h ⊢ <;> omega
theorem sgn_sub2 {z y : Int} (h : decide (z < 0) ≠ decide (y < 0)) (hlt : z.natAbs < y.natAbs) : sgn (decide (y < 0)) (y.natAbs - z.natAbs) = z + y := by
  unfold sgn
  by_cases h1 : z < 0 <;> by_cases h2 : y < 0 <;> simp [h1, h2] at h ⊢ <;> omega
set_option maxRecDepth 100000 in
set_option maxHeartbeats 2000000 in
theorem Add_same (a b : Value) (z y : Int) (w : World) (ha : IsZ w a z) (hb : IsZ w b y) (hx : (digs z.natAbs).length ≤ 800000) (hy : (digs y.natAbs).length ≤ 800000) (hs : decide (z < 0) = decide (y < 0)) :
    Calls Tryz.prog 55 #[a, b] w fun e w' => ∃ u, e = .returned u ∧ (IsZ w' u (z + y) ∧ u ≠ .pointer none) ∧ Below w.heap.size w w' := by
  have B1 := isBelow_any a z w ha
  have B2 := isBelow_any b y w hb
  have A1 := Lib.hid (amount_any a z w ha)
  have A2 := Lib.hid (amount_any b y w hb)
  have M := Lib.hid (fun na nb h1 h2 => nat.Add_any na nb z.natAbs y.natAbs w h1 h2 (by omega) (by omega))
  have N := fun (w' : World) nv hn => New_any (decide (z < 0)) nv (z.natAbs + y.natAbs) w' hn
  rw [sgn_add hs] at N
  rw [← hs] at B2
  clear ha hb hs
  generalize decide (z < 0) = b1 at *
  have HB1 := Lib.hid B1
  have HB2 := Lib.hid B2
  have HN := Lib.hid N
  have hbb : (b1 == b1) = true := by simp
  clear B1 B2 N
  go_enter Tryz.func55, Tryz.ntmps55
  go_wp2_with (first
    | (go_at_call 123; (with_reducible refine (HB1.out).mono ?_); rintro e w1 ⟨rfl, rfl⟩)
    | (go_at_call 123; (with_reducible refine (HB2.out).mono ?_); rintro e w1 ⟨rfl, rfl⟩)
    | (go_at_call 122; (with_reducible refine (A1.out).mono ?_); rintro e w1 ⟨na, rfl, hn, rfl⟩; have HN1 := Lib.hid hn; clear A1 hn)
    | (go_at_call 122; (with_reducible refine (A2.out).mono ?_); rintro e w1 ⟨nb, rfl, hn, rfl⟩; have HN2 := Lib.hid hn; clear A2 hn)
    | (go_at_call 35; (with_reducible refine (M.out _ _ HN1.out HN2.out).mono ?_); rintro e w2 ⟨m, rfl, ⟨hm, -⟩, hb2⟩; have HM := Lib.hid hm; have HBl := Lib.hid hb2; clear M hm hb2)
    | (go_at_call 97; (with_reducible refine (HN.out _ _ HM.out).mono ?_); rintro e w3 ⟨u, rfl, hu, hb⟩; have HU := Lib.hid hu; have HB := Lib.hid (HBl.out.trans (hb.mono HBl.out.size)); clear hu hb))
  go_ret
  exact ⟨_, rfl, HU.out, HB.out⟩
set_option maxRecDepth 100000 in
set_option maxHeartbeats 2000000 in
theorem Add_more (a b : Value) (z y : Int) (w : World) (ha : IsZ w a z) (hb : IsZ w b y) (hx : (digs z.natAbs).length ≤ 800000) (hs : decide (z < 0) ≠ decide (y < 0)) (hle : y.natAbs ≤ z.natAbs) :
    Calls Tryz.prog 55 #[a, b] w fun e w' => ∃ u, e = .returned u ∧ (IsZ w' u (z + y) ∧ u ≠ .pointer none) ∧ Below w.heap.size w w' := by
  have B1 := fun w' (h : Below w.heap.size w w') => isBelow_any a z w' (ha.below h)
  have B2 := isBelow_any b y w hb
  have A1 := Lib.hid (amount_any a z w ha)
  have A2 := Lib.hid (amount_any b y w hb)
  have M := Lib.hid (fun na nb h1 h2 => nat.Sub_ok na nb z.natAbs y.natAbs w h1 h2 hle (by omega))
  have N := fun (w' : World) nv hn => New_any (decide (z < 0)) nv (z.natAbs - y.natAbs) w' hn
  rw [sgn_sub1 hs hle] at N
  clear ha hb hle
  generalize decide (z < 0) = b1 at *
  generalize decide (y < 0) = b2 at *
  have HB1 := Lib.hid B1
  have HB2 := Lib.hid B2
  have HN := Lib.hid N
  have hbb : (b1 == b2) = false := by simp [hs]
  clear B1 B2 N hs
  go_enter Tryz.func55, Tryz.ntmps55
  go_wp2_with (first
    | (go_at_call 123; (with_reducible refine (HB1.out _ (Below.refl _ _)).mono ?_); rintro e w1 ⟨rfl, rfl⟩)
    | (go_at_call 123; (with_reducible refine (HB2.out).mono ?_); rintro e w1 ⟨rfl, rfl⟩; clear HB2)
    | (go_at_call 122; (with_reducible refine (A1.out).mono ?_); rintro e w1 ⟨na, rfl, hn, rfl⟩; have HN1 := Lib.hid hn; clear A1 hn)
    | (go_at_call 122; (with_reducible refine (A2.out).mono ?_); rintro e w1 ⟨nb, rfl, hn, rfl⟩; have HN2 := Lib.hid hn; clear A2 hn)
    | (go_at_call 27; (with_reducible refine (M.out _ _ HN1.out HN2.out).mono ?_); rintro e w2 ⟨m, rfl, ⟨hm, -⟩, hb2⟩; have HM := Lib.hid hm; have HBl := Lib.hid hb2; clear M hm hb2)
    | (go_at_call 123; (with_reducible refine (HB1.out _ HBl.out).mono ?_); rintro e w1 ⟨rfl, rfl⟩)
    | (go_at_call 97; (with_reducible refine (HN.out _ _ HM.out).mono ?_); rintro e w3 ⟨u, rfl, hu, hb⟩; have HU := Lib.hid hu; have HB := Lib.hid (HBl.out.trans (hb.mono HBl.out.size)); clear hu hb))
  go_ret
  exact ⟨_, rfl, HU.out, HB.out⟩
set_option maxRecDepth 100000 in
set_option maxHeartbeats 2000000 in
theorem Add_less (a b : Value) (z y : Int) (w : World) (ha : IsZ w a z) (hb : IsZ w b y) (hx : (digs z.natAbs).length ≤ 800000) (hy : (digs y.natAbs).length ≤ 800000) (hs : decide (z < 0) ≠ decide (y < 0)) (hlt : z.natAbs < y.natAbs) :
    Calls Tryz.prog 55 #[a, b] w fun e w' => ∃ u, e = .returned u ∧ (IsZ w' u (z + y) ∧ u ≠ .pointer none) ∧ Below w.heap.size w w' := by
  have B1 := isBelow_any a z w ha
  have B2 := fun w' (h : Below w.heap.size w w') => isBelow_any b y w' (hb.below h)
  have A1 := Lib.hid (fun w' (h : Below w.heap.size w w') => amount_any a z w' (ha.below h))
  have A2 := Lib.hid (fun w' (h : Below w.heap.size w w') => amount_any b y w' (hb.below h))
  have M1 := Lib.hid (fun na nb h1 h2 => nat.Sub_none na nb z.natAbs y.natAbs w h1 h2 hlt (by omega) (by omega))
  have M2 := Lib.hid (fun (w' : World) na nb h1 h2 => nat.Sub_ok nb na y.natAbs z.natAbs w' h2 h1 (by omega) (by omega))
  have N := fun (w' : World) nv hn => New_any (decide (y < 0)) nv (y.natAbs - z.natAbs) w' hn
  rw [sgn_sub2 hs hlt] at N
  clear ha hb hlt
  generalize decide (z < 0) = b1 at *
  generalize decide (y < 0) = b2 at *
  have HB1 := Lib.hid B1
  have HB2 := Lib.hid B2
  have HN := Lib.hid N
  have hbb : (b1 == b2) = false := by simp [hs]
  clear B1 B2 N hs
  unfold errOf at M1
  go_enter Tryz.func55, Tryz.ntmps55
  go_wp2_with (first
    | (go_at_call 123; (with_reducible refine (HB1.out).mono ?_); rintro e w1 ⟨rfl, rfl⟩)
    | (go_at_call 123; (with_reducible refine (HB2.out _ (Below.refl _ _)).mono ?_); rintro e w1 ⟨rfl, rfl⟩)
    | (go_at_call 122; (with_reducible refine (A1.out _ (Below.refl _ _)).mono ?_); rintro e w1 ⟨na, rfl, hn, rfl⟩; have HN1 := Lib.hid hn; clear hn)
    | (go_at_call 122; (with_reducible refine (A2.out _ (Below.refl _ _)).mono ?_); rintro e w1 ⟨nb, rfl, hn, rfl⟩; have HN2 := Lib.hid hn; clear hn)
    | (go_at_call 27; (with_reducible refine (M1.out _ _ HN1.out HN2.out).mono ?_); rintro e w2 ⟨rfl, m, rfl⟩; clear M1 HN1 HN2)
    | (go_at_call 122; (with_reducible refine (A2.out _ (drew_below w m)).mono ?_); rintro e w1 ⟨nb, rfl, hn, rfl⟩; have HN4 := Lib.hid hn; clear A2 hn)
    | (go_at_call 122; (with_reducible refine (A1.out _ (drew_below w m)).mono ?_); rintro e w1 ⟨na, rfl, hn, rfl⟩; have HN3 := Lib.hid hn; clear A1 hn)
    | (go_at_call 27; (with_reducible refine (M2.out _ _ _ HN3.out HN4.out).mono ?_); rintro e w2 ⟨r, rfl, ⟨hm, -⟩, hb2⟩; have HM := Lib.hid hm; have HBl := Lib.hid ((drew_below w m).trans hb2); clear M2 hm hb2)
    | (go_at_call 123; (with_reducible refine (HB2.out _ HBl.out).mono ?_); rintro e w1 ⟨rfl, rfl⟩)
    | (go_at_call 97; (with_reducible refine (HN.out _ _ HM.out).mono ?_); rintro e w3 ⟨u, rfl, hu, hb⟩; have HU := Lib.hid hu; have HB := Lib.hid (HBl.out.trans (hb.mono HBl.out.size)); clear hu hb))
  go_ret
  exact ⟨_, rfl, HU.out, HB.out⟩
theorem Add_any (a b : Value) (z y : Int) (w : World) (ha : IsZ w a z) (hb : IsZ w b y) (hx : (digs z.natAbs).length ≤ 800000) (hy : (digs y.natAbs).length ≤ 800000) :
    Calls Tryz.prog 55 #[a, b] w fun e w' => ∃ u, e = .returned u ∧ (IsZ w' u (z + y) ∧ u ≠ .pointer none) ∧ Below w.heap.size w w' := by
  by_cases hs : decide (z < 0) = decide (y < 0)
  · exact Add_same a b z y w ha hb hx hy hs
  · rcases Nat.lt_or_ge z.natAbs y.natAbs with h | h
    · exact Add_less a b z y w ha hb hx hy hs h
    · exact Add_more a b z y w ha hb hx hs h
set_option maxRecDepth 100000 in
theorem Sub_any (a b : Value) (z y : Int) (w : World) (ha : IsZ w a z) (hb : IsZ w b y) (hx : (digs z.natAbs).length ≤ 800000) (hy : (digs y.natAbs).length ≤ 800000) :
    Calls Tryz.prog 61 #[a, b] w fun e w' => ∃ u, e = .returned u ∧ (IsZ w' u (z - y) ∧ u ≠ .pointer none) ∧ Below w.heap.size w w' := by
  have G := Lib.hid (Neg_any b y w hb)
  have M := Lib.hid (fun (w' : World) (hl : Below w.heap.size w w') c hc => Add_any a c z (-y) w' (ha.below hl) hc hx (by rw [Int.natAbs_neg]; exact hy))
  rw [← Int.sub_eq_add_neg] at M
  clear ha hb
  go_enter Tryz.func61, Tryz.ntmps61
  go_wp2_with (first
    | (go_at_call 65; (with_reducible refine (G.out).mono ?_); rintro e w2 ⟨c, rfl, ⟨hc, -⟩, hb2⟩; have HC := Lib.hid hc; have HBl := Lib.hid hb2; clear G hc hb2)
    | (go_at_call 55; (with_reducible refine (M.out _ HBl.out _ HC.out).mono ?_); rintro e w3 ⟨u, rfl, hu, hb⟩; have HU := Lib.hid hu; have HB := Lib.hid (HBl.out.trans (hb.mono HBl.out.size)); clear hu hb))
  go_ret
  exact ⟨_, rfl, HU.out, HB.out⟩
end Go.Proofs.YtfpooimjjpamoaaGreatDoor.num
namespace Go.Proofs.YtfpooimjjpamoaaGreatDoor.num
open Go.RowKit Go.Proofs.YtfpooimjjpamoaaGreatDoor.nat
theorem cmp_signs {z y : Int} (h : sg z ≠ sg y) : cmp3 (sg z) (sg y) = cmp3 z y := by
  unfold sg cmp3 at *
  (repeat' split at h) <;> (repeat' split) <;> omega
theorem cmp_low {z y : Int} (h : sg z = sg y) (h1 : z < 0) : cmp3 (y.natAbs : Nat) (z.natAbs : Nat) = cmp3 z y := by
  unfold sg cmp3 at *
  (repeat' split at h) <;> (repeat' split) <;> omega
theorem cmp_high {z y : Int} (h : sg z = sg y) (h1 : ¬ z < 0) : cmp3 (z.natAbs : Nat) (y.natAbs : Nat) = cmp3 z y := by
  unfold sg cmp3 at *
  (repeat' split at h) <;> (repeat' split) <;> omega
set_option maxRecDepth 100000 in
set_option maxHeartbeats 2000000 in
theorem Cmp_any (a b : Value) (z y : Int) (w : World) (ha : IsZ w a z) (hb : IsZ w b y) (hx : (digs z.natAbs).length ≤ 800000) (hy : (digs y.natAbs).length ≤ 800000) :
    Calls Tryz.prog 56 #[a, b] w fun e w' => e = .returned (.int .i64 (cmp3 z y)) ∧ ∃ m, w' = w.drewN m := by
  have S1 := Lib.hid (Sign_any a z w ha)
  have S2 := Lib.hid (Sign_any b y w hb)
  by_cases hs : sg z = sg y
  · have B1 := isBelow_any a z w ha
    have A1 := Lib.hid (amount_any a z w ha)
    have A2 := Lib.hid (amount_any b y w hb)
    have hee : (sg z == sg y) = true := by simp [hs]
    by_cases hz : z < 0
    · have C := Lib.hid (fun na nb h1 h2 => nat.Cmp_any nb na y.natAbs z.natAbs w h2 h1 (by omega) (by omega))
      rw [cmp_low hs hz] at C
      rw [decide_eq_true hz] at B1
      have HB1 := Lib.hid B1
      clear ha hb B1 hz
      generalize sg z = s1 at *
      generalize sg y = s2 at *
      subst hs
      go_enter Tryz.func56, Tryz.ntmps56
      go_wp2_with (first
        | (go_at_call 67; (with_reducible refine (S1.out).mono ?_); rintro e w1 ⟨rfl, rfl⟩)
        | (go_at_call 67; (with_reducible refine (S2.out).mono ?_); rintro e w1 ⟨rfl, rfl⟩)
        | (go_at_call 123; (with_reducible refine (HB1.out).mono ?_); rintro e w1 ⟨rfl, rfl⟩)
        | (go_at_call 122; (with_reducible refine (A1.out).mono ?_); rintro e w1 ⟨na, rfl, hn, rfl⟩; have HN1 := Lib.hid hn; clear A1 hn)
        | (go_at_call 122; (with_reducible refine (A2.out).mono ?_); rintro e w1 ⟨nb, rfl, hn, rfl⟩; have HN2 := Lib.hid hn; clear A2 hn)
        | (go_at_call 39; (with_reducible refine (C.out _ _ HN1.out HN2.out).mono ?_); rintro e w2 ⟨rfl, m, rfl⟩; clear C))
      go_ret
      exact ⟨rfl, m, rfl⟩
    · have C := Lib.hid (fun na nb h1 h2 => nat.Cmp_any na nb z.natAbs y.natAbs w h1 h2 (by omega) (by omega))
      rw [cmp_high hs hz] at C
      rw [decide_eq_false hz] at B1
      have HB1 := Lib.hid B1
      clear ha hb B1 hz
      generalize sg z = s1 at *
      generalize sg y = s2 at *
      subst hs
      go_enter Tryz.func56, Tryz.ntmps56
      go_wp2_with (first
        | (go_at_call 67; (with_reducible refine (S1.out).mono ?_); rintro e w1 ⟨rfl, rfl⟩)
        | (go_at_call 67; (with_reducible refine (S2.out).mono ?_); rintro e w1 ⟨rfl, rfl⟩)
        | (go_at_call 123; (with_reducible refine (HB1.out).mono ?_); rintro e w1 ⟨rfl, rfl⟩)
        | (go_at_call 122; (with_reducible refine (A1.out).mono ?_); rintro e w1 ⟨na, rfl, hn, rfl⟩; have HN1 := Lib.hid hn; clear A1 hn)
        | (go_at_call 122; (with_reducible refine (A2.out).mono ?_); rintro e w1 ⟨nb, rfl, hn, rfl⟩; have HN2 := Lib.hid hn; clear A2 hn)
        | (go_at_call 39; (with_reducible refine (C.out _ _ HN1.out HN2.out).mono ?_); rintro e w2 ⟨rfl, m, rfl⟩; clear C))
      go_ret
      exact ⟨rfl, m, rfl⟩
  · have hee : (sg z == sg y) = false := by simp [hs]
    rw [← cmp_signs hs]
    clear ha hb
    generalize sg z = s1 at *
    generalize sg y = s2 at *
    have C := Lib.hid (CmpI_any s1 s2 w)
    clear hs
    go_enter Tryz.func56, Tryz.ntmps56
    go_wp2_with (first
      | (go_at_call 67; (with_reducible refine (S1.out).mono ?_); rintro e w1 ⟨rfl, rfl⟩)
      | (go_at_call 67; (with_reducible refine (S2.out).mono ?_); rintro e w1 ⟨rfl, rfl⟩)
      | (go_at_call 124; (with_reducible refine (C.out).mono ?_); rintro e w1 ⟨rfl, rfl⟩))
    go_ret
    exact ⟨rfl, 0, rfl⟩
set_option maxRecDepth 100000 in
theorem Of_any (z : Int) (w : World) (h1 : -9223372036854775808 ≤ z) (h2 : z < 9223372036854775808) :
    Calls Tryz.prog 57 #[.int .i64 z] w fun e w' => ∃ u, e = .returned u ∧ (IsZ w' u z ∧ u ≠ .pointer none) ∧ Below w.heap.size w w' := by
  have O := Lib.hid (nat.Of_any z.natAbs w (by omega))
  by_cases h0 : z < 0
  · have N := Lib.hid (fun (w' : World) nv hn => New_any true nv z.natAbs w' hn)
    rw [show sgn true z.natAbs = z by unfold sgn; simp; omega] at N
    have e1 : ((z.natAbs : Nat) : Int) = -z := by omega
    have e2 : IntKind.u64.wrap (-IntKind.u64.wrap z) = -z := by rw [IntKind.wrap_u64, IntKind.wrap_u64]; omega
    rw [e1] at O
    go_enter Tryz.func57, Tryz.ntmps57
    go_wp2_with (first
      | (go_at_call 46; (with_reducible refine (O.out).mono ?_); rintro e w2 ⟨m, rfl, ⟨hm, -⟩, hb2⟩; have HM := Lib.hid hm; have HBl := Lib.hid hb2; clear O hm hb2)
      | (go_at_call 97; (with_reducible refine (N.out _ _ HM.out).mono ?_); rintro e w3 ⟨u, rfl, hu, hb⟩; have HU := Lib.hid hu; have HB := Lib.hid (HBl.out.trans (hb.mono HBl.out.size)); clear hu hb))
    go_ret
    exact ⟨_, rfl, HU.out, HB.out⟩
  · have N := Lib.hid (fun (w' : World) nv hn => New_any false nv z.natAbs w' hn)
    rw [show sgn false z.natAbs = z by unfold sgn; simp; omega] at N
    have e1 : ((z.natAbs : Nat) : Int) = z := by omega
    rw [e1] at O
    go_enter Tryz.func57, Tryz.ntmps57
    go_wp2_with (first
      | (go_at_call 46; (with_reducible refine (O.out).mono ?_); rintro e w2 ⟨m, rfl, ⟨hm, -⟩, hb2⟩; have HM := Lib.hid hm; have HBl := Lib.hid hb2; clear O hm hb2)
      | (go_at_call 97; (with_reducible refine (N.out _ _ HM.out).mono ?_); rintro e w3 ⟨u, rfl, hu, hb⟩; have HU := Lib.hid hu; have HB := Lib.hid (HBl.out.trans (hb.mono HBl.out.size)); clear hu hb))
    go_ret
    exact ⟨_, rfl, HU.out, HB.out⟩
end Go.Proofs.YtfpooimjjpamoaaGreatDoor.num
