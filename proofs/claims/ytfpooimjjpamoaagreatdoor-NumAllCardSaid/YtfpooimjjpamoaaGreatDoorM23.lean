/-
  The steps of the walks, part 23: IntD, IntE, Bytes.
-/
import Derived.Test.YtfpooimjjpamoaaGreatDoorM22
import Derived.Test.YtfpooimjjpamoaaGreatDoorM04
import Derived.Test.YtfpooimjjpamoaaGreatDoorM19
namespace Go.Proofs.YtfpooimjjpamoaaGreatDoor.num
open Go.RowKit Go.Proofs.YtfpooimjjpamoaaGreatDoor.nat
theorem fdiv_of {z y q r : Int} (h : r + y * q = z) (hr : (0 < y ∧ 0 ≤ r ∧ r < y) ∨ (y < 0 ∧ y < r ∧ r ≤ 0)) : z.fdiv y = q ∧ z.fmod y = r := by
  rcases hr with ⟨h1, h2⟩ | ⟨h1, h2⟩
  · exact (Int.fdiv_fmod_unique h1).2 ⟨h, h2⟩
  · exact (Int.fdiv_fmod_unique' h1).2 ⟨h, h2⟩
theorem floor_near {z y : Int} (hy : y ≠ 0) (h : decide (z < 0) = decide (y < 0) ∨ z.natAbs % y.natAbs = 0) :
    z.fdiv y = sgn (decide (z < 0) != decide (y < 0)) (z.natAbs / y.natAbs) ∧ z.fmod y = sgn (decide (y < 0)) (z.natAbs % y.natAbs) := by
  have hd : ((z.natAbs % y.natAbs : Nat) : Int) + (y.natAbs : Int) * ((z.natAbs / y.natAbs : Nat) : Int) = (z.natAbs : Int) := by
    rw [← Int.natCast_mul, ← Int.natCast_add, Nat.add_comm, Nat.div_add_mod]
  have hm : z.natAbs % y.natAbs < y.natAbs := Nat.mod_lt _ (by omega)
  generalize z.natAbs / y.natAbs = Q at *
  generalize z.natAbs % y.natAbs = R at *
  refine fdiv_of ?_ ?_
  · unfold sgn
    rcases Int.lt_or_le z 0 with h1 | h1 <;> rcases Int.lt_or_le y 0 with h2 | h2
    · have e1 : (y.natAbs : Int) = -y := by omega
      rw [e1] at hd
      simp [h1, h2]
      rw [Int.neg_mul] at hd
      omega
    · have e1 : (y.natAbs : Int) = y := by omega
      have h2' : ¬ y < 0 := by omega
      rw [e1] at hd
      simp [h1, h2'] at h ⊢
      rw [Int.mul_neg]
      omega
    · have e1 : (y.natAbs : Int) = -y := by omega
      have h1' : ¬ z < 0 := by omega
      rw [e1] at hd
      simp [h1', h2] at h ⊢
      rw [Int.neg_mul] at hd
      rw [Int.mul_neg]
      omega
    · have e1 : (y.natAbs : Int) = y := by omega
      have h1' : ¬ z < 0 := by omega
      have h2' : ¬ y < 0 := by omega
      rw [e1] at hd
      simp [h1', h2'] at h ⊢
      omega
  · unfold sgn
    by_cases h2 : y < 0 <;> simp [h2] <;> omega
theorem floor_past {z y : Int} (hy : y ≠ 0) (h : decide (z < 0) ≠ decide (y < 0)) (h0 : z.natAbs % y.natAbs ≠ 0) :
    z.fdiv y = sgn true (z.natAbs / y.natAbs + 1) ∧ z.fmod y = sgn (decide (y < 0)) (y.natAbs - z.natAbs % y.natAbs) := by
  have hd : ((z.natAbs % y.natAbs : Nat) : Int) + (y.natAbs : Int) * ((z.natAbs / y.natAbs : Nat) : Int) = (z.natAbs : Int) := by
    rw [← Int.natCast_mul, ← Int.natCast_add, Nat.add_comm, Nat.div_add_mod]
  have hm : z.natAbs % y.natAbs < y.natAbs := Nat.mod_lt _ (by omega)
  generalize z.natAbs / y.natAbs = Q at *
  generalize z.natAbs % y.natAbs = R at *
  refine fdiv_of ?_ ?_
  · unfold sgn
    by_cases h1 : z < 0 <;> by_cases h2 : y < 0
    · simp [h1, h2] at h
    · have e1 : (y.natAbs : Int) = y := by omega
      rw [e1] at hd
      simp [h2]
      rw [Int.mul_neg, Int.mul_add, Int.mul_one]
      omega
    · have e1 : (y.natAbs : Int) = -y := by omega
      rw [e1] at hd
      simp [h2]
      rw [Int.neg_mul] at hd
      rw [Int.mul_neg, Int.mul_add, Int.mul_one]
      omega
    · simp [h1, h2] at h
  · unfold sgn
    by_cases h2 : y < 0 <;> simp [h2] <;> omega
set_option maxRecDepth 100000 in
set_option maxHeartbeats 2000000 in
theorem Div_near (a b : Value) (z y : Int) (w : World) (ha : IsZ w a z) (hb : IsZ w b y) (hx : (digs z.natAbs).length ≤ 700000) (hy : (digs y.natAbs).length ≤ 700000) (h0 : y ≠ 0) (h : decide (z < 0) = decide (y < 0) ∨ z.natAbs % y.natAbs = 0) :
    Calls Tryz.prog 50 #[a, b] w fun e w' => ∃ q r, e = .returned (.tuple #[q, r, .nilIface]) ∧ (IsZ w' q (z.fdiv y) ∧ q ≠ .pointer none) ∧ (IsZ w' r (z.fmod y) ∧ r ≠ .pointer none) ∧ Below w.heap.size w w' := by
  have B1 := fun w' (h : Below w.heap.size w w') => isBelow_any a z w' (ha.below h)
  have B2 := fun w' (h : Below w.heap.size w w') => isBelow_any b y w' (hb.below h)
  have A1 := Lib.hid (amount_any a z w ha)
  have A2 := Lib.hid (amount_any b y w hb)
  have D := Lib.hid (fun na nb h1 h2 => nat.Div_ok na nb z.natAbs y.natAbs w h1 h2 (by omega) (by omega) (by omega))
  have Z := Lib.hid (fun (w' : World) r hr => Zero_any r (z.natAbs % y.natAbs) w' hr)
  have N1 := fun (w' : World) nv hn => New_any (decide (z < 0) != decide (y < 0)) nv (z.natAbs / y.natAbs) w' hn
  have N2 := fun (w' : World) nv hn => New_any (decide (y < 0)) nv (z.natAbs % y.natAbs) w' hn
  rw [← (floor_near h0 h).1] at N1
  rw [← (floor_near h0 h).2] at N2
  have HQ := Lib.hid h
  obtain ⟨b1, hb1⟩ : ∃ b1, decide (z < 0) = b1 := ⟨_, rfl⟩
  obtain ⟨b2, hb2⟩ : ∃ b2, decide (y < 0) = b2 := ⟨_, rfl⟩
  rw [hb1] at B1 N1 HQ
  rw [hb2] at B2 N1 N2 HQ
  have HB1 := Lib.hid B1
  have HB2 := Lib.hid B2
  have HN1 := Lib.hid N1
  have HN2 := Lib.hid N2
  generalize z.fdiv y = Q at *
  generalize z.fmod y = R at *
  have hbn : (!(b1 == b2)) = (b1 != b2) := rfl
  have hcase : (b1 != b2) = false ∨ ((b1 != b2) = true ∧ decide (z.natAbs % y.natAbs = 0) = true) := by
    rcases HQ.out with h | h
    · left; rw [h]; cases b2 <;> rfl
    · cases hc : (b1 != b2)
      · exact Or.inl rfl
      · exact Or.inr ⟨rfl, decide_eq_true h⟩
  clear ha hb B1 B2 N1 N2 hb1 hb2 h HQ
  generalize (b1 != b2) = d at *
  rcases hcase with rfl | ⟨rfl, hz0⟩
  · go_enter Tryz.func50, Tryz.ntmps50
    go_wp2_with (first
      | (go_at_call 122; (with_reducible refine (A1.out).mono ?_); rintro e w1 ⟨na, rfl, hn, rfl⟩; have HA1 := Lib.hid hn; clear A1 hn)
      | (go_at_call 122; (with_reducible refine (A2.out).mono ?_); rintro e w1 ⟨nb, rfl, hn, rfl⟩; have HA2 := Lib.hid hn; clear A2 hn)
      | (go_at_call 33; (with_reducible refine (D.out _ _ HA1.out HA2.out).mono ?_); rintro e w2 ⟨q, r, rfl, ⟨hq, -⟩, ⟨hr, -⟩, hb2⟩; have Hq := Lib.hid hq; have Hr := Lib.hid hr; have HBl := Lib.hid hb2; clear D hq hr hb2)
      | (go_at_call 123; (with_reducible refine (HB1.out _ HBl.out).mono ?_); rintro e w1 ⟨rfl, rfl⟩)
      | (go_at_call 123; (with_reducible refine (HB2.out _ HBl.out).mono ?_); rintro e w1 ⟨rfl, rfl⟩)
      | (go_at_call 97; (with_reducible refine (HN1.out _ _ Hq.out).mono ?_); rintro e w3 ⟨u, rfl, ⟨hu, hun⟩, hb⟩; have HU := Lib.hid hu; have HUn := Lib.hid hun; have HB3 := Lib.hid hb; have HBm := Lib.hid (HBl.out.trans (hb.mono HBl.out.size)); clear hu hun hb HN1)
      | (go_at_call 123; (with_reducible refine (HB2.out _ HBm.out).mono ?_); rintro e w1 ⟨rfl, rfl⟩)
      | (go_at_call 97; (with_reducible refine (HN2.out _ _ (Hr.out.below HB3.out)).mono ?_); rintro e w4 ⟨v, rfl, hv, hb⟩; have HV := Lib.hid hv; have HU4 := Lib.hid (HU.out.below hb); have HB := Lib.hid (HBm.out.trans (hb.mono HBm.out.size)); clear hv hb))
    go_ret3
    exact ⟨_, _, rfl, ⟨HU4.out, HUn.out⟩, HV.out, HB.out⟩
  · rw [hz0] at Z
    go_enter Tryz.func50, Tryz.ntmps50
    go_wp2_with (first
      | (go_at_call 122; (with_reducible refine (A1.out).mono ?_); rintro e w1 ⟨na, rfl, hn, rfl⟩; have HA1 := Lib.hid hn; clear A1 hn)
      | (go_at_call 122; (with_reducible refine (A2.out).mono ?_); rintro e w1 ⟨nb, rfl, hn, rfl⟩; have HA2 := Lib.hid hn; clear A2 hn)
      | (go_at_call 33; (with_reducible refine (D.out _ _ HA1.out HA2.out).mono ?_); rintro e w2 ⟨q, r, rfl, ⟨hq, -⟩, ⟨hr, -⟩, hb2⟩; have Hq := Lib.hid hq; have Hr := Lib.hid hr; have HBl := Lib.hid hb2; clear D hq hr hb2)
      | (go_at_call 123; (with_reducible refine (HB1.out _ HBl.out).mono ?_); rintro e w1 ⟨rfl, rfl⟩)
      | (go_at_call 123; (with_reducible refine (HB2.out _ HBl.out).mono ?_); rintro e w1 ⟨rfl, rfl⟩)
      | (go_at_call 42; (with_reducible refine (Z.out _ _ Hr.out).mono ?_); rintro e w1 ⟨rfl, rfl⟩; clear Z)
      | (go_at_call 97; (with_reducible refine (HN1.out _ _ Hq.out).mono ?_); rintro e w3 ⟨u, rfl, ⟨hu, hun⟩, hb⟩; have HU := Lib.hid hu; have HUn := Lib.hid hun; have HB3 := Lib.hid hb; have HBm := Lib.hid (HBl.out.trans (hb.mono HBl.out.size)); clear hu hun hb HN1)
      | (go_at_call 123; (with_reducible refine (HB2.out _ HBm.out).mono ?_); rintro e w1 ⟨rfl, rfl⟩)
      | (go_at_call 97; (with_reducible refine (HN2.out _ _ (Hr.out.below HB3.out)).mono ?_); rintro e w4 ⟨v, rfl, hv, hb⟩; have HV := Lib.hid hv; have HU4 := Lib.hid (HU.out.below hb); have HB := Lib.hid (HBm.out.trans (hb.mono HBm.out.size)); clear hv hb))
    go_ret3
    exact ⟨_, _, rfl, ⟨HU4.out, HUn.out⟩, HV.out, HB.out⟩
theorem Of_one (w : World) : Calls Tryz.prog 46 #[.int .u64 1] w fun e w' => ∃ v, e = .returned v ∧ (IsN w' v 1 ∧ v ≠ .pointer none) ∧ Below w.heap.size w w' := nat.Of_any 1 w (by omega)
set_option maxRecDepth 100000 in
set_option maxHeartbeats 2000000 in
theorem Div_past (a b : Value) (z y : Int) (w : World) (ha : IsZ w a z) (hb : IsZ w b y) (hx : (digs z.natAbs).length ≤ 700000) (hy : (digs y.natAbs).length ≤ 700000) (h0 : y ≠ 0) (h : decide (z < 0) ≠ decide (y < 0)) (hr0 : z.natAbs % y.natAbs ≠ 0) :
    Calls Tryz.prog 50 #[a, b] w fun e w' => ∃ q r, e = .returned (.tuple #[q, r, .nilIface]) ∧ (IsZ w' q (z.fdiv y) ∧ q ≠ .pointer none) ∧ (IsZ w' r (z.fmod y) ∧ r ≠ .pointer none) ∧ Below w.heap.size w w' := by
  have B1 := fun w' (h : Below w.heap.size w w') => isBelow_any a z w' (ha.below h)
  have B2 := fun w' (h : Below w.heap.size w w') => isBelow_any b y w' (hb.below h)
  have A1 := Lib.hid (amount_any a z w ha)
  have A2 := Lib.hid (fun w' (h : Below w.heap.size w w') => amount_any b y w' (hb.below h))
  have hq9 : (digs (z.natAbs / y.natAbs)).length ≤ 700000 := digs_le_len (Nat.div_le_self _ _) hx
  have D := Lib.hid (fun na nb h1 h2 => nat.Div_ok na nb z.natAbs y.natAbs w h1 h2 (by omega) (by omega) (by omega))
  have Z := Lib.hid (fun (w' : World) r hr => Zero_any r (z.natAbs % y.natAbs) w' hr)
  rw [decide_eq_false hr0] at Z
  have O := Lib.hid Of_one
  have P := Lib.hid (fun (w' : World) q o hq ho => nat.Add_any q o (z.natAbs / y.natAbs) 1 w' hq ho (by omega) (by rw [show digs 1 = [1] by decide +kernel]; simp))
  have S := Lib.hid (fun (w' : World) nb r hb hr => nat.Sub_ok nb r y.natAbs (z.natAbs % y.natAbs) w' hb hr (Nat.le_of_lt (Nat.mod_lt _ (by omega))) (by omega))
  have N1 := fun (w' : World) nv hn => New_any true nv (z.natAbs / y.natAbs + 1) w' hn
  have N2 := fun (w' : World) nv hn => New_any (decide (y < 0)) nv (y.natAbs - z.natAbs % y.natAbs) w' hn
  rw [← (floor_past h0 h hr0).1] at N1
  rw [← (floor_past h0 h hr0).2] at N2
  obtain ⟨b1, hb1⟩ : ∃ b1, decide (z < 0) = b1 := ⟨_, rfl⟩
  obtain ⟨b2, hb2⟩ : ∃ b2, decide (y < 0) = b2 := ⟨_, rfl⟩
  rw [hb1] at B1 h
  rw [hb2] at B2 N2 h
  have HB1 := Lib.hid B1
  have HB2 := Lib.hid B2
  have HN1 := Lib.hid N1
  have HN2 := Lib.hid N2
  generalize z.fdiv y = Q at *
  generalize z.fmod y = R at *
  have hbn : (!(b1 == b2)) = true := by simp [h]
  have hbb : (b1 == b2) = false := by simp [h]
  clear ha hb B1 B2 N1 N2 hb1 hb2 h hr0 hq9
  go_enter Tryz.func50, Tryz.ntmps50
  go_wp2_with (first
    | (go_at_call 122; (with_reducible refine (A1.out).mono ?_); rintro e w1 ⟨na, rfl, hn, rfl⟩; have HA1 := Lib.hid hn; clear A1 hn)
    | (go_at_call 122; (with_reducible refine (A2.out _ (Below.refl _ _)).mono ?_); rintro e w1 ⟨nb, rfl, hn, rfl⟩; have HA2 := Lib.hid hn; clear hn)
    | (go_at_call 33; (with_reducible refine (D.out _ _ HA1.out HA2.out).mono ?_); rintro e w2 ⟨q, r, rfl, ⟨hq, -⟩, ⟨hr, -⟩, hb2⟩; have Hq := Lib.hid hq; have Hr := Lib.hid hr; have HBl := Lib.hid hb2; clear D hq hr hb2 HA2)
    | (go_at_call 123; (with_reducible refine (HB1.out _ HBl.out).mono ?_); rintro e w1 ⟨rfl, rfl⟩)
    | (go_at_call 123; (with_reducible refine (HB2.out _ HBl.out).mono ?_); rintro e w1 ⟨rfl, rfl⟩)
    | (go_at_call 42; (with_reducible refine (Z.out _ _ Hr.out).mono ?_); rintro e w1 ⟨rfl, rfl⟩; clear Z)
    | (go_at_call 46; (with_reducible refine (O.out _).mono ?_); rintro e w3 ⟨o, rfl, ⟨ho, -⟩, hb⟩; have Ho := Lib.hid ho; have Hq3 := Lib.hid (Hq.out.below hb); have Hr3 := Lib.hid (Hr.out.below hb); have HB3 := Lib.hid (HBl.out.trans (hb.mono HBl.out.size)); clear ho hb O)
    | (go_at_call 35; (with_reducible refine (P.out _ _ _ Hq3.out Ho.out).mono ?_); rintro e w4 ⟨q4, rfl, ⟨hq, -⟩, hb⟩; have Hq4 := Lib.hid hq; have Hr4 := Lib.hid (Hr3.out.below hb); have HB4 := Lib.hid (HB3.out.trans (hb.mono HB3.out.size)); clear hq hb P)
    | (go_at_call 122; (with_reducible refine (A2.out _ HB4.out).mono ?_); rintro e w1 ⟨nb, rfl, hn, rfl⟩; have HA4 := Lib.hid hn; clear hn)
    | (go_at_call 27; (with_reducible refine (S.out _ _ _ HA4.out Hr4.out).mono ?_); rintro e w5 ⟨r5, rfl, ⟨hr, -⟩, hb⟩; have Hr5 := Lib.hid hr; have Hq5 := Lib.hid (Hq4.out.below hb); have HB5 := Lib.hid (HB4.out.trans (hb.mono HB4.out.size)); clear hr hb S)
    | (go_at_call 97; (with_reducible refine (HN1.out _ _ Hq5.out).mono ?_); rintro e w6 ⟨u, rfl, ⟨hu, hun⟩, hb⟩; have HU := Lib.hid hu; have HUn := Lib.hid hun; have Hr6 := Lib.hid (Hr5.out.below hb); have HB6 := Lib.hid (HB5.out.trans (hb.mono HB5.out.size)); clear hu hun hb HN1)
    | (go_at_call 123; (with_reducible refine (HB2.out _ HB6.out).mono ?_); rintro e w1 ⟨rfl, rfl⟩)
    | (go_at_call 97; (with_reducible refine (HN2.out _ _ Hr6.out).mono ?_); rintro e w7 ⟨v, rfl, hv, hb⟩; have HV := Lib.hid hv; have HU7 := Lib.hid (HU.out.below hb); have HB := Lib.hid (HB6.out.trans (hb.mono HB6.out.size)); clear hv hb))
  go_ret3
  exact ⟨_, _, rfl, ⟨HU7.out, HUn.out⟩, HV.out, HB.out⟩
theorem Div_any (a b : Value) (z y : Int) (w : World) (ha : IsZ w a z) (hb : IsZ w b y) (hx : (digs z.natAbs).length ≤ 700000) (hy : (digs y.natAbs).length ≤ 700000) (h0 : y ≠ 0) :
    Calls Tryz.prog 50 #[a, b] w fun e w' => ∃ q r, e = .returned (.tuple #[q, r, .nilIface]) ∧ (IsZ w' q (z.fdiv y) ∧ q ≠ .pointer none) ∧ (IsZ w' r (z.fmod y) ∧ r ≠ .pointer none) ∧ Below w.heap.size w w' := by
  by_cases h : decide (z < 0) = decide (y < 0) ∨ z.natAbs % y.natAbs = 0
  · exact Div_near a b z y w ha hb hx hy h0 h
  · exact Div_past a b z y w ha hb hx hy h0 (fun e => h (Or.inl e)) (fun e => h (Or.inr e))
set_option maxRecDepth 100000 in
theorem Div_zero (a b : Value) (z : Int) (w : World) (ha : IsZ w a z) (hb : IsZ w b 0) :
    Calls Tryz.prog 50 #[a, b] w fun e w' => e = .returned (.tuple #[.pointer none, .pointer none, errOf 3]) ∧ w = w' := by
  have A1 := Lib.hid (amount_any a z w ha)
  have A2 := Lib.hid (amount_any b 0 w hb)
  have D := Lib.hid (fun na nb h2 => nat.Div_none na nb w h2)
  unfold errOf at *
  clear ha hb
  go_enter Tryz.func50, Tryz.ntmps50
  go_wp2_with (first
    | (go_at_call 122; (with_reducible refine (A1.out).mono ?_); rintro e w1 ⟨na, rfl, hn, rfl⟩; have HA1 := Lib.hid hn; clear A1 hn)
    | (go_at_call 122; (with_reducible refine (A2.out).mono ?_); rintro e w1 ⟨nb, rfl, hn, rfl⟩; have HA2 := Lib.hid hn; clear A2 hn)
    | (go_at_call 33; (with_reducible refine (D.out _ _ HA2.out).mono ?_); rintro e w2 ⟨rfl, rfl⟩))
  go_ret3
  exact ⟨rfl, rfl⟩
end Go.Proofs.YtfpooimjjpamoaaGreatDoor.num
namespace Go.Proofs.YtfpooimjjpamoaaGreatDoor.num
open Go.RowKit Go.Proofs.YtfpooimjjpamoaaGreatDoor.nat
set_option maxRecDepth 100000 in
set_option maxHeartbeats 2000000 in
theorem Small_in (a : Value) (z : Int) (w : World) (ha : IsZ w a z) (h1 : -9223372036854775808 ≤ z) (h2 : z < 9223372036854775808) :
    Calls Tryz.prog 58 #[a] w fun e w' => e = .returned (.tuple #[.int .i64 z, .bool true]) ∧ w = w' := by
  have B := isBelow_any a z w ha
  have A := Lib.hid (amount_any a z w ha)
  have S := fun na hn => nat.Small_any na z.natAbs w hn
  rw [if_pos (by omega), decide_eq_true (by omega : z.natAbs < 18446744073709551616)] at S
  by_cases h0 : z < 0
  · have e1 : ((z.natAbs : Nat) : Int) = -z := by omega
    have E2 := Lib.hid (show wrap64 (IntKind.u64.wrap z) = z by rw [IntKind.wrap_u64]; unfold wrap64; omega)
    rw [e1] at S
    rw [decide_eq_true h0] at B
    have HB := Lib.hid B
    have HS := Lib.hid S
    clear ha B S e1
    go_enter Tryz.func58, Tryz.ntmps58
    go_wp2_with (first
      | (go_at_call 122; (with_reducible refine (A.out).mono ?_); rintro e w1 ⟨na, rfl, hn, rfl⟩; have HN := Lib.hid hn; clear A hn)
      | (go_at_call 47; (with_reducible refine (HS.out _ HN.out).mono ?_); rintro e w1 ⟨rfl, rfl⟩; clear HS)
      | (go_at_call 123; (with_reducible refine (HB.out).mono ?_); rintro e w1 ⟨rfl, rfl⟩))
    go_ret2
    refine ⟨?_, rfl⟩
    show Ending.returned (.tuple #[.int .i64 (wrap64 (IntKind.u64.wrap z)), .bool true]) = _
    rw [E2.out]
  · have e1 : ((z.natAbs : Nat) : Int) = z := by omega
    rw [e1] at S
    rw [decide_eq_false h0] at B
    have HB := Lib.hid B
    have HS := Lib.hid S
    clear ha B S e1
    go_enter Tryz.func58, Tryz.ntmps58
    go_wp2_with (first
      | (go_at_call 122; (with_reducible refine (A.out).mono ?_); rintro e w1 ⟨na, rfl, hn, rfl⟩; have HN := Lib.hid hn; clear A hn)
      | (go_at_call 47; (with_reducible refine (HS.out _ HN.out).mono ?_); rintro e w1 ⟨rfl, rfl⟩; clear HS)
      | (go_at_call 123; (with_reducible refine (HB.out).mono ?_); rintro e w1 ⟨rfl, rfl⟩))
    go_ret2
    exact ⟨rfl, rfl⟩
set_option maxRecDepth 100000 in
set_option maxHeartbeats 2000000 in
theorem Small_out (a : Value) (z : Int) (w : World) (ha : IsZ w a z) (h : z < -9223372036854775808 ∨ 9223372036854775808 ≤ z) :
    Calls Tryz.prog 58 #[a] w fun e w' => e = .returned (.tuple #[.int .i64 0, .bool false]) ∧ w = w' := by
  have B := isBelow_any a z w ha
  have A := Lib.hid (amount_any a z w ha)
  have S := fun na hn => nat.Small_any na z.natAbs w hn
  rcases Nat.lt_or_ge z.natAbs 18446744073709551616 with hs | hs
  · rw [if_pos hs, decide_eq_true hs] at S
    have HS := Lib.hid S
    obtain ⟨X, hX⟩ : ∃ X, z.natAbs = X := ⟨_, rfl⟩
    rw [hX] at HS A
    obtain ⟨SI, hSI⟩ : ∃ SI : Int, SI = (X : Int) := ⟨_, rfl⟩
    rw [← hSI] at HS
    rcases h with h | h
    · have hx : (9223372036854775808 : Int) < SI := by omega
      rw [decide_eq_true (by omega : z < 0)] at B
      have HB := Lib.hid B
      clear ha B S h hs hX hSI
      go_enter Tryz.func58, Tryz.ntmps58
      go_wp2_with (first
        | (go_at_call 122; (with_reducible refine (A.out).mono ?_); rintro e w1 ⟨na, rfl, hn, rfl⟩; have HN := Lib.hid hn; clear A hn)
        | (go_at_call 47; (with_reducible refine (HS.out _ HN.out).mono ?_); rintro e w1 ⟨rfl, rfl⟩; clear HS)
        | (go_at_call 123; (with_reducible refine (HB.out).mono ?_); rintro e w1 ⟨rfl, rfl⟩))
      go_ret2
      exact ⟨rfl, rfl⟩
    · have hx : (9223372036854775808 : Int) ≤ SI := by omega
      rw [decide_eq_false (by omega : ¬ z < 0)] at B
      have HB := Lib.hid B
      clear ha B S h hs hX hSI
      go_enter Tryz.func58, Tryz.ntmps58
      go_wp2_with (first
        | (go_at_call 122; (with_reducible refine (A.out).mono ?_); rintro e w1 ⟨na, rfl, hn, rfl⟩; have HN := Lib.hid hn; clear A hn)
        | (go_at_call 47; (with_reducible refine (HS.out _ HN.out).mono ?_); rintro e w1 ⟨rfl, rfl⟩; clear HS)
        | (go_at_call 123; (with_reducible refine (HB.out).mono ?_); rintro e w1 ⟨rfl, rfl⟩))
      go_ret2
      exact ⟨rfl, rfl⟩
  · rw [if_neg (by omega), decide_eq_false (by omega)] at S
    have HS := Lib.hid S
    clear ha B S h hs
    go_enter Tryz.func58, Tryz.ntmps58
    go_wp2_with (first
      | (go_at_call 122; (with_reducible refine (A.out).mono ?_); rintro e w1 ⟨na, rfl, hn, rfl⟩; have HN := Lib.hid hn; clear A hn)
      | (go_at_call 47; (with_reducible refine (HS.out _ HN.out).mono ?_); rintro e w1 ⟨rfl, rfl⟩; clear HS))
    go_ret2
    exact ⟨rfl, rfl⟩
end Go.Proofs.YtfpooimjjpamoaaGreatDoor.num
namespace Go.Proofs.YtfpooimjjpamoaaGreatDoor.nat
open Go.RowKit
open Go.Proofs.YtfpooimjjpamoaaGreatDoor.ref (str str_size str_append pad pad_length pad_cons pad_append pad_nought pad_dec pad_head)
theorem infoU8 : (Tryz.prog.info? 5).map (fun i => (i.zero, i.size, i.bytes)) = some (some (.int .u8 0), 1, 1) := by kernel_rfl
theorem pad_split (k X : Nat) : ∀ m, pad (k + m) X = pad k (X / 10 ^ m) ++ pad m X
  | 0 => by simp [pad]
  | m + 1 => by
    have h : ∀ m X, pad (m + 1) X = pad m (X / 10) ++ [UInt8.ofNat (48 + X % 10)] := fun _ _ => rfl
    rw [show k + (m + 1) = (k + m) + 1 by omega, h (k + m) X, h m X]
    have ih := pad_split k (X / 10) m
    rw [ih, Nat.div_div_eq_div_mul, show 10 * 10 ^ m = 10 ^ (m + 1) by rw [Nat.pow_succ, Nat.mul_comm], List.append_assoc]
theorem pad_low {k r q : Nat} (h : r < 10 ^ k) : pad k (q * 10 ^ k + r) = pad k r := by
  have := pad_append k 0 r q h
  rw [Nat.zero_add] at this
  rw [Nat.add_comm, Nat.mul_comm, this]
  rfl
theorem pad_mod (k X : Nat) : pad k (X % 10 ^ k) = pad k X := by
  have h := pad_low (k := k) (r := X % 10 ^ k) (q := X / 10 ^ k) (Nat.mod_lt _ (Nat.pow_pos (by omega)))
  rw [Nat.mul_comm, Nat.div_add_mod] at h
  exact h.symm
def RowB (w : World) (g : Nat) (L : List UInt8) : Prop := ∃ R, w.heap[g]? = some (.cells ((L.map fun d => Value.int .u8 (d.toNat : Nat)) ++ R).toArray 5 (0, 0))
theorem RowB.lt {w : World} {g : Nat} {L : List UInt8} (h : RowB w g L) : g < w.heap.size := by
  obtain ⟨R, h⟩ := h
  exact (Array.getElem?_eq_some_iff.1 h).1
theorem RowB.cell {w : World} {g : Nat} {L : List UInt8} (h : RowB w g L) (k : Nat) (hk : k < L.length) : w.cell? ⟨g, k, none⟩ = some (.int .u8 (L[k].toNat : Nat)) := by
  obtain ⟨R, h⟩ := h
  simp only [World.cell?, h, Option.isSome_none, Bool.false_eq_true, if_false]
  rw [List.getElem?_toArray, List.getElem?_append_left (by simpa using hk)]
  simp [hk]
theorem RowB.free {w : World} {g : Nat} {L : List UInt8} (h : RowB w g L) (k : Nat) : w.frozen? ⟨g, k, none⟩ = false := by
  obtain ⟨R, h⟩ := h
  simp [World.frozen?, h]
theorem RowB.set {w : World} {g : Nat} {L : List UInt8} (h : RowB w g L) (k : Nat) (hk : k < L.length) {u : Int} {d : UInt8} (hu : u = (d.toNat : Nat)) : RowB (w.setCell ⟨g, k, none⟩ (.int .u8 u)) g (L.set k d) := by
  obtain ⟨R, h⟩ := h
  refine ⟨R, ?_⟩
  rw [heap_setCell_same w g k _ _ _ h, hu]
  congr 2
  rw [List.setIfInBounds_toArray, List.set_append_left _ _ (by simpa using hk), List.map_set]
theorem RowB.kept {w w' : World} {g : Nat} {L : List UInt8} {row : Option Nat} (h : RowB w g L) (hg : w.grownBy w' row) (hne : some g ≠ row) : RowB w' g L := by
  obtain ⟨R, hR⟩ := h
  exact ⟨R, (hg.block g (Array.getElem?_eq_some_iff.1 hR).1 hne).trans hR⟩
theorem RowB.below {w w' : World} {B g : Nat} {L : List UInt8} (h : RowB w g L) (hb : Below B w w') (hg : g < B) : RowB w' g L := by
  obtain ⟨R, hR⟩ := h
  exact ⟨R, (hb.block g hg).trans hR⟩
theorem RowB.drew {w : World} {g : Nat} {L : List UInt8} (h : RowB w g L) (n : Nat) : RowB (w.drewN n) g L := h
theorem Own.low {w : World} {B g k : Nat} {sv u : Value} {l : List Nat} (h : Own w B sv l) (hg : g < B) : Own (w.setCell ⟨g, k, none⟩ u) B sv l := by
  obtain ⟨ao, cap, h0, h1, h2, h3⟩ := h
  exact ⟨ao, cap, h0, h1, h2, h3.imp id fun ⟨b, e1, h4, hr⟩ => ⟨b, e1, h4, hr.kept (grown_set w g k u) (by simp; omega)⟩⟩
theorem make_bytes (w : World) (n : Nat) (hn : n ≤ 1000000000) : ∃ W1, (Instr.makeSlice 119 (.int .i64 (n : Int)) (.int .i64 (n : Int))).run Tryz.prog w = .ok (.slice (some ⟨w.heap.size, 0, none⟩) n n) W1 ∧
    RowB W1 w.heap.size (List.replicate n 0) ∧ Below w.heap.size w W1 := by
  obtain ⟨i0, hi0, hz0, hz1, hz2⟩ := info_parts infoU8
  have h := run_make (P := Tryz.prog) w 119 5 i0 (.int .u8 0) Tryz.underlying119 hi0 hz0 .i64 .i64 (n : Int) (n : Int) (by omega) (by omega) (by rw [hz2]; omega) (by omega)
  rw [hz1] at h
  have hc : madeCells (Value.int .u8 0).cells (((n : Int)).toNat * 1) = ((List.replicate n (0 : UInt8)).map fun d => Value.int .u8 (d.toNat : Nat)).toArray := by
    have h0 : (madeCells (Value.int .u8 0).cells (n * 1)).toList = (List.replicate n (0 : UInt8)).map fun d => Value.int .u8 (d.toNat : Nat) := by
      rw [Nat.mul_one, show (Value.int .u8 0).cells = #[Value.int .u8 0] from rfl, toList_madeCells_one]
      simp
    rw [show ((n : Int)).toNat = n by omega, ← h0, Array.toArray_toList]
  rw [hc, show ((n : Int)).toNat = n by omega] at h
  have hh : (w.alloc (.cells ((List.replicate n (0 : UInt8)).map fun d => Value.int .u8 (d.toNat : Nat)).toArray 5)).heap[w.heap.size]? = some (.cells ((List.replicate n (0 : UInt8)).map fun d => Value.int .u8 (d.toNat : Nat)).toArray 5 (0, 0)) := heap_alloc_new w _
  exact ⟨_, h, ⟨[], by rw [List.append_nil]; exact hh⟩, (Below.refl _ _).alloc (Nat.le_refl _) _⟩
def From (w : World) (g : Nat) (L0 : List UInt8) (p : Nat) (D : List UInt8) : Prop := ∃ L, L.length = L0.length ∧ L.take p = L0.take p ∧ L.drop p = D ∧ RowB w g L
theorem From.free {w : World} {g p : Nat} {L0 D : List UInt8} (h : From w g L0 p D) (k : Nat) : w.frozen? ⟨g, k, none⟩ = false := by
  obtain ⟨L, _, _, _, h⟩ := h
  exact h.free k
theorem From.cell {w : World} {g p : Nat} {L0 D : List UInt8} (h : From w g L0 p D) (k : Nat) (hk : k < L0.length) : ∃ u, w.cell? ⟨g, k, none⟩ = some (.int .u8 u) := by
  obtain ⟨L, h0, _, _, h⟩ := h
  exact ⟨_, h.cell k (by omega)⟩
theorem From.set {w : World} {g p : Nat} {L0 D : List UInt8} (h : From w g L0 (p + 1) D) (hp : p < L0.length) {u : Int} {d : UInt8} (hu : u = (d.toNat : Nat)) : From (w.setCell ⟨g, p, none⟩ (.int .u8 u)) g L0 p (d :: D) := by
  obtain ⟨L, h0, h1, h2, h3⟩ := h
  refine ⟨L.set p d, by simpa using h0, ?_, ?_, h3.set p (by omega) hu⟩
  · rw [List.take_set, List.set_eq_of_length_le (by rw [List.length_take]; omega)]
    have := congrArg (List.take p) h1
    rwa [List.take_take, List.take_take, Nat.min_eq_left (by omega)] at this
  · rw [List.drop_eq_getElem_cons (by rw [List.length_set]; omega), List.getElem_set_self, List.drop_set_of_lt (by omega), h2]
theorem From.below {w w' : World} {B g p : Nat} {L0 D : List UInt8} (h : From w g L0 p D) (hb : Below B w w') (hg : g < B) : From w' g L0 p D := by
  obtain ⟨L, h0, h1, h2, h3⟩ := h
  exact ⟨L, h0, h1, h2, h3.below hb hg⟩
theorem From.drew {w : World} {g p : Nat} {L0 D : List UInt8} (h : From w g L0 p D) (n : Nat) : From (w.drewN n) g L0 p D := h
theorem From.row {w : World} {g p : Nat} {L0 D : List UInt8} (h : From w g L0 p D) : RowB w g (L0.take p ++ D) := by
  obtain ⟨L, h0, h1, h2, h3⟩ := h
  rw [← h1, ← h2, List.take_append_drop]
  exact h3
theorem RowB.start {w : World} {g : Nat} {L : List UInt8} (h : RowB w g L) (p : Nat) : From w g L p (L.drop p) := ⟨L, rfl, rfl, rfl, h⟩
end Go.Proofs.YtfpooimjjpamoaaGreatDoor.nat
