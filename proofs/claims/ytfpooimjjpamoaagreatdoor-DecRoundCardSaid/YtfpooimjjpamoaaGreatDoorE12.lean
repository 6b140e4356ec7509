/-
  The steps of the walks, part 12: RefRound, Bnd, RefGetI.
-/
import Derived.Test.YtfpooimjjpamoaaGreatDoorE10
import Derived.Test.YtfpooimjjpamoaaGreatDoorE11
import Derived.Test.YtfpooimjjpamoaaGreatDoorS21
import Derived.Test.YtfpooimjjpamoaaGreatDoorE09
import Derived.Test.YtfpooimjjpamoaaGreatDoorS19
namespace Go.Proofs.YtfpooimjjpamoaaGreatDoor.ref
open Go.RowKit
def roundText (z : Int) (d : Nat) (k : Nat) (mode : Int) : List UInt8 :=
  decText (signed (decide (z * ((10 ^ k : Nat) : Int) < 0)) (nearN (z * ((10 ^ k : Nat) : Int)).natAbs (d * 1) mode)) k
theorem digs_ten (k : Nat) : (digs (10 ^ k)).length ≤ k + 1 := by
  refine digs_len_of_lt ?_
  have h1 : 10 ^ k < 10 ^ (k + 1) := by
    have : 0 < 10 ^ k := Nat.pow_pos (by omega)
    rw [Nat.pow_succ]
    omega
  exact Nat.lt_of_lt_of_le h1 (Nat.pow_le_pow_left (by omega) _)
set_option maxRecDepth 100000 in
set_option maxHeartbeats 4000000 in
theorem Round_any (v : Value) (z : Int) (d k : Nat) (mode : Int) (w : World) (hv : IsQ w v z d) (hz : (digs z.natAbs).length ≤ 10000) (hd : (digs d).length ≤ 10000) (h0 : 0 < d) (hk : k ≤ 1000) :
    Calls Tryz.prog 83 #[v, .int .i64 (k : Nat), .int .i64 mode] w fun e w' => e = .returned (.string (str (roundText z d k mode))) ∧ Below w.heap.size w w' := by
  have HQ := Lib.hid hv
  unfold roundText
  have HU10 := Lib.hid (fun W => OfU_int 10 10 rfl (by decide) W)
  have HU1 := Lib.hid (fun W => OfU_int 1 1 rfl (by decide) W)
  have h1l : (digs 1).length = 1 := by rw [show digs 1 = [1] by decide +kernel]; rfl
  have HPw0 := fun W a (h : IsN W a 10) => Pow_any a 10 (k : Int) (by omega) W h (by rw [show digs 10 = [10] by decide +kernel]; simp) (fun i hi => Nat.le_trans (digs_ten i) (by omega))
  have hten := digs_ten k
  have hP0 : 0 < 10 ^ k := Nat.pow_pos (by omega)
  rw [Int.toNat_natCast] at HPw0
  generalize 10 ^ k = P at *
  have HPw := Lib.hid HPw0
  have HPr0 := fun W s t (hb : Below w.heap.size w W) (hs : IsN W s P) (ht : IsN W t 1) => Prod_any v (.agg #[.bool false, s, t]) z (P : Int) d 1 W (hv.below hb) ⟨s, t, by rw [decide_eq_false (by omega)], by rw [Int.natAbs_natCast]; exact hs, ht⟩ (by omega) (by rw [Int.natAbs_natCast]; omega) (by omega) (by omega)
  have hzl : (digs (z * (P : Int)).natAbs).length ≤ 11001 := by
    rw [Int.natAbs_mul, Int.natAbs_natCast]
    exact Nat.le_trans (len_mul hz hten) (by omega)
  have hdl : (digs (d * 1)).length ≤ 10000 := by rw [Nat.mul_one]; exact hd
  have HNr0 := fun W q (hq : IsQ W q (z * (P : Int)) (d * 1)) => Near_any q (z * (P : Int)) (d * 1) mode W hq (by omega) (by omega) (by omega)
  have hml : (digs (signed (decide (z * (P : Int) < 0)) (nearN (z * (P : Int)).natAbs (d * 1) mode)).natAbs).length ≤ 20000 := by
    have h1 : nearN (z * (P : Int)).natAbs (d * 1) mode ≤ (z * (P : Int)).natAbs + 1 := by
      unfold nearN
      have := Nat.div_le_self (z * (P : Int)).natAbs (d * 1)
      split <;> omega
    have h2 : (signed (decide (z * (P : Int) < 0)) (nearN (z * (P : Int)).natAbs (d * 1) mode)).natAbs = nearN (z * (P : Int)).natAbs (d * 1) mode := by
      unfold signed
      split <;> omega
    rw [h2]
    refine digs_le h1 (Nat.le_trans (digs_len_add hzl (by rw [h1l]; omega)) (by omega))
  generalize signed (decide (z * (P : Int) < 0)) (nearN (z * (P : Int)).natAbs (d * 1) mode) = Z at *
  have HDc0 := fun W v (hv : IsI W v Z) => Dec_any v Z k W hv (by omega) hk
  generalize str (decText Z k) = R at *
  generalize z * (P : Int) = zz at *
  generalize d * 1 = dd at *
  obtain ⟨s, t, rfl, hs, ht⟩ := hv
  obtain ⟨ao, ac, rfl, -⟩ := id hs
  obtain ⟨co, cc, rfl, -⟩ := id ht
  generalize decide (z < 0) = p at *
  generalize (digs z.natAbs).length = an at *
  generalize (digs d).length = cn at *
  have HPr := Lib.hid HPr0
  have HNr := Lib.hid HNr0
  have HDc := Lib.hid HDc0
  have HB := Lib.hid ((Below.refl w.heap.size w).alloc (Nat.le_refl _) (.cells #[.bool p, .slice ao an ac, .slice co cn cc] 86))
  clear HPw0 HPr0 HNr0 HDc0 hs ht hz hd h0 hk h1l hten hP0 hzl hdl hml
  go_enter Tryz.func83, Tryz.ntmps83
  go_wp2
  obtain ⟨w1, hw1⟩ : ∃ w1, w1 = w.alloc (.cells #[.bool p, .slice ao an ac, .slice co cn cc] 86) := ⟨_, rfl⟩
  have hr : w1.heap[w.heap.size]? = some (.cells #[.bool p, .slice ao an ac, .slice co cn cc] 86 (0, 0)) := by rw [hw1]; exact heap_alloc_new _ _
  rw [← hw1] at HB ⊢
  have HOLD := Lib.hid (fun W (hW : Below w1.heap.size w1 W) => (show Below w1.heap.size w1 W ∧ W.cell? ⟨w.heap.size, 0, none⟩ = some (.bool p) ∧ W.cell? ⟨w.heap.size, 1, none⟩ = some (.slice ao an ac) ∧ W.cell? ⟨w.heap.size, 2, none⟩ = some (.slice co cn cc) from by
    obtain ⟨k0, k1, k2, -⟩ := row3 ((hW.block w.heap.size (Array.getElem?_eq_some_iff.1 hr).1).trans hr)
    exact ⟨hW, k0, k1, k2⟩))
  clear hw1
  go_region_held3 (fun w' => Below w1.heap.size w1 w' ∧ w'.cell? ⟨w.heap.size, 0, none⟩ = some (.bool p) ∧ w'.cell? ⟨w.heap.size, 1, none⟩ = some (.slice ao an ac) ∧ w'.cell? ⟨w.heap.size, 2, none⟩ = some (.slice co cn cc))
    (first
      | exact HOLD.out _ (Below.refl _ _).drew
      | exact HOLD.out _ HB7.out
      | exact HOLD.out _ HB6.out
      | exact HOLD.out _ HB5.out
      | exact HOLD.out _ HB4.out
      | exact HOLD.out _ HB3.out
      | exact HOLD.out _ HB2.out)
    (first
      | (go_at_call 48; (with_reducible refine (HU10.out _).mono ?_); rintro e' w2 ⟨ten, rfl, ho, hb⟩
         have HO := Lib.hid ho
         have HB2 := Lib.hid ((Below.refl w1.heap.size w1).drew.trans hb)
         clear ho hb)
      | (go_at_call 87; (with_reducible refine (HPw.out _ _ HO.out).mono ?_); rintro e' w3 ⟨pw, rfl, ho, hb⟩
         obtain ⟨po, pc, rfl, -⟩ := id ho
         have HP := Lib.hid ho
         have HB3 := Lib.hid (HB2.out.trans (hb.mono HB2.out.size))
         clear ho hb)
      | (go_at_call 48; (with_reducible refine (HU1.out _).mono ?_); rintro e' w4 ⟨one, rfl, ho, hb⟩
         obtain ⟨oo, oc, rfl, -⟩ := id ho
         have HO4 := Lib.hid ho
         have HP4 := Lib.hid (HP.out.below hb)
         have HB4 := Lib.hid (HB3.out.trans (hb.mono HB3.out.size))
         clear ho hb)
      | (go_at_call 86; (with_reducible refine (HPr.out _ _ _ (HB.out.trans (HB4.out.mono HB.out.size)) HP4.out HO4.out).mono ?_); rintro e' w5 ⟨pq, rfl, ho, hb⟩
         have HPQ := Lib.hid ho
         have HB5 := Lib.hid (HB4.out.trans (hb.mono HB4.out.size))
         clear ho hb)
      | (go_at_call 85; (with_reducible refine (HNr.out _ _ HPQ.out).mono ?_); rintro e' w6 ⟨nr, rfl, ho, hb⟩
         have HNq := Lib.hid ho
         have HB6 := Lib.hid (HB5.out.trans (hb.mono HB5.out.size))
         clear ho hb)
      | (go_at_call 93; (with_reducible refine (HDc.out _ _ HNq.out).mono ?_); rintro e' w7 ⟨rfl, hb⟩
         have HB7 := Lib.hid (HB6.out.trans (hb.mono HB6.out.size))
         clear hb)
      | (fail "no arm"))
  go_wp2
  go_ret
  exact ⟨rfl, HB.out.trans (HB7.out.mono HB.out.size)⟩
end Go.Proofs.YtfpooimjjpamoaaGreatDoor.ref
namespace Go.Proofs.YtfpooimjjpamoaaGreatDoor.law2
open Go.Proofs.YtfpooimjjpamoaaGreatDoor.num (Lz Ln Lz_fdiv)
def Bn (x n : Nat) : Prop := x < 10 ^ n
def Bz (z : Int) (n : Nat) : Prop := z.natAbs < 10 ^ n
def Br (q : Rat) (n : Nat) : Prop := Bz q.num n ∧ Bn q.den n
theorem ten_le {n m : Nat} (h : n ≤ m) : 10 ^ n ≤ 10 ^ m := Nat.pow_le_pow_right (by omega) h
theorem Bn.le {x n m : Nat} (h : Bn x n) (hm : n ≤ m) : Bn x m := Nat.lt_of_lt_of_le h (ten_le hm)
theorem Bz.le {x : Int} {n m : Nat} (h : Bz x n) (hm : n ≤ m) : Bz x m := Nat.lt_of_lt_of_le h (ten_le hm)
theorem Br.le {q : Rat} {n m : Nat} (h : Br q n) (hm : n ≤ m) : Br q m := ⟨h.1.le hm, h.2.le hm⟩
theorem Bn.nat {x n m : Nat} (h : Bn x n) (hm : n ≤ m) : (nat.digs x).length ≤ m :=
  Nat.le_trans (nat.digs_len (n := n) (Nat.lt_of_lt_of_le h (Nat.pow_le_pow_left (by omega) _))) hm
theorem Bn.ref {x n m : Nat} (h : Bn x n) (hm : n ≤ m) : (ref.digs x).length ≤ m :=
  Nat.le_trans (ref.digs_len_of_lt (n := n) (Nat.lt_of_lt_of_le h (Nat.pow_le_pow_left (by omega) _))) hm
theorem Bz.nat {z : Int} {n m : Nat} (h : Bz z n) (hm : n ≤ m) : (nat.digs z.natAbs).length ≤ m := Bn.nat (x := z.natAbs) h hm
theorem Bz.ref {z : Int} {n m : Nat} (h : Bz z n) (hm : n ≤ m) : (ref.digs z.natAbs).length ≤ m := Bn.ref (x := z.natAbs) h hm
theorem Br.rat {q : Rat} {n m : Nat} (h : Br q n) (hm : n ≤ m) : rat.Lr q m := ⟨h.1.nat hm, h.2.nat hm⟩
theorem Bn_less {x y n : Nat} (hxy : x ≤ y) (h : Bn y n) : Bn x n := Nat.lt_of_le_of_lt hxy h
theorem Bz_neg {z : Int} {n : Nat} (h : Bz z n) : Bz (-z) n := by unfold Bz; rw [Int.natAbs_neg]; exact h
theorem Bz_nat {x n : Nat} (h : Bn x n) : Bz (x : Int) n := by unfold Bz; rw [Int.natAbs_natCast]; exact h
theorem Bn_mul {x y n m : Nat} (hx : Bn x n) (hy : Bn y m) : Bn (x * y) (n + m) := by
  unfold Bn at *
  rw [Nat.pow_add]
  rcases Nat.eq_zero_or_pos y with h | h
  · subst h; rw [Nat.mul_zero]; exact Nat.mul_pos (Nat.pow_pos (by omega)) (Nat.pow_pos (by omega))
  · exact Nat.lt_of_lt_of_le (Nat.mul_lt_mul_of_pos_right hx h) (Nat.mul_le_mul_left _ (Nat.le_of_lt hy))
theorem Bz_mul {x y : Int} {n m : Nat} (hx : Bz x n) (hy : Bz y m) : Bz (x * y) (n + m) := by unfold Bz; rw [Int.natAbs_mul]; exact Bn_mul hx hy
theorem Bn_add {x y n m : Nat} (hx : Bn x n) (hy : Bn y m) : Bn (x + y) (n + m + 1) := by
  have h1 := hx.le (m := n + m) (by omega)
  have h2 := hy.le (m := n + m) (by omega)
  unfold Bn at *
  rw [Nat.pow_succ]
  omega
theorem Bz_add {x y : Int} {n m : Nat} (hx : Bz x n) (hy : Bz y m) : Bz (x + y) (n + m + 1) := Bn_less (Int.natAbs_add_le x y) (Bn_add hx hy)
theorem Bn_div {x y n : Nat} (hx : Bn x n) : Bn (x / y) n := Bn_less (Nat.div_le_self _ _) hx
theorem Bn_mod {x y n : Nat} (hx : Bn x n) : Bn (x % y) n := Bn_less (Nat.mod_le _ _) hx
theorem Bn_pow {x n : Nat} (k : Nat) (hx : Bn x n) : Bn (x ^ k) (n * k + 1) := by
  unfold Bn at *
  rw [Nat.pow_succ, Nat.pow_mul]
  have h1 := Nat.pow_le_pow_left (Nat.le_of_lt hx) k
  have h2 : 0 < (10 ^ n) ^ k := Nat.pow_pos (Nat.pow_pos (by omega))
  omega
theorem Bn_small {x : Nat} (h2 : x < 18446744073709551616) : Bn x 20 := Nat.lt_of_lt_of_le h2 (by decide)
theorem Bz_small {z : Int} (h1 : -9223372036854775808 ≤ z) (h2 : z < 18446744073709551616) : Bz z 20 := Bn_small (x := z.natAbs) (by omega)
theorem Br_low {q : Rat} {z : Int} {d n : Nat} (hd : 0 < d) (hq : q = (z : Rat) / (d : Rat)) (hz : Bz z n) (hdn : Bn d n) : Br q n := by
  have h : mkRat z d = Rat.normalize z d (by omega) := (Rat.normalize_eq_mkRat _).symm
  rw [← Rat.mkRat_eq_div] at hq
  rw [hq, h]
  have hg : 0 < Nat.gcd z.natAbs d := Nat.gcd_pos_of_pos_right _ hd
  refine ⟨?_, ?_⟩
  · rw [Rat.num_normalize]
    refine Bn_less ?_ hz
    rw [Int.natAbs_ediv_of_dvd (by rw [← Int.dvd_natAbs, Int.ofNat_dvd]; exact Nat.gcd_dvd_left _ _), Int.natAbs_natCast]
    exact Nat.div_le_self _ _
  · rw [Rat.den_normalize]
    exact Bn_div hdn
theorem Br_lowz {q : Rat} {z y : Int} {n : Nat} (hd : y ≠ 0) (hq : q = (z : Rat) / (y : Rat)) (hz : Bz z n) (hdn : Bz y n) : Br q n := by
  rcases Int.lt_or_gt_of_ne hd with h | h
  · refine Br_low (z := -z) (d := y.natAbs) (by omega) ?_ (Bz_neg hz) hdn
    have e : (y.natAbs : Int) = -y := by omega
    have e2 : ((y.natAbs : Nat) : Rat) = -(y : Rat) := by rw [← Rat.intCast_natCast, e, Rat.intCast_neg]
    have := rat.cast_nez hd
    rw [hq, e2, Rat.intCast_neg]
    grind
  · refine Br_low (z := z) (d := y.natAbs) (by omega) ?_ hz hdn
    have e : (y.natAbs : Int) = y := by omega
    have e2 : ((y.natAbs : Nat) : Rat) = (y : Rat) := by rw [← Rat.intCast_natCast, e]
    rw [hq, e2]
theorem Br_neg {q : Rat} {n : Nat} (h : Br q n) : Br (-q) n := ⟨Bz_neg h.1, h.2⟩
theorem Br_add {p q : Rat} {n m : Nat} (hp : Br p n) (hq : Br q m) : Br (p + q) (n + m + n + m + 1) := by
  refine Br_low (z := p.num * (q.den : Int) + q.num * (p.den : Int)) (d := p.den * q.den) (Nat.mul_pos p.den_pos q.den_pos) ?_ ?_ ?_
  · rw [← Rat.mkRat_eq_div]; exact Rat.add_def' p q
  · exact (Bz_add (Bz_mul hp.1 (Bz_nat hq.2)) (Bz_mul hq.1 (Bz_nat hp.2))).le (by omega)
  · exact (Bn_mul hp.2 hq.2).le (by omega)
theorem Br_sub {p q : Rat} {n m : Nat} (hp : Br p n) (hq : Br q m) : Br (p - q) (n + m + n + m + 1) := by rw [Rat.sub_eq_add_neg]; exact Br_add hp (Br_neg hq)
theorem Br_mul {p q : Rat} {n m : Nat} (hp : Br p n) (hq : Br q m) : Br (p * q) (n + m) := by
  refine Br_low (z := p.num * q.num) (d := p.den * q.den) (Nat.mul_pos p.den_pos q.den_pos) ?_ (Bz_mul hp.1 hq.1) (Bn_mul hp.2 hq.2)
  rw [← Rat.mkRat_eq_div]; exact Rat.mul_def' p q
end Go.Proofs.YtfpooimjjpamoaaGreatDoor.law2
namespace Go.Proofs.YtfpooimjjpamoaaGreatDoor.ref
open Go.RowKit
set_option maxRecDepth 100000 in
set_option maxHeartbeats 4000000 in
theorem ISmall_in (v : Value) (z : Int) (w : World) (hv : IsI w v z) (h1 : -9223372036854775808 ≤ z) (h2 : z < 9223372036854775808) :
    Calls Tryz.prog 59 #[v] w fun e w' => e = .returned (.tuple #[.int .i64 z, .bool true]) ∧ Below w.heap.size w w' := by
  obtain ⟨s, rfl, hs⟩ := hv
  obtain ⟨ao, ac, rfl, -⟩ := id hs
  have HB := Lib.hid ((Below.refl w.heap.size w).alloc (Nat.le_refl _) (.cells #[.bool (decide (z < 0)), .slice ao (digs z.natAbs).length ac] 57))
  have HS : Calls Tryz.prog 125 #[.slice ao (digs z.natAbs).length ac] (w.alloc (.cells #[.bool (decide (z < 0)), .slice ao (digs z.natAbs).length ac] 57)) fun e w' => e = .returned (.tuple #[.int .u64 ((z.natAbs : Nat) : Int), .bool true]) ∧ Below (w.alloc (.cells #[.bool (decide (z < 0)), .slice ao (digs z.natAbs).length ac] 57)).heap.size (w.alloc (.cells #[.bool (decide (z < 0)), .slice ao (digs z.natAbs).length ac] 57)) w' := by
    refine (Small_any _ z.natAbs _ (hs.below HB.out)).mono ?_
    rintro e w' ⟨ha, -, hb⟩
    exact ⟨ha (by omega), hb⟩
  generalize (digs z.natAbs).length = n at *
  by_cases h : z < 0
  · rw [show ((z.natAbs : Nat) : Int) = -z by omega] at HS
    rw [decide_eq_true h] at *
    have HS := Lib.hid HS
    clear hs
    go_enter Tryz.func59, Tryz.ntmps59
    go_wp2_with (first
      | (go_at_call 125; (with_reducible refine (HS.out).mono ?_); rintro e' w2 ⟨rfl, hb⟩
         have k0 : w2.cell? ⟨w.heap.size, 0, none⟩ = some (.bool true) := (hb.cell (p := ⟨w.heap.size, 0, none⟩) (by simp)).trans (cell_of_row _ w.heap.size 0 _ 57 (0, 0) (heap_alloc_new w _))
         have HB2 := Lib.hid (HB.out.trans (hb.mono HB.out.size))
         clear hb)
      | (fail "no arm"))
    go_ret2
    refine ⟨?_, HB2.out⟩
    show Ending.returned (.tuple #[.int .i64 (-(-z - 1) - 1), .bool true]) = _
    rw [show -(-z - 1) - 1 = z by omega]
  · rw [show ((z.natAbs : Nat) : Int) = z by omega] at HS
    rw [decide_eq_false h] at *
    have HS := Lib.hid HS
    clear hs
    go_enter Tryz.func59, Tryz.ntmps59
    go_wp2_with (first
      | (go_at_call 125; (with_reducible refine (HS.out).mono ?_); rintro e' w2 ⟨rfl, hb⟩
         have k0 : w2.cell? ⟨w.heap.size, 0, none⟩ = some (.bool false) := (hb.cell (p := ⟨w.heap.size, 0, none⟩) (by simp)).trans (cell_of_row _ w.heap.size 0 _ 57 (0, 0) (heap_alloc_new w _))
         have HB2 := Lib.hid (HB.out.trans (hb.mono HB.out.size))
         clear hb)
      | (fail "no arm"))
    go_ret2
    exact ⟨rfl, HB2.out⟩
set_option maxRecDepth 100000 in
set_option maxHeartbeats 4000000 in
theorem ISmall_out (v : Value) (z : Int) (w : World) (hv : IsI w v z) (h : z < -9223372036854775808 ∨ 9223372036854775808 ≤ z) :
    Calls Tryz.prog 59 #[v] w fun e w' => e = .returned (.tuple #[.int .i64 0, .bool false]) ∧ Below w.heap.size w w' := by
  obtain ⟨s, rfl, hs⟩ := hv
  obtain ⟨ao, ac, rfl, -⟩ := id hs
  have HB := Lib.hid ((Below.refl w.heap.size w).alloc (Nat.le_refl _) (.cells #[.bool (decide (z < 0)), .slice ao (digs z.natAbs).length ac] 57))
  have HE := Small_any _ z.natAbs _ (hs.below HB.out)
  generalize (digs z.natAbs).length = n at *
  rcases Nat.lt_or_ge z.natAbs 18446744073709551616 with hl | hl
  · have HS : ∃ S : Int, S = ((z.natAbs : Nat) : Int) ∧ Calls Tryz.prog 125 #[.slice ao n ac] (w.alloc (.cells #[.bool (decide (z < 0)), .slice ao n ac] 57)) fun e w' => e = .returned (.tuple #[.int .u64 S, .bool true]) ∧ Below (w.alloc (.cells #[.bool (decide (z < 0)), .slice ao n ac] 57)).heap.size (w.alloc (.cells #[.bool (decide (z < 0)), .slice ao n ac] 57)) w' := by
      refine ⟨_, rfl, HE.mono ?_⟩
      rintro e w' ⟨ha, -, hb⟩
      exact ⟨ha hl, hb⟩
    obtain ⟨S, hS, HS⟩ := HS
    by_cases hz : z < 0
    · have hx : (9223372036854775808 : Int) < S := by omega
      rw [decide_eq_true hz] at *
      have HS2 := Lib.hid HS
      clear hs HE hl hS h HS
      go_enter Tryz.func59, Tryz.ntmps59
      go_wp2_with (first
        | (go_at_call 125; (with_reducible refine (HS2.out).mono ?_); rintro e' w2 ⟨rfl, hb⟩
           have k0 : w2.cell? ⟨w.heap.size, 0, none⟩ = some (.bool true) := (hb.cell (p := ⟨w.heap.size, 0, none⟩) (by simp)).trans (cell_of_row _ w.heap.size 0 _ 57 (0, 0) (heap_alloc_new w _))
           have HB2 := Lib.hid (HB.out.trans (hb.mono HB.out.size))
           clear hb)
        | (fail "no arm"))
      go_ret2
      exact ⟨rfl, HB2.out⟩
    · have hx : (9223372036854775807 : Int) < S := by omega
      rw [decide_eq_false hz] at *
      have HS2 := Lib.hid HS
      clear hs HE hl hS h HS
      go_enter Tryz.func59, Tryz.ntmps59
      go_wp2_with (first
        | (go_at_call 125; (with_reducible refine (HS2.out).mono ?_); rintro e' w2 ⟨rfl, hb⟩
           have k0 : w2.cell? ⟨w.heap.size, 0, none⟩ = some (.bool false) := (hb.cell (p := ⟨w.heap.size, 0, none⟩) (by simp)).trans (cell_of_row _ w.heap.size 0 _ 57 (0, 0) (heap_alloc_new w _))
           have HB2 := Lib.hid (HB.out.trans (hb.mono HB.out.size))
           clear hb)
        | (fail "no arm"))
      go_ret2
      exact ⟨rfl, HB2.out⟩
  · have HS : Calls Tryz.prog 125 #[.slice ao n ac] (w.alloc (.cells #[.bool (decide (z < 0)), .slice ao n ac] 57)) fun e w' => e = .returned (.tuple #[.int .u64 0, .bool false]) ∧ Below (w.alloc (.cells #[.bool (decide (z < 0)), .slice ao n ac] 57)).heap.size (w.alloc (.cells #[.bool (decide (z < 0)), .slice ao n ac] 57)) w' := by
      refine HE.mono ?_
      rintro e w' ⟨-, ha, hb⟩
      exact ⟨ha (by omega), hb⟩
    have HS2 := Lib.hid HS
    generalize decide (z < 0) = p at *
    clear hs HE hl h HS
    go_enter Tryz.func59, Tryz.ntmps59
    go_wp2_with (first
      | (go_at_call 125; (with_reducible refine (HS2.out).mono ?_); rintro e' w2 ⟨rfl, hb⟩
         have k0 : w2.cell? ⟨w.heap.size, 0, none⟩ = some (.bool p) := (hb.cell (p := ⟨w.heap.size, 0, none⟩) (by simp)).trans (cell_of_row _ w.heap.size 0 _ 57 (0, 0) (heap_alloc_new w _))
         have HB2 := Lib.hid (HB.out.trans (hb.mono HB.out.size))
         clear hb)
      | (fail "no arm"))
    go_ret2
    exact ⟨rfl, HB2.out⟩
theorem GetN_yes (l : List UInt8) (w : World) (h : Numeral l) :
    Calls Tryz.prog 45 #[.string (str l)] w fun e w' => ∃ sv, e = .returned (.tuple #[sv, .bool true]) ∧ IsN w' sv (seg l 0 l.length) ∧ Below w.heap.size w w' := by
  refine (GetN_any l w (by have := h.2.1; omega)).mono ?_
  rintro e w' ⟨sv, ok, rfl, h1, h2, hb⟩
  cases ok
  · exact absurd h (h2 rfl).1
  · exact ⟨sv, rfl, (h1 rfl).2, hb⟩
end Go.Proofs.YtfpooimjjpamoaaGreatDoor.ref
