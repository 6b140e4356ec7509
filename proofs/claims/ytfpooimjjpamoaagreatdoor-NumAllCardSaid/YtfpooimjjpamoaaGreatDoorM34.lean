/-
  The steps of the walks, part 34: RefCmpI, RefQ, RefQText, RefFrac, RefNear, RefDec, Bnd, RatC.
-/
import Derived.Deep.QuietTactic
import Derived.BigQuiet
import Derived.Test.YtfpooimjjpamoaaGreatDoorM33
import Derived.Test.YtfpooimjjpamoaaGreatDoorM25
import Derived.Test.YtfpooimjjpamoaaGreatDoorM27
namespace Go.Proofs.YtfpooimjjpamoaaGreatDoor.ref
open Go.RowKit
theorem digs_len_zero (x : Nat) : (digs x).length = 0 ↔ x = 0 := by
  rw [← digs_nil (x := x)]
  exact List.length_eq_zero_iff
def MadeAt (V w3 : World) : Prop := Below (V.alloc (.cells #[Value.bool false, .slice none 0 0] 57)).heap.size (V.alloc (.cells #[Value.bool false, .slice none 0 0] 57)) w3
theorem made_eq (V w3 : World) : Below (V.alloc (.cells #[Value.bool false, .slice none 0 0] 57)).heap.size (V.alloc (.cells #[Value.bool false, .slice none 0 0] 57)) w3 = MadeAt V w3 := rfl
theorem MadeAt.cells {V w3 : World} (h : MadeAt V w3) :
    w3.cell? ⟨V.heap.size, 0, none⟩ = some (.bool false) ∧ w3.cell? ⟨V.heap.size, 1, none⟩ = some (.slice none 0 0) ∧ w3.frozen? ⟨V.heap.size, 0, none⟩ = false ∧ w3.frozen? ⟨V.heap.size, 1, none⟩ = false := result_cells rfl rfl h
theorem MadeAt.on {V w2 w3 : World} (h : MadeAt V w2) (hb : Below w2.drew.heap.size w2.drew w3) : MadeAt V w3 := by
  have h2 := Below.drew h
  exact h2.trans (hb.mono h2.size)
theorem made_drew {V w3 : World} (h : Below (V.alloc (.cells #[Value.bool false, .slice none 0 0] 57)).drew.heap.size (V.alloc (.cells #[Value.bool false, .slice none 0 0] 57)).drew w3) : MadeAt V w3 :=
  (Below.refl (V.alloc (.cells #[Value.bool false, .slice none 0 0] 57)).heap.size (V.alloc (.cells #[Value.bool false, .slice none 0 0] 57))).drew.trans h
theorem MadeAt.at {V w2 w3 : World} (h : MadeAt V w2) (hb : Below w2.heap.size w2 w3) : MadeAt V w3 := by
  have h2 : Below (V.alloc (.cells #[Value.bool false, .slice none 0 0] 57)).heap.size (V.alloc (.cells #[Value.bool false, .slice none 0 0] 57)) w2 := h
  exact h2.trans (hb.mono h2.size)
set_option maxRecDepth 100000 in
set_option maxHeartbeats 4000000 in
theorem CmpI_any (u v : Value) (a b : Int) (w : World) (hu : IsI w u a) (hv : IsI w v b) (ha : (digs a.natAbs).length ≤ 90000) (hb : (digs b.natAbs).length ≤ 90000) :
    Calls Tryz.prog 64 #[u, v] w fun e w' => e = .returned (.int .i64 (if a < b then -1 else if b < a then 1 else 0)) ∧ Below w.heap.size w w' := by
  have hcase : ((if a < b then (-1 : Int) else if b < a then 1 else 0) = -1 ∧ (decide (a - b < 0)) = true ∧ (((digs (a - b).natAbs).length : Int) == 0) = false) ∨ ((if a < b then (-1 : Int) else if b < a then 1 else 0) = 0 ∧ (digs (a - b).natAbs).length = 0) ∨ ((if a < b then (-1 : Int) else if b < a then 1 else 0) = 1 ∧ (decide (a - b < 0)) = false ∧ (((digs (a - b).natAbs).length : Int) == 0) = false) := by
    have hd := digs_len_zero (a - b).natAbs
    rcases (show a < b ∨ a = b ∨ b < a by omega) with h | h | h
    · exact Or.inl ⟨if_pos h, decide_eq_true (by omega), by simp only [beq_eq_false_iff_ne, ne_eq]; omega⟩
    · exact Or.inr (Or.inl ⟨by rw [if_neg (by omega), if_neg (by omega)], by omega⟩)
    · exact Or.inr (Or.inr ⟨by rw [if_neg (by omega), if_pos h], decide_eq_false (by omega), by simp only [beq_eq_false_iff_ne, ne_eq]; omega⟩)
  have HC := Lib.hid hcase
  clear hcase
  generalize (if a < b then (-1 : Int) else if b < a then 1 else 0) = r at *
  have HMi := Lib.hid (fun W hW => Minus_any v b W (hv.below (w' := W) hW))
  have HPl := Lib.hid (fun W t hW ht => Plus_any u t a (-b) W (hu.below (w' := W) hW) ht (by omega) (by rw [Int.natAbs_neg]; omega))
  rw [← Int.sub_eq_add_neg] at HPl
  obtain ⟨s, rfl, hs⟩ := hu
  obtain ⟨t, rfl, ht⟩ := hv
  obtain ⟨ao, acap, rfl, -⟩ := id hs
  obtain ⟨bo, bcap, rfl, -⟩ := id ht
  clear hs ht ha hb
  generalize decide (a < 0) = p at *
  generalize decide (b < 0) = q at *
  generalize (digs a.natAbs).length = n at *
  generalize (digs b.natAbs).length = m at *
  have HB := Lib.hid (((Below.refl w.heap.size w).alloc (Nat.le_refl _) (.cells #[.bool p, .slice ao n acap] 57)).alloc (by simp) (.cells #[.bool q, .slice bo m bcap] 57))
  go_enter Tryz.func64, Tryz.ntmps64
  go_wp2
  obtain ⟨w1, hw1⟩ : ∃ w1 : World, w1 = ((w.alloc (.cells #[.bool p, .slice ao n acap] 57)).alloc (.cells #[.bool q, .slice bo m bcap] 57)) := ⟨_, rfl⟩
  have k0 : w1.cell? ⟨w.heap.size, 0, none⟩ = some (.bool p) := by rw [hw1]; go_simp
  have k1 : w1.cell? ⟨w.heap.size, 1, none⟩ = some (.slice ao n acap) := by rw [hw1]; go_simp
  have k2 : w1.cell? ⟨w.heap.size + 1, 0, none⟩ = some (.bool q) := by rw [hw1]; go_simp
  have k3 : w1.cell? ⟨w.heap.size + 1, 1, none⟩ = some (.slice bo m bcap) := by rw [hw1]; go_simp
  have hsz : w1.heap.size = w.heap.size + 2 := by rw [hw1]; simp
  rw [← hw1] at HB ⊢
  have HOLD := Lib.hid (fun W (hW : Below w1.heap.size w1 W) => (show Below w1.heap.size w1 W ∧ W.cell? ⟨w.heap.size, 0, none⟩ = some (.bool p) ∧ W.cell? ⟨w.heap.size, 1, none⟩ = some (.slice ao n acap) ∧ W.cell? ⟨w.heap.size + 1, 0, none⟩ = some (.bool q) ∧ W.cell? ⟨w.heap.size + 1, 1, none⟩ = some (.slice bo m bcap) from
    ⟨hW, (hW.cell (cell_lt k0)).trans k0, (hW.cell (cell_lt k1)).trans k1, (hW.cell (cell_lt k2)).trans k2, (hW.cell (cell_lt k3)).trans k3⟩))
  clear hw1 k0 k1 k2 k3
  go_region_held3 (fun w' => Below w1.heap.size w1 w' ∧ w'.cell? ⟨w.heap.size, 0, none⟩ = some (.bool p) ∧ w'.cell? ⟨w.heap.size, 1, none⟩ = some (.slice ao n acap) ∧ w'.cell? ⟨w.heap.size + 1, 0, none⟩ = some (.bool q) ∧ w'.cell? ⟨w.heap.size + 1, 1, none⟩ = some (.slice bo m bcap))
    (first
      | exact HOLD.out _ (Below.refl _ _).drew
      | exact HOLD.out _ (HB3.out.alloc HB3.out.size _)
      | exact HOLD.out _ ((HB3.out.setCell (by first | exact Nat.le_refl _ | exact HB2.out.size | (simp only; omega)) _).setCell (by first | exact Nat.le_refl _ | exact HB2.out.size | (simp only; omega)) _)
      | exact HOLD.out _ HB3.out
      | exact HOLD.out _ HB2.out
      | exact HOLD.out _ ((Below.refl _ _).alloc (Nat.le_refl _) _).drew
      | exact HOLD.out _ (HB2.out.alloc HB2.out.size _)
      | exact HOLD.out _ (And.left ‹_ ∧ _› : Below w1.heap.size w1 _).drew
      | exact HOLD.out _ (Below.alloc (And.left ‹_ ∧ _› : Below w1.heap.size w1 _) (And.left ‹_ ∧ _› : Below w1.heap.size w1 _).size _))
    (first
      | (go_at_call 62; refine (HMi.out _ (HB.out.trans ((And.left ‹_ ∧ _› : Below w1.heap.size w1 _).mono HB.out.size))).mono ?_; rintro e' w2 ⟨t', rfl, hi, hb2⟩
         have HI2 := Lib.hid hi
         have HB2 := Lib.hid ((And.left ‹_ ∧ _› : Below w1.heap.size w1 _).trans (hb2.mono (And.left ‹_ ∧ _› : Below w1.heap.size w1 _).size))
         first | (rw [made_eq] at hb2; have HV := Lib.hid hb2) | (have hv := made_drew hb2; have HV := Lib.hid hv; clear hv) | skip
         clear hi hb2)
      | (go_at_call 60; refine (HPl.out _ _ (HB.out.trans ((And.left ‹_ ∧ _› : Below w1.heap.size w1 _).mono HB.out.size)) (by first | exact HI2.out | exact HI2.out.below ((Below.refl _ _).alloc (Nat.le_refl _) _) | exact HI2.out.below ((Below.refl _ _).drew.alloc (Nat.le_refl _) _))).mono ?_; rintro e' w3 ⟨d, rfl, hi, hb3⟩
         have HB3 := Lib.hid ((And.left ‹_ ∧ _› : Below w1.heap.size w1 _).trans (hb3.mono (And.left ‹_ ∧ _› : Below w1.heap.size w1 _).size))
         obtain ⟨ds, rfl, hds⟩ := hi
         have HD := Lib.hid hds
         obtain ⟨do', dcap, rfl, -⟩ := hds
         first | (rw [made_eq] at hb3; obtain ⟨c0, c1, f0, f1⟩ := hb3.cells) | (have hv := HV.out.on hb3; obtain ⟨c0, c1, f0, f1⟩ := hv.cells) | (have hv := HV.out.at hb3; obtain ⟨c0, c1, f0, f1⟩ := hv.cells) | skip
         try rw [hsz] at c0 c1 f0 f1
         clear hb3)
      | (fail "no arm"))
  all_goals
    have hcase := HC.out
    generalize decide (a - b < 0) = db at *
    generalize (digs (a - b).natAbs).length = dl at *
    clear HD HPl HMi HC
  all_goals (rcases hcase with ⟨rfl, rfl, h3⟩ | ⟨rfl, rfl⟩ | ⟨rfl, rfl, h3⟩)
  all_goals go_wp2
  all_goals go_ret
  all_goals exact ⟨rfl, HB.out.trans ((And.left ‹_ ∧ _› : Below w1.heap.size w1 _).mono HB.out.size)⟩
end Go.Proofs.YtfpooimjjpamoaaGreatDoor.ref
namespace Go.Proofs.YtfpooimjjpamoaaGreatDoor.ref
open Go.RowKit
def IsQ (w : World) (v : Value) (z : Int) (d : Nat) : Prop := ∃ s t, v = .agg #[.bool (decide (z < 0)), s, t] ∧ IsN w s z.natAbs ∧ IsN w t d
theorem IsQ.below {w w' : World} {v : Value} {z : Int} {d : Nat} (h : IsQ w v z d) (hb : Below w.heap.size w w') : IsQ w' v z d := by
  obtain ⟨s, t, rfl, hs, ht⟩ := h
  exact ⟨s, t, rfl, hs.below hb, ht.below hb⟩
theorem IsQ.inj {w : World} {v : Value} {z z' : Int} {d d' : Nat} (h : IsQ w v z d) (h' : IsQ w v z' d') : z = z' ∧ d = d' := by
  obtain ⟨s, t, rfl, hs, ht⟩ := h
  obtain ⟨s', t', he, hs', ht'⟩ := h'
  have e := Value.agg.inj he
  simp only [Array.mk.injEq, List.cons.injEq, Value.bool.injEq, and_true] at e
  obtain ⟨e1, rfl, rfl⟩ := e
  have := IsN.inj hs hs'
  have := IsN.inj ht ht'
  simp only [decide_eq_decide] at e1
  omega
theorem IsI.nat {w : World} {s : Value} {d : Nat} (h : IsN w s d) : IsI w (.agg #[.bool false, s]) (d : Int) := ⟨s, by simp, by simpa using h⟩
end Go.Proofs.YtfpooimjjpamoaaGreatDoor.ref
namespace Go.Proofs.YtfpooimjjpamoaaGreatDoor.ref
open Go.RowKit
def lowN (z : Int) (d : Nat) : Int := signed (decide (z < 0)) (z.natAbs / Nat.gcd z.natAbs d)
def lowD (z : Int) (d : Nat) : Nat := d / Nat.gcd z.natAbs d
def ratText (z : Int) (d : Nat) : List UInt8 := Lib.itoa (lowN z d) ++ (if lowD z d = 1 then [] else 47 :: Lib.decDigits (lowD z d))
theorem digs_le {x y n : Nat} (h : x ≤ y) (hy : (digs y).length ≤ n) : (digs x).length ≤ n := by
  refine Nat.le_trans (digs_len_of_lt (n := (digs y).length) ?_) hy
  have h2 := val_lt (norm_digs y).1
  rw [val_digs] at h2
  omega
theorem lowN_abs (z : Int) (d : Nat) : (lowN z d).natAbs = z.natAbs / Nat.gcd z.natAbs d := by
  unfold lowN signed
  generalize z.natAbs / Nat.gcd z.natAbs d = q
  split <;> omega
theorem row3 {w : World} {g : Nat} {v0 v1 v2 : Value} {t : TypeId} (h3 : w.heap[g]? = some (.cells #[v0, v1, v2] t (0, 0))) :
    w.cell? ⟨g, 0, none⟩ = some v0 ∧ w.cell? ⟨g, 1, none⟩ = some v1 ∧ w.cell? ⟨g, 2, none⟩ = some v2 ∧ w.frozen? ⟨g, 0, none⟩ = false ∧ w.frozen? ⟨g, 1, none⟩ = false ∧ w.frozen? ⟨g, 2, none⟩ = false := by
  refine ⟨?_, ?_, ?_, ?_, ?_, ?_⟩
  · rw [cell_of_row _ g 0 _ t (0, 0) h3]; rfl
  · rw [cell_of_row _ g 1 _ t (0, 0) h3]; rfl
  · rw [cell_of_row _ g 2 _ t (0, 0) h3]; rfl
  all_goals
    unfold World.frozen?
    rw [h3]
    rfl
end Go.Proofs.YtfpooimjjpamoaaGreatDoor.ref
namespace Go.Proofs.YtfpooimjjpamoaaGreatDoor.ref
open Go.RowKit
theorem Int_ex (b : Bool) (a : Value) (x : Nat) (w : World) (ha : IsN w a x) :
    Calls Tryz.prog 121 #[.bool b, a] w fun e w' => ∃ s, e = .returned (.agg #[.bool (decide (signed b x < 0)), s]) ∧ IsN w' s (signed b x).natAbs ∧ Below w.heap.size w w' := by
  refine (Int_any b a x w ha).mono ?_
  rintro e w' ⟨v, rfl, ⟨s, rfl, hs⟩, hb⟩
  exact ⟨s, rfl, hs, hb⟩
end Go.Proofs.YtfpooimjjpamoaaGreatDoor.ref
namespace Go.Proofs.YtfpooimjjpamoaaGreatDoor.ref
open Go.RowKit
def nearUp (x d : Nat) (mode : Int) : Bool :=
  (decide (mode = 1) && decide (d ≤ x % d * 2)) || (decide (mode = 2) && (decide (d < x % d * 2) || (decide (d = x % d * 2) && decide (x / d % 2 = 1))))
def nearN (x d : Nat) (mode : Int) : Nat := x / d + (if nearUp x d mode then 1 else 0)
theorem near_up {x d : Nat} {mode C : Int} (hC : C = cmpN (x % d * 2) d) : nearUp x d mode = (((mode == 1) && decide (0 ≤ C)) || ((mode == 2) && (decide (0 < C) || ((C == 0) && decide (x / d % 2 = 1))))) := by
  have h1 : decide (0 ≤ C) = decide (d ≤ x % d * 2) := by
    rw [decide_eq_decide, hC]; unfold cmpN; (repeat' split) <;> omega
  have h2 : decide (0 < C) = decide (d < x % d * 2) := by
    rw [decide_eq_decide, hC]; unfold cmpN; (repeat' split) <;> omega
  have h3 : (C == 0) = decide (d = x % d * 2) := by
    show decide (C = 0) = _
    rw [decide_eq_decide, hC]; unfold cmpN; (repeat' split) <;> omega
  unfold nearUp
  rw [h1, h2, h3]
  rfl
end Go.Proofs.YtfpooimjjpamoaaGreatDoor.ref
namespace Go.Proofs.YtfpooimjjpamoaaGreatDoor.ref
open Go.RowKit
def padTo (l : List UInt8) (k : Nat) : List UInt8 := List.replicate (k + 1 - l.length) 48 ++ l
def decBody (x k : Nat) : List UInt8 :=
  if k = 0 then padTo (Lib.decDigits x) 0 else (padTo (Lib.decDigits x) k).take ((padTo (Lib.decDigits x) k).length - k) ++ 46 :: (padTo (Lib.decDigits x) k).drop ((padTo (Lib.decDigits x) k).length - k)
def decText (z : Int) (k : Nat) : List UInt8 := if z < 0 then 45 :: decBody z.natAbs k else decBody z.natAbs k
theorem padTo_length (l : List UInt8) (k : Nat) : (padTo l k).length = max (k + 1) l.length := by
  unfold padTo
  rw [List.length_append, List.length_replicate]
  omega
end Go.Proofs.YtfpooimjjpamoaaGreatDoor.ref
namespace Go.Proofs.YtfpooimjjpamoaaGreatDoor.law2
open Go.Proofs.YtfpooimjjpamoaaGreatDoor.num (Lz Ln)
def Bn (x n : Nat) : Prop := x < 10 ^ n
def Bz (z : Int) (n : Nat) : Prop := z.natAbs < 10 ^ n
def Br (q : Rat) (n : Nat) : Prop := Bz q.num n ∧ Bn q.den n
theorem ten_le {n m : Nat} (h : n ≤ m) : 10 ^ n ≤ 10 ^ m := Nat.pow_le_pow_right (by omega) h
theorem Bn.le {x n m : Nat} (h : Bn x n) (hm : n ≤ m) : Bn x m := Nat.lt_of_lt_of_le h (ten_le hm)
theorem Bz.le {x : Int} {n m : Nat} (h : Bz x n) (hm : n ≤ m) : Bz x m := Nat.lt_of_lt_of_le h (ten_le hm)
theorem Br.le {q : Rat} {n m : Nat} (h : Br q n) (hm : n ≤ m) : Br q m := ⟨h.1.le hm, h.2.le hm⟩
theorem Bn.nat {x n m : Nat} (h : Bn x n) (hm : n ≤ m) : (nat.digs x).length ≤ m :=
  Nat.le_trans (nat.digs_len (n := n) (Nat.lt_of_lt_of_le h (Nat.pow_le_pow_left (by omega) _))) hm
theorem Bn.ref {x n m : Nat} (h : Bn x n) (hm : n ≤ m) : (ref.digs x).length ≤ m :=
  Nat.le_trans (ref.digs_len_of_lt (n := n) (Nat.lt_of_lt_of_le h (Nat.pow_le_pow_left (by omega) _))) hm
theorem Bz.nat {z : Int} {n m : Nat} (h : Bz z n) (hm : n ≤ m) : (nat.digs z.natAbs).length ≤ m := Bn.nat (x := z.natAbs) h hm
theorem Bz.ref {z : Int} {n m : Nat} (h : Bz z n) (hm : n ≤ m) : (ref.digs z.natAbs).length ≤ m := Bn.ref (x := z.natAbs) h hm
theorem Br.rat {q : Rat} {n m : Nat} (h : Br q n) (hm : n ≤ m) : rat.Lr q m := ⟨h.1.nat hm, h.2.nat hm⟩
theorem Bn_less {x y n : Nat} (hxy : x ≤ y) (h : Bn y n) : Bn x n := Nat.lt_of_le_of_lt hxy h
theorem Bz_neg {z : Int} {n : Nat} (h : Bz z n) : Bz (-z) n := by unfold Bz; rw [Int.natAbs_neg]; exact h
theorem Bn_abs {z : Int} {n : Nat} (h : Bz z n) : Bn z.natAbs n := h
theorem Bn_mul {x y n m : Nat} (hx : Bn x n) (hy : Bn y m) : Bn (x * y) (n + m) := by
  unfold Bn at *
  rw [Nat.pow_add]
  rcases Nat.eq_zero_or_pos y with h | h
  · subst h; rw [Nat.mul_zero]; exact Nat.mul_pos (Nat.pow_pos (by omega)) (Nat.pow_pos (by omega))
  · exact Nat.lt_of_lt_of_le (Nat.mul_lt_mul_of_pos_right hx h) (Nat.mul_le_mul_left _ (Nat.le_of_lt hy))
theorem Bz_mul {x y : Int} {n m : Nat} (hx : Bz x n) (hy : Bz y m) : Bz (x * y) (n + m) := by unfold Bz; rw [Int.natAbs_mul]; exact Bn_mul hx hy
theorem Bn_add {x y n m : Nat} (hx : Bn x n) (hy : Bn y m) : Bn (x + y) (n + m + 1) := by
  have h1 := hx.le (m := n + m) (by omega)
  have h2 := hy.le (m := n + m) (by omega)
  unfold Bn at *
  rw [Nat.pow_succ]
  omega
theorem Bz_add {x y : Int} {n m : Nat} (hx : Bz x n) (hy : Bz y m) : Bz (x + y) (n + m + 1) := Bn_less (Int.natAbs_add_le x y) (Bn_add hx hy)
theorem Bz_sub {x y : Int} {n m : Nat} (hx : Bz x n) (hy : Bz y m) : Bz (x - y) (n + m + 1) := by rw [Int.sub_eq_add_neg]; exact Bz_add hx (Bz_neg hy)
theorem Bn_div {x y n : Nat} (hx : Bn x n) : Bn (x / y) n := Bn_less (Nat.div_le_self _ _) hx
theorem Bn_mod {x y n : Nat} (hx : Bn x n) : Bn (x % y) n := Bn_less (Nat.mod_le _ _) hx
theorem Bz_fdiv {z y : Int} {n : Nat} (h : Bz z n) : Bz (Int.fdiv z y) n := Bn_less (num.fdiv_le z y) h
theorem Bz_fmod (z : Int) {y : Int} {n : Nat} (h0 : y ≠ 0) (h : Bz y n) : Bz (Int.fmod z y) n := Bn_less (num.fmod_le z h0) h
theorem Bn_small {x : Nat} (h2 : x < 18446744073709551616) : Bn x 20 := Nat.lt_of_lt_of_le h2 (by decide)
theorem Bz_small {z : Int} (h1 : -9223372036854775808 ≤ z) (h2 : z < 18446744073709551616) : Bz z 20 := Bn_small (x := z.natAbs) (by omega)
end Go.Proofs.YtfpooimjjpamoaaGreatDoor.law2
namespace Go.Proofs.YtfpooimjjpamoaaGreatDoor.rat
open Go.RowKit Go.Proofs.YtfpooimjjpamoaaGreatDoor.nat Go.Proofs.YtfpooimjjpamoaaGreatDoor.num
open Go.Proofs.YtfpooimjjpamoaaGreatDoor.ref (str str_size str_append)
def cmpR (p q : Rat) : Int := if p < q then -1 else if q < p then 1 else 0
theorem cmp3_den (p q : Rat) : cmp3 (p.num * (q.den : Int)) (q.num * (p.den : Int)) = cmpR p q := by
  unfold cmp3 cmpR
  simp only [Rat.lt_iff]
def rtxt (q : Rat) : List UInt8 := Lib.itoa q.num ++ (if q.den = 1 then [] else 47 :: Lib.decDigits q.den)
theorem itoa_nat (x : Nat) : Lib.itoa (x : Int) = Lib.decDigits x := by
  unfold Lib.itoa
  rw [if_neg (by omega)]
  simp
set_option maxRecDepth 100000 in
set_option maxHeartbeats 4000000 in
theorem Cmp_any (a b : Value) (p q : Rat) (w : World) (ha : IsR w a p) (hb : IsR w b q) (sp : Lr p 20000) (sq : Lr q 20000) :
    Calls Tryz.prog 77 #[a, b] w fun e w' => e = .returned (.int .i64 (cmpR p q)) ∧ Below w.heap.size w w' := by
  have H_a := Lib.hid ha
  have H_b := Lib.hid hb
  clear ha hb
  have c1 := fun (W : World) (v0 : Value) (hh0 : rat.IsR W v0 p)  => rat.Num_any v0 p W hh0
  have C1 := Lib.hid c1
  clear c1
  have c2 := fun (W : World) (v0 : Value) (hh0 : rat.IsR W v0 q)  => rat.Den_any v0 q W hh0
  have C2 := Lib.hid c2
  clear c2
  have c3 := fun (W : World) (v0 : Value) (v1 : Value) (hh0 : num.IsZ W v0 p.num) (hh1 : num.IsZ W v1 ((q.den : Nat) : Int))  => num.Mul_any v0 v1 p.num ((q.den : Nat) : Int) W hh0 hh1 (sp.1.le (by decide)) ((Lz_nat sq.2).le (by decide))
  have C3 := Lib.hid c3
  clear c3
  have c4 := fun (W : World) (v0 : Value) (hh0 : rat.IsR W v0 q)  => rat.Num_any v0 q W hh0
  have C4 := Lib.hid c4
  clear c4
  have c5 := fun (W : World) (v0 : Value) (hh0 : rat.IsR W v0 p)  => rat.Den_any v0 p W hh0
  have C5 := Lib.hid c5
  clear c5
  have c6 := fun (W : World) (v0 : Value) (v1 : Value) (hh0 : num.IsZ W v0 q.num) (hh1 : num.IsZ W v1 ((p.den : Nat) : Int))  => num.Mul_any v0 v1 q.num ((p.den : Nat) : Int) W hh0 hh1 (sq.1.le (by decide)) ((Lz_nat sp.2).le (by decide))
  have C6 := Lib.hid c6
  clear c6
  have c7 := fun (W : World) (v0 : Value) (v1 : Value) (hh0 : num.IsZ W v0 (p.num * ((q.den : Nat) : Int))) (hh1 : num.IsZ W v1 (q.num * ((p.den : Nat) : Int)))  => num.Cmp_b v0 v1 (p.num * ((q.den : Nat) : Int)) (q.num * ((p.den : Nat) : Int)) W hh0 hh1 ((Lz_mul sp.1 (Lz_nat sq.2)).le (by decide)) ((Lz_mul sq.1 (Lz_nat sp.2)).le (by decide))
  rw [cmp3_den] at c7
  have C7 := Lib.hid c7
  clear c7
  go_enter Tryz.func77, Tryz.ntmps77
  go_wp2_with (first
    | (go_at_call 99; (with_reducible refine (C1.out _ _ H_a.out).mono ?_); rintro e W1 ⟨x1, rfl, ⟨h_x1, n_x1⟩, hb⟩
       have H_x1 := Lib.hid h_x1
       have N_x1 := Lib.hid n_x1
       have HB1 := Lib.hid hb
       clear h_x1 n_x1 hb C1)
    | (go_at_call 95; (with_reducible refine (C2.out _ _ (H_b.out.below HB1.out)).mono ?_); rintro e W2 ⟨x2, rfl, ⟨h_x2, n_x2⟩, hb⟩
       have H_x2 := Lib.hid h_x2
       have N_x2 := Lib.hid n_x2
       have HB2 := Lib.hid hb
       clear h_x2 n_x2 hb C2)
    | (go_at_call 54; (with_reducible refine (C3.out _ _ _ (H_x1.out.below HB2.out) H_x2.out).mono ?_); rintro e W3 ⟨x3, rfl, ⟨h_x3, n_x3⟩, hb⟩
       have H_x3 := Lib.hid h_x3
       have N_x3 := Lib.hid n_x3
       have HB3 := Lib.hid hb
       clear h_x3 n_x3 hb C3)
    | (go_at_call 99; (with_reducible refine (C4.out _ _ (((H_b.out.below HB1.out).below HB2.out).below HB3.out)).mono ?_); rintro e W4 ⟨x4, rfl, ⟨h_x4, n_x4⟩, hb⟩
       have H_x4 := Lib.hid h_x4
       have N_x4 := Lib.hid n_x4
       have HB4 := Lib.hid hb
       clear h_x4 n_x4 hb C4)
    | (go_at_call 95; (with_reducible refine (C5.out _ _ ((((H_a.out.below HB1.out).below HB2.out).below HB3.out).below HB4.out)).mono ?_); rintro e W5 ⟨x5, rfl, ⟨h_x5, n_x5⟩, hb⟩
       have H_x5 := Lib.hid h_x5
       have N_x5 := Lib.hid n_x5
       have HB5 := Lib.hid hb
       clear h_x5 n_x5 hb C5)
    | (go_at_call 54; (with_reducible refine (C6.out _ _ _ (H_x4.out.below HB5.out) H_x5.out).mono ?_); rintro e W6 ⟨x6, rfl, ⟨h_x6, n_x6⟩, hb⟩
       have H_x6 := Lib.hid h_x6
       have N_x6 := Lib.hid n_x6
       have HB6 := Lib.hid hb
       clear h_x6 n_x6 hb C6)
    | (go_at_call 56; (with_reducible refine (C7.out _ _ _ (((H_x3.out.below HB4.out).below HB5.out).below HB6.out) H_x6.out).mono ?_); rintro e W7 ⟨rfl, hb⟩
       have HB7 := Lib.hid hb
       clear hb C7)
    | (fail "no arm"))
  go_ret
  exact ⟨rfl, (nat.below_tr (nat.below_tr (nat.below_tr (nat.below_tr (nat.below_tr (nat.below_tr HB1.out HB2.out) HB3.out) HB4.out) HB5.out) HB6.out) HB7.out)⟩
theorem itoa_size {z : Int} {m : Nat} (h : Lz z m) : (str (Lib.itoa z)).size ≤ 20 * m + 2 := by
  have := dec_size h
  rw [str_size] at this ⊢
  unfold Lib.itoa
  split
  · rw [List.length_cons]; omega
  · have e : z.toNat = z.natAbs := by omega
    rw [e]; omega
set_option maxRecDepth 100000 in
set_option maxHeartbeats 4000000 in
theorem Text_whole (a : Value) (q : Rat) (w : World) (ha : IsR w a q) (sq : Lr q 20000) (h1 : q.den = 1) :
    Calls Tryz.prog 73 #[a] w fun e w' => e = .returned (.string (str (rtxt q))) ∧ Below w.heap.size w w' := by
  have H_a := Lib.hid ha
  clear ha
  have hr : rtxt q = Lib.itoa q.num := by unfold rtxt; rw [if_pos h1, List.append_nil]
  rw [hr]
  have c1 := fun (W : World) (v0 : Value) (hh0 : rat.IsR W v0 q)  => rat.Den_any v0 q W hh0
  have C1 := Lib.hid c1
  clear c1
  have c2 := fun (W : World)    => num.Of_any 1 W (by decide) (by decide)
  have C2 := Lib.hid c2
  clear c2
  have c3 := fun (W : World) (v0 : Value) (v1 : Value) (hh0 : num.IsZ W v0 ((q.den : Nat) : Int)) (hh1 : num.IsZ W v1 (1 : Int))  => num.Cmp_b v0 v1 ((q.den : Nat) : Int) (1 : Int) W hh0 hh1 ((Lz_nat sq.2).le (by decide)) ((Lz_small (by decide)).le (by decide))
  rw [show cmp3 ((q.den : Nat) : Int) (1 : Int) = 0 by have := q.den_pos; unfold cmp3; (repeat' split) <;> omega] at c3
  have C3 := Lib.hid c3
  clear c3
  have c4 := fun (W : World) (v0 : Value) (hh0 : rat.IsR W v0 q)  => rat.Num_any v0 q W hh0
  have C4 := Lib.hid c4
  clear c4
  have c5 := fun (W : World) (v0 : Value) (hh0 : num.IsZ W v0 q.num)  => num.Text_any v0 q.num W hh0 (sq.1.le (by decide))
  have C5 := Lib.hid c5
  clear c5
  go_enter Tryz.func73, Tryz.ntmps73
  go_wp2_with (first
    | (go_at_call 95; (with_reducible refine (C1.out _ _ H_a.out).mono ?_); rintro e W1 ⟨d, rfl, ⟨h_d, n_d⟩, hb⟩
       have H_d := Lib.hid h_d
       have N_d := Lib.hid n_d
       have HB1 := Lib.hid hb
       clear h_d n_d hb C1)
    | (go_at_call 57; (with_reducible refine (C2.out _ ).mono ?_); rintro e W2 ⟨o, rfl, ⟨h_o, n_o⟩, hb⟩
       have H_o := Lib.hid h_o
       have N_o := Lib.hid n_o
       have HB2 := Lib.hid hb
       clear h_o n_o hb C2)
    | (go_at_call 56; (with_reducible refine (C3.out _ _ _ (H_d.out.below HB2.out) H_o.out).mono ?_); rintro e W3 ⟨rfl, hb⟩
       have HB3 := Lib.hid hb
       clear hb C3)
    | (go_at_call 99; (with_reducible refine (C4.out _ _ (((H_a.out.below HB1.out).below HB2.out).below HB3.out)).mono ?_); rintro e W4 ⟨n, rfl, ⟨h_n, n_n⟩, hb⟩
       have H_n := Lib.hid h_n
       have N_n := Lib.hid n_n
       have HB4 := Lib.hid hb
       clear h_n n_n hb C4)
    | (go_at_call 52; (with_reducible refine (C5.out _ _ H_n.out).mono ?_); rintro e W5 ⟨rfl, hb⟩
       have HB5 := Lib.hid hb
       clear hb C5)
    | (fail "no arm"))
  go_ret
  exact ⟨rfl, (nat.below_tr (nat.below_tr (nat.below_tr (nat.below_tr HB1.out HB2.out) HB3.out) HB4.out) HB5.out)⟩
set_option maxRecDepth 100000 in
set_option maxHeartbeats 4000000 in
theorem Text_parts (a : Value) (q : Rat) (w : World) (ha : IsR w a q) (sq : Lr q 20000) (h1 : ¬ q.den = 1) :
    Calls Tryz.prog 73 #[a] w fun e w' => e = .returned (.string (str (rtxt q))) ∧ Below w.heap.size w w' := by
  have H_a := Lib.hid ha
  clear ha
  have hr : str (rtxt q) = str (Lib.itoa q.num) ++ str [47] ++ str (Lib.decDigits q.den) := by unfold rtxt; rw [if_neg h1, str_append, str_append, List.append_assoc]; rfl
  rw [hr]
  have z1 := itoa_size sq.1
  have z2 := itoa_size (Lz_nat sq.2)
  rw [itoa_nat] at z2
  have c1 := fun (W : World) (v0 : Value) (hh0 : rat.IsR W v0 q)  => rat.Den_any v0 q W hh0
  have C1 := Lib.hid c1
  clear c1
  have c2 := fun (W : World)    => num.Of_any 1 W (by decide) (by decide)
  have C2 := Lib.hid c2
  clear c2
  have c3 := fun (W : World) (v0 : Value) (v1 : Value) (hh0 : num.IsZ W v0 ((q.den : Nat) : Int)) (hh1 : num.IsZ W v1 (1 : Int))  => num.Cmp_b v0 v1 ((q.den : Nat) : Int) (1 : Int) W hh0 hh1 ((Lz_nat sq.2).le (by decide)) ((Lz_small (by decide)).le (by decide))
  rw [show cmp3 ((q.den : Nat) : Int) (1 : Int) = 1 by have := q.den_pos; unfold cmp3; (repeat' split) <;> omega] at c3
  have C3 := Lib.hid c3
  clear c3
  have c4 := fun (W : World) (v0 : Value) (hh0 : rat.IsR W v0 q)  => rat.Num_any v0 q W hh0
  have C4 := Lib.hid c4
  clear c4
  have c5 := fun (W : World) (v0 : Value) (hh0 : num.IsZ W v0 q.num)  => num.Text_any v0 q.num W hh0 (sq.1.le (by decide))
  have C5 := Lib.hid c5
  clear c5
  have c6 := fun (W : World) (v0 : Value) (hh0 : rat.IsR W v0 q)  => rat.Den_any v0 q W hh0
  have C6 := Lib.hid c6
  clear c6
  have c7 := fun (W : World) (v0 : Value) (hh0 : num.IsZ W v0 ((q.den : Nat) : Int))  => num.Text_any v0 ((q.den : Nat) : Int) W hh0 ((Lz_nat sq.2).le (by decide))
  rw [itoa_nat] at c7
  have C7 := Lib.hid c7
  clear c7
  generalize str (Lib.itoa q.num) = s1 at *
  generalize str (Lib.decDigits q.den) = s2 at *
  have h47 : ({ data := #[47] } : ByteArray) = str [47] := rfl
  have hk : (str [47]).size = 1 := rfl
  have hs1 : ¬ 9223372036854775807 < s1.size + ({ data := #[47] } : ByteArray).size := by rw [h47]; omega
  have hs2 : ¬ 9223372036854775807 < (s1 ++ ({ data := #[47] } : ByteArray)).size + s2.size := by rw [h47, ByteArray.size_append]; omega
  go_enter Tryz.func73, Tryz.ntmps73
  go_wp2_with (first
    | (go_at_call 95; (with_reducible refine (C1.out _ _ H_a.out).mono ?_); rintro e W1 ⟨d, rfl, ⟨h_d, n_d⟩, hb⟩
       have H_d := Lib.hid h_d
       have N_d := Lib.hid n_d
       have HB1 := Lib.hid hb
       clear h_d n_d hb C1)
    | (go_at_call 57; (with_reducible refine (C2.out _ ).mono ?_); rintro e W2 ⟨o, rfl, ⟨h_o, n_o⟩, hb⟩
       have H_o := Lib.hid h_o
       have N_o := Lib.hid n_o
       have HB2 := Lib.hid hb
       clear h_o n_o hb C2)
    | (go_at_call 56; (with_reducible refine (C3.out _ _ _ (H_d.out.below HB2.out) H_o.out).mono ?_); rintro e W3 ⟨rfl, hb⟩
       have HB3 := Lib.hid hb
       clear hb C3)
    | (go_at_call 99; (with_reducible refine (C4.out _ _ (((H_a.out.below HB1.out).below HB2.out).below HB3.out)).mono ?_); rintro e W4 ⟨n, rfl, ⟨h_n, n_n⟩, hb⟩
       have H_n := Lib.hid h_n
       have N_n := Lib.hid n_n
       have HB4 := Lib.hid hb
       clear h_n n_n hb C4)
    | (go_at_call 52; (with_reducible refine (C5.out _ _ H_n.out).mono ?_); rintro e W5 ⟨rfl, hb⟩
       have HB5 := Lib.hid hb
       clear hb C5)
    | (go_at_call 95; (with_reducible refine (C6.out _ _ (((((H_a.out.below HB1.out).below HB2.out).below HB3.out).below HB4.out).below HB5.out)).mono ?_); rintro e W6 ⟨d2, rfl, ⟨h_d2, n_d2⟩, hb⟩
       have H_d2 := Lib.hid h_d2
       have N_d2 := Lib.hid n_d2
       have HB6 := Lib.hid hb
       clear h_d2 n_d2 hb C6)
    | (go_at_call 52; (with_reducible refine (C7.out _ _ H_d2.out).mono ?_); rintro e W7 ⟨rfl, hb⟩
       have HB7 := Lib.hid hb
       clear hb C7)
    | (fail "no arm"))
  go_ret
  exact ⟨rfl, (nat.below_tr (nat.below_tr (nat.below_tr (nat.below_tr (nat.below_tr (nat.below_tr HB1.out HB2.out) HB3.out) HB4.out) HB5.out) HB6.out) HB7.out)⟩
theorem Text_any (a : Value) (q : Rat) (w : World) (ha : IsR w a q) (sq : Lr q 20000) :
    Calls Tryz.prog 73 #[a] w fun e w' => e = .returned (.string (str (rtxt q))) ∧ Below w.heap.size w w' := by
  by_cases h : q.den = 1
  · exact Text_whole a q w ha sq h
  · exact Text_parts a q w ha sq h
end Go.Proofs.YtfpooimjjpamoaaGreatDoor.rat
