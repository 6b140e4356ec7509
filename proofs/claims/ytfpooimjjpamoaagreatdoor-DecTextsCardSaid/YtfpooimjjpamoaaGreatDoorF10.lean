/-
  The steps of the walks, part 10: RefQText, RefNear, RefDec.
-/
import Derived.Deep.QuietTactic
import Derived.BigQuiet
import Derived.Test.YtfpooimjjpamoaaGreatDoorF09
import Derived.Test.YtfpooimjjpamoaaGreatDoorS19
namespace Go.Proofs.YtfpooimjjpamoaaGreatDoor.ref
open Go.RowKit
def lowN (z : Int) (d : Nat) : Int := signed (decide (z < 0)) (z.natAbs / Nat.gcd z.natAbs d)
def lowD (z : Int) (d : Nat) : Nat := d / Nat.gcd z.natAbs d
def ratText (z : Int) (d : Nat) : List UInt8 := Lib.itoa (lowN z d) ++ (if lowD z d = 1 then [] else 47 :: Lib.decDigits (lowD z d))
theorem digs_le {x y n : Nat} (h : x ≤ y) (hy : (digs y).length ≤ n) : (digs x).length ≤ n := by
  refine Nat.le_trans (digs_len_of_lt (n := (digs y).length) ?_) hy
  have h2 := val_lt (norm_digs y).1
  rw [val_digs] at h2
  omega
theorem lowN_abs (z : Int) (d : Nat) : (lowN z d).natAbs = z.natAbs / Nat.gcd z.natAbs d := by
  unfold lowN signed
  generalize z.natAbs / Nat.gcd z.natAbs d = q
  split <;> omega
theorem row3 {w : World} {g : Nat} {v0 v1 v2 : Value} {t : TypeId} (h3 : w.heap[g]? = some (.cells #[v0, v1, v2] t (0, 0))) :
    w.cell? ⟨g, 0, none⟩ = some v0 ∧ w.cell? ⟨g, 1, none⟩ = some v1 ∧ w.cell? ⟨g, 2, none⟩ = some v2 ∧ w.frozen? ⟨g, 0, none⟩ = false ∧ w.frozen? ⟨g, 1, none⟩ = false ∧ w.frozen? ⟨g, 2, none⟩ = false := by
  refine ⟨?_, ?_, ?_, ?_, ?_, ?_⟩
  · rw [cell_of_row _ g 0 _ t (0, 0) h3]; rfl
  · rw [cell_of_row _ g 1 _ t (0, 0) h3]; rfl
  · rw [cell_of_row _ g 2 _ t (0, 0) h3]; rfl
  all_goals
    unfold World.frozen?
    rw [h3]
    rfl
theorem Low_ex (v : Value) (z : Int) (d : Nat) (w : World) (hv : IsQ w v z d) (hz : (digs z.natAbs).length ≤ 80000) (hd : (digs d).length ≤ 80000) (h0 : 0 < d) :
    Calls Tryz.prog 92 #[v] w fun e w' => ∃ s t, e = .returned (.agg #[.bool (decide (lowN z d < 0)), s, t]) ∧ (IsN w' s (lowN z d).natAbs ∧ IsN w' t (lowD z d)) ∧ Below w.heap.size w w' := by
  refine (Low_any v z d w hv hz hd h0).mono ?_
  rintro e w' ⟨v', rfl, ⟨s, t, rfl, hs, ht⟩, hb⟩
  exact ⟨s, t, rfl, ⟨hs, ht⟩, hb⟩
set_option maxRecDepth 100000 in
set_option maxHeartbeats 4000000 in
theorem QText_any (v : Value) (z : Int) (d : Nat) (w : World) (hv : IsQ w v z d) (hz : (digs z.natAbs).length ≤ 80000) (hd : (digs d).length ≤ 80000) (h0 : 0 < d) :
    Calls Tryz.prog 76 #[v] w fun e w' => e = .returned (.string (str (ratText z d))) ∧ Below w.heap.size w w' := by
  have HL := Lib.hid (fun w' (hb : Below w.heap.size w w') => Low_ex v z d w' (hv.below hb) hz hd h0)
  have hln : (digs (lowN z d).natAbs).length ≤ 80000 := by rw [lowN_abs]; exact digs_le (Nat.div_le_self _ _) hz
  have hld : (digs (lowD z d)).length ≤ 80000 := digs_le (Nat.div_le_self _ _) hd
  unfold ratText
  obtain ⟨s, t, rfl, hs, ht⟩ := hv
  obtain ⟨ao, ac, rfl, -⟩ := id hs
  obtain ⟨co, cc, rfl, -⟩ := id ht
  clear hs ht hz hd h0
  generalize (digs z.natAbs).length = an at *
  generalize (digs d).length = cn at *
  generalize lowN z d = n at *
  generalize lowD z d = m at *
  generalize decide (z < 0) = p at *
  have HC := Lib.hid (fun W x one (h1 : IsN W x m) (h2 : IsN W one 1) => Cmp_any x one m 1 W h1 h2)
  have HU := Lib.hid (fun W => OfU_int 1 1 rfl (by decide) W)
  have HIT := Lib.hid (fun W sv (h : IsN W sv n.natAbs) => IText_any (.agg #[.bool (decide (n < 0)), sv]) n W ⟨sv, rfl, h⟩ (by omega))
  have HTX := Lib.hid (fun W sv (h : IsN W sv m) => Text_any sv m W h (by omega))
  have hlen1 := dec_size hld
  have hlen2 : (str (Lib.itoa n)).size ≤ 9 * 80000 + 2 := by
    have h1 := dec_size hln
    unfold Lib.itoa
    rw [str_size] at h1 ⊢
    split
    · simp; omega
    · rw [show n.toNat = n.natAbs by omega]; omega
  clear hln hld
  have h47 : str (Lib.itoa n) ++ (⟨#[47]⟩ : ByteArray) ++ str (Lib.decDigits m) = str (Lib.itoa n ++ 47 :: Lib.decDigits m) := by
    rw [show (⟨#[47]⟩ : ByteArray) = str [47] from rfl, str_append, str_append, List.append_assoc]
    rfl
  have H47 := Lib.hid h47
  clear h47
  by_cases hm : m = 1
  · rw [if_pos hm, List.append_nil]
    rw [show cmpN m 1 = 0 by subst hm; rfl] at HC
    clear hm
    have HB := Lib.hid ((Below.refl w.heap.size w).alloc (Nat.le_refl _) (.cells #[.bool p, .slice ao an ac, .slice co cn cc] 86))
    go_enter Tryz.func76, Tryz.ntmps76
    go_wp2_with (first
      | (go_at_call 92; (with_reducible refine (HL.out _ HB.out).mono ?_); rintro e' w2 ⟨s2, t2, rfl, ⟨hs, ht⟩, hb⟩
         obtain ⟨no', nc, rfl, -⟩ := id hs
         obtain ⟨mo, mc, rfl, -⟩ := id ht
         have HS := Lib.hid hs
         have HT := Lib.hid ht
         obtain ⟨c0, c1, c2, f0, f1, f2⟩ := row3 ((hb.block w.heap.size (by simp)).trans (heap_alloc_new w (.cells #[.bool p, .slice ao an ac, .slice co cn cc] 86)))
         have HB2 := Lib.hid (HB.out.trans (hb.mono HB.out.size))
         clear hs ht hb HL)
      | (fail "no arm"))
    obtain ⟨-, -, -, k0, k1, k2⟩ := three_cells (.bool (decide (n < 0))) (.slice no' (digs n.natAbs).length nc) (.slice mo (digs m).length mc) c0 c1 c2
    have HS3 := Lib.hid (result_num (v1 := .slice no' (digs n.natAbs).length nc) (v2 := .slice mo (digs m).length mc) (b' := decide (n < 0)) HS.out c0 c1 c2)
    have HT3 := Lib.hid (result_num (v1 := .slice no' (digs n.natAbs).length nc) (v2 := .slice mo (digs m).length mc) (b' := decide (n < 0)) HT.out c0 c1 c2)
    have HB3 := Lib.hid (result_below HB2.out (Nat.le_refl _) (.bool (decide (n < 0))) (.slice no' (digs n.natAbs).length nc) (.slice mo (digs m).length mc))
    generalize hw3 : ((w2.setCell ⟨w.heap.size, 0, none⟩ (.bool (decide (n < 0)))).setCell ⟨w.heap.size, 1, none⟩ (.slice no' (digs n.natAbs).length nc)).setCell ⟨w.heap.size, 2, none⟩ (.slice mo (digs m).length mc) = w3 at *
    clear hw3 c0 c1 c2 f0 f1 f2 HS HT HB2
    have HOLD := Lib.hid (fun W (hW : Below w3.heap.size w3 W) => (show Below w3.heap.size w3 W ∧ W.cell? ⟨w.heap.size, 0, none⟩ = some (.bool (decide (n < 0))) ∧ W.cell? ⟨w.heap.size, 1, none⟩ = some (.slice no' (digs n.natAbs).length nc) ∧ W.cell? ⟨w.heap.size, 2, none⟩ = some (.slice mo (digs m).length mc) from
      ⟨hW, (hW.cell (cell_lt k0)).trans k0, (hW.cell (cell_lt k1)).trans k1, (hW.cell (cell_lt k2)).trans k2⟩))
    clear k0 k1 k2
    go_region_held3 (fun w' => Below w3.heap.size w3 w' ∧ w'.cell? ⟨w.heap.size, 0, none⟩ = some (.bool (decide (n < 0))) ∧ w'.cell? ⟨w.heap.size, 1, none⟩ = some (.slice no' (digs n.natAbs).length nc) ∧ w'.cell? ⟨w.heap.size, 2, none⟩ = some (.slice mo (digs m).length mc))
      (first
        | exact HOLD.out _ (Below.refl _ _).drew
        | exact HOLD.out _ HB5.out
        | exact HOLD.out _ HB4.out)
      (first
        | (go_at_call 48; (with_reducible refine (HU.out _).mono ?_); rintro e' w4 ⟨one, rfl, ho, hb⟩
           have HO := Lib.hid ho
           have HB4 := Lib.hid ((Below.refl w3.heap.size w3).drew.trans hb)
           clear ho hb)
        | (go_at_call 28; (with_reducible refine (HC.out _ _ _ (HT3.out.below HB4.out) HO.out).mono ?_); rintro e' w5 ⟨rfl, hb⟩
           have HB5 := Lib.hid (HB4.out.trans (hb.mono HB4.out.size))
           clear hb)
        | (fail "no arm"))
    obtain ⟨-, k0, k1, k2⟩ := HOLD.out _ HB5.out
    have HIT5 := Lib.hid (HIT.out _ _ (HS3.out.below HB5.out))
    go_wp2_with (first
      | (go_at_call 53; (with_reducible refine (HIT5.out).mono ?_); rintro e' w6 ⟨rfl, hb⟩
         have HB6 := Lib.hid (HB3.out.trans ((HB5.out.trans (hb.mono HB5.out.size)).mono HB3.out.size))
         clear hb)
      | (fail "no arm"))
    go_ret
    exact ⟨rfl, HB6.out⟩
  · rw [if_neg hm]
    rw [← H47.out]
    clear H47
    obtain ⟨c, hc⟩ : ∃ c, c = cmpN m 1 := ⟨_, rfl⟩
    have hcb : (c == 0) = false := by
      rw [hc]
      unfold cmpN
      simp only [beq_eq_false_iff_ne, ne_eq]
      split
      · omega
      · omega
    rw [← hc] at HC
    clear hm hc
    generalize str (Lib.itoa n) = s1 at *
    generalize str (Lib.decDigits m) = s2 at *
    have hKs : ({ data := #[47] } : ByteArray).size = 1 := rfl
    have hz1 : ¬ 9223372036854775807 < s1.size + ({ data := #[47] } : ByteArray).size := by omega
    have hz2 : ¬ 9223372036854775807 < (s1 ++ ({ data := #[47] } : ByteArray)).size + s2.size := by rw [ByteArray.size_append]; omega
    have hz3 : ¬ 9223372036854775807 < s1.size + 1 := by omega
    have hz4 : ¬ 9223372036854775807 < s1.size + 1 + s2.size := by omega
    have HB := Lib.hid ((Below.refl w.heap.size w).alloc (Nat.le_refl _) (.cells #[.bool p, .slice ao an ac, .slice co cn cc] 86))
    go_enter Tryz.func76, Tryz.ntmps76
    go_wp2_with (first
      | (go_at_call 92; (with_reducible refine (HL.out _ HB.out).mono ?_); rintro e' w2 ⟨s2, t2, rfl, ⟨hs, ht⟩, hb⟩
         obtain ⟨no', nc, rfl, -⟩ := id hs
         obtain ⟨mo, mc, rfl, -⟩ := id ht
         have HS := Lib.hid hs
         have HT := Lib.hid ht
         obtain ⟨c0, c1, c2, f0, f1, f2⟩ := row3 ((hb.block w.heap.size (by simp)).trans (heap_alloc_new w (.cells #[.bool p, .slice ao an ac, .slice co cn cc] 86)))
         have HB2 := Lib.hid (HB.out.trans (hb.mono HB.out.size))
         clear hs ht hb HL)
      | (fail "no arm"))
    obtain ⟨-, -, -, k0, k1, k2⟩ := three_cells (.bool (decide (n < 0))) (.slice no' (digs n.natAbs).length nc) (.slice mo (digs m).length mc) c0 c1 c2
    have HS3 := Lib.hid (result_num (v1 := .slice no' (digs n.natAbs).length nc) (v2 := .slice mo (digs m).length mc) (b' := decide (n < 0)) HS.out c0 c1 c2)
    have HT3 := Lib.hid (result_num (v1 := .slice no' (digs n.natAbs).length nc) (v2 := .slice mo (digs m).length mc) (b' := decide (n < 0)) HT.out c0 c1 c2)
    have HB3 := Lib.hid (result_below HB2.out (Nat.le_refl _) (.bool (decide (n < 0))) (.slice no' (digs n.natAbs).length nc) (.slice mo (digs m).length mc))
    generalize hw3 : ((w2.setCell ⟨w.heap.size, 0, none⟩ (.bool (decide (n < 0)))).setCell ⟨w.heap.size, 1, none⟩ (.slice no' (digs n.natAbs).length nc)).setCell ⟨w.heap.size, 2, none⟩ (.slice mo (digs m).length mc) = w3 at *
    clear hw3 c0 c1 c2 f0 f1 f2 HS HT HB2
    have HOLD := Lib.hid (fun W (hW : Below w3.heap.size w3 W) => (show Below w3.heap.size w3 W ∧ W.cell? ⟨w.heap.size, 0, none⟩ = some (.bool (decide (n < 0))) ∧ W.cell? ⟨w.heap.size, 1, none⟩ = some (.slice no' (digs n.natAbs).length nc) ∧ W.cell? ⟨w.heap.size, 2, none⟩ = some (.slice mo (digs m).length mc) from
      ⟨hW, (hW.cell (cell_lt k0)).trans k0, (hW.cell (cell_lt k1)).trans k1, (hW.cell (cell_lt k2)).trans k2⟩))
    clear k0 k1 k2
    go_region_held3 (fun w' => Below w3.heap.size w3 w' ∧ w'.cell? ⟨w.heap.size, 0, none⟩ = some (.bool (decide (n < 0))) ∧ w'.cell? ⟨w.heap.size, 1, none⟩ = some (.slice no' (digs n.natAbs).length nc) ∧ w'.cell? ⟨w.heap.size, 2, none⟩ = some (.slice mo (digs m).length mc))
      (first
        | exact HOLD.out _ (Below.refl _ _).drew
        | exact HOLD.out _ HB5.out
        | exact HOLD.out _ HB4.out)
      (first
        | (go_at_call 48; (with_reducible refine (HU.out _).mono ?_); rintro e' w4 ⟨one, rfl, ho, hb⟩
           have HO := Lib.hid ho
           have HB4 := Lib.hid ((Below.refl w3.heap.size w3).drew.trans hb)
           clear ho hb)
        | (go_at_call 28; (with_reducible refine (HC.out _ _ _ (HT3.out.below HB4.out) HO.out).mono ?_); rintro e' w5 ⟨rfl, hb⟩
           have HB5 := Lib.hid (HB4.out.trans (hb.mono HB4.out.size))
           clear hb)
        | (fail "no arm"))
    obtain ⟨-, k0, k1, k2⟩ := HOLD.out _ HB5.out
    go_wp2
    go_region_held3 (fun w' => Below w3.heap.size w3 w' ∧ w'.cell? ⟨w.heap.size, 0, none⟩ = some (.bool (decide (n < 0))) ∧ w'.cell? ⟨w.heap.size, 1, none⟩ = some (.slice no' (digs n.natAbs).length nc) ∧ w'.cell? ⟨w.heap.size, 2, none⟩ = some (.slice mo (digs m).length mc))
      (first
        | exact HOLD.out _ HB7.out
        | exact HOLD.out _ HB6.out
        | exact HOLD.out _ HB5.out.drew)
      (first
        | (go_at_call 53; (with_reducible refine (HIT.out _ _ (HS3.out.below HB5.out.drew)).mono ?_); rintro e' w6 ⟨rfl, hb⟩
           have HB6 := Lib.hid (HB5.out.drew.trans (hb.mono HB5.out.size))
           clear hb)
        | (go_at_call 32; (with_reducible refine (HTX.out _ _ (HT3.out.below HB6.out)).mono ?_); rintro e' w7 ⟨rfl, hb⟩
           have HB7 := Lib.hid (HB6.out.trans (hb.mono HB6.out.size))
           clear hb)
        | (fail "no arm"))
    go_wp2
    go_ret
    exact ⟨rfl, HB3.out.trans (HB7.out.mono HB3.out.size)⟩
end Go.Proofs.YtfpooimjjpamoaaGreatDoor.ref
namespace Go.Proofs.YtfpooimjjpamoaaGreatDoor.ref
open Go.RowKit
def nearUp (x d : Nat) (mode : Int) : Bool :=
  (decide (mode = 1) && decide (d ≤ x % d * 2)) || (decide (mode = 2) && (decide (d < x % d * 2) || (decide (d = x % d * 2) && decide (x / d % 2 = 1))))
def nearN (x d : Nat) (mode : Int) : Nat := x / d + (if nearUp x d mode then 1 else 0)
theorem near_up {x d : Nat} {mode C : Int} (hC : C = cmpN (x % d * 2) d) : nearUp x d mode = (((mode == 1) && decide (0 ≤ C)) || ((mode == 2) && (decide (0 < C) || ((C == 0) && decide (x / d % 2 = 1))))) := by
  have h1 : decide (0 ≤ C) = decide (d ≤ x % d * 2) := by
    rw [decide_eq_decide, hC]; unfold cmpN; (repeat' split) <;> omega
  have h2 : decide (0 < C) = decide (d < x % d * 2) := by
    rw [decide_eq_decide, hC]; unfold cmpN; (repeat' split) <;> omega
  have h3 : (C == 0) = decide (d = x % d * 2) := by
    show decide (C = 0) = _
    rw [decide_eq_decide, hC]; unfold cmpN; (repeat' split) <;> omega
  unfold nearUp
  rw [h1, h2, h3]
  rfl
end Go.Proofs.YtfpooimjjpamoaaGreatDoor.ref
namespace Go.Proofs.YtfpooimjjpamoaaGreatDoor.ref
open Go.RowKit
def padTo (l : List UInt8) (k : Nat) : List UInt8 := List.replicate (k + 1 - l.length) 48 ++ l
def decBody (x k : Nat) : List UInt8 :=
  if k = 0 then padTo (Lib.decDigits x) 0 else (padTo (Lib.decDigits x) k).take ((padTo (Lib.decDigits x) k).length - k) ++ 46 :: (padTo (Lib.decDigits x) k).drop ((padTo (Lib.decDigits x) k).length - k)
def decText (z : Int) (k : Nat) : List UInt8 := if z < 0 then 45 :: decBody z.natAbs k else decBody z.natAbs k
theorem padTo_length (l : List UInt8) (k : Nat) : (padTo l k).length = max (k + 1) l.length := by
  unfold padTo
  rw [List.length_append, List.length_replicate]
  omega
end Go.Proofs.YtfpooimjjpamoaaGreatDoor.ref
