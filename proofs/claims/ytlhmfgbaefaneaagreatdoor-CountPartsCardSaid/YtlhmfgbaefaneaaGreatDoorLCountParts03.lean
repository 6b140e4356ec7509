/-
  The steps of the walks, part 3: RefQText, Meth3, NatBad, IntB, Size, RatM, RatB, DayOrd.
-/
import Derived.Laws.Cover1
import Derived.Test.YtlhmfgbaefaneaaGreatDoorB01
import Derived.Test.YtlhmfgbaefaneaaGreatDoorB02
import Derived.Test.YtlhmfgbaefaneaaGreatDoorB03
import Derived.Test.YtlhmfgbaefaneaaGreatDoorB04
import Derived.Test.YtlhmfgbaefaneaaGreatDoorB05
import Derived.Test.YtlhmfgbaefaneaaGreatDoorB06
import Derived.Test.YtlhmfgbaefaneaaGreatDoorB07
import Derived.Test.YtlhmfgbaefaneaaGreatDoorB08
import Derived.Test.YtlhmfgbaefaneaaGreatDoorB09
import Derived.Test.YtlhmfgbaefaneaaGreatDoorB10
import Derived.Test.YtlhmfgbaefaneaaGreatDoorB11
import Derived.Test.YtlhmfgbaefaneaaGreatDoorB12
import Derived.Test.YtlhmfgbaefaneaaGreatDoorB13
import Derived.Test.YtlhmfgbaefaneaaGreatDoorB14
import Derived.Test.YtlhmfgbaefaneaaGreatDoorB15
import Derived.Test.YtlhmfgbaefaneaaGreatDoorB16
import Derived.Test.YtlhmfgbaefaneaaGreatDoorB17
import Derived.Test.YtlhmfgbaefaneaaGreatDoorB18
import Derived.Test.YtlhmfgbaefaneaaGreatDoorB19
import Derived.Test.YtlhmfgbaefaneaaGreatDoorB20
import Derived.Test.YtlhmfgbaefaneaaGreatDoorB21
import Derived.Test.YtlhmfgbaefaneaaGreatDoorB22
import Derived.Test.YtlhmfgbaefaneaaGreatDoorLCountParts02
namespace Go.Proofs.YtlhmfgbaefaneaaGreatDoor.ref
open Go.RowKit
theorem digs_le {x y n : Nat} (h : x ≤ y) (hy : (digs y).length ≤ n) : (digs x).length ≤ n := by
  refine Nat.le_trans (digs_len_of_lt (n := (digs y).length) ?_) hy
  have h2 := val_lt (norm_digs y).1
  rw [val_digs] at h2
  omega
theorem Low_ex (v : Value) (z : Int) (d : Nat) (w : World) (hv : IsQ w v z d) (hz : (digs z.natAbs).length ≤ 80000) (hd : (digs d).length ≤ 80000) (h0 : 0 < d) :
    Calls Tryz.prog 106 #[v] w fun e w' => ∃ s t, e = .returned (.agg #[.bool (decide (lowN z d < 0)), s, t]) ∧ (IsN w' s (lowN z d).natAbs ∧ IsN w' t (lowD z d)) ∧ Below w.heap.size w w' := by
  refine (Low_any v z d w hv hz hd h0).mono ?_
  rintro e w' ⟨v', rfl, ⟨s, t, rfl, hs, ht⟩, hb⟩
  exact ⟨s, t, rfl, ⟨hs, ht⟩, hb⟩
set_option maxRecDepth 100000 in
set_option maxHeartbeats 4000000 in
theorem QText_any (v : Value) (z : Int) (d : Nat) (w : World) (hv : IsQ w v z d) (hz : (digs z.natAbs).length ≤ 80000) (hd : (digs d).length ≤ 80000) (h0 : 0 < d) :
    Calls Tryz.prog 63 #[v] w fun e w' => e = .returned (.string (str (ratText z d))) ∧ Below w.heap.size w w' := by
  have HL := Lib.hid (fun w' (hb : Below w.heap.size w w') => Low_ex v z d w' (hv.below hb) hz hd h0)
  have hln : (digs (lowN z d).natAbs).length ≤ 80000 := by rw [lowN_abs]; exact digs_le (Nat.div_le_self _ _) hz
  have hld : (digs (lowD z d)).length ≤ 80000 := digs_le (Nat.div_le_self _ _) hd
  unfold ratText
  obtain ⟨s, t, rfl, hs, ht⟩ := hv
  obtain ⟨ao, ac, rfl, -⟩ := id hs
  obtain ⟨co, cc, rfl, -⟩ := id ht
  clear hs ht hz hd h0
  generalize (digs z.natAbs).length = an at *
  generalize (digs d).length = cn at *
  generalize lowN z d = n at *
  generalize lowD z d = m at *
  generalize decide (z < 0) = p at *
  have HC := Lib.hid (fun W x one (h1 : IsN W x m) (h2 : IsN W one 1) => Cmp_any x one m 1 W h1 h2)
  have HU := Lib.hid (fun W => OfU_int 1 1 rfl (by decide) W)
  have HIT := Lib.hid (fun W sv (h : IsN W sv n.natAbs) => IText_any (.agg #[.bool (decide (n < 0)), sv]) n W ⟨sv, rfl, h⟩ (by omega))
  have HTX := Lib.hid (fun W sv (h : IsN W sv m) => Text_any sv m W h (by omega))
  have hlen1 := dec_size hld
  have hlen2 : (str (Lib.itoa n)).size ≤ 9 * 80000 + 2 := by
    have h1 := dec_size hln
    unfold Lib.itoa
    rw [str_size] at h1 ⊢
    split
    · simp; omega
    · rw [show n.toNat = n.natAbs by omega]; omega
  clear hln hld
  have h47 : str (Lib.itoa n) ++ (⟨#[47]⟩ : ByteArray) ++ str (Lib.decDigits m) = str (Lib.itoa n ++ 47 :: Lib.decDigits m) := by
    rw [show (⟨#[47]⟩ : ByteArray) = str [47] from rfl, str_append, str_append, List.append_assoc]
    rfl
  have H47 := Lib.hid h47
  clear h47
  by_cases hm : m = 1
  · rw [if_pos hm, List.append_nil]
    rw [show cmpN m 1 = 0 by subst hm; rfl] at HC
    clear hm
    have HB := Lib.hid ((Below.refl w.heap.size w).alloc (Nat.le_refl _) (.cells #[.bool p, .slice ao an ac, .slice co cn cc] 83))
    go_enter Tryz.func63, Tryz.ntmps63
    go_wp2_with (first
      | (go_at_call 106; (with_reducible refine (HL.out _ HB.out).mono ?_); rintro e' w2 ⟨s2, t2, rfl, ⟨hs, ht⟩, hb⟩
         obtain ⟨no', nc, rfl, -⟩ := id hs
         obtain ⟨mo, mc, rfl, -⟩ := id ht
         have HS := Lib.hid hs
         have HT := Lib.hid ht
         obtain ⟨c0, c1, c2, f0, f1, f2⟩ := row3 ((hb.block w.heap.size (by simp)).trans (heap_alloc_new w (.cells #[.bool p, .slice ao an ac, .slice co cn cc] 83)))
         have HB2 := Lib.hid (HB.out.trans (hb.mono HB.out.size))
         clear hs ht hb HL)
      | (fail "no arm"))
    obtain ⟨-, -, -, k0, k1, k2⟩ := three_cells (.bool (decide (n < 0))) (.slice no' (digs n.natAbs).length nc) (.slice mo (digs m).length mc) c0 c1 c2
    have HS3 := Lib.hid (result_num (v1 := .slice no' (digs n.natAbs).length nc) (v2 := .slice mo (digs m).length mc) (b' := decide (n < 0)) HS.out c0 c1 c2)
    have HT3 := Lib.hid (result_num (v1 := .slice no' (digs n.natAbs).length nc) (v2 := .slice mo (digs m).length mc) (b' := decide (n < 0)) HT.out c0 c1 c2)
    have HB3 := Lib.hid (result_below HB2.out (Nat.le_refl _) (.bool (decide (n < 0))) (.slice no' (digs n.natAbs).length nc) (.slice mo (digs m).length mc))
    generalize hw3 : ((w2.setCell ⟨w.heap.size, 0, none⟩ (.bool (decide (n < 0)))).setCell ⟨w.heap.size, 1, none⟩ (.slice no' (digs n.natAbs).length nc)).setCell ⟨w.heap.size, 2, none⟩ (.slice mo (digs m).length mc) = w3 at *
    clear hw3 c0 c1 c2 f0 f1 f2 HS HT HB2
    have HOLD := Lib.hid (fun W (hW : Below w3.heap.size w3 W) => (show Below w3.heap.size w3 W ∧ W.cell? ⟨w.heap.size, 0, none⟩ = some (.bool (decide (n < 0))) ∧ W.cell? ⟨w.heap.size, 1, none⟩ = some (.slice no' (digs n.natAbs).length nc) ∧ W.cell? ⟨w.heap.size, 2, none⟩ = some (.slice mo (digs m).length mc) from
      ⟨hW, (hW.cell (cell_lt k0)).trans k0, (hW.cell (cell_lt k1)).trans k1, (hW.cell (cell_lt k2)).trans k2⟩))
    clear k0 k1 k2
    go_region_held3 (fun w' => Below w3.heap.size w3 w' ∧ w'.cell? ⟨w.heap.size, 0, none⟩ = some (.bool (decide (n < 0))) ∧ w'.cell? ⟨w.heap.size, 1, none⟩ = some (.slice no' (digs n.natAbs).length nc) ∧ w'.cell? ⟨w.heap.size, 2, none⟩ = some (.slice mo (digs m).length mc))
      (first
        | exact HOLD.out _ (Below.refl _ _).drew
        | exact HOLD.out _ HB5.out
        | exact HOLD.out _ HB4.out)
      (first
        | (go_at_call 108; (with_reducible refine (HU.out _).mono ?_); rintro e' w4 ⟨one, rfl, ho, hb⟩
           have HO := Lib.hid ho
           have HB4 := Lib.hid ((Below.refl w3.heap.size w3).drew.trans hb)
           clear ho hb)
        | (go_at_call 107; (with_reducible refine (HC.out _ _ _ (HT3.out.below HB4.out) HO.out).mono ?_); rintro e' w5 ⟨rfl, hb⟩
           have HB5 := Lib.hid (HB4.out.trans (hb.mono HB4.out.size))
           clear hb)
        | (fail "no arm"))
    obtain ⟨-, k0, k1, k2⟩ := HOLD.out _ HB5.out
    have HIT5 := Lib.hid (HIT.out _ _ (HS3.out.below HB5.out))
    go_wp2_with (first
      | (go_at_call 109; (with_reducible refine (HIT5.out).mono ?_); rintro e' w6 ⟨rfl, hb⟩
         have HB6 := Lib.hid (HB3.out.trans ((HB5.out.trans (hb.mono HB5.out.size)).mono HB3.out.size))
         clear hb)
      | (fail "no arm"))
    go_ret
    exact ⟨rfl, HB6.out⟩
  · rw [if_neg hm]
    rw [← H47.out]
    clear H47
    obtain ⟨c, hc⟩ : ∃ c, c = cmpN m 1 := ⟨_, rfl⟩
    have hcb : (c == 0) = false := by
      rw [hc]
      unfold cmpN
      simp only [beq_eq_false_iff_ne, ne_eq]
      split
      · omega
      · omega
    rw [← hc] at HC
    clear hm hc
    generalize str (Lib.itoa n) = s1 at *
    generalize str (Lib.decDigits m) = s2 at *
    have hKs : ({ data := #[47] } : ByteArray).size = 1 := rfl
    have hz1 : ¬ 9223372036854775807 < s1.size + ({ data := #[47] } : ByteArray).size := by omega
    have hz2 : ¬ 9223372036854775807 < (s1 ++ ({ data := #[47] } : ByteArray)).size + s2.size := by rw [ByteArray.size_append]; omega
    have hz3 : ¬ 9223372036854775807 < s1.size + 1 := by omega
    have hz4 : ¬ 9223372036854775807 < s1.size + 1 + s2.size := by omega
    have HB := Lib.hid ((Below.refl w.heap.size w).alloc (Nat.le_refl _) (.cells #[.bool p, .slice ao an ac, .slice co cn cc] 83))
    go_enter Tryz.func63, Tryz.ntmps63
    go_wp2_with (first
      | (go_at_call 106; (with_reducible refine (HL.out _ HB.out).mono ?_); rintro e' w2 ⟨s2, t2, rfl, ⟨hs, ht⟩, hb⟩
         obtain ⟨no', nc, rfl, -⟩ := id hs
         obtain ⟨mo, mc, rfl, -⟩ := id ht
         have HS := Lib.hid hs
         have HT := Lib.hid ht
         obtain ⟨c0, c1, c2, f0, f1, f2⟩ := row3 ((hb.block w.heap.size (by simp)).trans (heap_alloc_new w (.cells #[.bool p, .slice ao an ac, .slice co cn cc] 83)))
         have HB2 := Lib.hid (HB.out.trans (hb.mono HB.out.size))
         clear hs ht hb HL)
      | (fail "no arm"))
    obtain ⟨-, -, -, k0, k1, k2⟩ := three_cells (.bool (decide (n < 0))) (.slice no' (digs n.natAbs).length nc) (.slice mo (digs m).length mc) c0 c1 c2
    have HS3 := Lib.hid (result_num (v1 := .slice no' (digs n.natAbs).length nc) (v2 := .slice mo (digs m).length mc) (b' := decide (n < 0)) HS.out c0 c1 c2)
    have HT3 := Lib.hid (result_num (v1 := .slice no' (digs n.natAbs).length nc) (v2 := .slice mo (digs m).length mc) (b' := decide (n < 0)) HT.out c0 c1 c2)
    have HB3 := Lib.hid (result_below HB2.out (Nat.le_refl _) (.bool (decide (n < 0))) (.slice no' (digs n.natAbs).length nc) (.slice mo (digs m).length mc))
    generalize hw3 : ((w2.setCell ⟨w.heap.size, 0, none⟩ (.bool (decide (n < 0)))).setCell ⟨w.heap.size, 1, none⟩ (.slice no' (digs n.natAbs).length nc)).setCell ⟨w.heap.size, 2, none⟩ (.slice mo (digs m).length mc) = w3 at *
    clear hw3 c0 c1 c2 f0 f1 f2 HS HT HB2
    have HOLD := Lib.hid (fun W (hW : Below w3.heap.size w3 W) => (show Below w3.heap.size w3 W ∧ W.cell? ⟨w.heap.size, 0, none⟩ = some (.bool (decide (n < 0))) ∧ W.cell? ⟨w.heap.size, 1, none⟩ = some (.slice no' (digs n.natAbs).length nc) ∧ W.cell? ⟨w.heap.size, 2, none⟩ = some (.slice mo (digs m).length mc) from
      ⟨hW, (hW.cell (cell_lt k0)).trans k0, (hW.cell (cell_lt k1)).trans k1, (hW.cell (cell_lt k2)).trans k2⟩))
    clear k0 k1 k2
    go_region_held3 (fun w' => Below w3.heap.size w3 w' ∧ w'.cell? ⟨w.heap.size, 0, none⟩ = some (.bool (decide (n < 0))) ∧ w'.cell? ⟨w.heap.size, 1, none⟩ = some (.slice no' (digs n.natAbs).length nc) ∧ w'.cell? ⟨w.heap.size, 2, none⟩ = some (.slice mo (digs m).length mc))
      (first
        | exact HOLD.out _ (Below.refl _ _).drew
        | exact HOLD.out _ HB5.out
        | exact HOLD.out _ HB4.out)
      (first
        | (go_at_call 108; (with_reducible refine (HU.out _).mono ?_); rintro e' w4 ⟨one, rfl, ho, hb⟩
           have HO := Lib.hid ho
           have HB4 := Lib.hid ((Below.refl w3.heap.size w3).drew.trans hb)
           clear ho hb)
        | (go_at_call 107; (with_reducible refine (HC.out _ _ _ (HT3.out.below HB4.out) HO.out).mono ?_); rintro e' w5 ⟨rfl, hb⟩
           have HB5 := Lib.hid (HB4.out.trans (hb.mono HB4.out.size))
           clear hb)
        | (fail "no arm"))
    obtain ⟨-, k0, k1, k2⟩ := HOLD.out _ HB5.out
    go_wp2
    go_region_held3 (fun w' => Below w3.heap.size w3 w' ∧ w'.cell? ⟨w.heap.size, 0, none⟩ = some (.bool (decide (n < 0))) ∧ w'.cell? ⟨w.heap.size, 1, none⟩ = some (.slice no' (digs n.natAbs).length nc) ∧ w'.cell? ⟨w.heap.size, 2, none⟩ = some (.slice mo (digs m).length mc))
      (first
        | exact HOLD.out _ HB7.out
        | exact HOLD.out _ HB6.out
        | exact HOLD.out _ HB5.out.drew)
      (first
        | (go_at_call 109; (with_reducible refine (HIT.out _ _ (HS3.out.below HB5.out.drew)).mono ?_); rintro e' w6 ⟨rfl, hb⟩
           have HB6 := Lib.hid (HB5.out.drew.trans (hb.mono HB5.out.size))
           clear hb)
        | (go_at_call 110; (with_reducible refine (HTX.out _ _ (HT3.out.below HB6.out)).mono ?_); rintro e' w7 ⟨rfl, hb⟩
           have HB7 := Lib.hid (HB6.out.trans (hb.mono HB6.out.size))
           clear hb)
        | (fail "no arm"))
    go_wp2
    go_ret
    exact ⟨rfl, HB3.out.trans (HB7.out.mono HB3.out.size)⟩
end Go.Proofs.YtlhmfgbaefaneaaGreatDoor.ref
namespace Go.Proofs.YtlhmfgbaefaneaaGreatDoor.nat
open Go.RowKit
open Go.Proofs.YtlhmfgbaefaneaaGreatDoor.ref (str str_size Numeral)
def OfC (c : Int) (P : World → Value → World → Prop) : Prop := ∀ w, Calls Tryz.prog 71 #[.int .i64 c] w fun e w' => ∃ v, e = .returned v ∧ P w v w'
set_option maxRecDepth 100000 in
theorem Sub_bad {P : World → Value → World → Prop} (hP : OfC 2 P) (a b : Value) (X Y : Nat) (w : World) (ha : IsN w a X) (hb : IsN w b Y) (hlt : X < Y) (hx : (digs X).length ≤ 900000) (hy : (digs Y).length ≤ 900000) :
    Calls Tryz.prog 142 #[a, b] w fun e w' => ∃ v m, e = .returned (.tuple #[.pointer none, v]) ∧ P (w.drewN m) v w' := by
  have CM := Lib.hid (Cmp_any a b X Y w ha hb (by omega) (by omega))
  obtain ⟨c, hc⟩ : ∃ c, c = cmp3 (X : Nat) (Y : Nat) := ⟨_, rfl⟩
  have hc0 : c < 0 := by
    rw [hc]
    unfold cmp3
    rw [if_pos (by omega)]
    omega
  rw [← hc] at CM
  have HP := Lib.hid hP
  clear ha hb hc
  go_enter Tryz.func142, Tryz.ntmps142
  go_wp2_with (first
    | (go_at_call 133; refine (CM.out).mono ?_; rintro e w1 ⟨rfl, m, rfl⟩; clear CM)
    | (go_at_call 71; refine (HP.out _).mono ?_; rintro e w2 ⟨v, rfl, hp⟩))
  go_ret2
  exact ⟨_, m, rfl, hp⟩
end Go.Proofs.YtlhmfgbaefaneaaGreatDoor.nat
namespace Go.Proofs.YtlhmfgbaefaneaaGreatDoor.nat
open Go.RowKit
open Go.Proofs.YtlhmfgbaefaneaaGreatDoor.ref (str str_size Numeral)
def errOf (c : Int) : Value := .iface 128 (.int .i64 c)
def JustErr (c : Int) (w : World) (v : Value) (w' : World) : Prop := v = errOf c ∧ w = w'
theorem ofC_code (c : Int) (hc : (c == 0) = false) : OfC c (JustErr c) := fun w => by
  refine (flt.Of_some c w hc).mono ?_
  rintro e w' ⟨rfl, rfl⟩
  exact ⟨_, rfl, rfl, rfl⟩
theorem Sub_none (a b : Value) (X Y : Nat) (w : World) (ha : IsN w a X) (hb : IsN w b Y) (hlt : X < Y) (hx : (digs X).length ≤ 900000) (hy : (digs Y).length ≤ 900000) :
    Calls Tryz.prog 142 #[a, b] w fun e w' => e = .returned (.tuple #[.pointer none, errOf 2]) ∧ ∃ m, w' = w.drewN m := by
  refine (Sub_bad (ofC_code 2 rfl) a b X Y w ha hb hlt hx hy).mono ?_
  rintro e w' ⟨v, m, rfl, rfl, rfl⟩
  exact ⟨rfl, m, rfl⟩
end Go.Proofs.YtlhmfgbaefaneaaGreatDoor.nat
namespace Go.Proofs.YtlhmfgbaefaneaaGreatDoor.num
open Go.RowKit Go.Proofs.YtlhmfgbaefaneaaGreatDoor.nat
theorem sgn_add {z y : Int} (h : decide (z < 0) = decide (y < 0)) : sgn (decide (z < 0)) (z.natAbs + y.natAbs) = z + y := by
  unfold sgn
  by_cases h1 : z < 0 <;> by_cases h2 : y < 0 <;> simp [h1, h2] at h ⊢ <;> omega
theorem sgn_sub1 {z y : Int} (h : decide (z < 0) ≠ decide (y < 0)) (hle : y.natAbs ≤ z.natAbs) : sgn (decide (z < 0)) (z.natAbs - y.natAbs) = z + y := by
  unfold sgn
  by_cases h1 : z < 0 <;> by_cases h2 : y < 0 <;> simp [h1, h2] at h ⊢ <;> omega
theorem sgn_sub2 {z y : Int} (h : decide (z < 0) ≠ decide (y < 0)) (hlt : z.natAbs < y.natAbs) : sgn (decide (y < 0)) (y.natAbs - z.natAbs) = z + y := by
  unfold sgn
  by_cases h1 : z < 0 <;> by_cases h2 : y < 0 <;> simp [h1, h2] at h ⊢ <;> omega
set_option maxRecDepth 100000 in
set_option maxHeartbeats 2000000 in
theorem Add_same (a b : Value) (z y : Int) (w : World) (ha : IsZ w a z) (hb : IsZ w b y) (hx : (digs z.natAbs).length ≤ 800000) (hy : (digs y.natAbs).length ≤ 800000) (hs : decide (z < 0) = decide (y < 0)) :
    Calls Tryz.prog 113 #[a, b] w fun e w' => ∃ u, e = .returned u ∧ (IsZ w' u (z + y) ∧ u ≠ .pointer none) ∧ Below w.heap.size w w' := by
  have B1 := isBelow_any a z w ha
  have B2 := isBelow_any b y w hb
  have A1 := Lib.hid (amount_any a z w ha)
  have A2 := Lib.hid (amount_any b y w hb)
  have M := Lib.hid (fun na nb h1 h2 => nat.Add_any na nb z.natAbs y.natAbs w h1 h2 (by omega) (by omega))
  have N := fun (w' : World) nv hn => New_any (decide (z < 0)) nv (z.natAbs + y.natAbs) w' hn
  rw [sgn_add hs] at N
  rw [← hs] at B2
  clear ha hb hs
  generalize decide (z < 0) = b1 at *
  have HB1 := Lib.hid B1
  have HB2 := Lib.hid B2
  have HN := Lib.hid N
  have hbb : (b1 == b1) = true := by simp
  clear B1 B2 N
  go_enter Tryz.func113, Tryz.ntmps113
  go_wp2_with (first
    | (go_at_call 129; (with_reducible refine (HB1.out).mono ?_); rintro e w1 ⟨rfl, rfl⟩)
    | (go_at_call 129; (with_reducible refine (HB2.out).mono ?_); rintro e w1 ⟨rfl, rfl⟩)
    | (go_at_call 130; (with_reducible refine (A1.out).mono ?_); rintro e w1 ⟨na, rfl, hn, rfl⟩; have HN1 := Lib.hid hn; clear A1 hn)
    | (go_at_call 130; (with_reducible refine (A2.out).mono ?_); rintro e w1 ⟨nb, rfl, hn, rfl⟩; have HN2 := Lib.hid hn; clear A2 hn)
    | (go_at_call 141; (with_reducible refine (M.out _ _ HN1.out HN2.out).mono ?_); rintro e w2 ⟨m, rfl, ⟨hm, -⟩, hb2⟩; have HM := Lib.hid hm; have HBl := Lib.hid hb2; clear M hm hb2)
    | (go_at_call 128; (with_reducible refine (HN.out _ _ HM.out).mono ?_); rintro e w3 ⟨u, rfl, hu, hb⟩; have HU := Lib.hid hu; have HB := Lib.hid (HBl.out.trans (hb.mono HBl.out.size)); clear hu hb))
  go_ret
  exact ⟨_, rfl, HU.out, HB.out⟩
set_option maxRecDepth 100000 in
set_option maxHeartbeats 2000000 in
theorem Add_more (a b : Value) (z y : Int) (w : World) (ha : IsZ w a z) (hb : IsZ w b y) (hx : (digs z.natAbs).length ≤ 800000) (hs : decide (z < 0) ≠ decide (y < 0)) (hle : y.natAbs ≤ z.natAbs) :
    Calls Tryz.prog 113 #[a, b] w fun e w' => ∃ u, e = .returned u ∧ (IsZ w' u (z + y) ∧ u ≠ .pointer none) ∧ Below w.heap.size w w' := by
  have B1 := fun w' (h : Below w.heap.size w w') => isBelow_any a z w' (ha.below h)
  have B2 := isBelow_any b y w hb
  have A1 := Lib.hid (amount_any a z w ha)
  have A2 := Lib.hid (amount_any b y w hb)
  have M := Lib.hid (fun na nb h1 h2 => nat.Sub_ok na nb z.natAbs y.natAbs w h1 h2 hle (by omega))
  have N := fun (w' : World) nv hn => New_any (decide (z < 0)) nv (z.natAbs - y.natAbs) w' hn
  rw [sgn_sub1 hs hle] at N
  clear ha hb hle
  generalize decide (z < 0) = b1 at *
  generalize decide (y < 0) = b2 at *
  have HB1 := Lib.hid B1
  have HB2 := Lib.hid B2
  have HN := Lib.hid N
  have hbb : (b1 == b2) = false := by simp [hs]
  clear B1 B2 N hs
  go_enter Tryz.func113, Tryz.ntmps113
  go_wp2_with (first
    | (go_at_call 129; (with_reducible refine (HB1.out _ (Below.refl _ _)).mono ?_); rintro e w1 ⟨rfl, rfl⟩)
    | (go_at_call 129; (with_reducible refine (HB2.out).mono ?_); rintro e w1 ⟨rfl, rfl⟩; clear HB2)
    | (go_at_call 130; (with_reducible refine (A1.out).mono ?_); rintro e w1 ⟨na, rfl, hn, rfl⟩; have HN1 := Lib.hid hn; clear A1 hn)
    | (go_at_call 130; (with_reducible refine (A2.out).mono ?_); rintro e w1 ⟨nb, rfl, hn, rfl⟩; have HN2 := Lib.hid hn; clear A2 hn)
    | (go_at_call 142; (with_reducible refine (M.out _ _ HN1.out HN2.out).mono ?_); rintro e w2 ⟨m, rfl, ⟨hm, -⟩, hb2⟩; have HM := Lib.hid hm; have HBl := Lib.hid hb2; clear M hm hb2)
    | (go_at_call 129; (with_reducible refine (HB1.out _ HBl.out).mono ?_); rintro e w1 ⟨rfl, rfl⟩)
    | (go_at_call 128; (with_reducible refine (HN.out _ _ HM.out).mono ?_); rintro e w3 ⟨u, rfl, hu, hb⟩; have HU := Lib.hid hu; have HB := Lib.hid (HBl.out.trans (hb.mono HBl.out.size)); clear hu hb))
  go_ret
  exact ⟨_, rfl, HU.out, HB.out⟩
set_option maxRecDepth 100000 in
set_option maxHeartbeats 2000000 in
theorem Add_less (a b : Value) (z y : Int) (w : World) (ha : IsZ w a z) (hb : IsZ w b y) (hx : (digs z.natAbs).length ≤ 800000) (hy : (digs y.natAbs).length ≤ 800000) (hs : decide (z < 0) ≠ decide (y < 0)) (hlt : z.natAbs < y.natAbs) :
    Calls Tryz.prog 113 #[a, b] w fun e w' => ∃ u, e = .returned u ∧ (IsZ w' u (z + y) ∧ u ≠ .pointer none) ∧ Below w.heap.size w w' := by
  have B1 := isBelow_any a z w ha
  have B2 := fun w' (h : Below w.heap.size w w') => isBelow_any b y w' (hb.below h)
  have A1 := Lib.hid (fun w' (h : Below w.heap.size w w') => amount_any a z w' (ha.below h))
  have A2 := Lib.hid (fun w' (h : Below w.heap.size w w') => amount_any b y w' (hb.below h))
  have M1 := Lib.hid (fun na nb h1 h2 => nat.Sub_none na nb z.natAbs y.natAbs w h1 h2 hlt (by omega) (by omega))
  have M2 := Lib.hid (fun (w' : World) na nb h1 h2 => nat.Sub_ok nb na y.natAbs z.natAbs w' h2 h1 (by omega) (by omega))
  have N := fun (w' : World) nv hn => New_any (decide (y < 0)) nv (y.natAbs - z.natAbs) w' hn
  rw [sgn_sub2 hs hlt] at N
  clear ha hb hlt
  generalize decide (z < 0) = b1 at *
  generalize decide (y < 0) = b2 at *
  have HB1 := Lib.hid B1
  have HB2 := Lib.hid B2
  have HN := Lib.hid N
  have hbb : (b1 == b2) = false := by simp [hs]
  clear B1 B2 N hs
  unfold errOf at M1
  go_enter Tryz.func113, Tryz.ntmps113
  go_wp2_with (first
    | (go_at_call 129; (with_reducible refine (HB1.out).mono ?_); rintro e w1 ⟨rfl, rfl⟩)
    | (go_at_call 129; (with_reducible refine (HB2.out _ (Below.refl _ _)).mono ?_); rintro e w1 ⟨rfl, rfl⟩)
    | (go_at_call 130; (with_reducible refine (A1.out _ (Below.refl _ _)).mono ?_); rintro e w1 ⟨na, rfl, hn, rfl⟩; have HN1 := Lib.hid hn; clear hn)
    | (go_at_call 130; (with_reducible refine (A2.out _ (Below.refl _ _)).mono ?_); rintro e w1 ⟨nb, rfl, hn, rfl⟩; have HN2 := Lib.hid hn; clear hn)
    | (go_at_call 142; (with_reducible refine (M1.out _ _ HN1.out HN2.out).mono ?_); rintro e w2 ⟨rfl, m, rfl⟩; clear M1 HN1 HN2)
    | (go_at_call 130; (with_reducible refine (A2.out _ (drew_below w m)).mono ?_); rintro e w1 ⟨nb, rfl, hn, rfl⟩; have HN4 := Lib.hid hn; clear A2 hn)
    | (go_at_call 130; (with_reducible refine (A1.out _ (drew_below w m)).mono ?_); rintro e w1 ⟨na, rfl, hn, rfl⟩; have HN3 := Lib.hid hn; clear A1 hn)
    | (go_at_call 142; (with_reducible refine (M2.out _ _ _ HN3.out HN4.out).mono ?_); rintro e w2 ⟨r, rfl, ⟨hm, -⟩, hb2⟩; have HM := Lib.hid hm; have HBl := Lib.hid ((drew_below w m).trans hb2); clear M2 hm hb2)
    | (go_at_call 129; (with_reducible refine (HB2.out _ HBl.out).mono ?_); rintro e w1 ⟨rfl, rfl⟩)
    | (go_at_call 128; (with_reducible refine (HN.out _ _ HM.out).mono ?_); rintro e w3 ⟨u, rfl, hu, hb⟩; have HU := Lib.hid hu; have HB := Lib.hid (HBl.out.trans (hb.mono HBl.out.size)); clear hu hb))
  go_ret
  exact ⟨_, rfl, HU.out, HB.out⟩
theorem Add_any (a b : Value) (z y : Int) (w : World) (ha : IsZ w a z) (hb : IsZ w b y) (hx : (digs z.natAbs).length ≤ 800000) (hy : (digs y.natAbs).length ≤ 800000) :
    Calls Tryz.prog 113 #[a, b] w fun e w' => ∃ u, e = .returned u ∧ (IsZ w' u (z + y) ∧ u ≠ .pointer none) ∧ Below w.heap.size w w' := by
  by_cases hs : decide (z < 0) = decide (y < 0)
  · exact Add_same a b z y w ha hb hx hy hs
  · rcases Nat.lt_or_ge z.natAbs y.natAbs with h | h
    · exact Add_less a b z y w ha hb hx hy hs h
    · exact Add_more a b z y w ha hb hx hs h
end Go.Proofs.YtlhmfgbaefaneaaGreatDoor.num
namespace Go.Proofs.YtlhmfgbaefaneaaGreatDoor.nat
open Go.RowKit
end Go.Proofs.YtlhmfgbaefaneaaGreatDoor.nat
namespace Go.Proofs.YtlhmfgbaefaneaaGreatDoor.num
open Go.RowKit Go.Proofs.YtlhmfgbaefaneaaGreatDoor.nat
theorem Lz_add {x y : Int} {n m : Nat} (hx : Lz x n) (hy : Lz y m) : Lz (x + y) (n + m + 1) := Ln_less (Int.natAbs_add_le x y) (Ln_add hx hy)
end Go.Proofs.YtlhmfgbaefaneaaGreatDoor.num
namespace Go.Proofs.YtlhmfgbaefaneaaGreatDoor.rat
theorem den_ne (q : Rat) : (q.den : Rat) ≠ 0 := cast_ne q.den_pos
theorem fdiv_nat {x g : Nat} (hg : 0 < g) (h : g ∣ x) : Int.fdiv (x : Int) (g : Int) = ((x / g : Nat) : Int) := by
  obtain ⟨k, rfl⟩ := h
  rw [Int.natCast_mul, Int.mul_fdiv_cancel_left _ (by omega), Nat.mul_div_cancel_left _ hg]
end Go.Proofs.YtlhmfgbaefaneaaGreatDoor.rat
namespace Go.Proofs.YtlhmfgbaefaneaaGreatDoor.rat
open Go.RowKit Go.Proofs.YtlhmfgbaefaneaaGreatDoor.nat Go.Proofs.YtlhmfgbaefaneaaGreatDoor.num
def sumG (p q : Rat) : Nat := Nat.gcd p.den q.den
def sumT (p q : Rat) : Int := p.num * ((q.den / sumG p q : Nat) : Int) + q.num * ((p.den / sumG p q : Nat) : Int)
def sumL (p q : Rat) : Nat := Nat.gcd (sumT p q).natAbs (sumG p q)
theorem sumG_pos (p q : Rat) : 0 < sumG p q := Nat.gcd_pos_of_pos_left _ p.den_pos
theorem sumL_pos (p q : Rat) : 0 < sumL p q := Nat.gcd_pos_of_pos_right _ (sumG_pos p q)
theorem sumL_eq (p q : Rat) : sumL p q = Nat.gcd (sumT p q).natAbs (p.den / sumG p q * q.den) := Rat.add.aux p q rfl rfl rfl
theorem sumL_den (p q : Rat) : sumL p q ∣ q.den := Nat.dvd_trans (Nat.gcd_dvd_right _ _) (Nat.gcd_dvd_right _ _)
theorem sum_ends (p q : Rat) : (p + q).num = sumT p q / (sumL p q : Int) ∧ (p + q).den = p.den / sumG p q * (q.den / sumL p q) := by
  have hg := sumG_pos p q
  have hl := sumL_pos p q
  have hp := p.den_pos
  have hq := q.den_pos
  obtain ⟨A, hA⟩ : sumG p q ∣ p.den := Nat.gcd_dvd_left _ _
  obtain ⟨B, hB⟩ : sumG p q ∣ q.den := Nat.gcd_dvd_right _ _
  obtain ⟨L, hL⟩ := sumL_den p q
  have eA : p.den / sumG p q = A := by rw [hA, Nat.mul_div_cancel_left _ hg]
  have eB : q.den / sumG p q = B := by rw [hB, Nat.mul_div_cancel_left _ hg]
  have eL : q.den / sumL p q = L := by rw [hL, Nat.mul_div_cancel_left _ hl]
  obtain ⟨T, hT⟩ : (sumL p q : Int) ∣ sumT p q := by rw [← Int.dvd_natAbs, Int.ofNat_dvd]; exact Nat.gcd_dvd_left _ _
  have eT : sumT p q / (sumL p q : Int) = T := by rw [hT, Int.mul_ediv_cancel_left _ (by omega)]
  rw [eA, eL, eT]
  have hA0 : 0 < A := Nat.pos_of_ne_zero fun h => by rw [h] at hA; omega
  have hL0 : 0 < L := Nat.pos_of_ne_zero fun h => by rw [h] at hL; omega
  refine num_den_of (Nat.mul_pos hA0 hL0) ?_ ?_
  · have h := sumL_eq p q
    have hd : p.den / sumG p q * q.den = sumL p q * (A * L) := by rw [eA, hL]; ac_rfl
    rw [hd, hT, Int.natAbs_mul, Int.natAbs_natCast, Nat.gcd_mul_left] at h
    have : sumL p q * Nat.gcd T.natAbs (A * L) = sumL p q * 1 := by omega
    exact Nat.eq_of_mul_eq_mul_left hl this
  · have hs : sumT p q = p.num * (B : Int) + q.num * (A : Int) := by unfold sumT; rw [eA, eB]
    rw [hs] at hT
    have e1 : ((p.num * (B : Int) + q.num * (A : Int) : Int) : Rat) = ((sumL p q : Int) : Rat) * (T : Rat) := by rw [hT, Rat.intCast_mul]
    rw [Rat.intCast_add, Rat.intCast_mul, Rat.intCast_mul, Rat.intCast_natCast, Rat.intCast_natCast, Rat.intCast_natCast] at e1
    have e2 : (p.den : Rat) = (sumG p q : Rat) * (A : Rat) := by rw [← Rat.natCast_mul, ← hA]
    have e3 : (q.den : Rat) = (sumG p q : Rat) * (B : Rat) := by rw [← Rat.natCast_mul, ← hB]
    have e4 : (q.den : Rat) = (sumL p q : Rat) * (L : Rat) := by rw [← Rat.natCast_mul, ← hL]
    have n1 := cast_ne hg
    have n2 := cast_ne hl
    have n3 := cast_ne hA0
    have n4 := cast_ne hL0
    have n5 := den_ne q
    have n6 := den_ne p
    rw [Rat.natCast_mul]
    have hself : p + q = (p.num : Rat) / (p.den : Rat) + (q.num : Rat) / (q.den : Rat) := by rw [← self_div, ← self_div]
    rw [hself]
    generalize (p.num : Rat) = pn at *
    generalize (q.num : Rat) = qn at *
    generalize (p.den : Rat) = pd at *
    generalize (q.den : Rat) = qd at *
    generalize (sumG p q : Rat) = g at *
    generalize (sumL p q : Rat) = l at *
    generalize (A : Rat) = A' at *
    generalize (B : Rat) = B' at *
    generalize (L : Rat) = L' at *
    generalize (T : Rat) = T' at *
    subst e2
    have n7 : B' ≠ 0 := by intro h; subst h; rw [Rat.mul_zero] at e3; exact n5 e3
    have e5 : pn / (g * A') + qn / qd = (pn * B' + qn * A') / (g * A' * B') := by rw [e3]; grind
    rw [e5, e1]
    have e6 : g * A' * B' = l * L' * A' := by rw [← e4, e3]; grind
    rw [e6]
    grind
set_option maxRecDepth 100000 in
set_option maxHeartbeats 4000000 in
theorem Add_any (a b : Value) (p q : Rat) (w : World) (ha : IsR w a p) (hb : IsR w b q) (sp : Lr p 20000) (sq : Lr q 20000) :
    Calls Tryz.prog 64 #[a, b] w fun e w' => ∃ u, e = .returned u ∧ (IsR w' u (p + q) ∧ u ≠ .pointer none) ∧ Below w.heap.size w w' := by
  have H_a := Lib.hid ha
  have H_b := Lib.hid hb
  clear ha hb
  have c1 := fun (W : World) (v0 : Value) (hh0 : rat.IsR W v0 p)  => rat.Den_any v0 p W hh0
  have C1 := Lib.hid c1
  clear c1
  have c2 := fun (W : World) (v0 : Value) (hh0 : rat.IsR W v0 q)  => rat.Den_any v0 q W hh0
  have C2 := Lib.hid c2
  clear c2
  have c3 := fun (W : World) (v0 : Value) (v1 : Value) (hh0 : num.IsZ W v0 ((p.den : Nat) : Int)) (hh1 : num.IsZ W v1 ((q.den : Nat) : Int))  => divisor_any v0 v1 ((p.den : Nat) : Int) ((q.den : Nat) : Int) W hh0 hh1 ((Lz_nat sp.2).le (by decide)) ((Lz_nat sq.2).le (by decide))
  rw [show (((Nat.gcd (Int.natAbs ((p.den : Nat) : Int)) (Int.natAbs ((q.den : Nat) : Int))) : Nat) : Int) = ((sumG p q : Nat) : Int) by rw [Int.natAbs_natCast, Int.natAbs_natCast]; rfl] at c3
  have C3 := Lib.hid c3
  clear c3
  have c4 := fun (W : World) (v0 : Value) (hh0 : rat.IsR W v0 p)  => rat.Den_any v0 p W hh0
  have C4 := Lib.hid c4
  clear c4
  have c5 := fun (W : World) (v0 : Value) (v1 : Value) (hh0 : num.IsZ W v0 ((p.den : Nat) : Int)) (hh1 : num.IsZ W v1 (((sumG p q) : Nat) : Int))  => part_any v0 v1 ((p.den : Nat) : Int) (((sumG p q) : Nat) : Int) W hh0 hh1 ((Lz_nat sp.2).le (by decide)) ((Lz_nat (Ln_gcd sp.2 sq.2)).le (by decide)) (by have := sumG_pos p q; omega)
  rw [fdiv_nat (sumG_pos p q) (Nat.gcd_dvd_left _ _)] at c5
  have C5 := Lib.hid c5
  clear c5
  have c6 := fun (W : World) (v0 : Value) (hh0 : rat.IsR W v0 q)  => rat.Den_any v0 q W hh0
  have C6 := Lib.hid c6
  clear c6
  have c7 := fun (W : World) (v0 : Value) (v1 : Value) (hh0 : num.IsZ W v0 ((q.den : Nat) : Int)) (hh1 : num.IsZ W v1 (((sumG p q) : Nat) : Int))  => part_any v0 v1 ((q.den : Nat) : Int) (((sumG p q) : Nat) : Int) W hh0 hh1 ((Lz_nat sq.2).le (by decide)) ((Lz_nat (Ln_gcd sp.2 sq.2)).le (by decide)) (by have := sumG_pos p q; omega)
  rw [fdiv_nat (sumG_pos p q) (Nat.gcd_dvd_right _ _)] at c7
  have C7 := Lib.hid c7
  clear c7
  have c8 := fun (W : World) (v0 : Value) (hh0 : rat.IsR W v0 p)  => rat.Num_any v0 p W hh0
  have C8 := Lib.hid c8
  clear c8
  have c9 := fun (W : World) (v0 : Value) (v1 : Value) (hh0 : num.IsZ W v0 p.num) (hh1 : num.IsZ W v1 (((q.den / sumG p q) : Nat) : Int))  => num.Mul_any v0 v1 p.num (((q.den / sumG p q) : Nat) : Int) W hh0 hh1 (sp.1.le (by decide)) ((Lz_nat (Ln_less (Nat.div_le_self _ _) sq.2)).le (by decide))
  have C9 := Lib.hid c9
  clear c9
  have c10 := fun (W : World) (v0 : Value) (hh0 : rat.IsR W v0 q)  => rat.Num_any v0 q W hh0
  have C10 := Lib.hid c10
  clear c10
  have c11 := fun (W : World) (v0 : Value) (v1 : Value) (hh0 : num.IsZ W v0 q.num) (hh1 : num.IsZ W v1 (((p.den / sumG p q) : Nat) : Int))  => num.Mul_any v0 v1 q.num (((p.den / sumG p q) : Nat) : Int) W hh0 hh1 (sq.1.le (by decide)) ((Lz_nat (Ln_less (Nat.div_le_self _ _) sp.2)).le (by decide))
  have C11 := Lib.hid c11
  clear c11
  have c12 := fun (W : World) (v0 : Value) (v1 : Value) (hh0 : num.IsZ W v0 (p.num * (((q.den / sumG p q) : Nat) : Int))) (hh1 : num.IsZ W v1 (q.num * (((p.den / sumG p q) : Nat) : Int)))  => num.Add_any v0 v1 (p.num * (((q.den / sumG p q) : Nat) : Int)) (q.num * (((p.den / sumG p q) : Nat) : Int)) W hh0 hh1 ((Lz_mul sp.1 (Lz_nat (Ln_less (Nat.div_le_self _ _) sq.2))).le (by decide)) ((Lz_mul sq.1 (Lz_nat (Ln_less (Nat.div_le_self _ _) sp.2))).le (by decide))
  rw [show ((p.num * (((q.den / sumG p q) : Nat) : Int)) + (q.num * (((p.den / sumG p q) : Nat) : Int))) = sumT p q from rfl] at c12
  have C12 := Lib.hid c12
  clear c12
  have c13 := fun (W : World) (v0 : Value) (v1 : Value) (hh0 : num.IsZ W v0 (sumT p q)) (hh1 : num.IsZ W v1 (((sumG p q) : Nat) : Int))  => divisor_any v0 v1 (sumT p q) (((sumG p q) : Nat) : Int) W hh0 hh1 ((show Lz (sumT p q) 80001 from Lz_add (Lz_mul sp.1 (Lz_nat (Ln_less (Nat.div_le_self _ _) sq.2))) (Lz_mul sq.1 (Lz_nat (Ln_less (Nat.div_le_self _ _) sp.2)))).le (by decide)) ((Lz_nat (Ln_gcd sp.2 sq.2)).le (by decide))
  rw [show (((Nat.gcd (Int.natAbs (sumT p q)) (Int.natAbs ((sumG p q : Nat) : Int))) : Nat) : Int) = ((sumL p q : Nat) : Int) by rw [Int.natAbs_natCast]; rfl] at c13
  have C13 := Lib.hid c13
  clear c13
  have c14 := fun (W : World) (v0 : Value) (v1 : Value) (hh0 : num.IsZ W v0 (sumT p q)) (hh1 : num.IsZ W v1 (((sumL p q) : Nat) : Int))  => part_any v0 v1 (sumT p q) (((sumL p q) : Nat) : Int) W hh0 hh1 ((show Lz (sumT p q) 80001 from Lz_add (Lz_mul sp.1 (Lz_nat (Ln_less (Nat.div_le_self _ _) sq.2))) (Lz_mul sq.1 (Lz_nat (Ln_less (Nat.div_le_self _ _) sp.2)))).le (by decide)) ((Lz_nat (show Ln (sumL p q) 120001 from Ln_gcd (Ln_abs (show Lz (sumT p q) 80001 from Lz_add (Lz_mul sp.1 (Lz_nat (Ln_less (Nat.div_le_self _ _) sq.2))) (Lz_mul sq.1 (Lz_nat (Ln_less (Nat.div_le_self _ _) sp.2))))) (Ln_gcd sp.2 sq.2))).le (by decide)) (by have := sumL_pos p q; omega)
  have hdv : ((sumL p q : Nat) : Int) ∣ sumT p q := by rw [← Int.dvd_natAbs, Int.ofNat_dvd]; exact Nat.gcd_dvd_left _ _
  rw [show Int.fdiv (sumT p q) ((sumL p q : Nat) : Int) = (p + q).num by rw [(sum_ends p q).1, Int.fdiv_eq_ediv_of_nonneg _ (by omega)]] at c14
  clear hdv
  have C14 := Lib.hid c14
  clear c14
  have c15 := fun (W : World) (v0 : Value) (hh0 : rat.IsR W v0 q)  => rat.Den_any v0 q W hh0
  have C15 := Lib.hid c15
  clear c15
  have c16 := fun (W : World) (v0 : Value) (v1 : Value) (hh0 : num.IsZ W v0 ((q.den : Nat) : Int)) (hh1 : num.IsZ W v1 (((sumL p q) : Nat) : Int))  => part_any v0 v1 ((q.den : Nat) : Int) (((sumL p q) : Nat) : Int) W hh0 hh1 ((Lz_nat sq.2).le (by decide)) ((Lz_nat (show Ln (sumL p q) 120001 from Ln_gcd (Ln_abs (show Lz (sumT p q) 80001 from Lz_add (Lz_mul sp.1 (Lz_nat (Ln_less (Nat.div_le_self _ _) sq.2))) (Lz_mul sq.1 (Lz_nat (Ln_less (Nat.div_le_self _ _) sp.2))))) (Ln_gcd sp.2 sq.2))).le (by decide)) (by have := sumL_pos p q; omega)
  rw [fdiv_nat (sumL_pos p q) (sumL_den p q)] at c16
  have C16 := Lib.hid c16
  clear c16
  have c17 := fun (W : World) (v0 : Value) (v1 : Value) (hh0 : num.IsZ W v0 (((p.den / sumG p q) : Nat) : Int)) (hh1 : num.IsZ W v1 (((q.den / sumL p q) : Nat) : Int))  => num.Mul_any v0 v1 (((p.den / sumG p q) : Nat) : Int) (((q.den / sumL p q) : Nat) : Int) W hh0 hh1 ((Lz_nat (Ln_less (Nat.div_le_self _ _) sp.2)).le (by decide)) ((Lz_nat (Ln_less (Nat.div_le_self _ _) sq.2)).le (by decide))
  rw [show ((((p.den / sumG p q) : Nat) : Int) * (((q.den / sumL p q) : Nat) : Int)) = (((p + q).den : Nat) : Int) by rw [(sum_ends p q).2, Int.natCast_mul]] at c17
  have C17 := Lib.hid c17
  clear c17
  have c18 := fun (W : World) (v0 : Value) (v1 : Value) (hh0 : num.IsZ W v0 (p + q).num) (hh1 : num.IsZ W v1 (((p + q).den : Nat) : Int)) (n0 : v0 ≠ .pointer none) (n1 : v1 ≠ .pointer none) => own_at (p + q) v0 v1 _ _ W hh0 n0 hh1 n1 rfl rfl
  have C18 := Lib.hid c18
  clear c18
  go_enter Tryz.func64, Tryz.ntmps64
  go_wp2_with (first
    | (go_at_call 101; (with_reducible refine (C1.out _ _ H_a.out).mono ?_); rintro e W1 ⟨d1, rfl, ⟨h_d1, n_d1⟩, hb⟩
       have H_d1 := Lib.hid h_d1
       have N_d1 := Lib.hid n_d1
       have HB1 := Lib.hid hb
       clear h_d1 n_d1 hb C1)
    | (go_at_call 101; (with_reducible refine (C2.out _ _ (H_b.out.below HB1.out)).mono ?_); rintro e W2 ⟨d2, rfl, ⟨h_d2, n_d2⟩, hb⟩
       have H_d2 := Lib.hid h_d2
       have N_d2 := Lib.hid n_d2
       have HB2 := Lib.hid hb
       clear h_d2 n_d2 hb C2)
    | (go_at_call 111; (with_reducible refine (C3.out _ _ _ (H_d1.out.below HB2.out) H_d2.out).mono ?_); rintro e W3 ⟨g, rfl, ⟨h_g, n_g⟩, hb⟩
       have H_g := Lib.hid h_g
       have N_g := Lib.hid n_g
       have HB3 := Lib.hid hb
       clear h_g n_g hb C3)
    | (go_at_call 101; (with_reducible refine (C4.out _ _ (((H_a.out.below HB1.out).below HB2.out).below HB3.out)).mono ?_); rintro e W4 ⟨d3, rfl, ⟨h_d3, n_d3⟩, hb⟩
       have H_d3 := Lib.hid h_d3
       have N_d3 := Lib.hid n_d3
       have HB4 := Lib.hid hb
       clear h_d3 n_d3 hb C4)
    | (go_at_call 112; (with_reducible refine (C5.out _ _ _ H_d3.out (H_g.out.below HB4.out)).mono ?_); rintro e W5 ⟨mine, rfl, ⟨h_mine, n_mine⟩, hb⟩
       have H_mine := Lib.hid h_mine
       have N_mine := Lib.hid n_mine
       have HB5 := Lib.hid hb
       clear h_mine n_mine hb C5)
    | (go_at_call 101; (with_reducible refine (C6.out _ _ (((((H_b.out.below HB1.out).below HB2.out).below HB3.out).below HB4.out).below HB5.out)).mono ?_); rintro e W6 ⟨d4, rfl, ⟨h_d4, n_d4⟩, hb⟩
       have H_d4 := Lib.hid h_d4
       have N_d4 := Lib.hid n_d4
       have HB6 := Lib.hid hb
       clear h_d4 n_d4 hb C6)
    | (go_at_call 112; (with_reducible refine (C7.out _ _ _ H_d4.out (((H_g.out.below HB4.out).below HB5.out).below HB6.out)).mono ?_); rintro e W7 ⟨other, rfl, ⟨h_other, n_other⟩, hb⟩
       have H_other := Lib.hid h_other
       have N_other := Lib.hid n_other
       have HB7 := Lib.hid hb
       clear h_other n_other hb C7)
    | (go_at_call 104; (with_reducible refine (C8.out _ _ (((((((H_a.out.below HB1.out).below HB2.out).below HB3.out).below HB4.out).below HB5.out).below HB6.out).below HB7.out)).mono ?_); rintro e W8 ⟨n1, rfl, ⟨h_n1, n_n1⟩, hb⟩
       have H_n1 := Lib.hid h_n1
       have N_n1 := Lib.hid n_n1
       have HB8 := Lib.hid hb
       clear h_n1 n_n1 hb C8)
    | (go_at_call 98; (with_reducible refine (C9.out _ _ _ H_n1.out (H_other.out.below HB8.out)).mono ?_); rintro e W9 ⟨m1, rfl, ⟨h_m1, n_m1⟩, hb⟩
       have H_m1 := Lib.hid h_m1
       have N_m1 := Lib.hid n_m1
       have HB9 := Lib.hid hb
       clear h_m1 n_m1 hb C9)
    | (go_at_call 104; (with_reducible refine (C10.out _ _ (((((((((H_b.out.below HB1.out).below HB2.out).below HB3.out).below HB4.out).below HB5.out).below HB6.out).below HB7.out).below HB8.out).below HB9.out)).mono ?_); rintro e W10 ⟨n2, rfl, ⟨h_n2, n_n2⟩, hb⟩
       have H_n2 := Lib.hid h_n2
       have N_n2 := Lib.hid n_n2
       have HB10 := Lib.hid hb
       clear h_n2 n_n2 hb C10)
    | (go_at_call 98; (with_reducible refine (C11.out _ _ _ H_n2.out (((((H_mine.out.below HB6.out).below HB7.out).below HB8.out).below HB9.out).below HB10.out)).mono ?_); rintro e W11 ⟨m2, rfl, ⟨h_m2, n_m2⟩, hb⟩
       have H_m2 := Lib.hid h_m2
       have N_m2 := Lib.hid n_m2
       have HB11 := Lib.hid hb
       clear h_m2 n_m2 hb C11)
    | (go_at_call 113; (with_reducible refine (C12.out _ _ _ ((H_m1.out.below HB10.out).below HB11.out) H_m2.out).mono ?_); rintro e W12 ⟨top, rfl, ⟨h_top, n_top⟩, hb⟩
       have H_top := Lib.hid h_top
       have N_top := Lib.hid n_top
       have HB12 := Lib.hid hb
       clear h_top n_top hb C12)
    | (go_at_call 111; (with_reducible refine (C13.out _ _ _ H_top.out (((((((((H_g.out.below HB4.out).below HB5.out).below HB6.out).below HB7.out).below HB8.out).below HB9.out).below HB10.out).below HB11.out).below HB12.out)).mono ?_); rintro e W13 ⟨left, rfl, ⟨h_left, n_left⟩, hb⟩
       have H_left := Lib.hid h_left
       have N_left := Lib.hid n_left
       have HB13 := Lib.hid hb
       clear h_left n_left hb C13)
    | (go_at_call 112; (with_reducible refine (C14.out _ _ _ (H_top.out.below HB13.out) H_left.out).mono ?_); rintro e W14 ⟨t, rfl, ⟨h_t, n_t⟩, hb⟩
       have H_t := Lib.hid h_t
       have N_t := Lib.hid n_t
       have HB14 := Lib.hid hb
       clear h_t n_t hb C14)
    | (go_at_call 101; (with_reducible refine (C15.out _ _ ((((((((((((((H_b.out.below HB1.out).below HB2.out).below HB3.out).below HB4.out).below HB5.out).below HB6.out).below HB7.out).below HB8.out).below HB9.out).below HB10.out).below HB11.out).below HB12.out).below HB13.out).below HB14.out)).mono ?_); rintro e W15 ⟨d5, rfl, ⟨h_d5, n_d5⟩, hb⟩
       have H_d5 := Lib.hid h_d5
       have N_d5 := Lib.hid n_d5
       have HB15 := Lib.hid hb
       clear h_d5 n_d5 hb C15)
    | (go_at_call 112; (with_reducible refine (C16.out _ _ _ H_d5.out ((H_left.out.below HB14.out).below HB15.out)).mono ?_); rintro e W16 ⟨under, rfl, ⟨h_under, n_under⟩, hb⟩
       have H_under := Lib.hid h_under
       have N_under := Lib.hid n_under
       have HB16 := Lib.hid hb
       clear h_under n_under hb C16)
    | (go_at_call 98; (with_reducible refine (C17.out _ _ _ (((((((((((H_mine.out.below HB6.out).below HB7.out).below HB8.out).below HB9.out).below HB10.out).below HB11.out).below HB12.out).below HB13.out).below HB14.out).below HB15.out).below HB16.out) H_under.out).mono ?_); rintro e W17 ⟨m3, rfl, ⟨h_m3, n_m3⟩, hb⟩
       have H_m3 := Lib.hid h_m3
       have N_m3 := Lib.hid n_m3
       have HB17 := Lib.hid hb
       clear h_m3 n_m3 hb C17)
    | (go_at_call 114; (with_reducible refine (C18.out _ _ _ (((H_t.out.below HB15.out).below HB16.out).below HB17.out) H_m3.out N_t.out N_m3.out).mono ?_); rintro e W18 ⟨u, rfl, ⟨h_u, n_u⟩, hb⟩
       have H_u := Lib.hid h_u
       have N_u := Lib.hid n_u
       have HB18 := Lib.hid hb
       clear h_u n_u hb C18)
    | (fail "no arm"))
  go_ret
  exact ⟨_, rfl, ⟨H_u.out, N_u.out⟩, (nat.below_tr (nat.below_tr (nat.below_tr (nat.below_tr (nat.below_tr (nat.below_tr (nat.below_tr (nat.below_tr (nat.below_tr (nat.below_tr (nat.below_tr (nat.below_tr (nat.below_tr (nat.below_tr (nat.below_tr (nat.below_tr (nat.below_tr HB1.out HB2.out) HB3.out) HB4.out) HB5.out) HB6.out) HB7.out) HB8.out) HB9.out) HB10.out) HB11.out) HB12.out) HB13.out) HB14.out) HB15.out) HB16.out) HB17.out) HB18.out)⟩
end Go.Proofs.YtlhmfgbaefaneaaGreatDoor.rat
namespace Go.Proofs.YtlhmfgbaefaneaaGreatDoor.day
open Go.Proofs.YtlhmfgbaefaneaaGreatDoor.ref (str pad pad_cons)
open Go.Proofs.YtlhmfgbaefaneaaGreatDoor.ref6 (dayText)
def Before (y m d y' m' d' : Int) : Prop := y < y' ∨ (y = y' ∧ (m < m' ∨ (m = m' ∧ d < d')))
instance (y m d y' m' d' : Int) : Decidable (Before y m d y' m' d') := by unfold Before; infer_instance
theorem Before.lt {y m d y' m' d' : Int} (h : IsCivil y m d) (h' : IsCivil y' m' d') (hb : Before y m d y' m' d') : dayOf y m d < dayOf y' m' d' := by
  rcases hb with hy | ⟨rfl, hm | ⟨rfl, hd⟩⟩
  · have a := dayOf_year h
    have b := dayOf_year h'
    have := ydays_mono (show (y - 1900).toNat + 1 ≤ (y' - 1900).toNat by have := h.1; omega)
    have e : ((y' - 1900).toNat : Int) - ((y - 1900).toNat + 1 : Nat) ≥ 0 := by have := h.1; omega
    omega
  · have a := dayOf_in h
    have b := dayOf_in h'
    have hm1 := h.month
    have := mdays_mono (y := y) (show m.toNat ≤ (m' - 1).toNat by omega)
    omega
  · unfold dayOf
    omega
end Go.Proofs.YtlhmfgbaefaneaaGreatDoor.day
