/-
  The steps of the walks, part 1: RefA.
-/
import Derived.BigQuiet
import Derived.Deep.QuietTactic
import Derived.Test.YtfpooimjjpamoaaGreatDoorS22
namespace Go.Proofs.YtfpooimjjpamoaaGreatDoor.ref
open Go.RowKit
def IsN (w : World) (sv : Value) (x : Nat) : Prop := Reads w sv (digs x)
theorem IsN.below {w w' : World} {sv : Value} {x : Nat} (h : IsN w sv x) (hb : Below w.heap.size w w') : IsN w' sv x := Reads.below h hb
theorem IsN.of {w : World} {sv : Value} {l : List Nat} (h : Reads w sv l) (hn : Norm l) : IsN w sv (val l) := by
  unfold IsN
  rw [← hn.eq_digs]
  exact h
theorem IsN.inj {w : World} {sv : Value} {x y : Nat} (h : IsN w sv x) (h' : IsN w sv y) : x = y := by
  have := congrArg val (Reads.inj h h')
  rwa [val_digs, val_digs] at this
theorem infoU64 : (Tryz.prog.info? 45).map (fun i => (i.zero, i.size, i.bytes)) = some (some (.int .u64 0), 1, 8) := by kernel_rfl
def size (x : Nat) : Nat := (digs x).length
def OfURel (w : World) (x : Nat) (xv n : Value) (wr : World) : Prop :=
  ∃ (y : Nat) (l : List Nat), xv = .int .u64 y ∧ y ≤ 18446744073709551615 ∧ wr.ownsRow w.heap.size 45 1 n l.length (l.map fun d => Value.int .u64 (d : Nat)) ∧ Below w.heap.size w wr ∧ Dig l ∧ val l + 1000000000 ^ l.length * y = x ∧ (y = 0 → Norm l) ∧ l.length ≤ 5
theorem len_two {x y n : Nat} (hx : x ≤ 18446744073709551615) (hy : 1 ≤ y) (h : 1000000000 ^ n * y ≤ x) : n ≤ 2 := by
  by_cases h3 : 3 ≤ n
  · have h1 : 1000000000 ^ 3 ≤ 1000000000 ^ n := Nat.pow_le_pow_right (by omega) h3
    have h2 := Nat.le_mul_of_pos_right (1000000000 ^ n) hy
    have h4 : (1000000000 : Nat) ^ 3 = 1000000000000000000000000000 := by decide
    omega
  · omega
set_option maxRecDepth 100000 in
set_option maxHeartbeats 1000000 in
theorem OfU_any (x : Nat) (hx : x ≤ 18446744073709551615) (w : World) :
    Calls Tryz.prog 48 #[.int .u64 x] w fun e w' => ∃ sv, e = .returned sv ∧ IsN w' sv x ∧ Below w.heap.size w w' := by
  obtain ⟨i0, hi0, hz0, hz1, hz2⟩ := info_parts infoU64
  have HX := Lib.hid hx
  clear hx
  go_enter Tryz.func48, Tryz.ntmps48
  go_wp2
  go_loopw [0, 3] (fun xv n wr => OfURel w x xv n wr) (fun xv _ _ => (intOf xv).toNat)
  case atStart => exact ⟨x, [], rfl, HX.out, World.ownsRow_nil _ _ _ _, Below.refl _ _, Dig.nil, by simp [val], fun _ => Norm.nil, by simp⟩
  case round =>
    obtain ⟨y, l, rfl, hy, hown, hbel, hdig, hval, hnorm, hlen⟩ := hrel
    have HV := Lib.hid hval
    have HD := Lib.hid hdig
    have HNm := Lib.hid hnorm
    have HO := Lib.hid hown
    have HB := Lib.hid hbel
    clear hval hdig hnorm hown hbel
    by_cases h0 : y = 0
    · subst h0
      go_wp2
      go_ret
      refine ⟨_, rfl, ?_, HB.out⟩
      have hv := HV.out
      rw [Nat.mul_zero, Nat.add_zero] at hv
      rw [← hv]
      exact IsN.of (Reads.of_own HO.out) (HNm.out trivial)
    · have hy1 : 1 ≤ y := by omega
      have hl2 : l.length ≤ 2 := len_two HX.out hy1 (by have := HV.out; omega)
      clear hlen
      go_wp2_with (at_builtin; refine wpList_append_own _ rfl _ _ 25 rfl w.heap.size 45 i0 (.int .u64 0) 1 8 Tryz.underlying25 hi0 hz0 hz1 hz2 rfl (by decide) _ _ _ rfl (HO.out.alloc _) ⟨wr.heap.size, 0, none⟩ 1 1 [.int .u64 ((y : Int) % 1000000000)] rfl rfl ?c1 ?c2 ?c3 ?c4 ?c5 ?_)
      case c1 =>
        intro j u hj
        match j, hj with
        | 0, hj =>
          simp at hj
          subst hj
          simp [Addr.add]
      case c2 => intro u hu; simp at hu; subst hu; rfl
      case c3 => unfold maxLen; omega
      case c4 => omega
      case c5 => have := HB.out.size; simp; omega
      intro v' w3 hown3 hg3 _
      have HO3 := Lib.hid hown3
      have HB3 := Lib.hid (show Below w.heap.size w w3 from (HB.out.alloc HB.out.size _).grown hg3 (by have := HB.out.size; simp; omega) (fun k hk => (HO.out.lt k hk).1))
      clear hown3 hg3
      go_wp2
      go_roundw
      case rel =>
        refine ⟨y / 1000000000, l ++ [y % 1000000000], by go_num, by omega, ?_, HB3.out, HD.out.append (Dig.cons (Nat.mod_lt _ (by omega)) Dig.nil), ?_, fun hq => norm_snoc HD.out (Nat.mod_lt _ (by omega)) (by omega), by simp; omega⟩
        · have h := HO3.out
          rw [List.length_append, List.map_append]
          simpa using h
        · rw [val_snoc, List.length_append, List.length_cons, List.length_nil, Nat.pow_succ, ← HV.out]
          have hm : 1000000000 ^ l.length * y = 1000000000 ^ l.length * (y % 1000000000) + 1000000000 ^ l.length * 1000000000 * (y / 1000000000) := by
            rw [Nat.mul_assoc, ← Nat.mul_add, Nat.mod_add_div]
          omega
      case measure => simp [intOf]; omega
theorem drewN_below {B : Nat} {a w : World} (h : Below B a w) (n : Nat) : Below B a (w.drewN n) := ⟨h.os, h.tape, h.output, h.size, h.block⟩
def cmpN (x y : Nat) : Int := if x < y then -1 else if x = y then 0 else 1
theorem digs_len_lt {x y : Nat} (h : (digs x).length < (digs y).length) : x < y := by
  have := Norm.short (norm_digs x) (norm_digs y) h
  rwa [val_digs, val_digs] at this
theorem digs_top {x y k : Nat} (hk : k < (digs x).length) (hl : (digs x).length = (digs y).length) (hup : (digs x).drop (k + 1) = (digs y).drop (k + 1)) (h : dg (digs x) k < dg (digs y) k) : x < y := by
  rw [dg_get hk, dg_get (by omega)] at h
  have := val_less (norm_digs x).1 k hk (by omega) hup h
  rwa [val_digs, val_digs] at this
theorem digs_same {x y : Nat} (h : digs x = digs y) : x = y := by
  have := congrArg val h
  rwa [val_digs, val_digs] at this
def CRel (x y N : Nat) (i : Value) : Prop := ∃ k : Nat, k ≤ N ∧ i = .int .i64 ((k : Int) - 1) ∧ (digs x).drop k = (digs y).drop k
set_option maxRecDepth 100000 in
set_option maxHeartbeats 4000000 in
theorem Cmp_any (a b : Value) (x y : Nat) (w : World) (ha : IsN w a x) (hb : IsN w b y) :
    Calls Tryz.prog 28 #[a, b] w fun e w' => e = .returned (.int .i64 (cmpN x y)) ∧ Below w.heap.size w w' := by
  obtain ⟨ao, acap, rfl, ⟨a1, -⟩, a2, a3⟩ := ha
  obtain ⟨bo, bcap, rfl, ⟨b1, -⟩, b2, b3⟩ := hb
  unfold maxLen at a2 b2
  generalize hN : (digs x).length = N at *
  generalize hM : (digs y).length = M at *
  have HN := Lib.hid hN
  have HM := Lib.hid hM
  clear hN hM
  by_cases hlt : N < M
  · have hr := Lib.hid (show cmpN x y = -1 from if_pos (digs_len_lt (by rw [HN.out, HM.out]; exact hlt)))
    go_enter Tryz.func28, Tryz.ntmps28
    go_wp2
    go_ret
    exact ⟨by rw [hr.out]; rfl, Below.refl _ _⟩
  · by_cases hgt : M < N
    · have h := digs_len_lt (x := y) (y := x) (by rw [HN.out, HM.out]; exact hgt)
      have hr := Lib.hid (show cmpN x y = 1 from by unfold cmpN; rw [if_neg (by omega), if_neg (by omega)])
      clear h
      go_enter Tryz.func28, Tryz.ntmps28
      go_wp2
      go_ret
      exact ⟨by rw [hr.out]; rfl, Below.refl _ _⟩
    · obtain rfl : M = N := by omega
      clear hlt hgt
      go_enter Tryz.func28, Tryz.ntmps28
      go_wp2
      go_loopw [5] (fun i wr => CRel x y M i ∧ Below w.heap.size w wr) (fun i _ => (intOf i + 1).toNat)
      case atStart => exact ⟨⟨M, Nat.le_refl _, rfl, by rw [List.drop_eq_nil_of_le (by rw [HN.out]; omega), List.drop_eq_nil_of_le (by rw [HM.out]; omega)]⟩, Below.refl _ _⟩
      case round =>
        obtain ⟨⟨k, hk, rfl, hup⟩, hbel⟩ := hrel
        have HU := Lib.hid hup
        have HB := Lib.hid hbel
        clear hup hbel
        by_cases h0 : k = 0
        · subst h0
          have hr := Lib.hid (show cmpN x y = 0 from by
            have := digs_same (show digs x = digs y from HU.out)
            unfold cmpN
            rw [if_neg (by omega), if_pos this])
          go_wp2
          go_ret
          exact ⟨by rw [hr.out]; rfl, HB.out⟩
        · have hx1 : digs x ≠ [] := by intro h; have := HN.out; rw [h] at this; simp at this; omega
          have hy1 : digs y ≠ [] := by intro h; have := HM.out; rw [h] at this; simp at this; omega
          obtain ⟨ga, rfl, ca⟩ := a3.resolve_left hx1
          obtain ⟨gb, rfl, cb⟩ := b3.resolve_left hy1
          have ca1 := (HB.out.cell (p := ⟨ga, k - 1, none⟩) (cell_lt (ca (k - 1) (by omega)))).trans (ca (k - 1) (by omega))
          have cb1 := (HB.out.cell (p := ⟨gb, k - 1, none⟩) (cell_lt (cb (k - 1) (by omega)))).trans (cb (k - 1) (by omega))
          have da := dg_lt (norm_digs x).1 (k - 1)
          have db := dg_lt (norm_digs y).1 (k - 1)
          have HT1 := Lib.hid (digs_top (x := x) (y := y) (k := k - 1) (by rw [HN.out]; omega) (by rw [HN.out, HM.out]) (by rw [show k - 1 + 1 = k by omega]; exact HU.out))
          have HT2 := Lib.hid (digs_top (x := y) (y := x) (k := k - 1) (by rw [HM.out]; omega) (by rw [HN.out, HM.out]) (by rw [show k - 1 + 1 = k by omega]; exact HU.out.symm))
          have HU2 := Lib.hid (show dg (digs x) (k - 1) = dg (digs y) (k - 1) → (digs x).drop (k - 1) = (digs y).drop (k - 1) from fun h => by
            rw [drop_dg _ _ (by rw [HN.out]; omega), drop_dg (digs y) _ (by rw [HM.out]; omega), h, show k - 1 + 1 = k by omega, HU.out])
          clear ca cb a3 b3 hx1 hy1
          generalize dg (digs x) (k - 1) = d at *
          generalize dg (digs y) (k - 1) = e at *
          have hk1 : 1 ≤ k := by omega
          by_cases hlt : d < e
          · have hr := Lib.hid (show cmpN x y = -1 from if_pos (HT1.out hlt))
            go_wp2
            go_quiet (fail)
            go_wp2
            go_ret
            exact ⟨by rw [hr.out]; rfl, drewN_below HB.out _⟩
          · by_cases hgt : e < d
            · have hr := Lib.hid (show cmpN x y = 1 from by
                have := HT2.out hgt
                unfold cmpN
                rw [if_neg (by omega), if_neg (by omega)])
              go_wp2
              go_quiet (fail)
              go_wp2
              go_quiet (fail)
              go_wp2
              go_ret
              exact ⟨by rw [hr.out]; rfl, drewN_below (drewN_below HB.out _) _⟩
            · obtain rfl : d = e := by omega
              clear hlt hgt
              go_wp2
              go_quiet (fail)
              go_wp2
              go_quiet (fail)
              go_wp2
              go_roundw
              case rel => exact ⟨⟨k - 1, by omega, by go_num, HU2.out trivial⟩, drewN_below HB.out _⟩
              case measure => simp [intOf]; omega
end Go.Proofs.YtfpooimjjpamoaaGreatDoor.ref
