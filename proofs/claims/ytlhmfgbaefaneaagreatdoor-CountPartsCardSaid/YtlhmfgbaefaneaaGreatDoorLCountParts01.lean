/-
  The steps of the walks, part 1: Nums, TextN, Law6Kit, Read, RefA, RefMul, RefSub, RefDiv.
-/
import Derived.Lib.ItoaNum
import Derived.Laws.BitsLemmas
import Derived.Test.YtlhmfgbaefaneaaGreatDoorProg
import Derived.WalkKit
import Derived.WalkSpells
import Derived.Lib.Hide
import Derived.OwnWalk
import Derived.Below
import Derived.Carry
import Derived.Outline
import Derived.BigQuiet
import Derived.Deep.QuietTactic
import Derived.Laws.MakeOwn
import Derived.Laws.AppendOwnNone
import Derived.RegionTactic
import Derived.BigRegion
import Derived.Test.YtlhmfgbaefaneaaGreatDoorB01
import Derived.Test.YtlhmfgbaefaneaaGreatDoorB02
import Derived.Test.YtlhmfgbaefaneaaGreatDoorB03
import Derived.Test.YtlhmfgbaefaneaaGreatDoorB04
import Derived.Test.YtlhmfgbaefaneaaGreatDoorB05
import Derived.Test.YtlhmfgbaefaneaaGreatDoorB06
import Derived.Test.YtlhmfgbaefaneaaGreatDoorB07
import Derived.Test.YtlhmfgbaefaneaaGreatDoorB08
import Derived.Test.YtlhmfgbaefaneaaGreatDoorB09
import Derived.Test.YtlhmfgbaefaneaaGreatDoorB10
import Derived.Test.YtlhmfgbaefaneaaGreatDoorB11
import Derived.Test.YtlhmfgbaefaneaaGreatDoorB12
import Derived.Test.YtlhmfgbaefaneaaGreatDoorB13
import Derived.Test.YtlhmfgbaefaneaaGreatDoorB14
import Derived.Test.YtlhmfgbaefaneaaGreatDoorB15
import Derived.Test.YtlhmfgbaefaneaaGreatDoorB16
import Derived.Test.YtlhmfgbaefaneaaGreatDoorB17
import Derived.Test.YtlhmfgbaefaneaaGreatDoorB18
import Derived.Test.YtlhmfgbaefaneaaGreatDoorB19
import Derived.Test.YtlhmfgbaefaneaaGreatDoorB20
import Derived.Test.YtlhmfgbaefaneaaGreatDoorB21
import Derived.Test.YtlhmfgbaefaneaaGreatDoorB22
namespace Go.Proofs.YtlhmfgbaefaneaaGreatDoor.ref
theorem norm_snoc {l : List Nat} {d : Nat} (h : Dig l) (hd : d < 1000000000) (h0 : d ≠ 0) : Norm (l ++ [d]) :=
  ⟨h.append (Dig.cons hd Dig.nil), by simp [h0]⟩
theorem val_less {a b : List Nat} (ha : Dig a) (k : Nat) (hka : k < a.length) (hkb : k < b.length) (hup : a.drop (k + 1) = b.drop (k + 1)) (h : a[k] < b[k]) : val a < val b := by
  rw [val_at a k hka, val_at b k hkb, hup]
  have h1 := val_lt (ha.take k)
  rw [List.length_take, Nat.min_eq_left (by omega)] at h1
  have h2 : 1000000000 ^ k * (a[k] + 1000000000 * val (b.drop (k + 1))) + 1000000000 ^ k ≤ 1000000000 ^ k * (b[k] + 1000000000 * val (b.drop (k + 1))) := by
    rw [← Nat.mul_succ]
    exact Nat.mul_le_mul_left _ (by omega)
  omega
theorem drop_nought {l : List Nat} (k : Nat) (hk : k < l.length) (h : k + 1 = l.length) (h0 : l[k] = 0) : val (l.take k) = val l := by
  rw [val_at l k hk, h0, List.drop_eq_nil_of_le (by omega)]
  simp [val]
theorem dg_take {l : List Nat} {k n : Nat} (h : k < n) : dg (l.take n) k = dg l k := by simp [dg, h]
theorem drop_dg (l : List Nat) (k : Nat) (hk : k < l.length) : l.drop k = dg l k :: l.drop (k + 1) := by rw [dg_get hk, List.drop_eq_getElem_cons hk]
theorem norm_top {l : List Nat} (h : Norm l) (hl : 0 < l.length) : dg l (l.length - 1) ≠ 0 := fun h0 => h.2 (by
  rw [List.getLast?_eq_getElem?, List.getElem?_eq_getElem (by omega), ← dg_get (by omega), h0])
theorem norm_of_top {l : List Nat} (h : Dig l) (ht : 0 < l.length → dg l (l.length - 1) ≠ 0) : Norm l := ⟨h, fun hl => by
  by_cases hn : 0 < l.length
  · rw [List.getLast?_eq_getElem?, List.getElem?_eq_getElem (by omega), ← dg_get (by omega)] at hl
    exact ht hn (by simpa using hl)
  · obtain rfl := List.eq_nil_of_length_eq_zero (show l.length = 0 by omega)
    simp at hl⟩
theorem drop_nought' {l : List Nat} (N : Nat) (h : l.length = N) (hN : 1 ≤ N) (h0 : dg l (N - 1) = 0) : val (l.take (N - 1)) = val l :=
  drop_nought (N - 1) (by omega) (by omega) (by rw [← dg_get (by omega)]; exact h0)
theorem val_zeros (n : Nat) : val (List.replicate n 0) = 0 := by
  induction n with
  | zero => rfl
  | succ n ih => simp [List.replicate_succ, val, ih]
theorem dig_zeros (n : Nat) : Dig (List.replicate n 0) := fun x hx => by rw [(List.mem_replicate.1 hx).2]; omega
theorem dg_zeros (n k : Nat) : dg (List.replicate n 0) k = 0 := by
  unfold dg
  rw [List.getD_eq_getElem?_getD, List.getElem?_replicate]
  split <;> rfl
theorem sub_plain {o b : List Nat} {i X : Nat} (hi : i < o.length) (h : val o + val (b.take i) = X) (hle : dg b i ≤ dg o i) : val (o.set i (dg o i - dg b i)) + val (b.take (i + 1)) = X := by
  have h1 := val_set (d := dg o i - dg b i) hi
  rw [val_take_succ]
  have h2 : 1000000000 ^ i * dg o i = 1000000000 ^ i * (dg o i - dg b i) + 1000000000 ^ i * dg b i := by
    rw [← Nat.mul_add, Nat.sub_add_cancel hle]
  omega
theorem sub_borrow {o b : List Nat} {i V : Nat} (hi : i < o.length) (h : val o = V) (hb : dg b i < 1000000000) : val (o.set i (dg o i + (1000000000 - dg b i))) + 1000000000 ^ i * dg b i = V + 1000000000 ^ (i + 1) := by
  have h1 := val_set (d := dg o i + (1000000000 - dg b i)) hi
  have h2 : 1000000000 ^ i * (dg o i + (1000000000 - dg b i)) + 1000000000 ^ i * dg b i = 1000000000 ^ i * dg o i + 1000000000 ^ (i + 1) := by
    rw [← Nat.mul_add, Nat.pow_succ, ← Nat.mul_add]
    congr 1
    omega
  omega
theorem sub_nought {o : List Nat} {k V D : Nat} (hk : k < o.length) (h : val o + D = V + 1000000000 ^ k) (h0 : dg o k = 0) : val (o.set k 999999999) + D = V + 1000000000 ^ (k + 1) := by
  have h1 := val_set (d := 999999999) hk
  rw [h0, Nat.mul_zero] at h1
  rw [Nat.pow_succ]
  omega
theorem sub_last {o : List Nat} {k V D : Nat} (hk : k < o.length) (h : val o + D = V + 1000000000 ^ k) (h0 : dg o k ≠ 0) : val (o.set k (dg o k - 1)) + D = V := by
  have h1 := val_set (d := dg o k - 1) hk
  have h2 : 1000000000 ^ k * dg o k = 1000000000 ^ k * (dg o k - 1) + 1000000000 ^ k := by
    rw [← Nat.mul_succ]
    congr 1
    omega
  omega
theorem sub_within {o : List Nat} {k V D : Nat} (hd : Dig o) (h : val o + D = V + 1000000000 ^ k) (hV : D ≤ V) : k < o.length := by
  have h1 := val_lt hd
  by_cases hk : k < o.length
  · exact hk
  · have h2 : 1000000000 ^ o.length ≤ 1000000000 ^ k := Nat.pow_le_pow_right (by omega) (by omega)
    omega
end Go.Proofs.YtlhmfgbaefaneaaGreatDoor.ref
namespace Go.Proofs.YtlhmfgbaefaneaaGreatDoor.ref
theorem pow_nine (i : Nat) : 1000000000 ^ i = 10 ^ (9 * i) := by
  rw [Nat.pow_mul]
end Go.Proofs.YtlhmfgbaefaneaaGreatDoor.ref
namespace Go.Proofs.YtlhmfgbaefaneaaGreatDoor.law6
open Go Go.RowKit Go.Proofs.YtlhmfgbaefaneaaGreatDoor.day Go.Proofs.YtlhmfgbaefaneaaGreatDoor.date
open Go.Proofs.YtlhmfgbaefaneaaGreatDoor.ref (str str_size)
open Go.Proofs.YtlhmfgbaefaneaaGreatDoor.ref6 (CAt dayText DayForm quiet_same drewN_below6)
open Go.Proofs.YtlhmfgbaefaneaaGreatDoor.itoa (Tab)
theorem and7 (n : Int) : bits .and .i64 n 7 = n % 8 := by
  have hm : (BitVec.ofInt 64 7).toNat = 2 ^ 3 - 1 := by decide
  have key : (BitVec.ofInt 64 n &&& BitVec.ofInt 64 7).toNat = (n % ((2 ^ 64 : Nat) : Int)).toNat % 2 ^ 3 := by
    rw [BitVec.toNat_and, BitVec.toNat_ofInt, hm, Nat.and_two_pow_sub_one_eq_mod]
  show IntKind.i64.wrap ((BitVec.ofInt 64 n &&& BitVec.ofInt 64 7).toNat : Nat) = n % 8
  rw [key, IntKind.wrap_i64]
  omega
theorem and511 (n : Int) : bits .and .i64 n 511 = n % 512 := by
  have hm : (BitVec.ofInt 64 511).toNat = 2 ^ 9 - 1 := by decide
  have key : (BitVec.ofInt 64 n &&& BitVec.ofInt 64 511).toNat = (n % ((2 ^ 64 : Nat) : Int)).toNat % 2 ^ 9 := by
    rw [BitVec.toNat_and, BitVec.toNat_ofInt, hm, Nat.and_two_pow_sub_one_eq_mod]
  show IntKind.i64.wrap ((BitVec.ofInt 64 n &&& BitVec.ofInt 64 511).toNat : Nat) = n % 512
  rw [key, IntKind.wrap_i64]
  omega
end Go.Proofs.YtlhmfgbaefaneaaGreatDoor.law6
namespace Go.Proofs.YtlhmfgbaefaneaaGreatDoor.ref
open Go.RowKit
theorem Reads.of_own {w : World} {base : Nat} {sv : Value} {l : List Nat} (h : w.ownsRow base 104 1 sv l.length (l.map fun d => Value.int .u64 (d : Nat))) : Reads w sv l := by
  rcases h.2 with ⟨rfl, hl⟩ | ⟨g, cap, cur, rfl, _, _, hnc, hcm, _, _⟩
  · exact ⟨none, 0, by rw [hl], ⟨by omega, fun _ => rfl⟩, Nat.zero_le _, Or.inl (List.eq_nil_of_length_eq_zero hl)⟩
  · refine ⟨some ⟨g, 0, none⟩, cap, rfl, ⟨hnc, fun h => by cases h⟩, hcm, Or.inr ⟨g, rfl, fun k hk => ?_⟩⟩
    rw [h.cellAt k (by omega)]
    exact dg_map hk _
def lenOf : Value → Nat
  | .slice _ n _ => n
  | _ => 0
set_option maxRecDepth 100000 in
set_option maxHeartbeats 1000000 in
theorem trim_at (ao : Option Addr) (cap : Nat) (l : List Nat) (w : World) (h : Reads w (.slice ao l.length cap) l) (hd : Dig l) :
    Calls Tryz.prog 174 #[.slice ao l.length cap] w fun e w' => ∃ l', e = .returned (.slice ao l'.length cap) ∧ Reads w (.slice ao l'.length cap) l' ∧ Norm l' ∧ val l' = val l ∧ w = w' := by
  have H := Lib.hid h
  have HD := Lib.hid hd
  clear h hd
  go_enter Tryz.func174, Tryz.ntmps174
  go_wp2
  go_loopw [0] (fun n wr => w = wr ∧ ∃ l', n = .slice ao l'.length cap ∧ Reads w n l' ∧ Dig l' ∧ val l' = val l) (fun n _ => lenOf n)
  case atStart => exact ⟨rfl, l, rfl, H.out, HD.out, rfl⟩
  case round =>
    obtain ⟨rfl, l', rfl, hr, hdl, hv⟩ := hrel
    have HR := Lib.hid hr
    obtain ⟨ao', cap', he, ⟨h1, h4⟩, h2, h3⟩ := hr
    simp only [Value.slice.injEq, true_and] at he
    obtain ⟨rfl, rfl⟩ := he
    have HV := Lib.hid hv
    have HDl := Lib.hid hdl
    have H4 := Lib.hid h4
    clear hv hdl H h4
    unfold maxLen at h2
    rcases h3 with rfl | ⟨g, rfl, hc⟩
    · simp only [List.length_nil] at *
      go_wp2
      go_ret
      exact ⟨[], rfl, HR.out, Norm.nil, HV.out, rfl⟩
    · generalize hlen : l'.length = N at *
      by_cases hN : N = 0
      · subst hN
        obtain rfl := List.eq_nil_of_length_eq_zero hlen
        clear hlen
        go_wp2
        go_ret
        exact ⟨[], rfl, HR.out, Norm.nil, HV.out, rfl⟩
      · have hN1 : 1 ≤ N := by omega
        have hc1 := hc (N - 1) (by omega)
        have hd := dg_lt HDl.out (N - 1)
        have HLn := Lib.hid hlen
        have HCs := Lib.hid hc
        generalize hdd : dg l' (N - 1) = d at hc1 hd
        have HDD := Lib.hid hdd
        clear hdd hlen hc
        by_cases h0 : d = 0
        · subst h0
          go_wp2
          go_roundw
          case rel =>
            have hv2 := drop_nought' N HLn.out hN1 HDD.out
            have ht : (l'.take (N - 1)).length = N - 1 := by rw [List.length_take, HLn.out, Nat.min_eq_left (by omega)]
            refine ⟨trivial, l'.take (N - 1), by rw [ht], ⟨some ⟨g, 0, none⟩, cap, by rw [ht], ⟨by rw [ht]; omega, H4.out⟩, by unfold maxLen; omega, Or.inr ⟨g, rfl, fun k hk => ?_⟩⟩, HDl.out.take _, by rw [hv2]; exact HV.out⟩
            rw [ht] at hk
            rw [HCs.out k (by omega), dg_take (by omega)]
          case measure => simp [lenOf]; omega
        · have hb : ((d : Int) == 0) = false := by simp; omega
          go_wp2
          go_ret
          exact ⟨l', by rw [HLn.out]; rfl, by rw [HLn.out]; exact HR.out, norm_of_top HDl.out (fun _ => by rw [HLn.out, HDD.out]; exact h0), HV.out, rfl⟩
theorem trim_any (sv : Value) (l : List Nat) (w : World) (h : Reads w sv l) (hd : Dig l) :
    Calls Tryz.prog 174 #[sv] w fun e w' => ∃ sv' l', e = .returned sv' ∧ Reads w sv' l' ∧ Norm l' ∧ val l' = val l ∧ w = w' := by
  have h' := h
  obtain ⟨ao, cap, rfl, _⟩ := h'
  exact (trim_at ao cap l w h hd).mono fun _ _ ⟨l', he, hr, hn, hv, hw⟩ => ⟨_, l', he, hr, hn, hv, hw⟩
end Go.Proofs.YtlhmfgbaefaneaaGreatDoor.ref
namespace Go.Proofs.YtlhmfgbaefaneaaGreatDoor.ref
open Go.RowKit
theorem infoU64 : (Tryz.prog.info? 104).map (fun i => (i.zero, i.size, i.bytes)) = some (some (.int .u64 0), 1, 8) := by kernel_rfl
def size (x : Nat) : Nat := (digs x).length
def OfURel (w : World) (x : Nat) (xv n : Value) (wr : World) : Prop :=
  ∃ (y : Nat) (l : List Nat), xv = .int .u64 y ∧ y ≤ 18446744073709551615 ∧ wr.ownsRow w.heap.size 104 1 n l.length (l.map fun d => Value.int .u64 (d : Nat)) ∧ Below w.heap.size w wr ∧ Dig l ∧ val l + 1000000000 ^ l.length * y = x ∧ (y = 0 → Norm l) ∧ l.length ≤ 5
theorem len_two {x y n : Nat} (hx : x ≤ 18446744073709551615) (hy : 1 ≤ y) (h : 1000000000 ^ n * y ≤ x) : n ≤ 2 := by
  by_cases h3 : 3 ≤ n
  · have h1 : 1000000000 ^ 3 ≤ 1000000000 ^ n := Nat.pow_le_pow_right (by omega) h3
    have h2 := Nat.le_mul_of_pos_right (1000000000 ^ n) hy
    have h4 : (1000000000 : Nat) ^ 3 = 1000000000000000000000000000 := by decide
    omega
  · omega
set_option maxRecDepth 100000 in
set_option maxHeartbeats 1000000 in
theorem OfU_any (x : Nat) (hx : x ≤ 18446744073709551615) (w : World) :
    Calls Tryz.prog 108 #[.int .u64 x] w fun e w' => ∃ sv, e = .returned sv ∧ IsN w' sv x ∧ Below w.heap.size w w' := by
  obtain ⟨i0, hi0, hz0, hz1, hz2⟩ := info_parts infoU64
  have HX := Lib.hid hx
  clear hx
  go_enter Tryz.func108, Tryz.ntmps108
  go_wp2
  go_loopw [0, 3] (fun xv n wr => OfURel w x xv n wr) (fun xv _ _ => (intOf xv).toNat)
  case atStart => exact ⟨x, [], rfl, HX.out, World.ownsRow_nil _ _ _ _, Below.refl _ _, Dig.nil, by simp [val], fun _ => Norm.nil, by simp⟩
  case round =>
    obtain ⟨y, l, rfl, hy, hown, hbel, hdig, hval, hnorm, hlen⟩ := hrel
    have HV := Lib.hid hval
    have HD := Lib.hid hdig
    have HNm := Lib.hid hnorm
    have HO := Lib.hid hown
    have HB := Lib.hid hbel
    clear hval hdig hnorm hown hbel
    by_cases h0 : y = 0
    · subst h0
      go_wp2
      go_ret
      refine ⟨_, rfl, ?_, HB.out⟩
      have hv := HV.out
      rw [Nat.mul_zero, Nat.add_zero] at hv
      rw [← hv]
      exact IsN.of (Reads.of_own HO.out) (HNm.out trivial)
    · have hy1 : 1 ≤ y := by omega
      have hl2 : l.length ≤ 2 := len_two HX.out hy1 (by have := HV.out; omega)
      clear hlen
      go_wp2_with (at_builtin; refine wpList_append_own _ rfl _ _ 79 rfl w.heap.size 104 i0 (.int .u64 0) 1 8 Tryz.underlying79 hi0 hz0 hz1 hz2 rfl (by decide) _ _ _ rfl (HO.out.alloc _) ⟨wr.heap.size, 0, none⟩ 1 1 [.int .u64 ((y : Int) % 1000000000)] rfl rfl ?c1 ?c2 ?c3 ?c4 ?c5 ?_)
      case c1 =>
        intro j u hj
        match j, hj with
        | 0, hj =>
          simp at hj
          subst hj
          simp [Addr.add]
      case c2 => intro u hu; simp at hu; subst hu; rfl
      case c3 => unfold maxLen; omega
      case c4 => omega
      case c5 => have := HB.out.size; simp; omega
      intro v' w3 hown3 hg3 _
      have HO3 := Lib.hid hown3
      have HB3 := Lib.hid (show Below w.heap.size w w3 from (HB.out.alloc HB.out.size _).grown hg3 (by have := HB.out.size; simp; omega) (fun k hk => (HO.out.lt k hk).1))
      clear hown3 hg3
      go_wp2
      go_roundw
      case rel =>
        refine ⟨y / 1000000000, l ++ [y % 1000000000], by go_num, by omega, ?_, HB3.out, HD.out.append (Dig.cons (Nat.mod_lt _ (by omega)) Dig.nil), ?_, fun hq => norm_snoc HD.out (Nat.mod_lt _ (by omega)) (by omega), by simp; omega⟩
        · have h := HO3.out
          rw [List.length_append, List.map_append]
          simpa using h
        · rw [val_snoc, List.length_append, List.length_cons, List.length_nil, Nat.pow_succ, ← HV.out]
          have hm : 1000000000 ^ l.length * y = 1000000000 ^ l.length * (y % 1000000000) + 1000000000 ^ l.length * 1000000000 * (y / 1000000000) := by
            rw [Nat.mul_assoc, ← Nat.mul_add, Nat.mod_add_div]
          omega
      case measure => simp [intOf]; omega
theorem drewN_below {B : Nat} {a w : World} (h : Below B a w) (n : Nat) : Below B a (w.drewN n) := ⟨h.os, h.tape, h.output, h.size, h.block⟩
theorem digs_len_lt {x y : Nat} (h : (digs x).length < (digs y).length) : x < y := by
  have := Norm.short (norm_digs x) (norm_digs y) h
  rwa [val_digs, val_digs] at this
theorem digs_top {x y k : Nat} (hk : k < (digs x).length) (hl : (digs x).length = (digs y).length) (hup : (digs x).drop (k + 1) = (digs y).drop (k + 1)) (h : dg (digs x) k < dg (digs y) k) : x < y := by
  rw [dg_get hk, dg_get (by omega)] at h
  have := val_less (norm_digs x).1 k hk (by omega) hup h
  rwa [val_digs, val_digs] at this
theorem digs_same {x y : Nat} (h : digs x = digs y) : x = y := by
  have := congrArg val h
  rwa [val_digs, val_digs] at this
def CRel (x y N : Nat) (i : Value) : Prop := ∃ k : Nat, k ≤ N ∧ i = .int .i64 ((k : Int) - 1) ∧ (digs x).drop k = (digs y).drop k
set_option maxRecDepth 100000 in
set_option maxHeartbeats 4000000 in
theorem Cmp_any (a b : Value) (x y : Nat) (w : World) (ha : IsN w a x) (hb : IsN w b y) :
    Calls Tryz.prog 107 #[a, b] w fun e w' => e = .returned (.int .i64 (cmpN x y)) ∧ Below w.heap.size w w' := by
  obtain ⟨ao, acap, rfl, ⟨a1, -⟩, a2, a3⟩ := ha
  obtain ⟨bo, bcap, rfl, ⟨b1, -⟩, b2, b3⟩ := hb
  unfold maxLen at a2 b2
  generalize hN : (digs x).length = N at *
  generalize hM : (digs y).length = M at *
  have HN := Lib.hid hN
  have HM := Lib.hid hM
  clear hN hM
  by_cases hlt : N < M
  · have hr := Lib.hid (show cmpN x y = -1 from if_pos (digs_len_lt (by rw [HN.out, HM.out]; exact hlt)))
    go_enter Tryz.func107, Tryz.ntmps107
    go_wp2
    go_ret
    exact ⟨by rw [hr.out]; rfl, Below.refl _ _⟩
  · by_cases hgt : M < N
    · have h := digs_len_lt (x := y) (y := x) (by rw [HN.out, HM.out]; exact hgt)
      have hr := Lib.hid (show cmpN x y = 1 from by unfold cmpN; rw [if_neg (by omega), if_neg (by omega)])
      clear h
      go_enter Tryz.func107, Tryz.ntmps107
      go_wp2
      go_ret
      exact ⟨by rw [hr.out]; rfl, Below.refl _ _⟩
    · obtain rfl : M = N := by omega
      clear hlt hgt
      go_enter Tryz.func107, Tryz.ntmps107
      go_wp2
      go_loopw [5] (fun i wr => CRel x y M i ∧ Below w.heap.size w wr) (fun i _ => (intOf i + 1).toNat)
      case atStart => exact ⟨⟨M, Nat.le_refl _, rfl, by rw [List.drop_eq_nil_of_le (by rw [HN.out]; omega), List.drop_eq_nil_of_le (by rw [HM.out]; omega)]⟩, Below.refl _ _⟩
      case round =>
        obtain ⟨⟨k, hk, rfl, hup⟩, hbel⟩ := hrel
        have HU := Lib.hid hup
        have HB := Lib.hid hbel
        clear hup hbel
        by_cases h0 : k = 0
        · subst h0
          have hr := Lib.hid (show cmpN x y = 0 from by
            have := digs_same (show digs x = digs y from HU.out)
            unfold cmpN
            rw [if_neg (by omega), if_pos this])
          go_wp2
          go_ret
          exact ⟨by rw [hr.out]; rfl, HB.out⟩
        · have hx1 : digs x ≠ [] := by intro h; have := HN.out; rw [h] at this; simp at this; omega
          have hy1 : digs y ≠ [] := by intro h; have := HM.out; rw [h] at this; simp at this; omega
          obtain ⟨ga, rfl, ca⟩ := a3.resolve_left hx1
          obtain ⟨gb, rfl, cb⟩ := b3.resolve_left hy1
          have ca1 := (HB.out.cell (p := ⟨ga, k - 1, none⟩) (cell_lt (ca (k - 1) (by omega)))).trans (ca (k - 1) (by omega))
          have cb1 := (HB.out.cell (p := ⟨gb, k - 1, none⟩) (cell_lt (cb (k - 1) (by omega)))).trans (cb (k - 1) (by omega))
          have da := dg_lt (norm_digs x).1 (k - 1)
          have db := dg_lt (norm_digs y).1 (k - 1)
          have HT1 := Lib.hid (digs_top (x := x) (y := y) (k := k - 1) (by rw [HN.out]; omega) (by rw [HN.out, HM.out]) (by rw [show k - 1 + 1 = k by omega]; exact HU.out))
          have HT2 := Lib.hid (digs_top (x := y) (y := x) (k := k - 1) (by rw [HM.out]; omega) (by rw [HN.out, HM.out]) (by rw [show k - 1 + 1 = k by omega]; exact HU.out.symm))
          have HU2 := Lib.hid (show dg (digs x) (k - 1) = dg (digs y) (k - 1) → (digs x).drop (k - 1) = (digs y).drop (k - 1) from fun h => by
            rw [drop_dg _ _ (by rw [HN.out]; omega), drop_dg (digs y) _ (by rw [HM.out]; omega), h, show k - 1 + 1 = k by omega, HU.out])
          clear ca cb a3 b3 hx1 hy1
          generalize dg (digs x) (k - 1) = d at *
          generalize dg (digs y) (k - 1) = e at *
          have hk1 : 1 ≤ k := by omega
          by_cases hlt : d < e
          · have hr := Lib.hid (show cmpN x y = -1 from if_pos (HT1.out hlt))
            go_wp2
            go_quiet (fail)
            go_wp2
            go_ret
            exact ⟨by rw [hr.out]; rfl, drewN_below HB.out _⟩
          · by_cases hgt : e < d
            · have hr := Lib.hid (show cmpN x y = 1 from by
                have := HT2.out hgt
                unfold cmpN
                rw [if_neg (by omega), if_neg (by omega)])
              go_wp2
              go_quiet (fail)
              go_wp2
              go_quiet (fail)
              go_wp2
              go_ret
              exact ⟨by rw [hr.out]; rfl, drewN_below (drewN_below HB.out _) _⟩
            · obtain rfl : d = e := by omega
              clear hlt hgt
              go_wp2
              go_quiet (fail)
              go_wp2
              go_quiet (fail)
              go_wp2
              go_roundw
              case rel => exact ⟨⟨k - 1, by omega, by go_num, HU2.out trivial⟩, drewN_below HB.out _⟩
              case measure => simp [intOf]; omega
end Go.Proofs.YtlhmfgbaefaneaaGreatDoor.ref
namespace Go.Proofs.YtlhmfgbaefaneaaGreatDoor.ref
open Go.RowKit
theorem Own.reads {w : World} {base g cap : Nat} {o : List Nat} (h : Own w base g cap o) : Reads w (.slice (some ⟨g, 0, none⟩) o.length cap) o := Reads.of_own h
theorem own_made (w : World) (n : Nat) (hn : n ≤ maxLen) : Own (w.alloc (.cells (madeCells #[Value.int .u64 0] (n * 1)) 104)) w.heap.size w.heap.size n (List.replicate n 0) := by
  unfold Own
  have h := World.ownsRow_lit (base := w.heap.size) (e := 104) (size := 1) w (madeCells #[Value.int .u64 0] (n * 1)) n (Nat.le_refl _) hn (by rw [size_madeCells])
  have e : (madeCells #[Value.int .u64 0] (n * 1)).toList = (List.replicate n 0).map fun d : Nat => Value.int .u64 (d : Nat) := by
    apply List.ext_getElem
    · simp [madeCells]
    · intro k h1 h2
      simp [madeCells, Nat.mod_one]
  rw [e] at h
  simpa using h
set_option maxRecDepth 100000 in
set_option maxHeartbeats 4000000 in
theorem Mul_none (a b : Value) (x y : Nat) (w : World) (ha : IsN w a x) (hb : IsN w b y) (h : digs x = [] ∨ digs y = []) :
    Calls Tryz.prog 177 #[a, b] w fun e w' => ∃ sv, e = .returned sv ∧ IsN w' sv (x * y) ∧ Below w.heap.size w w' := by
  obtain ⟨ao, acap, rfl, ⟨a1, -⟩, a2, a3⟩ := ha
  obtain ⟨bo, bcap, rfl, ⟨b1, -⟩, b2, b3⟩ := hb
  have hz := Lib.hid (show IsN w (.slice none 0 0) (x * y) from by
    have h0 : x * y = 0 := by
      rcases h with h | h
      · have := congrArg val h
        rw [val_digs] at this
        rw [show x = 0 from this, Nat.zero_mul]
      · have := congrArg val h
        rw [val_digs] at this
        rw [show y = 0 from this, Nat.mul_zero]
    rw [h0]
    unfold IsN
    rw [digs_zero]
    exact ⟨none, 0, rfl, ⟨Nat.le_refl _, fun _ => rfl⟩, Nat.zero_le _, Or.inl rfl⟩)
  rcases h with h | h
  · have hl : (digs x).length = 0 := by rw [h]; rfl
    rw [hl]
    go_enter Tryz.func177, Tryz.ntmps177
    go_wp2
    go_ret
    exact ⟨_, rfl, hz.out, Below.refl _ _⟩
  · have hl : (digs y).length = 0 := by rw [h]; rfl
    rw [hl]
    generalize (digs x).length = na at *
    by_cases h0 : na = 0
    · subst h0
      go_enter Tryz.func177, Tryz.ntmps177
      go_wp2
      go_ret
      exact ⟨_, rfl, hz.out, Below.refl _ _⟩
    · have h1 : ((na : Int) == 0) = false := by simp; omega
      go_enter Tryz.func177, Tryz.ntmps177
      go_wp2
      go_ret
      exact ⟨_, rfl, hz.out, Below.refl _ _⟩
set_option maxRecDepth 100000 in
set_option maxHeartbeats 8000000 in
theorem Mul_some (a b : Value) (x y : Nat) (w : World) (ha : IsN w a x) (hb : IsN w b y) (hx : (digs x).length ≤ 100000) (hy : (digs y).length ≤ 100000) (hx0 : digs x ≠ []) (hy0 : digs y ≠ []) :
    Calls Tryz.prog 177 #[a, b] w fun e w' => ∃ sv, e = .returned sv ∧ IsN w' sv (x * y) ∧ Below w.heap.size w w' := by
  obtain ⟨i0, hi0, hz0, hz1, hz2⟩ := info_parts infoU64
  obtain ⟨ao, acap, rfl, ⟨a1, -⟩, a2, a3⟩ := ha
  obtain ⟨bo, bcap, rfl, ⟨b1, -⟩, b2, b3⟩ := hb
  obtain ⟨ga, rfl, ca⟩ := a3.resolve_left hx0
  obtain ⟨gb, rfl, cb⟩ := b3.resolve_left hy0
  unfold maxLen at a2 b2
  have hna0 : 0 < (digs x).length := List.length_pos_iff.2 hx0
  have hnb0 : 0 < (digs y).length := List.length_pos_iff.2 hy0
  generalize hN : (digs x).length = na at *
  generalize hM : (digs y).length = nb at *
  have HN := Lib.hid hN
  have HM := Lib.hid hM
  have HCA := Lib.hid ca
  have HCB := Lib.hid cb
  obtain ⟨W1, hmk, HO1, HB1⟩ : ∃ W1, (Instr.makeSlice 79 (.int .i64 ((na : Int) + nb)) (.int .i64 ((na : Int) + nb))).run Tryz.prog w = .ok (.slice (some ⟨w.heap.size, 0, none⟩) (na + nb) (na + nb)) W1 ∧
      Hid (Own W1 w.heap.size w.heap.size (na + nb) (List.replicate (na + nb) 0)) ∧ Hid (Below w.heap.size w W1) := by
    refine ⟨_, ?_, own_made w (na + nb) (by unfold maxLen; omega), (Below.refl _ _).alloc (Nat.le_refl _) _⟩
    have h := run_make (P := Tryz.prog) w 79 104 i0 (.int .u64 0) Tryz.underlying79 hi0 hz0 .i64 .i64 ((na : Int) + nb) ((na : Int) + nb) (by omega) (by omega) (by rw [hz2]; omega) (by omega)
    rw [show ((na : Int) + nb).toNat = na + nb by omega, hz1] at h
    exact h
  have p1 : ((na : Int) == 0) = false := by simp; omega
  have p2 : ((nb : Int) == 0) = false := by simp; omega
  clear hN hM ca cb hx0 hy0 a3 b3 hi0 hz0 hz1 hz2
  go_enter Tryz.func177, Tryz.ntmps177
  go_wp2
  go_loopw [6] (fun iv wr => ∃ i : Nat, i ≤ na ∧ iv = .int .i64 i ∧ MRel w x y (na + nb) w.heap.size (na + nb) i wr) (fun iv _ => na - (intOf iv).toNat)
  case atStart => exact ⟨0, Nat.zero_le _, rfl, _, by simp, HO1.out, HB1.out, dig_zeros _, by rw [val_zeros]; simp [val], fun j _ => dg_zeros _ _⟩
  case round =>
    obtain ⟨i, hi, rfl, hrel⟩ := hrel
    have HR := Lib.hid hrel
    clear hrel hmk
    by_cases hlt : i < na
    · obtain ⟨wo, rfl⟩ : ∃ wo : World, wo = wr := ⟨_, rfl⟩
      go_wp2
      go_loopw [7, 8] (fun cv kv wi => ∃ k c : Nat, kv = .int .i64 k ∧ cv = .int .u64 c ∧ MIn w x y (na + nb) w.heap.size (na + nb) i k c wi) (fun _ kv _ => nb + 2 - (intOf kv).toNat)
      case atStart =>
        obtain ⟨o, hl, hO, hB, hD, hv, hz⟩ := HR.out
        exact ⟨0, 0, rfl, rfl, o, hl, hO, hB, hD, by rw [hv]; simp [val], fun j h _ => hz j h, by omega, Or.inl (Nat.zero_le _)⟩
      case round =>
        obtain ⟨k, c, rfl, rfl, hin⟩ := hrel
        have HI := Lib.hid hin
        obtain ⟨o, hl, hO, hB, hD, hv, hz, hc, hj⟩ := hin
        have hk2 : k ≤ nb + 1 := by have := HM.out; omega
        have HO := Lib.hid hO
        have HBl := Lib.hid hB
        have HD := Lib.hid hD
        have HV := Lib.hid hv
        have HZ := Lib.hid hz
        have HJ := Lib.hid hj
        have HLo := Lib.hid hl
        clear hO hB hD hv hz hj
        by_cases hkb : k < nb
        · have c1 := HO.out.cell (i + k) (by rw [HLo.out]; omega)
          have f1 := HO.out.frozen (i + k)
          have c2 := (HBl.out.cell (p := ⟨ga, i, none⟩) (cell_lt (HCA.out i hlt))).trans (HCA.out i hlt)
          have c3 := (HBl.out.cell (p := ⟨gb, k, none⟩) (cell_lt (HCB.out k hkb))).trans (HCB.out k hkb)
          have b1' := dg_lt HD.out (i + k)
          have b2' := dg_lt (norm_digs x).1 i
          have b3' := dg_lt (norm_digs y).1 k
          have bp : dg (digs x) i * dg (digs y) k ≤ 999999999 * 999999999 := Nat.mul_le_mul (by omega) (by omega)
          generalize hd1 : dg o (i + k) = d1 at c1 b1'
          generalize hd2 : dg (digs x) i = d2 at c2 b2' bp
          generalize hd3 : dg (digs y) k = d3 at c3 b3' bp
          have HD1 := Lib.hid hd1
          have HD2 := Lib.hid hd2
          have HD3 := Lib.hid hd3
          have bq : (d2 : Int) * (d3 : Int) ≤ 999999998000000001 := by rw [← Int.natCast_mul]; omega
          have bq0 : 0 ≤ (d2 : Int) * (d3 : Int) := Int.mul_nonneg (by omega) (by omega)
          clear hd1 hd2 hd3 bp hl
          go_wp2
          go_quiet (fail)
          go_wp2
          go_roundw
          case rel =>
            refine ⟨k + 1, (dg o (i + k) + c + dg (digs x) i * dg (digs y) k) / 1000000000, by go_num, ?_, MIn.next (wi := wr.drewN _) HLo.out (HO.out.drewN _) ((drewN_below HBl.out _).setCell HO.out.low.1 _) HD.out HV.out HZ.out hc (by rw [HM.out]; omega) _ rfl ?_ (by omega)⟩
            · rw [HD1.out, HD2.out, HD3.out]; go_num
            · rw [HD1.out, HD2.out, HD3.out]; go_num
          case measure => simp [intOf]; omega
        · by_cases hc0 : c = 0
          · subst hc0
            have HE := Lib.hid (MIn.row HI.out (by rw [HM.out]; omega))
            go_wp2
            go_roundw
            case rel => exact ⟨i + 1, by omega, by go_num, HE.out⟩
            case measure => simp [intOf]; omega
          · have hk : k = nb := by
              have h1 := HM.out
              rcases HJ.out with h | ⟨_, h⟩ <;> omega
            subst hk
            have c1 := HO.out.cell (i + k) (by rw [HLo.out]; omega)
            have f1 := HO.out.frozen (i + k)
            have e1 := HZ.out (i + k) (by rw [HM.out]; omega) (by omega)
            have e2 := Lib.hid (show dg (digs y) k = 0 from dg_out (by rw [HM.out]; omega))
            rw [e1] at c1
            have HE1 := Lib.hid e1
            have c0 : 0 < c := by omega
            clear e1 hl hc0
            go_wp2
            go_roundw
            case rel =>
              refine ⟨k + 1, (dg o (i + k) + c + dg (digs x) i * dg (digs y) k) / 1000000000, by go_num, ?_, MIn.next HLo.out HO.out (HBl.out.setCell HO.out.low.1 _) HD.out HV.out HZ.out hc (by rw [HM.out]; omega) _ rfl ?_ (by omega)⟩
              · rw [HE1.out, e2.out, Nat.mul_zero, Nat.zero_add, Nat.add_zero]; go_num
              · rw [HE1.out, e2.out, Nat.mul_zero, Nat.zero_add, Nat.add_zero]; go_num
            case measure => simp [intOf] <;> omega
    · obtain ⟨o, hl, hO, hB, hD, hv, hz⟩ := HR.out
      have hi' : i = na := by omega
      subst hi'
      have HT := Lib.hid (trim_any _ o wr hO.reads hD)
      rw [hl] at HT
      have HV := Lib.hid hv
      have HBl := Lib.hid hB
      clear hO hB hD hv hz hl
      go_wp2_with (go_at_call 174; refine (HT.out).mono ?_; rintro e' w' ⟨sv', l', rfl, hr, hn, hval, rfl⟩; have HRd := Lib.hid hr; have HNr := Lib.hid hn; have HVl := Lib.hid hval; clear hr hn hval)
      go_ret
      refine ⟨_, rfl, ?_, HBl.out⟩
      have h1 : val l' = x * y := by
        rw [HVl.out, HV.out, List.take_of_length_le (by rw [HN.out]; omega), val_digs]
      rw [← h1]
      exact IsN.of HRd.out HNr.out
theorem Mul_any (a b : Value) (x y : Nat) (w : World) (ha : IsN w a x) (hb : IsN w b y) (hx : (digs x).length ≤ 100000) (hy : (digs y).length ≤ 100000) :
    Calls Tryz.prog 177 #[a, b] w fun e w' => ∃ sv, e = .returned sv ∧ IsN w' sv (x * y) ∧ Below w.heap.size w w' := by
  by_cases hx0 : digs x = []
  · exact Mul_none a b x y w ha hb (Or.inl hx0)
  · by_cases hy0 : digs y = []
    · exact Mul_none a b x y w ha hb (Or.inr hy0)
    · exact Mul_some a b x y w ha hb hx hy hx0 hy0
end Go.Proofs.YtlhmfgbaefaneaaGreatDoor.ref
namespace Go.Proofs.YtlhmfgbaefaneaaGreatDoor.ref
open Go.RowKit
set_option maxRecDepth 100000 in
set_option maxHeartbeats 1000000 in
theorem Sub_zero (a b : Value) (w : World) (ha : IsN w a 0) (hb : IsN w b 0) :
    Calls Tryz.prog 176 #[a, b] w fun e w' => ∃ sv, e = .returned sv ∧ IsN w' sv 0 ∧ Below w.heap.size w w' := by
  obtain ⟨i0, hi0, hz0, hz1, hz2⟩ := info_parts infoU64
  obtain ⟨ao, acap, rfl, ⟨a1, a4⟩, a2, -⟩ := ha
  obtain ⟨bo, bcap, rfl, ⟨b1, -⟩, b2, -⟩ := hb
  unfold maxLen at a2 b2
  have h0 : (digs 0).length = 0 := by rw [digs_zero]; rfl
  rw [h0] at *
  have hend : ∀ (w' : World) (sv' : Value) (l' : List Nat), Reads w' sv' l' → Norm l' → val l' = val [] → IsN w' sv' 0 := fun w' sv' l' h1 h2 h3 => by
    have := IsN.of h1 h2
    rwa [h3] at this
  have HE := Lib.hid hend
  have A4 := Lib.hid a4
  clear a4 hend h0 a1 b1
  rcases ao with _ | ad
  · obtain rfl := A4.out rfl
    have HT := Lib.hid (fun w : World => trim_any (.slice none 0 0) [] w ⟨none, 0, rfl, ⟨Nat.le_refl _, fun _ => rfl⟩, Nat.zero_le _, Or.inl rfl⟩ Dig.nil)
    go_enter Tryz.func176, Tryz.ntmps176
    go_wp2_with (first | (at_builtin; refine wpList_append_own_none _ rfl _ _ 79 rfl w.heap.size 104 i0 1 Tryz.underlying79 hi0 (.slice none 0 0) 0 [] rfl (World.ownsRow_nil _ _ _ _) rfl ?_))
    refine wp_loop_rounds 1 ?_
    rw [rounds_succ]
    go_wp2_with (go_at_call 174; refine (HT.out _).mono ?_; rintro e' w' ⟨sv', l', rfl, hr, hn, hval, rfl⟩; have HRd := Lib.hid hr; have HNr := Lib.hid hn; have HVl := Lib.hid hval; clear hr hn hval)
    go_ret
    exact ⟨_, rfl, HE.out _ _ _ HRd.out HNr.out HVl.out, Below.refl _ _⟩
  · go_enter Tryz.func176, Tryz.ntmps176
    go_wp2_with (at_builtin; refine wpList_append_own _ rfl _ _ 79 rfl w.heap.size 104 i0 (.int .u64 0) 1 8 Tryz.underlying79 hi0 hz0 hz1 hz2 rfl (by decide) (.slice none 0 0) 0 [] rfl (World.ownsRow_nil _ _ _ _) ad 0 acap [] rfl rfl ?c1 ?c2 ?c3 ?c4 ?c5 ?_)
    case c1 => intro j u hj; simp at hj
    case c2 => intro u hu; simp at hu
    case c3 => unfold maxLen; omega
    case c4 => omega
    case c5 => exact Nat.le_refl _
    intro v' w3 hown3 hg3 hiff
    subst hiff
    have HT := Lib.hid (fun w : World => trim_any (.slice none 0 0) [] w ⟨none, 0, rfl, ⟨Nat.le_refl _, fun _ => rfl⟩, Nat.zero_le _, Or.inl rfl⟩ Dig.nil)
    have HB := Lib.hid (show Below w.heap.size w w3 from (Below.refl _ _).grown hg3 (Nat.le_refl _) (fun k hk => by simp [Value.ownBlock] at hk))
    clear hown3 hg3
    go_wp2
    refine wp_loop_rounds 1 ?_
    rw [rounds_succ]
    go_wp2_with (go_at_call 174; refine (HT.out _).mono ?_; rintro e' w' ⟨sv', l', rfl, hr, hn, hval, rfl⟩; have HRd := Lib.hid hr; have HNr := Lib.hid hn; have HVl := Lib.hid hval; clear hr hn hval)
    go_ret
    exact ⟨_, rfl, HE.out _ _ _ HRd.out HNr.out HVl.out, HB.out⟩
def SRel (w : World) (x y n g cap i : Nat) (wr : World) : Prop :=
  ∃ o : List Nat, o.length = n ∧ Own wr w.heap.size g cap o ∧ Below w.heap.size w wr ∧ Dig o ∧ val o + val ((digs y).take i) = x
def SIn (w : World) (n g cap : Nat) (V D k : Nat) (wr : World) : Prop :=
  ∃ o : List Nat, o.length = n ∧ Own wr w.heap.size g cap o ∧ Below w.heap.size w wr ∧ Dig o ∧ val o + D = V + 1000000000 ^ k
set_option maxRecDepth 100000 in
set_option maxHeartbeats 8000000 in
theorem Sub_some (a b : Value) (x y : Nat) (w : World) (ha : IsN w a x) (hb : IsN w b y) (hle : y ≤ x) (hx : (digs x).length ≤ 100000) (hx0 : digs x ≠ []) :
    Calls Tryz.prog 176 #[a, b] w fun e w' => ∃ sv, e = .returned sv ∧ IsN w' sv (x - y) ∧ Below w.heap.size w w' := by
  obtain ⟨i0, hi0, hz0, hz1, hz2⟩ := info_parts infoU64
  obtain ⟨ao, acap, rfl, ⟨a1, -⟩, a2, a3⟩ := ha
  obtain ⟨bo, bcap, rfl, ⟨b1, -⟩, b2, b3⟩ := hb
  obtain ⟨ga, rfl, ca⟩ := a3.resolve_left hx0
  unfold maxLen at a2 b2
  have hna0 : 0 < (digs x).length := List.length_pos_iff.2 hx0
  have hnb : (digs y).length ≤ (digs x).length := by
    by_cases h : (digs x).length < (digs y).length
    · have := digs_len_lt h
      omega
    · omega
  generalize hN : (digs x).length = na at *
  generalize hM : (digs y).length = nb at *
  have HN := Lib.hid hN
  have HM := Lib.hid hM
  have HCA := Lib.hid ca
  have HLe := Lib.hid hle
  clear hN hM ca hx0 hle
  go_enter Tryz.func176, Tryz.ntmps176
  go_wp2_with (at_builtin; refine wpList_append_own _ rfl _ _ 79 rfl w.heap.size 104 i0 (.int .u64 0) 1 8 Tryz.underlying79 hi0 hz0 hz1 hz2 rfl (by decide) (.slice none 0 0) 0 [] rfl (World.ownsRow_nil _ _ _ _) ⟨ga, 0, none⟩ na acap ((digs x).map fun d => Value.int .u64 (d : Nat)) rfl ?c0 ?c1 ?c2 ?c3 ?c4 ?c5 ?_)
  case c0 => rw [List.length_map, HN.out, Nat.mul_one]
  case c1 =>
    intro j u hj
    have hjn : j < na := by
      rw [List.getElem?_map] at hj
      have := (List.getElem?_eq_some_iff.1 (Option.map_eq_some_iff.1 hj).choose_spec.1).choose
      rw [HN.out] at this
      exact this
    rw [dg_map (by rw [HN.out]; exact hjn)] at hj
    have := HCA.out j hjn
    simp only [Option.some.injEq] at hj
    subst hj
    have h2 : (⟨ga, 0, none⟩ : Addr).add j = ⟨ga, j, none⟩ := by unfold Addr.add; split <;> simp_all
    rw [h2]
    exact this
  case c2 =>
    intro u hu
    obtain ⟨d, _, rfl⟩ := List.mem_map.1 hu
    rfl
  case c3 => unfold maxLen; omega
  case c4 => omega
  case c5 => exact Nat.le_refl _
  intro v' w3 hown3 hg3 _
  obtain ⟨g, cap, rfl, hO⟩ := Own.of_row (n := na) (l := digs x) (by simpa using hown3) HN.out hna0
  have hB : Below w.heap.size w w3 := (Below.refl _ _).grown hg3 (Nat.le_refl _) (fun k hk => by simp [Value.ownBlock] at hk)
  have HO := Lib.hid hO
  have HB := Lib.hid hB
  clear hown3 hg3 hO hB
  go_wp2
  go_loopw [6] (fun iv wr => ∃ i : Nat, i ≤ nb ∧ iv = .int .i64 i ∧ SRel w x y na g cap i wr) (fun iv _ => nb - (intOf iv).toNat)
  case atStart => exact ⟨0, Nat.zero_le _, rfl, digs x, HN.out, HO.out, HB.out, (norm_digs x).1, by simp [val, val_digs]⟩
  case round =>
    obtain ⟨i, hi, rfl, hrel⟩ := hrel
    obtain ⟨o, hl, hO, hB, hD, hv⟩ := hrel
    have HOo := Lib.hid hO
    have HBo := Lib.hid hB
    have HDo := Lib.hid hD
    have HVo := Lib.hid hv
    have HLo := Lib.hid hl
    clear hO hB hD hv hl
    by_cases hlt : i < nb
    · have hy0 : digs y ≠ [] := by
        intro h
        have := HM.out
        rw [h] at this
        simp at this
        omega
      obtain ⟨gb, rfl, cb⟩ := b3.resolve_left hy0
      have c1 := HOo.out.cell i (by rw [HLo.out]; omega)
      have f1 := HOo.out.frozen i
      have c2 := (HBo.out.cell (p := ⟨gb, i, none⟩) (cell_lt (cb i hlt))).trans (cb i hlt)
      have b1' := dg_lt HDo.out i
      have b2' := dg_lt (norm_digs y).1 i
      generalize hd1 : dg o i = d at c1 b1'
      generalize hd2 : dg (digs y) i = e at c2 b2'
      have HD1 := Lib.hid hd1
      have HD2 := Lib.hid hd2
      have hin : i < na := by omega
      clear hd1 hd2 hy0 cb b3
      by_cases hde : e ≤ d
      · go_wp2
        go_quiet (fail)
        go_wp2
        go_region
        go_wp2
        go_roundw
        case rel =>
          refine ⟨i + 1, by omega, by go_num, o.set i (dg o i - dg (digs y) i), by rw [List.length_set]; exact HLo.out, (HOo.out.drewN _).store i _ _ (by rw [HD1.out, HD2.out]; go_num), (drewN_below HBo.out _).setCell HOo.out.low.1 _, HDo.out.set (by have := HD1.out; omega), sub_plain (by rw [HLo.out]; exact hin) HVo.out (by rw [HD1.out, HD2.out]; exact hde)⟩
        case measure => simp [intOf]; omega
      · have hV := Lib.hid (show 1000000000 ^ i * e ≤ val o from by
          have h1 := val_dg (digs y) i (by rw [HM.out]; exact hlt)
          rw [val_digs, Nat.mul_add, HD2.out] at h1
          have h2 := HVo.out
          have h3 := HLe.out
          omega)
        have HS := Lib.hid (sub_borrow (o := o) (b := digs y) (i := i) (V := val o) (by rw [HLo.out]; exact hin) rfl (by rw [HD2.out]; exact b2'))
        rw [HD1.out, HD2.out] at HS
        have hde' : d < e := by omega
        clear hde
        go_wp2
        go_quiet (fail)
        go_wp2
        go_region
        go_wp2
        go_loopw [7] (fun kv wi => ∃ k : Nat, kv = .int .i64 k ∧ SIn w na g cap (val o) (1000000000 ^ i * e) k wi) (fun kv _ => na - (intOf kv).toNat)
        case atStart =>
          exact ⟨i + 1, by go_num, o.set i (d + (1000000000 - e)), by rw [List.length_set]; exact HLo.out, (HOo.out.drewN _).store i _ _ (by go_num), (drewN_below HBo.out _).setCell HOo.out.low.1 _, HDo.out.set (by omega), HS.out⟩
        case round =>
          obtain ⟨k, rfl, o2, hl2, hO2, hB2, hD2, hv2⟩ := hrel
          have hk : k < na := by
            have := sub_within hD2 hv2 hV.out
            omega
          have g1 := hO2.cell k (by omega)
          have g2 := hO2.frozen k
          have g3 := dg_lt hD2 k
          have HO2 := Lib.hid hO2
          have HB2 := Lib.hid hB2
          have HD22 := Lib.hid hD2
          have HV2 := Lib.hid hv2
          have HL2 := Lib.hid hl2
          generalize hq : dg o2 k = q at g1 g3
          have HQ := Lib.hid hq
          clear hO2 hB2 hD2 hv2 hl2 hq
          by_cases h0 : q = 0
          · subst h0
            go_wp2
            go_roundw
            case rel => exact ⟨k + 1, by go_num, o2.set k 999999999, by rw [List.length_set]; exact HL2.out, HO2.out.store k _ _ (by go_num), HB2.out.setCell HO2.out.low.1 _, HD22.out.set (by omega), sub_nought (by rw [HL2.out]; exact hk) HV2.out HQ.out⟩
            case measure => simp [intOf]; omega
          · have hb : ((q : Int) == 0) = false := by simp; omega
            go_wp2
            go_roundw
            case rel =>
              refine ⟨i + 1, by omega, by go_num, o2.set k (dg o2 k - 1), by rw [List.length_set]; exact HL2.out, HO2.out.store k _ _ (by rw [HQ.out]; go_num), HB2.out.setCell HO2.out.low.1 _, HD22.out.set (by have := HQ.out; omega), ?_⟩
              have h1 := sub_last (by rw [HL2.out]; exact hk) HV2.out (by rw [HQ.out]; exact h0)
              rw [val_take_succ, HD2.out]
              have h2 := HVo.out
              omega
            case measure => simp [intOf]; omega
    · have hi' : i = nb := by omega
      subst hi'
      have HT := Lib.hid (trim_any _ o wr HOo.out.reads HDo.out)
      rw [HLo.out] at HT
      go_wp2_with (go_at_call 174; refine (HT.out).mono ?_; rintro e' w' ⟨sv', l', rfl, hr, hn, hval, rfl⟩; have HRd := Lib.hid hr; have HNr := Lib.hid hn; have HVl := Lib.hid hval; clear hr hn hval)
      go_ret
      refine ⟨_, rfl, ?_, HBo.out⟩
      have h1 : val l' = x - y := by
        have h2 := HVo.out
        rw [List.take_of_length_le (by rw [HM.out]; omega), val_digs] at h2
        have h3 := HVl.out
        omega
      rw [← h1]
      exact IsN.of HRd.out HNr.out
theorem Sub_any (a b : Value) (x y : Nat) (w : World) (ha : IsN w a x) (hb : IsN w b y) (hle : y ≤ x) (hx : (digs x).length ≤ 100000) :
    Calls Tryz.prog 176 #[a, b] w fun e w' => ∃ sv, e = .returned sv ∧ IsN w' sv (x - y) ∧ Below w.heap.size w w' := by
  by_cases hx0 : digs x = []
  · have h0 : x = 0 := by have := congrArg val hx0; rwa [val_digs] at this
    subst h0
    obtain rfl : y = 0 := by omega
    exact Sub_zero a b w ha hb
  · exact Sub_some a b x y w ha hb hle hx hx0
end Go.Proofs.YtlhmfgbaefaneaaGreatDoor.ref
namespace Go.Proofs.YtlhmfgbaefaneaaGreatDoor.ref
open Go.RowKit
theorem digs_mono {x y : Nat} (h : x ≤ y) : (digs x).length ≤ (digs y).length := by
  by_cases h1 : (digs y).length < (digs x).length
  · have := digs_len_lt h1
    omega
  · omega
theorem digs_len_of_lt {x n : Nat} (h : x < 1000000000 ^ n) : (digs x).length ≤ n := by
  by_cases h0 : digs x = []
  · rw [h0]; exact Nat.zero_le _
  · have h1 := (norm_digs x).low h0
    rw [val_digs] at h1
    by_cases h2 : (digs x).length ≤ n
    · exact h2
    · have : 1000000000 ^ n ≤ 1000000000 ^ ((digs x).length - 1) := Nat.pow_le_pow_right (by omega) (by omega)
      omega
theorem digs_small {x : Nat} (h : x ≤ 1000000000) : (digs x).length ≤ 2 := digs_len_of_lt (by omega)
theorem cmp_le {x y : Nat} : cmpN x y ≤ 0 ↔ x ≤ y := by
  unfold cmpN
  split
  · constructor <;> intro <;> omega
  · split <;> constructor <;> intro <;> omega
theorem OfU_int (z : Int) (x : Nat) (hz : z = x) (hx : x ≤ 18446744073709551615) (w : World) :
    Calls Tryz.prog 108 #[.int .u64 z] w fun e w' => ∃ sv, e = .returned sv ∧ IsN w' sv x ∧ Below w.heap.size w w' := by
  subst hz
  exact OfU_any x hx w
theorem guess {x y : Nat} (hl : (digs x).length = (digs y).length) (k : Nat) (hk : k + 1 = (digs y).length) : x / y < dg (digs x) k / dg (digs y) k + 1 := by
  have hx1 := val_dg (digs x) k (by omega)
  have hy1 := val_dg (digs y) k (by omega)
  rw [val_digs, List.drop_eq_nil_of_le (by omega)] at hx1
  rw [val_digs, List.drop_eq_nil_of_le (by omega)] at hy1
  simp only [val, Nat.mul_zero, Nat.add_zero] at hx1 hy1
  have hxl := val_lt ((norm_digs x).1.take k)
  rw [List.length_take, Nat.min_eq_left (by omega)] at hxl
  have ht := norm_top (norm_digs y) (by omega)
  rw [show (digs y).length - 1 = k by omega] at ht
  have hq : x / y * y ≤ x := Nat.div_mul_le_self x y
  have h1 : x / y * (1000000000 ^ k * dg (digs y) k) ≤ x / y * y := Nat.mul_le_mul_left _ (by omega)
  have h2 : 1000000000 ^ k * (x / y * dg (digs y) k) < 1000000000 ^ k * (dg (digs x) k + 1) := by
    rw [Nat.mul_left_comm, Nat.mul_add, Nat.mul_one]
    omega
  have h3 : x / y * dg (digs y) k < dg (digs x) k + 1 := Nat.lt_of_mul_lt_mul_left h2
  exact Nat.lt_succ_of_le ((Nat.le_div_iff_mul_le (Nat.pos_of_ne_zero ht)).2 (by omega))
def MostRel (w : World) (x y : Nat) (lv hv : Value) (wr : World) : Prop :=
  ∃ lo hi : Nat, lv = .int .u64 lo ∧ hv = .int .u64 hi ∧ hi ≤ 1000000000 ∧ lo ≤ x / y ∧ x / y < hi ∧ Below w.heap.size w wr
set_option maxRecDepth 100000 in
set_option maxHeartbeats 8000000 in
theorem most_any (a b : Value) (x y : Nat) (w : World) (ha : IsN w a x) (hb : IsN w b y) (hy : (digs y).length ≤ 100000) (hy0 : digs y ≠ []) (hq : x / y < 1000000000) :
    Calls Tryz.prog 175 #[a, b] w fun e w' => e = .returned (.int .u64 (x / y : Nat)) ∧ Below w.heap.size w w' := by
  have HA := Lib.hid ha
  have HB := Lib.hid hb
  have HY := Lib.hid hy
  have HQ := Lib.hid hq
  have hypos : 0 < y := by
    by_cases h : y = 0
    · subst h; exact absurd digs_zero hy0
    · omega
  obtain ⟨ao, acap, rfl, ⟨a1, -⟩, a2, a3⟩ := ha
  obtain ⟨bo, bcap, rfl, ⟨b1, -⟩, b2, b3⟩ := hb
  unfold maxLen at a2 b2
  obtain ⟨gb, rfl, cb⟩ := b3.resolve_left hy0
  have hnb0 : 0 < (digs y).length := List.length_pos_iff.2 hy0
  have HGu := Lib.hid (guess (x := x) (y := y))
  have HY0 := Lib.hid hy0
  clear hy hq hy0 b3
  generalize hN : (digs x).length = na at *
  generalize hM : (digs y).length = nb at *
  have HN := Lib.hid hN
  have HM := Lib.hid hM
  have HCB := Lib.hid cb
  clear hN hM cb
  -- the loop, whatever the first guess
  by_cases hlt : na < nb
  · have hr := Lib.hid (show x / y = 0 from Nat.div_eq_of_lt (digs_len_lt (by rw [HN.out, HM.out]; exact hlt)))
    go_enter Tryz.func175, Tryz.ntmps175
    go_wp2
    go_ret
    exact ⟨by rw [hr.out]; rfl, Below.refl _ _⟩
  · by_cases heq : na = nb
    · subst heq
      have hx0 : digs x ≠ [] := by intro h; have := HN.out; rw [h] at this; simp at this; omega
      obtain ⟨ga, rfl, ca⟩ := a3.resolve_left hx0
      have c1 := ca (na - 1) (by omega)
      have c2 := HCB.out (na - 1) (by omega)
      have d1 := dg_lt (norm_digs x).1 (na - 1)
      have d2 := dg_lt (norm_digs y).1 (na - 1)
      have d3 : dg (digs y) (na - 1) ≠ 0 := by
        have := norm_top (norm_digs y) (by rw [HM.out]; exact hnb0)
        rwa [HM.out] at this
      have HG2 := Lib.hid (HGu.out rfl (na - 1) (by omega))
      generalize dg (digs x) (na - 1) = d at *
      generalize dg (digs y) (na - 1) = e at *
      have hdi : (d : Int) / (e : Int) ≤ 999999999 := by rw [← Int.natCast_ediv]; have := Nat.div_le_self d e; omega
      have hdi0 : 0 ≤ (d : Int) / (e : Int) := Int.ediv_nonneg (by omega) (by omega)
      have hdn := Lib.hid (show d / e ≤ 999999999 from by have := Nat.div_le_self d e; omega)
      go_enter Tryz.func175, Tryz.ntmps175
      go_wp2
      go_quiet (fail)
      go_wp2
      go_loopw [5, 6] (fun lv hv wr => MostRel w x y lv hv wr) (fun lv hv _ => (intOf hv).toNat - (intOf lv).toNat)
      case atStart => exact ⟨0, d / e + 1, rfl, by go_num, by have := hdn.out; omega, Nat.zero_le _, HG2.out, drewN_below (Below.refl _ _) _⟩
      case round =>
        obtain ⟨lo, hi, rfl, rfl, h1, h2, h3, hbel⟩ := hrel
        have hlh : lo < hi := by omega
        have H2 := Lib.hid h2
        have H3 := Lib.hid h3
        have HBl := Lib.hid hbel
        clear h2 h3 hbel
        by_cases hd : 1 < hi - lo
        · have HOf := Lib.hid (OfU_int (((lo : Int) + hi) / 2) ((lo + hi) / 2) (by omega) (by omega) wr)
          have hmid : (lo + hi) / 2 ≤ 1000000000 := by omega
          go_wp2_with (go_at_call 108; refine (HOf.out).mono ?_; rintro e' w1 ⟨sv, rfl, hs, hb1⟩; have HS := Lib.hid hs; have HB1 := Lib.hid hb1; clear hs hb1 HOf)
          have HMu := Lib.hid (Mul_any _ sv y ((lo + hi) / 2) w1 (HB.out.below (HBl.out.trans (HB1.out.mono HBl.out.size))) HS.out (by rw [HM.out]; exact HY.out) (by have := digs_small hmid; omega))
          go_wp2_with (go_at_call 177; refine (HMu.out).mono ?_; rintro e' w2 ⟨pv, rfl, hp, hb2⟩; have HP := Lib.hid hp; have HB2 := Lib.hid hb2; clear hp hb2 HMu)
          have HBa := Lib.hid (HBl.out.trans ((HB1.out.trans (HB2.out.mono HB1.out.size)).mono HBl.out.size))
          have HCm := Lib.hid (Cmp_any pv _ (y * ((lo + hi) / 2)) x w2 HP.out (HA.out.below HBa.out))
          by_cases hm : y * ((lo + hi) / 2) ≤ x
          · have hc := cmp_le.2 hm
            have HL := Lib.hid (show (lo + hi) / 2 ≤ x / y from (Nat.le_div_iff_mul_le hypos).2 (by rw [Nat.mul_comm]; exact hm))
            generalize cmpN (y * ((lo + hi) / 2)) x = cc at *
            clear hm
            go_wp2_with (go_at_call 107; refine (HCm.out).mono ?_; rintro e' w3 ⟨rfl, hb3⟩; have HB3 := Lib.hid hb3; clear hb3 HCm)
            go_roundw
            case rel => exact ⟨(lo + hi) / 2, hi, by go_num, rfl, h1, HL.out, H3.out, HBa.out.trans (HB3.out.mono HBa.out.size)⟩
            case measure => simp [intOf]; omega
          · have hc : ¬ cmpN (y * ((lo + hi) / 2)) x ≤ 0 := fun h => hm (cmp_le.1 h)
            have HL := Lib.hid (show x / y < (lo + hi) / 2 from (Nat.div_lt_iff_lt_mul hypos).2 (by rw [Nat.mul_comm]; omega))
            generalize cmpN (y * ((lo + hi) / 2)) x = cc at *
            clear hm
            go_wp2_with (go_at_call 107; refine (HCm.out).mono ?_; rintro e' w3 ⟨rfl, hb3⟩; have HB3 := Lib.hid hb3; clear hb3 HCm)
            go_roundw
            case rel => exact ⟨lo, (lo + hi) / 2, rfl, by go_num, by omega, H2.out, HL.out, HBa.out.trans (HB3.out.mono HBa.out.size)⟩
            case measure => simp [intOf]; omega
        · have hr := Lib.hid (show x / y = lo from by have := H2.out; have := H3.out; omega)
          go_wp2
          go_ret
          exact ⟨by rw [hr.out]; rfl, HBl.out⟩
    · have hb2 : ((na : Int) == (nb : Int)) = false := by simp; omega
      clear heq
      go_enter Tryz.func175, Tryz.ntmps175
      go_wp2
      go_loopw [5, 6] (fun lv hv wr => MostRel w x y lv hv wr) (fun lv hv _ => (intOf hv).toNat - (intOf lv).toNat)
      case atStart => exact ⟨0, 1000000000, rfl, by go_num, Nat.le_refl _, Nat.zero_le _, HQ.out, Below.refl _ _⟩
      case round =>
        obtain ⟨lo, hi, rfl, rfl, h1, h2, h3, hbel⟩ := hrel
        have hlh : lo < hi := by omega
        have H2 := Lib.hid h2
        have H3 := Lib.hid h3
        have HBl := Lib.hid hbel
        clear h2 h3 hbel
        by_cases hd : 1 < hi - lo
        · have HOf := Lib.hid (OfU_int (((lo : Int) + hi) / 2) ((lo + hi) / 2) (by omega) (by omega) wr)
          have hmid : (lo + hi) / 2 ≤ 1000000000 := by omega
          go_wp2_with (go_at_call 108; refine (HOf.out).mono ?_; rintro e' w1 ⟨sv, rfl, hs, hb1⟩; have HS := Lib.hid hs; have HB1 := Lib.hid hb1; clear hs hb1 HOf)
          have HMu := Lib.hid (Mul_any _ sv y ((lo + hi) / 2) w1 (HB.out.below (HBl.out.trans (HB1.out.mono HBl.out.size))) HS.out (by rw [HM.out]; exact HY.out) (by have := digs_small hmid; omega))
          go_wp2_with (go_at_call 177; refine (HMu.out).mono ?_; rintro e' w2 ⟨pv, rfl, hp, hb2⟩; have HP := Lib.hid hp; have HB2 := Lib.hid hb2; clear hp hb2 HMu)
          have HBa := Lib.hid (HBl.out.trans ((HB1.out.trans (HB2.out.mono HB1.out.size)).mono HBl.out.size))
          have HCm := Lib.hid (Cmp_any pv _ (y * ((lo + hi) / 2)) x w2 HP.out (HA.out.below HBa.out))
          by_cases hm : y * ((lo + hi) / 2) ≤ x
          · have hc := cmp_le.2 hm
            have HL := Lib.hid (show (lo + hi) / 2 ≤ x / y from (Nat.le_div_iff_mul_le hypos).2 (by rw [Nat.mul_comm]; exact hm))
            generalize cmpN (y * ((lo + hi) / 2)) x = cc at *
            clear hm
            go_wp2_with (go_at_call 107; refine (HCm.out).mono ?_; rintro e' w3 ⟨rfl, hb3⟩; have HB3 := Lib.hid hb3; clear hb3 HCm)
            go_roundw
            case rel => exact ⟨(lo + hi) / 2, hi, by go_num, rfl, h1, HL.out, H3.out, HBa.out.trans (HB3.out.mono HBa.out.size)⟩
            case measure => simp [intOf]; omega
          · have hc : ¬ cmpN (y * ((lo + hi) / 2)) x ≤ 0 := fun h => hm (cmp_le.1 h)
            have HL := Lib.hid (show x / y < (lo + hi) / 2 from (Nat.div_lt_iff_lt_mul hypos).2 (by rw [Nat.mul_comm]; omega))
            generalize cmpN (y * ((lo + hi) / 2)) x = cc at *
            clear hm
            go_wp2_with (go_at_call 107; refine (HCm.out).mono ?_; rintro e' w3 ⟨rfl, hb3⟩; have HB3 := Lib.hid hb3; clear hb3 HCm)
            go_roundw
            case rel => exact ⟨lo, (lo + hi) / 2, rfl, by go_num, by omega, H2.out, HL.out, HBa.out.trans (HB3.out.mono HBa.out.size)⟩
            case measure => simp [intOf]; omega
        · have hr := Lib.hid (show x / y = lo from by have := H2.out; have := H3.out; omega)
          go_wp2
          go_ret
          exact ⟨by rw [hr.out]; rfl, HBl.out⟩
end Go.Proofs.YtlhmfgbaefaneaaGreatDoor.ref
