/-
  The steps of the walks, part 2: RefAdd.
-/
import Derived.Test.YtfpooimjjpamoaaGreatDoorF01
namespace Go.Proofs.YtfpooimjjpamoaaGreatDoor.ref
open Go.RowKit
def ARel (w : World) (a b : List Nat) (M : Nat) (n cv iv : Value) (wr : World) : Prop :=
  ∃ (k c : Nat) (l : List Nat), iv = .int .i64 k ∧ cv = .int .u64 c ∧ c ≤ 1 ∧ l.length = k ∧ wr.ownsRow w.heap.size 45 1 n k (l.map fun d => Value.int .u64 (d : Nat)) ∧ Below w.heap.size w wr ∧ Dig l ∧
    val l + 1000000000 ^ k * c = val (a.take k) + val (b.take k) ∧ (k ≤ M ∨ k = M + 1 ∧ 1000000000 ^ M ≤ val a + val b ∧ c = 0)
theorem add_end {x y M k : Nat} {l : List Nat} (hx : (digs x).length ≤ M) (hy : (digs y).length ≤ M) (hM : M ≤ (digs x).length ∨ M ≤ (digs y).length) (hl : l.length = k) (hd : Dig l) (hka : (digs x).length ≤ k) (hkb : (digs y).length ≤ k)
    (h : val l + 1000000000 ^ k * 0 = val ((digs x).take k) + val ((digs y).take k)) (hj : k ≤ M ∨ k = M + 1 ∧ 1000000000 ^ M ≤ val (digs x) + val (digs y) ∧ True) : Norm l ∧ val l = x + y := by
  rw [List.take_of_length_le hka, List.take_of_length_le hkb, val_digs, val_digs] at h
  have hv : val l = x + y := by omega
  refine ⟨?_, hv⟩
  rw [val_digs, val_digs] at hj
  by_cases h0 : k = 0
  · obtain rfl := List.eq_nil_of_length_eq_zero (hl.trans h0)
    exact Norm.nil
  · refine norm_of_low hd ?_
    rw [hv, hl]
    rcases hj with hj | ⟨rfl, hj, _⟩
    · have hkM : k = M := by rcases hM with h | h <;> omega
      subst hkM
      rcases hM with h | h
      · have hne : digs x ≠ [] := by intro e; rw [e] at h; simp at h; omega
        have h2 := (norm_digs x).low hne
        rw [val_digs, show (digs x).length = k by omega] at h2
        omega
      · have hne : digs y ≠ [] := by intro e; rw [e] at h; simp at h; omega
        have h2 := (norm_digs y).low hne
        rw [val_digs, show (digs y).length = k by omega] at h2
        omega
    · simpa using hj
theorem add_round {w w3 : World} {x y M k c : Nat} {l : List Nat} {v' : Value} (hx : (digs x).length ≤ M) (hy : (digs y).length ≤ M) (hc : c ≤ 1) (hl : l.length = k) (hd : Dig l)
    (h : val l + 1000000000 ^ k * c = val ((digs x).take k) + val ((digs y).take k)) (hj : k ≤ M ∨ k = M + 1 ∧ 1000000000 ^ M ≤ val (digs x) + val (digs y) ∧ c = 0) (hgo : k < M ∨ 0 < c) (d : Int) (hd2 : d = ((c + dg (digs x) k + dg (digs y) k) % 1000000000 : Nat))
    (hown : w3.ownsRow w.heap.size 45 1 v' (k + 1) ((l.map fun d => Value.int .u64 (d : Nat)) ++ [Value.int .u64 d])) (hb : Below w.heap.size w w3) (q : Int) (hq : q = ((c + dg (digs x) k + dg (digs y) k) / 1000000000 : Nat)) (i : Int) (hi : i = (k + 1 : Nat)) :
    ARel w (digs x) (digs y) M v' (.int .u64 q) (.int .i64 i) w3 := by
  have d1 := dg_lt (norm_digs x).1 k
  have d2 := dg_lt (norm_digs y).1 k
  refine ⟨k + 1, (c + dg (digs x) k + dg (digs y) k) / 1000000000, l ++ [(c + dg (digs x) k + dg (digs y) k) % 1000000000], by rw [hi], by rw [hq], by omega, by simp [hl], ?_, hb, hd.append (Dig.cons (Nat.mod_lt _ (by omega)) Dig.nil), add_step hl h, ?_⟩
  · rw [List.map_append]
    rw [hd2] at hown
    exact hown
  · by_cases hkM : k < M
    · exact Or.inl (by omega)
    · have hkM' : k = M := by
        rcases hj with hj | ⟨rfl, _, rfl⟩
        · omega
        · rcases hgo with h | h <;> omega
      subst hkM'
      have e1 : dg (digs x) k = 0 := dg_out hx
      have e2 : dg (digs y) k = 0 := dg_out hy
      have hc1 : c = 1 := by rcases hgo with h | h <;> omega
      refine Or.inr ⟨rfl, ?_, by rw [e1, e2, hc1]⟩
      rw [List.take_of_length_le hx, List.take_of_length_le hy, hc1] at h
      omega
set_option maxRecDepth 100000 in
set_option maxHeartbeats 4000000 in
theorem Add_any (a b : Value) (x y : Nat) (w : World) (ha : IsN w a x) (hb : IsN w b y) (hx : (digs x).length ≤ 100000) (hy : (digs y).length ≤ 100000) :
    Calls Tryz.prog 36 #[a, b] w fun e w' => ∃ sv, e = .returned sv ∧ IsN w' sv (x + y) ∧ Below w.heap.size w w' := by
  obtain ⟨i0, hi0, hz0, hz1, hz2⟩ := info_parts infoU64
  obtain ⟨ao, acap, rfl, ⟨a1, -⟩, a2, a3⟩ := ha
  obtain ⟨bo, bcap, rfl, ⟨b1, -⟩, b2, b3⟩ := hb
  unfold maxLen at a2 b2
  obtain ⟨M, hM1, hM2, hM3⟩ : ∃ M, (digs x).length ≤ M ∧ (digs y).length ≤ M ∧ (M ≤ (digs x).length ∨ M ≤ (digs y).length) := ⟨max (digs x).length (digs y).length, by omega, by omega, by omega⟩
  have hMb : M ≤ 100000 := by omega
  have HM1 := Lib.hid hM1
  have HM2 := Lib.hid hM2
  have HM3 := Lib.hid hM3
  generalize hN : (digs x).length = na at *
  generalize hM : (digs y).length = nb at *
  have HN := Lib.hid hN
  have HM := Lib.hid hM
  clear hN hM
  go_enter Tryz.func36, Tryz.ntmps36
  go_wp2
  go_loopw [5, 6, 7] (fun n cv iv wr => ARel w (digs x) (digs y) M n cv iv wr) (fun _ cv iv _ => (2 * M + 4 - 2 * (intOf iv).toNat) + (intOf cv).toNat)
  case atStart => exact ⟨0, 0, [], rfl, rfl, by omega, rfl, World.ownsRow_nil _ _ _ _, Below.refl _ _, Dig.nil, by simp [val], Or.inl (Nat.zero_le _)⟩
  case round =>
    obtain ⟨k, c, l, rfl, rfl, hc1, hl, hown, hbel, hdig, hval, hj⟩ := hrel
    have HV := Lib.hid hval
    have HD := Lib.hid hdig
    have HO := Lib.hid hown
    have HB := Lib.hid hbel
    have HJ := Lib.hid hj
    have HL := Lib.hid hl
    have hkM : k ≤ M + 1 := by omega
    clear hval hdig hown hbel hj hl
    have da := dg_lt (norm_digs x).1 k
    have db := dg_lt (norm_digs y).1 k
    by_cases hka : k < na
    · have hgo : k < M ∨ 0 < c := Or.inl (by omega)
      obtain ⟨ga, rfl, ca⟩ := a3.resolve_left (by intro h; have := HN.out; rw [h] at this; simp at this; omega)
      have ca1 := (HB.out.cell (p := ⟨ga, k, none⟩) (cell_lt (ca k hka))).trans (ca k hka)
      by_cases hkb : k < nb
      · obtain ⟨gb, rfl, cb⟩ := b3.resolve_left (by intro h; have := HM.out; rw [h] at this; simp at this; omega)
        have cb1 := (HB.out.cell (p := ⟨gb, k, none⟩) (cell_lt (cb k hkb))).trans (cb k hkb)
        generalize hda : dg (digs x) k = d at *
        generalize hdb : dg (digs y) k = e at *
        have HDA := Lib.hid hda
        have HDB := Lib.hid hdb
        clear hda hdb ca cb a3 b3
        go_wp2_with (at_builtin; refine wpList_append_own _ rfl _ _ 25 rfl w.heap.size 45 i0 (.int .u64 0) 1 8 Tryz.underlying25 hi0 hz0 hz1 hz2 rfl (by decide) _ _ _ rfl (HO.out.alloc _) ⟨wr.heap.size, 0, none⟩ 1 1 [.int .u64 (((c : Int) + d + e) % 1000000000)] rfl rfl ?c1 ?c2 ?c3 ?c4 ?c5 ?_)
        case c1 =>
          intro j u hj
          match j, hj with
          | 0, hj =>
            simp at hj
            subst hj
            simp [Addr.add]
        case c2 => intro u hu; simp at hu; subst hu; rfl
        case c3 => unfold maxLen; omega
        case c4 => omega
        case c5 => have := HB.out.size; simp; omega
        intro v' w3 hown3 hg3 _
        have HO3 := Lib.hid hown3
        have HB3 := Lib.hid (show Below w.heap.size w w3 from (HB.out.alloc HB.out.size _).grown hg3 (by have := HB.out.size; simp; omega) (fun k hk => (HO.out.lt k hk).1))
        clear hown3 hg3
        go_wp2
        go_roundw
        case rel =>
          exact add_round (by rw [HN.out]; exact HM1.out) (by rw [HM.out]; exact HM2.out) hc1 HL.out HD.out HV.out HJ.out (hgo) _ (by rw [HDA.out, HDB.out]; go_num) HO3.out HB3.out _ (by rw [HDA.out, HDB.out]; go_num) _ (by go_num)
        case measure => simp [intOf]; omega
      · have hdb0 := Lib.hid (show dg (digs y) k = 0 from dg_out (by rw [HM.out]; omega))
        clear db
        generalize hda : dg (digs x) k = d at *
        have HDA := Lib.hid hda
        clear hda ca a3
        go_wp2_with (at_builtin; refine wpList_append_own _ rfl _ _ 25 rfl w.heap.size 45 i0 (.int .u64 0) 1 8 Tryz.underlying25 hi0 hz0 hz1 hz2 rfl (by decide) _ _ _ rfl (HO.out.alloc _) ⟨wr.heap.size, 0, none⟩ 1 1 [.int .u64 (((c : Int) + d) % 1000000000)] rfl rfl ?c1 ?c2 ?c3 ?c4 ?c5 ?_)
        case c1 =>
          intro j u hj
          match j, hj with
          | 0, hj =>
            simp at hj
            subst hj
            simp [Addr.add]
        case c2 => intro u hu; simp at hu; subst hu; rfl
        case c3 => unfold maxLen; omega
        case c4 => omega
        case c5 => have := HB.out.size; simp; omega
        intro v' w3 hown3 hg3 _
        have HO3 := Lib.hid hown3
        have HB3 := Lib.hid (show Below w.heap.size w w3 from (HB.out.alloc HB.out.size _).grown hg3 (by have := HB.out.size; simp; omega) (fun k hk => (HO.out.lt k hk).1))
        clear hown3 hg3
        go_wp2
        go_roundw
        case rel =>
          exact add_round (by rw [HN.out]; exact HM1.out) (by rw [HM.out]; exact HM2.out) hc1 HL.out HD.out HV.out HJ.out (hgo) _ (by rw [HDA.out, hdb0.out, Nat.add_zero]; go_num) HO3.out HB3.out _ (by rw [HDA.out, hdb0.out, Nat.add_zero]; go_num) _ (by go_num)
        case measure => simp [intOf]; omega
    · have hda0 := Lib.hid (show dg (digs x) k = 0 from dg_out (by rw [HN.out]; omega))
      clear da
      by_cases hkb : k < nb
      · have hgo : k < M ∨ 0 < c := Or.inl (by omega)
        obtain ⟨gb, rfl, cb⟩ := b3.resolve_left (by intro h; have := HM.out; rw [h] at this; simp at this; omega)
        have cb1 := (HB.out.cell (p := ⟨gb, k, none⟩) (cell_lt (cb k hkb))).trans (cb k hkb)
        generalize hdb : dg (digs y) k = e at *
        have HDB := Lib.hid hdb
        clear hdb cb b3
        go_wp2_with (at_builtin; refine wpList_append_own _ rfl _ _ 25 rfl w.heap.size 45 i0 (.int .u64 0) 1 8 Tryz.underlying25 hi0 hz0 hz1 hz2 rfl (by decide) _ _ _ rfl (HO.out.alloc _) ⟨wr.heap.size, 0, none⟩ 1 1 [.int .u64 (((c : Int) + e) % 1000000000)] rfl rfl ?c1 ?c2 ?c3 ?c4 ?c5 ?_)
        case c1 =>
          intro j u hj
          match j, hj with
          | 0, hj =>
            simp at hj
            subst hj
            simp [Addr.add]
        case c2 => intro u hu; simp at hu; subst hu; rfl
        case c3 => unfold maxLen; omega
        case c4 => omega
        case c5 => have := HB.out.size; simp; omega
        intro v' w3 hown3 hg3 _
        have HO3 := Lib.hid hown3
        have HB3 := Lib.hid (show Below w.heap.size w w3 from (HB.out.alloc HB.out.size _).grown hg3 (by have := HB.out.size; simp; omega) (fun k hk => (HO.out.lt k hk).1))
        clear hown3 hg3
        go_wp2
        go_roundw
        case rel =>
          exact add_round (by rw [HN.out]; exact HM1.out) (by rw [HM.out]; exact HM2.out) hc1 HL.out HD.out HV.out HJ.out (hgo) _ (by rw [HDB.out, hda0.out, Nat.add_zero]; go_num) HO3.out HB3.out _ (by rw [HDB.out, hda0.out, Nat.add_zero]; go_num) _ (by go_num)
        case measure => simp [intOf]; omega
      · have hdb0 := Lib.hid (show dg (digs y) k = 0 from dg_out (by rw [HM.out]; omega))
        clear db
        by_cases hc0 : c = 0
        · subst hc0
          go_wp2
          go_ret
          obtain ⟨hn, hv⟩ := add_end (x := x) (y := y) (M := M) (by rw [HN.out]; exact HM1.out) (by rw [HM.out]; exact HM2.out) (by rw [HN.out, HM.out]; exact HM3.out) HL.out HD.out (by rw [HN.out]; omega) (by rw [HM.out]; omega) HV.out HJ.out
          refine ⟨_, rfl, ?_, HB.out⟩
          rw [← hv]
          refine IsN.of (Reads.of_own (base := w.heap.size) ?_) hn
          rw [HL.out]
          exact HO.out
        · obtain rfl : c = 1 := by omega
          have hgo : k < M ∨ 0 < 1 := Or.inr (by omega)
          clear hc0
          go_wp2_with (at_builtin; refine wpList_append_own _ rfl _ _ 25 rfl w.heap.size 45 i0 (.int .u64 0) 1 8 Tryz.underlying25 hi0 hz0 hz1 hz2 rfl (by decide) _ _ _ rfl (HO.out.alloc _) ⟨wr.heap.size, 0, none⟩ 1 1 [.int .u64 (1)] rfl rfl ?c1 ?c2 ?c3 ?c4 ?c5 ?_)
          case c1 =>
            intro j u hj
            match j, hj with
            | 0, hj =>
              simp at hj
              subst hj
              simp [Addr.add]
          case c2 => intro u hu; simp at hu; subst hu; rfl
          case c3 => unfold maxLen; omega
          case c4 => omega
          case c5 => have := HB.out.size; simp; omega
          intro v' w3 hown3 hg3 _
          have HO3 := Lib.hid hown3
          have HB3 := Lib.hid (show Below w.heap.size w w3 from (HB.out.alloc HB.out.size _).grown hg3 (by have := HB.out.size; simp; omega) (fun k hk => (HO.out.lt k hk).1))
          clear hown3 hg3
          go_wp2
          go_roundw
          case rel =>
            exact add_round (by rw [HN.out]; exact HM1.out) (by rw [HM.out]; exact HM2.out) hc1 HL.out HD.out HV.out HJ.out (hgo) _ (by rw [hda0.out, hdb0.out]; go_num) HO3.out HB3.out _ (by rw [hda0.out, hdb0.out]; go_num) _ (by go_num)
          case measure => simp [intOf]; omega
end Go.Proofs.YtfpooimjjpamoaaGreatDoor.ref
