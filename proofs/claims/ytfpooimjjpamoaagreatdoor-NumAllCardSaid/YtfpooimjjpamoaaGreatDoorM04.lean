/-
  The steps of the walks, part 4: Make, Sum, Prod1.
-/
import Derived.Laws.CopyOwn
import Derived.Laws.AppendOwnNone
import Derived.Lib.SliceRun
import Derived.Test.YtfpooimjjpamoaaGreatDoorM03
namespace Go.Proofs.YtfpooimjjpamoaaGreatDoor.nat
open Go.RowKit
theorem make_ex (w : World) (n : Nat) (hn : n ≤ 8000000) : ∃ W1, (Instr.makeSlice 24 (.int .i64 (n : Int)) (.int .i64 (n : Int))).run Tryz.prog w = .ok (.slice (some ⟨w.heap.size, 0, none⟩) n n) W1 ∧
    Row W1 w.heap.size (List.replicate n 0) ∧ Below w.heap.size w W1 ∧ W1.heap[w.heap.size]? = some (.cells ((List.replicate n 0).map fun d => Value.int .u64 (d : Nat)).toArray 45 (0, 0)) := by
  obtain ⟨i0, hi0, hz0, hz1, hz2⟩ := info_parts infoU64
  have h := run_make (P := Tryz.prog) w 24 45 i0 (.int .u64 0) Tryz.underlying24 hi0 hz0 .i64 .i64 (n : Int) (n : Int) (by omega) (by omega) (by rw [hz2]; omega) (by omega)
  rw [hz1] at h
  have hc : madeCells (Value.int .u64 0).cells (((n : Int)).toNat * 1) = ((List.replicate n 0).map fun d => Value.int .u64 (d : Nat)).toArray := by
    have := made_zeros n
    rw [show ((n : Int)).toNat = n by omega, ← this, Array.toArray_toList]
  rw [hc, show ((n : Int)).toNat = n by omega] at h
  have hh : (w.alloc (.cells ((List.replicate n 0).map fun d => Value.int .u64 (d : Nat)).toArray 45)).heap[w.heap.size]? = some (.cells ((List.replicate n 0).map fun d => Value.int .u64 (d : Nat)).toArray 45 (0, 0)) := heap_alloc_new w _
  exact ⟨_, h, ⟨[], by rw [List.append_nil]; exact hh⟩, (Below.refl _ _).alloc (Nat.le_refl _) _, hh⟩
theorem wpList_append_rd {w : World} {ops : Array Oper} {rest : List Oper} {o : Oper} {a : Act} {Q : Exit → Act → World → Prop} (hgd : o.guard = none) (s x : Operand)
    (ho : o.op = .call { callee := .builtin .append, args := #[s, x], argTypes := #[24, 24] })
    (base : Nat) (v sv : Value) (l1 l2 : List Nat) (hs : a.eval s = v) (hown : w.ownsRow base 45 1 v l1.length (l1.map fun d => Value.int .u64 (d : Nat))) (hx : a.eval x = sv) (hr : Rd w sv l2)
    (hlen : l1.length + l2.length ≤ 8000000) (hbase : base ≤ w.heap.size)
    (h : ∀ v' w', w'.ownsRow base 45 1 v' (l1.length + l2.length) ((l1 ++ l2).map fun d => Value.int .u64 (d : Nat)) → w.grownBy w' v.ownBlock → wpList Tryz.prog ops Q rest (a.put o.dst v') w') :
    wpList Tryz.prog ops Q (o :: rest) a w := by
  obtain ⟨i0, hi0, hz0, hz1, hz2⟩ := info_parts infoU64
  obtain ⟨ao, cap, rfl, ⟨h1, h4⟩, h2, h3⟩ := hr
  rcases ao with _ | ad
  · obtain rfl := h4 rfl
    have hl : l2 = [] := List.eq_nil_of_length_eq_zero (by omega)
    subst hl
    refine wpList_append_own_none hgd s x 24 ho base 45 i0 1 Tryz.underlying24 hi0 v l1.length _ hs hown hx ?_
    have := h v w (by simpa using hown) ⟨rfl, rfl, rfl, Nat.le_refl _, fun _ _ _ => rfl⟩
    exact this
  · refine wpList_append_own w hgd s x 24 ho base 45 i0 (.int .u64 0) 1 8 Tryz.underlying24 hi0 hz0 hz1 hz2 rfl (by decide) v l1.length _ hs hown ad l2.length cap (l2.map fun d => Value.int .u64 (d : Nat)) hx (by simp) ?_ ?_ (by unfold maxLen; omega) (by omega) hbase ?_
    · intro j u hj
      have hjn : j < l2.length := by
        rw [List.getElem?_map] at hj
        exact (List.getElem?_eq_some_iff.1 (Option.map_eq_some_iff.1 hj).choose_spec.1).choose
      rcases h3 with rfl | ⟨g, off, hg, hc⟩
      · simp at hjn
      · obtain rfl : ad = ⟨g, off, none⟩ := by simpa using hg
        rw [dg_map hjn] at hj
        have := hc j hjn
        simp only [Option.some.injEq] at hj
        subst hj
        have h2 : (⟨g, off, none⟩ : Addr).add j = ⟨g, off + j, none⟩ := by unfold Addr.add; split <;> simp_all
        rw [h2]
        exact this
    · intro u hu
      obtain ⟨d, _, rfl⟩ := List.mem_map.1 hu
      rfl
    · intro v' w' ho hg _
      exact h v' w' (by rw [List.map_append]; exact ho) hg
set_option maxRecDepth 100000 in
set_option maxHeartbeats 1000000 in
theorem room_any (sx : Value) (x : List Nat) (n : Nat) (w : World) (hx : Rd w sx x) (hle : x.length ≤ n) (hn : n ≤ 8000000) :
    Calls Tryz.prog 155 #[sx, .int .i64 (n : Int)] w fun e w' => e = .returned (.slice (some ⟨w.heap.size, 0, none⟩) n n) ∧ Row w' w.heap.size (x ++ List.replicate (n - x.length) 0) ∧ Below w.heap.size w w' := by
  obtain ⟨W1, hmk, hrow, hB, hh⟩ := make_ex w n hn
  have hx1 := hx.below hB
  have HX := Lib.hid hx1
  obtain ⟨ao, xcap, rfl, ⟨h1, h4⟩, h2, h3⟩ := hx
  have HB := Lib.hid hB
  have HH := Lib.hid hh
  obtain ⟨m, hm⟩ : ∃ m, x.length = m := ⟨_, rfl⟩
  have HM := Lib.hid hm
  obtain ⟨zs, hzs⟩ : ∃ zs, zs = (List.replicate n 0).map fun d => Value.int .u64 (d : Nat) := ⟨_, rfl⟩
  obtain ⟨cs, hcs⟩ : ∃ cs, cs = x.map fun d => Value.int .u64 (d : Nat) := ⟨_, rfl⟩
  rw [← hzs] at HH
  have HZ := Lib.hid hzs
  have HC := Lib.hid hcs
  have hzl : zs.length = n := by rw [hzs]; simp
  have hcl : cs.length = m := by rw [hcs]; simp [hm]
  have h1c : ∀ v ∈ cs, v.oneCell' = true := by
    intro u hu
    rw [hcs] at hu
    obtain ⟨d, _, rfl⟩ := List.mem_map.1 hu
    rfl
  have hpos : 0 < cs.length → some (⟨w.heap.size, 0, none⟩ : Addr) = some ⟨w.heap.size, 0, none⟩ ∧ ∃ ad, ao = some ad ∧ ∀ j v, cs[j]? = some v → W1.cell? (ad.add j) = some v := by
    intro hp
    refine ⟨rfl, ?_⟩
    obtain ⟨g, off, rfl, hc⟩ := lenpos HX.out (by omega)
    refine ⟨_, rfl, fun j v hj => ?_⟩
    have hjl : j < x.length := by
      have := (List.getElem?_eq_some_iff.1 hj).choose
      omega
    rw [hcs, dg_map hjl] at hj
    simp only [Option.some.injEq] at hj
    have h2 : (⟨g, off, none⟩ : Addr).add j = ⟨g, off + j, none⟩ := by unfold Addr.add; split <;> simp_all
    rw [h2, hc j hjl, hj]
  have HP := Lib.hid hpos
  have H1 := Lib.hid h1c
  have HZL := Lib.hid hzl
  have HCL := Lib.hid hcl
  have hsz : (Tryz.prog.info? 45).map (·.size) = some 1 := by kernel_rfl
  have HSZ := Lib.hid hsz
  rw [hm] at hle ⊢
  clear hx1 h3 hm hzs hcs h1c hpos hB hh hrow hzl hcl hsz h4
  go_enter Tryz.func155, Tryz.ntmps155
  go_wp2_with (with_reducible refine wpList_copy_splice rfl _ _ 24 24 rfl 45 Tryz.underlying24 HSZ.out (some ⟨w.heap.size, 0, none⟩) ao n n m xcap rfl rfl w.heap.size 0 zs 45 HH.out cs (by rw [HCL.out]; exact (Nat.min_eq_left hle).symm) HP.out (by rw [HCL.out, HZL.out]; omega) H1.out w.heap.size w HB.out (Nat.le_refl _) ?_; intro w2 HG2 hB2)
  go_ret
  refine ⟨rfl, ⟨[], ?_⟩, hB2⟩
  rw [HG2.out, HC.out, HZ.out, List.append_nil]
  congr 2
  simp only [splice, List.take_zero, List.nil_append, Nat.zero_add, List.length_map, List.map_append, HM.out]
  rw [← List.map_drop, List.drop_replicate]
set_option maxRecDepth 100000 in
set_option maxHeartbeats 1000000 in
theorem Clone_any (sx : Value) (x : List Nat) (w : World) (hx : Rd w sx x) (hn : x.length ≤ 4000000) :
    Calls Tryz.prog 141 #[sx] w fun e w' => ∃ sv, e = .returned sv ∧ Own w' w.heap.size sv x ∧ Below w.heap.size w w' := by
  have q44 : ∀ (w : World) (a : Option Addr) (n c n' c' : Nat), (binOp .eql 24 (.slice a n c) (.slice none n' c')).run Tryz.prog w = .ok (.bool a.isNone) w := fun w a n c n' c' => Lib.run_eql_slice_nil w _ _ a n c n' c' Tryz.underlying24
  have HX := Lib.hid hx
  obtain ⟨ao, xcap, rfl, ⟨h1, h4⟩, h2, h3⟩ := hx
  rcases ao with _ | ad
  · obtain rfl := h4 rfl
    obtain rfl : x = [] := List.eq_nil_of_length_eq_zero (by omega)
    rw [List.length_nil]
    go_enter Tryz.func141, Tryz.ntmps141
    go_wp2
    go_ret
    exact ⟨_, rfl, Own.nil _ _, Below.refl _ _⟩
  · clear h3 h4
    have HO := Lib.hid (show (w.alloc (.cells #[] 45)).ownsRow w.heap.size 45 1 (.slice (some ⟨w.heap.size, 0, none⟩) 0 0) ([] : List Nat).length (([] : List Nat).map fun d => Value.int .u64 (d : Nat)) from World.ownsRow_lit w #[] 0 (Nat.le_refl _) (by unfold maxLen; omega) rfl)
    have HX2 := Lib.hid (HX.out.below (w' := w.alloc (.cells #[] 45)) ((Below.refl _ _).alloc (Nat.le_refl _) _))
    go_enter Tryz.func141, Tryz.ntmps141
    go_wp2_with (at_builtin; refine wpList_append_rd rfl _ _ rfl w.heap.size _ _ [] x rfl HO.out rfl HX2.out ?c1 ?c2 ?_)
    case c1 => simp; omega
    case c2 => simp
    intro v' w3 hown hg3
    have hB3 : Below w.heap.size w w3 := ((Below.refl _ _).alloc (Nat.le_refl _) _).grown hg3 (by simp) (fun k hk => by simp [Value.ownBlock] at hk; omega)
    have HO3 := Lib.hid (Own.of_owns (l := x) (by simpa using hown))
    have HB3 := Lib.hid hB3
    clear hown hg3 hB3 HO HX2
    go_wp2
    go_ret
    exact ⟨_, rfl, HO3.out, HB3.out⟩
end Go.Proofs.YtfpooimjjpamoaaGreatDoor.nat
namespace Go.Proofs.YtfpooimjjpamoaaGreatDoor.nat
open Go.RowKit
theorem dig_room {x : List Nat} (h : Dig x) (n : Nat) : Dig (x ++ List.replicate n 0) := h.append (dig_zeros n)
theorem val_room (x : List Nat) (n : Nat) : val (x ++ List.replicate n 0) = val x := by rw [val_append, val_zeros]; omega
theorem len_room {x : List Nat} {n : Nat} (h : x.length ≤ n) : (x ++ List.replicate (n - x.length) 0).length = n := by simp; omega
theorem Row.whole {w : World} {g : Nat} {Z : List Nat} (h : Row w g Z) : Row w g ([] ++ (Z ++ [])) := by simpa using h
theorem Row.unwhole {w : World} {g : Nat} {Z : List Nat} (h : Row w g ([] ++ (Z ++ []))) : Row w g Z := by simpa using h
theorem pow_le {a b : Nat} (h : a ≤ b) : 18446744073709551616 ^ a ≤ 18446744073709551616 ^ b := Nat.pow_le_pow_right (by omega) h
theorem val_lt' {l : List Nat} {n : Nat} (h : Dig l) (hl : l.length ≤ n) : val l < 18446744073709551616 ^ n := Nat.lt_of_lt_of_le (val_lt h) (pow_le hl)
theorem digs_len {x n : Nat} (h : x < 18446744073709551616 ^ n) : (digs x).length ≤ n := by
  by_cases hne : digs x = []
  · rw [hne]; simp
  · have h1 := (norm_digs x).low hne
    rw [val_digs] at h1
    have : 18446744073709551616 ^ ((digs x).length - 1) < 18446744073709551616 ^ n := Nat.lt_of_le_of_lt h1 h
    have := (Nat.pow_lt_pow_iff_right (a := 18446744073709551616) (by omega)).1 this
    omega
theorem digs_len_val {l : List Nat} (h : Dig l) : (digs (val l)).length ≤ l.length := digs_len (val_lt h)
theorem sum_carry {V X Y c S : Nat} (h : V + 18446744073709551616 ^ (S + 1) * c = X + Y) (hx : X < 18446744073709551616 ^ S) (hy : Y < 18446744073709551616 ^ S) : V = X + Y := by
  rcases Nat.eq_zero_or_pos c with rfl | hc
  · rw [Nat.mul_zero] at h
    exact h
  · have h1 := Nat.le_mul_of_pos_right (18446744073709551616 ^ (S + 1)) hc
    have h2 : 18446744073709551616 ^ (S + 1) = 18446744073709551616 * 18446744073709551616 ^ S := by rw [Nat.pow_succ, Nat.mul_comm]
    have h3 : 18446744073709551616 * 18446744073709551616 ^ S ≤ 18446744073709551616 ^ (S + 1) * c := by rw [← h2]; exact h1
    clear h1 h2
    generalize 18446744073709551616 ^ (S + 1) * c = T at *
    generalize 18446744073709551616 ^ S = P at *
    omega
theorem room_int (sx : Value) (x : List Nat) (i : Int) (n : Nat) (w : World) (hi : i = n) (hx : Rd w sx x) (hle : x.length ≤ n) (hn : n ≤ 8000000) :
    Calls Tryz.prog 155 #[sx, .int .i64 i] w fun e w' => e = .returned (.slice (some ⟨w.heap.size, 0, none⟩) n n) ∧ Row w' w.heap.size (x ++ List.replicate (n - x.length) 0) ∧ Below w.heap.size w w' := by
  subst hi
  exact room_any sx x n w hx hle hn
set_option maxRecDepth 100000 in
set_option maxHeartbeats 1000000 in
theorem sum_any (sx sy : Value) (x y : List Nat) (w : World) (hx : Rd w sx x) (hy : Rd w sy y) (hdx : Dig x) (hdy : Dig y) (hn : x.length ≤ 2000000) (hm : y.length ≤ 2000000) :
    Calls Tryz.prog 114 #[sx, sy] w fun e w' => ∃ sv, e = .returned sv ∧ Own w' w.heap.size sv (digs (val x + val y)) ∧ Below w.heap.size w w' := by
  have HX := Lib.hid hx
  have HY := Lib.hid hy
  have HDX := Lib.hid hdx
  have HDY := Lib.hid hdy
  obtain ⟨ao, xcap, rfl, ⟨h1, -⟩, h2, -⟩ := hx
  obtain ⟨bo, ycap, rfl, ⟨k1, -⟩, k2, -⟩ := hy
  obtain ⟨N, hN⟩ : ∃ N, x.length = N := ⟨_, rfl⟩
  obtain ⟨M, hM⟩ : ∃ M, y.length = M := ⟨_, rfl⟩
  obtain ⟨S, hS, hS1, hS2⟩ : ∃ S : Nat, max (N : Int) (M : Int) = (S : Int) ∧ N ≤ S ∧ M ≤ S ∧ S ≤ 2000000 := ⟨max N M, by omega, by omega, by omega, by omega⟩
  obtain ⟨hS2, hS3⟩ := hS2
  have HN := Lib.hid hN
  have HM := Lib.hid hM
  have HS := Lib.hid hS
  rw [hN] at h1 hn HX ⊢
  rw [hM] at k1 hm HY ⊢
  clear hdx hdy hN hM hS
  go_enter Tryz.func114, Tryz.ntmps114
  go_wp2_with (go_at_call 155; refine (room_int _ x _ (S + 1) w (by rw [HS.out]; omega) HX.out (by rw [HN.out]; omega) (by omega)).mono ?_; rintro e w1 ⟨rfl, hr1, hb1⟩)
  have HB1 := Lib.hid hb1
  have hadd := addInto_any w.heap.size 0 (S + 1) (S + 1) (.slice bo M ycap) [] (x ++ List.replicate (S + 1 - x.length) 0) [] y w1 rfl (len_room (by rw [HN.out]; omega)) hr1.whole (dig_room HDX.out _) (HY.out.below hb1) (HY.out.apart (Nat.le_refl _)) HDY.out (by rw [HM.out]; omega) (by omega) (Nat.le_refl _) (by unfold maxLen; omega)
  have HAD := Lib.hid hadd
  clear hadd hr1 hb1
  go_wp2_with (go_at_call 156; refine (HAD.out).mono ?_; rintro e w2 ⟨Z', c, rfl, ⟨hl, hd, hc, hv, hrow⟩, hgr⟩)
  have hc0 : val Z' = val x + val y := by
    rw [val_room] at hv
    exact sum_carry hv (val_lt' HDX.out (by rw [HN.out]; exact hS1)) (val_lt' HDY.out (by rw [HM.out]; exact hS2))
  have hO : Own w2 w.heap.size (.slice (some ⟨w.heap.size, 0, none⟩) (S + 1) (S + 1)) Z' := by
    have := Own.of_row (cap := S + 1) hrow.unwhole (Nat.le_refl _) (by omega) (by unfold maxLen; omega)
    rwa [hl] at this
  have HT := Lib.hid (trim_own _ Z' w2 hO (by omega) hd)
  have HB2 := Lib.hid (below_grown HB1.out hgr HB1.out.size (Nat.le_refl _))
  rw [hc0] at HT
  clear hl hd hc hv hrow hgr hO hc0
  go_wp2_with (go_at_call 145; refine (HT.out).mono ?_; rintro e w3 ⟨sv, rfl, hO3, rfl⟩; have HO3 := Lib.hid hO3; clear hO3)
  go_ret
  exact ⟨sv, rfl, HO3.out, HB2.out⟩
set_option maxRecDepth 100000 in
set_option maxHeartbeats 1000000 in
theorem subFrom_own {B : Nat} (sv sx : Value) (z x : List Nat) (w : World) (hO : Own w B sv z) (hx : Rd w sx x) (hdz : Dig z) (hnx : Norm x) (hl : x.length ≤ z.length) (hv : val x ≤ val z) (hn : z.length ≤ 4000000) (hap : ∀ g, B ≤ g → Apart g sx) :
    Calls Tryz.prog 146 #[sv, sx] w fun e w' => ∃ z', e = .returned (.tuple #[]) ∧ (z'.length = z.length ∧ Dig z' ∧ val z' + val x = val z ∧ Own w' B sv z') ∧ Below B w w' := by
  have hO' := hO
  obtain ⟨ao, cap, rfl, ⟨h1, h4⟩, h2, h3⟩ := hO'
  rcases h3 with rfl | ⟨g, rfl, hB, hrow⟩
  · obtain rfl : x = [] := List.eq_nil_of_length_eq_zero (by simpa using hl)
    obtain ⟨bo, xcap, rfl, -⟩ := hx
    have HO := Lib.hid hO
    simp only [List.length_nil]
    clear hO hap h4 hdz hnx hl hv hn
    go_enter Tryz.func146, Tryz.ntmps146
    go_wp2
    go_loopw [4, 10] (fun cv iv wr => iv = .int .i64 0 ∧ cv = .int .u64 0 ∧ w = wr) (fun _ _ _ => 0)
    case atStart => exact ⟨rfl, rfl, rfl⟩
    case round =>
      obtain ⟨rfl, rfl, rfl⟩ := hrel
      go_wp2
      go_loopw [4, 7] (fun cv iv wr => iv = .int .i64 0 ∧ cv = .int .u64 0 ∧ w = wr) (fun _ _ _ => 0)
      case atStart => exact ⟨rfl, rfl, rfl⟩
      case round =>
        obtain ⟨rfl, rfl, rfl⟩ := hrel
        go_wp2
        refine bodyPost_end (results_none rfl _ _ _) rfl ?_
        exact ⟨[], rfl, ⟨rfl, Dig.nil, rfl, HO.out⟩, Below.refl _ _⟩
  · refine (subFrom_any g 0 z.length cap sx [] z [] x w rfl rfl hrow.whole hdz hx (hap g hB) hnx.1 hl hv hn h1 h2).mono ?_
    rintro e w' ⟨Z', rfl, ⟨hl', hd', hv', hr'⟩, hgr⟩
    refine ⟨Z', rfl, ⟨hl', hd', hv', ?_⟩, ?_⟩
    · have := Own.of_row (cap := cap) hr'.unwhole hB (by omega) h2
      rwa [hl'] at this
    · exact ⟨hgr.os, hgr.tape, hgr.output, hgr.size, fun k hk => by
        by_cases hkw : k < w.heap.size
        · exact hgr.block k hkw (by simp; omega)
        · have := hrow.lt
          omega⟩
set_option maxRecDepth 100000 in
set_option maxHeartbeats 1000000 in
theorem difference_any (sx sy : Value) (x y : List Nat) (w : World) (hx : Rd w sx x) (hy : Rd w sy y) (hdx : Dig x) (hdy : Norm y) (hle : val y ≤ val x) (hn : x.length ≤ 2000000) :
    Calls Tryz.prog 105 #[sx, sy] w fun e w' => ∃ sv, e = .returned sv ∧ Own w' w.heap.size sv (digs (val x - val y)) ∧ Below w.heap.size w w' := by
  have HX := Lib.hid hx
  have HY := Lib.hid hy
  have HDX := Lib.hid hdx
  have HDY := Lib.hid hdy
  have HLE := Lib.hid hle
  have hlen : y.length ≤ x.length := by
    rw [hdy.eq_digs]
    exact digs_len (Nat.lt_of_le_of_lt hle (val_lt hdx))
  have HL := Lib.hid hlen
  clear hx hy hdx hdy hle hlen
  go_enter Tryz.func105, Tryz.ntmps105
  go_wp2_with (go_at_call 141; refine (Clone_any _ x w HX.out (by omega)).mono ?_; rintro e w1 ⟨sv, rfl, hO, hb1⟩)
  have HO := Lib.hid hO
  have HB1 := Lib.hid hb1
  have HSF := Lib.hid (subFrom_own sv sy x y w1 hO (HY.out.below hb1) HDX.out HDY.out HL.out HLE.out (by omega) (fun g hg => HY.out.apart hg))
  clear hO hb1
  go_wp2_with (go_at_call 146; refine (HSF.out).mono ?_; rintro e w2 ⟨Z', rfl, ⟨hl, hd, hv, hO2⟩, hb2⟩)
  have HT := Lib.hid (trim_own _ Z' w2 hO2 (by omega) hd)
  have HB2 := Lib.hid (HB1.out.trans hb2)
  rw [show val Z' = val x - val y by omega] at HT
  clear hl hd hv hO2 hb2 HSF
  go_wp2_with (go_at_call 145; refine (HT.out).mono ?_; rintro e w3 ⟨sv', rfl, hO3, rfl⟩; have HO3 := Lib.hid hO3; clear hO3)
  go_ret
  exact ⟨sv', rfl, HO3.out, HB2.out⟩
end Go.Proofs.YtfpooimjjpamoaaGreatDoor.nat
namespace Go.Proofs.YtfpooimjjpamoaaGreatDoor.nat
open Go.RowKit
theorem mul64_ex (x y : Nat) (hx : x < 18446744073709551616) (hy : y < 18446744073709551616) : ∃ h l : Nat, h < 18446744073709551616 ∧ l < 18446744073709551616 ∧ l + 18446744073709551616 * h = x * y ∧
    ∀ w, Calls Tryz.prog 163 #[.int .u64 (x : Int), .int .u64 (y : Int)] w fun e w' => e = .returned (.tuple #[.int .u64 (h : Int), .int .u64 (l : Int)]) ∧ w' = w :=
  ⟨x * y / 18446744073709551616, x * y % 18446744073709551616, Nat.div_lt_of_lt_mul (Nat.mul_lt_mul'' hx hy), Nat.mod_lt _ (by omega), Nat.mod_add_div _ _, fun w => Mul64_any x y hx hy w⟩
theorem mac_ex (z x y a : Nat) (hz : z < 18446744073709551616) (hx : x < 18446744073709551616) (hy : y < 18446744073709551616) (ha : a < 18446744073709551616) : ∃ h l s1 k1 s k2 : Nat,
    (∀ w, Calls Tryz.prog 163 #[.int .u64 (x : Int), .int .u64 (y : Int)] w fun e w' => e = .returned (.tuple #[.int .u64 (h : Int), .int .u64 (l : Int)]) ∧ w' = w) ∧
    (∀ w, (callFunc 164 #[.int .u64 (l : Int), .int .u64 (a : Int), .int .u64 0]).run Tryz.prog w = .ok (.value (.tuple #[.int .u64 (s1 : Int), .int .u64 (k1 : Int)])) w) ∧
    (∀ w, (callFunc 164 #[.int .u64 (z : Int), .int .u64 (s1 : Int), .int .u64 0]).run Tryz.prog w = .ok (.value (.tuple #[.int .u64 (s : Int), .int .u64 (k2 : Int)])) w) ∧
    s < 18446744073709551616 ∧ h + k1 < 18446744073709551616 ∧ h + k1 + k2 < 18446744073709551616 ∧ s + 18446744073709551616 * (h + k1 + k2) = z + x * y + a := by
  obtain ⟨h, l, b1, b2, e1, r1⟩ := mul64_ex x y hx hy
  obtain ⟨s1, k1, b3, b4, e2, r2⟩ := add64_ex l a 0 b2 ha (by omega)
  obtain ⟨s, k2, b5, b6, e3, r3⟩ := add64_ex z s1 0 hz b3 (by omega)
  have hp : x * y ≤ 18446744073709551615 * 18446744073709551615 := Nat.mul_le_mul (by omega) (by omega)
  exact ⟨h, l, s1, k1, s, k2, r1, r2, r3, b5, by omega, by omega, by omega⟩
theorem msc_ex (z x y a : Nat) (hz : z < 18446744073709551616) (hx : x < 18446744073709551616) (hy : y < 18446744073709551616) (ha : a < 18446744073709551616) : ∃ h l s1 k1 s k2 : Nat,
    (∀ w, Calls Tryz.prog 163 #[.int .u64 (x : Int), .int .u64 (y : Int)] w fun e w' => e = .returned (.tuple #[.int .u64 (h : Int), .int .u64 (l : Int)]) ∧ w' = w) ∧
    (∀ w, (callFunc 164 #[.int .u64 (l : Int), .int .u64 (a : Int), .int .u64 0]).run Tryz.prog w = .ok (.value (.tuple #[.int .u64 (s1 : Int), .int .u64 (k1 : Int)])) w) ∧
    (∀ w, (callFunc 182 #[.int .u64 (z : Int), .int .u64 (s1 : Int), .int .u64 0]).run Tryz.prog w = .ok (.value (.tuple #[.int .u64 (s : Int), .int .u64 (k2 : Int)])) w) ∧
    s < 18446744073709551616 ∧ h + k1 < 18446744073709551616 ∧ h + k1 + k2 < 18446744073709551616 ∧ s + x * y + a = z + 18446744073709551616 * (h + k1 + k2) := by
  obtain ⟨h, l, b1, b2, e1, r1⟩ := mul64_ex x y hx hy
  obtain ⟨s1, k1, b3, b4, e2, r2⟩ := add64_ex l a 0 b2 ha (by omega)
  obtain ⟨s, k2, b5, b6, e3, r3⟩ := sub64_ex z s1 0 hz b3 (by omega)
  have hp : x * y ≤ 18446744073709551615 * 18446744073709551615 := Nat.mul_le_mul (by omega) (by omega)
  exact ⟨h, l, s1, k1, s, k2, r1, r2, r3, b5, by omega, by omega, by omega⟩
def MRel (w : World) (g y : Nat) (A Z C x : List Nat) (i a : Nat) (wr : World) : Prop :=
  ∃ Z', Z'.length = Z.length ∧ Dig Z' ∧ a < 18446744073709551616 ∧ Row wr g (A ++ (Z' ++ C)) ∧ w.grownBy wr (some g) ∧ val Z' + 18446744073709551616 ^ i * a = val Z + val (x.take i) * y ∧ ∀ j, i ≤ j → dg Z' j = dg Z j
theorem MRel.next {w wr : World} {g y off : Nat} {A Z C x Z' : List Nat} {i a s k : Nat} (h0 : Z'.length = Z.length) (h1 : Dig Z') (h3 : Row wr g (A ++ (Z' ++ C))) (h4 : w.grownBy wr (some g)) (h5 : val Z' + 18446744073709551616 ^ i * a = val Z + val (x.take i) * y) (h6 : ∀ j, i ≤ j → dg Z' j = dg Z j)
    (hA : A.length = off) (hi : i < Z.length) (hs : s < 18446744073709551616) (hk : k < 18446744073709551616) (he : s + 18446744073709551616 * k = dg Z' i + dg x i * y + a) : MRel w g y A Z C x (i + 1) k (wr.setCell ⟨g, off + i, none⟩ (.int .u64 (s : Nat))) :=
  ⟨Z'.set i s, by simpa using h0, h1.set hs, hk, h3.zset hA i (by omega) rfl, grown_trans h4 (grown_set _ _ _ _), by rw [add_one (by omega) he h5, val_take_succ, Nat.add_mul, Nat.mul_assoc]; omega, fun j hj => by rw [dg_set_other (by omega)]; exact h6 j (by omega)⟩
set_option maxRecDepth 100000 in
set_option maxHeartbeats 4000000 in
theorem addProduct_any (g off n cap y : Nat) (sx : Value) (A Z C x : List Nat) (w : World) (hA : A.length = off) (hZ : Z.length = n) (hr : Row w g (A ++ (Z ++ C))) (hdz : Dig Z) (hx : Rd w sx x) (hap : Apart g sx) (hdx : Dig x) (hle : x.length ≤ n) (hy : y < 18446744073709551616) (hn : n ≤ 4000000) :
    Calls Tryz.prog 191 #[.slice (some ⟨g, off, none⟩) n cap, sx, .int .u64 (y : Nat)] w fun e w' => ∃ Z' a, e = .returned (.int .u64 (a : Nat)) ∧ (Z'.length = n ∧ Dig Z' ∧ a < 18446744073709551616 ∧ val Z' + 18446744073709551616 ^ x.length * a = val Z + val x * y ∧ (∀ j, x.length ≤ j → dg Z' j = dg Z j) ∧ Row w' g (A ++ (Z' ++ C))) ∧ w.grownBy w' (some g) := by
  have hx' := hx
  obtain ⟨ao, xcap, rfl, ⟨h1, h4⟩, h2, h3⟩ := hx'
  obtain ⟨m, hm⟩ : ∃ m, x.length = m := ⟨_, rfl⟩
  have HM := Lib.hid hm
  have HX := Lib.hid hx
  have HAP := Lib.hid hap
  have HDX := Lib.hid hdx
  have HA := Lib.hid hA
  have HZ := Lib.hid hZ
  unfold maxLen at h2
  rw [hm] at h1 hle HX HAP ⊢
  have HS := Lib.hid (show MRel w g y A Z C x 0 0 w from ⟨Z, rfl, hdz, by omega, hr, grown_refl _ _, by simp [val], fun _ _ => rfl⟩)
  clear hx hap hdx hA hZ hm hr hdz h3 h4
  go_enter Tryz.func191, Tryz.ntmps191
  go_wp2
  go_loopw [7, 15] (fun cv iv wr => ∃ i a : Nat, iv = .int .i64 i ∧ cv = .int .u64 a ∧ i ≤ m ∧ MRel w g y A Z C x i a wr) (fun _ iv _ => m - (intOf iv).toNat)
  case atStart => exact ⟨0, 0, rfl, rfl, Nat.zero_le _, HS.out⟩
  case round =>
    obtain ⟨i, a, rfl, rfl, him, hrel⟩ := hrel
    obtain ⟨Z', hl, hd, ha, hrow, hgr, hv, hup⟩ := hrel
    by_cases hlt : i < m
    · obtain ⟨gx, ox, rfl, hcx⟩ := lenpos HX.out (by omega)
      have c1 := hrow.zcell HA.out i (by rw [hl, HZ.out]; omega)
      have f1 := hrow.free (off + i)
      have c2 := (HX.out.kept hgr HAP.out).cellAt i hlt
      obtain ⟨h, l, s1, k1, s, k2, r1, r2, r3, hs, b1, b2, he⟩ := mac_ex (dg Z' i) (dg x i) y a (dg_lt hd i) (dg_lt HDX.out i) hy ha
      have HN := Lib.hid (MRel.next hl hd hrow hgr hv hup HA.out (by rw [HZ.out]; omega) hs b2 he)
      have R1 := Lib.hid r1
      generalize dg Z' i = d1 at c1 r3
      generalize dg x i = d2 at c2 r1 R1
      clear he hcx hrow hgr hv hl hd HS r1 hup
      go_wp2_with (go_at_call 163; refine (R1.out _).mono ?_; rintro e w' ⟨rfl, rfl⟩)
      go_roundw
      case rel => exact ⟨i + 1, h + k1 + k2, by go_num, by go_num, by omega, HN.out⟩
      case measure => simp [intOf]; omega
    · have : i = m := by omega
      subst this
      have HV := Lib.hid hv
      have HU := Lib.hid hup
      clear hv HS hup
      go_wp2
      go_ret
      refine ⟨Z', a, rfl, ⟨by rw [hl, HZ.out], hd, ha, ?_, HU.out, hrow⟩, hgr⟩
      have := HV.out
      rw [List.take_of_length_le (by rw [HM.out]; omega)] at this
      exact this
def SRel (w : World) (g y : Nat) (A Z C x : List Nat) (i a : Nat) (wr : World) : Prop :=
  ∃ Z', Z'.length = Z.length ∧ Dig Z' ∧ a < 18446744073709551616 ∧ Row wr g (A ++ (Z' ++ C)) ∧ w.grownBy wr (some g) ∧ val Z' + val (x.take i) * y = val Z + 18446744073709551616 ^ i * a ∧ ∀ j, i ≤ j → dg Z' j = dg Z j
theorem SRel.next {w wr : World} {g y off : Nat} {A Z C x Z' : List Nat} {i a s k : Nat} (h0 : Z'.length = Z.length) (h1 : Dig Z') (h3 : Row wr g (A ++ (Z' ++ C))) (h4 : w.grownBy wr (some g)) (h5 : val Z' + val (x.take i) * y = val Z + 18446744073709551616 ^ i * a) (h6 : ∀ j, i ≤ j → dg Z' j = dg Z j)
    (hA : A.length = off) (hi : i < Z.length) (hs : s < 18446744073709551616) (hk : k < 18446744073709551616) (he : s + dg x i * y + a = dg Z' i + 18446744073709551616 * k) : SRel w g y A Z C x (i + 1) k (wr.setCell ⟨g, off + i, none⟩ (.int .u64 (s : Nat))) :=
  ⟨Z'.set i s, by simpa using h0, h1.set hs, hk, h3.zset hA i (by omega) rfl, grown_trans h4 (grown_set _ _ _ _), by rw [val_take_succ, Nat.add_mul, Nat.mul_assoc]; exact sub_one (by omega) he h5, fun j hj => by rw [dg_set_other (by omega)]; exact h6 j (by omega)⟩
set_option maxRecDepth 100000 in
set_option maxHeartbeats 4000000 in
theorem subProduct_any (g off n cap y : Nat) (sx : Value) (A Z C x : List Nat) (w : World) (hA : A.length = off) (hZ : Z.length = n) (hr : Row w g (A ++ (Z ++ C))) (hdz : Dig Z) (hx : Rd w sx x) (hap : Apart g sx) (hdx : Dig x) (hle : x.length ≤ n) (hy : y < 18446744073709551616) (hn : n ≤ 4000000) :
    Calls Tryz.prog 215 #[.slice (some ⟨g, off, none⟩) n cap, sx, .int .u64 (y : Nat)] w fun e w' => ∃ Z' a, e = .returned (.int .u64 (a : Nat)) ∧ (Z'.length = n ∧ Dig Z' ∧ a < 18446744073709551616 ∧ val Z' + val x * y = val Z + 18446744073709551616 ^ x.length * a ∧ (∀ j, x.length ≤ j → dg Z' j = dg Z j) ∧ Row w' g (A ++ (Z' ++ C))) ∧ w.grownBy w' (some g) := by
  have hx' := hx
  obtain ⟨ao, xcap, rfl, ⟨h1, h4⟩, h2, h3⟩ := hx'
  obtain ⟨m, hm⟩ : ∃ m, x.length = m := ⟨_, rfl⟩
  have HM := Lib.hid hm
  have HX := Lib.hid hx
  have HAP := Lib.hid hap
  have HDX := Lib.hid hdx
  have HA := Lib.hid hA
  have HZ := Lib.hid hZ
  unfold maxLen at h2
  rw [hm] at h1 hle HX HAP ⊢
  have HS := Lib.hid (show SRel w g y A Z C x 0 0 w from ⟨Z, rfl, hdz, by omega, hr, grown_refl _ _, by simp [val], fun _ _ => rfl⟩)
  clear hx hap hdx hA hZ hm hr hdz h3 h4
  go_enter Tryz.func215, Tryz.ntmps215
  go_wp2
  go_loopw [7, 15] (fun cv iv wr => ∃ i a : Nat, iv = .int .i64 i ∧ cv = .int .u64 a ∧ i ≤ m ∧ SRel w g y A Z C x i a wr) (fun _ iv _ => m - (intOf iv).toNat)
  case atStart => exact ⟨0, 0, rfl, rfl, Nat.zero_le _, HS.out⟩
  case round =>
    obtain ⟨i, a, rfl, rfl, him, hrel⟩ := hrel
    obtain ⟨Z', hl, hd, ha, hrow, hgr, hv, hup⟩ := hrel
    by_cases hlt : i < m
    · obtain ⟨gx, ox, rfl, hcx⟩ := lenpos HX.out (by omega)
      have c1 := hrow.zcell HA.out i (by rw [hl, HZ.out]; omega)
      have f1 := hrow.free (off + i)
      have c2 := (HX.out.kept hgr HAP.out).cellAt i hlt
      obtain ⟨h, l, s1, k1, s, k2, r1, r2, r3, hs, b1, b2, he⟩ := msc_ex (dg Z' i) (dg x i) y a (dg_lt hd i) (dg_lt HDX.out i) hy ha
      have HN := Lib.hid (SRel.next hl hd hrow hgr hv hup HA.out (by rw [HZ.out]; omega) hs b2 he)
      have R1 := Lib.hid r1
      generalize dg Z' i = d1 at c1 r3
      generalize dg x i = d2 at c2 r1 R1
      clear he hcx hrow hgr hv hl hd HS r1 hup
      go_wp2_with (go_at_call 163; refine (R1.out _).mono ?_; rintro e w' ⟨rfl, rfl⟩)
      go_roundw
      case rel => exact ⟨i + 1, h + k1 + k2, by go_num, by go_num, by omega, HN.out⟩
      case measure => simp [intOf]; omega
    · have : i = m := by omega
      subst this
      have HV := Lib.hid hv
      have HU := Lib.hid hup
      clear hv HS hup
      go_wp2
      go_ret
      refine ⟨Z', a, rfl, ⟨by rw [hl, HZ.out], hd, ha, ?_, HU.out, hrow⟩, hgr⟩
      have := HV.out
      rw [List.take_of_length_le (by rw [HM.out]; omega)] at this
      exact this
end Go.Proofs.YtfpooimjjpamoaaGreatDoor.nat
