/-
  The steps of the walks, part 6: RefDv.
-/
import Derived.Test.YtfpooimjjpamoaaGreatDoorF05
namespace Go.Proofs.YtfpooimjjpamoaaGreatDoor.ref
open Go.RowKit
theorem wpList_append_reads {w : World} {ops : Array Oper} {rest : List Oper} {o : Oper} {a : Act} {Q : Exit → Act → World → Prop} (hgd : o.guard = none) (s x : Operand)
    (ho : o.op = .call { callee := .builtin .append, args := #[s, x], argTypes := #[25, 25] })
    (base : Nat) (v sv : Value) (l1 l2 : List Nat) (hs : a.eval s = v) (hown : w.ownsRow base 45 1 v l1.length (l1.map fun d => Value.int .u64 (d : Nat))) (hx : a.eval x = sv) (hr : Reads w sv l2)
    (hlen : l1.length + l2.length ≤ 200000) (hbase : base ≤ w.heap.size)
    (h : ∀ v' w', w'.ownsRow base 45 1 v' (l1.length + l2.length) ((l1 ++ l2).map fun d => Value.int .u64 (d : Nat)) → w.grownBy w' v.ownBlock → wpList Tryz.prog ops Q rest (a.put o.dst v') w') :
    wpList Tryz.prog ops Q (o :: rest) a w := by
  obtain ⟨i0, hi0, hz0, hz1, hz2⟩ := info_parts infoU64
  obtain ⟨ao, cap, rfl, ⟨h1, h4⟩, h2, h3⟩ := hr
  rcases ao with _ | ad
  · obtain rfl := h4 rfl
    have hl : l2 = [] := List.eq_nil_of_length_eq_zero (by omega)
    subst hl
    refine wpList_append_own_none hgd s x 25 ho base 45 i0 1 Tryz.underlying25 hi0 v l1.length _ hs hown hx ?_
    have := h v w (by simpa using hown) ⟨rfl, rfl, rfl, Nat.le_refl _, fun _ _ _ => rfl⟩
    exact this
  · refine wpList_append_own w hgd s x 25 ho base 45 i0 (.int .u64 0) 1 8 Tryz.underlying25 hi0 hz0 hz1 hz2 rfl (by decide) v l1.length _ hs hown ad l2.length cap (l2.map fun d => Value.int .u64 (d : Nat)) hx (by simp) ?_ ?_ (by unfold maxLen; omega) (by omega) hbase ?_
    · intro j u hj
      have hjn : j < l2.length := by
        rw [List.getElem?_map] at hj
        exact (List.getElem?_eq_some_iff.1 (Option.map_eq_some_iff.1 hj).choose_spec.1).choose
      rcases h3 with rfl | ⟨g, hg, hc⟩
      · simp at hjn
      · obtain rfl : ad = ⟨g, 0, none⟩ := by simpa using hg
        rw [dg_map hjn] at hj
        have := hc j hjn
        simp only [Option.some.injEq] at hj
        subst hj
        have h2 : (⟨g, 0, none⟩ : Addr).add j = ⟨g, j, none⟩ := by unfold Addr.add; split <;> simp_all
        rw [h2]
        exact this
    · intro u hu
      obtain ⟨d, _, rfl⟩ := List.mem_map.1 hu
      rfl
    · intro v' w' ho hg _
      exact h v' w' (by rw [List.map_append]; exact ho) hg
theorem Own.below {w w' : World} {base g cap : Nat} {o : List Nat} (h : Own w base g cap o) (hb : Below w.heap.size w w') : Own w' base g cap o :=
  World.ownsRow.kept (row := none) h ⟨hb.os, hb.tape, hb.output, hb.size, fun k hk _ => hb.block k hk⟩ (by simp [Value.ownBlock])
theorem Reads.setCell {w : World} {ao : Option Addr} {n cap : Nat} {l : List Nat} (h : Reads w (.slice ao n cap) l) {p : Addr} (hp : ∀ a, ao = some a → a.block ≠ p.block) (u : Value) : Reads (w.setCell p u) (.slice ao n cap) l := by
  obtain ⟨ao', cap', he, h1, h2, h3⟩ := h
  simp only [Value.slice.injEq] at he
  obtain ⟨rfl, rfl, rfl⟩ := he
  refine ⟨ao, cap, rfl, h1, h2, h3.imp id fun ⟨g, hg, hc⟩ => ⟨g, hg, fun k hk => ?_⟩⟩
  rw [World.cell?_of_block (w := w) (a := ⟨g, k, none⟩) (Below.heap_setCell _ _ _ _ (hp ⟨g, 0, none⟩ hg))]
  exact hc k hk
theorem div_step {d A y : Nat} (hy : 0 < y) : (d + 1000000000 * A) / y = 1000000000 * (A / y) + (d + 1000000000 * (A % y)) / y ∧ (d + 1000000000 * A) % y = (d + 1000000000 * (A % y)) % y := by
  have h : d + 1000000000 * A = (d + 1000000000 * (A % y)) + y * (1000000000 * (A / y)) := by
    have h1 := Nat.div_add_mod A y
    have h2 : 1000000000 * A = 1000000000 * (A % y) + y * (1000000000 * (A / y)) := by
      rw [Nat.mul_left_comm, ← Nat.mul_add]
      congr 1
      omega
    omega
  rw [h, Nat.add_mul_div_left _ _ hy, Nat.add_mul_mod_self_left]
  exact ⟨by omega, rfl⟩
def DivRel (w : World) (x y n g : Nat) (rv iv : Value) (wr : World) : Prop :=
  ∃ (k : Nat) (qd : List Nat), k ≤ n ∧ iv = .int .i64 ((k : Int) - 1) ∧ IsN wr rv (val ((digs x).drop k) % y) ∧ qd.length = n ∧ Own wr w.heap.size g n qd ∧ Below w.heap.size w wr ∧ Dig qd ∧
    val qd = 1000000000 ^ k * (val ((digs x).drop k) / y) ∧ ∀ j, j < k → dg qd j = 0
set_option maxRecDepth 100000 in
set_option maxHeartbeats 8000000 in
theorem Div_any (a b : Value) (x y : Nat) (w : World) (ha : IsN w a x) (hb : IsN w b y) (hx : (digs x).length ≤ 90000) (hy : (digs y).length ≤ 90000) (hy0 : 0 < y) :
    Calls Tryz.prog 34 #[a, b] w fun e w' => ∃ qv rv, e = .returned (.tuple #[qv, rv]) ∧ IsN w' qv (x / y) ∧ IsN w' rv (x % y) ∧ Below w.heap.size w w' := by
  obtain ⟨i0, hi0, hz0, hz1, hz2⟩ := info_parts infoU64
  have HA := Lib.hid ha
  have HB := Lib.hid hb
  obtain ⟨ao, acap, rfl, ⟨a1, -⟩, a2, a3⟩ := ha
  unfold maxLen at a2
  generalize hN : (digs x).length = na at *
  generalize hM : (digs y).length = nb at *
  have HN := Lib.hid hN
  have HM := Lib.hid hM
  have HA3 := Lib.hid a3
  obtain ⟨W1, hmk, HO1, HB1⟩ : ∃ W1, (Instr.makeSlice 25 (.int .i64 (na : Int)) (.int .i64 (na : Int))).run Tryz.prog w = .ok (.slice (some ⟨w.heap.size, 0, none⟩) na na) W1 ∧
      Hid (Own W1 w.heap.size w.heap.size na (List.replicate na 0)) ∧ Hid (Below w.heap.size w W1) := by
    refine ⟨_, ?_, own_made w na (by unfold maxLen; omega), (Below.refl _ _).alloc (Nat.le_refl _) _⟩
    have h := run_make (P := Tryz.prog) w 25 45 i0 (.int .u64 0) Tryz.underlying25 hi0 hz0 .i64 .i64 (na : Int) (na : Int) (by omega) (by omega) (by rw [hz2]; omega) (by omega)
    rw [show ((na : Int)).toNat = na by omega, hz1] at h
    exact h
  clear hN hM hb a3 hi0 hz0 hz1 hz2
  go_enter Tryz.func34, Tryz.ntmps34
  go_wp2
  go_loopw [6, 8] (fun rv iv wr => DivRel w x y na w.heap.size rv iv wr) (fun _ iv _ => (intOf iv + 1).toNat)
  case atStart =>
    refine ⟨na, List.replicate na 0, Nat.le_refl _, by go_num, ?_, by simp, HO1.out, HB1.out, dig_zeros _, ?_, fun j _ => dg_zeros _ _⟩
    · rw [List.drop_eq_nil_of_le (by rw [HN.out]; exact Nat.le_refl _)]
      show Reads _ _ (digs (0 % y))
      rw [Nat.zero_mod, digs_zero]
      exact ⟨none, 0, rfl, ⟨Nat.le_refl _, fun _ => rfl⟩, Nat.zero_le _, Or.inl rfl⟩
    · rw [List.drop_eq_nil_of_le (by rw [HN.out]; exact Nat.le_refl _), val_zeros]
      simp [val]
  case round =>
    obtain ⟨k, qd, hk, rfl, hr, hl, hO, hBe, hD, hv, hz⟩ := hrel
    have HR := Lib.hid hr
    have HO := Lib.hid hO
    have HBe := Lib.hid hBe
    have HD := Lib.hid hD
    have HV := Lib.hid hv
    have HZ := Lib.hid hz
    have HL := Lib.hid hl
    clear hr hO hBe hD hv hz hmk hl
    by_cases h0 : k = 0
    · subst h0
      have HT := Lib.hid (trim_any _ qd wr HO.out.reads HD.out)
      rw [HL.out] at HT
      go_wp2_with (go_at_call 111; refine (HT.out).mono ?_; rintro e' w' ⟨sv', l', rfl, hr, hn, hval, rfl⟩; have HRd := Lib.hid hr; have HNr := Lib.hid hn; have HVl := Lib.hid hval; clear hr hn hval HT)
      go_ret2
      refine ⟨_, _, rfl, ?_, ?_, HBe.out⟩
      · have h1 := HVl.out
        rw [HV.out, List.drop_zero, val_digs, Nat.pow_zero, Nat.one_mul] at h1
        rw [← h1]
        exact IsN.of HRd.out HNr.out
      · have h1 := HR.out
        rw [List.drop_zero, val_digs] at h1
        exact h1
    · obtain ⟨i, rfl⟩ : ∃ i, k = i + 1 := ⟨k - 1, by omega⟩
      obtain ⟨ga, rfl, ca⟩ := HA3.out.resolve_left (fun h => by have := HN.out; rw [h] at this; simp at this; omega)
      have c1 := (HBe.out.cell (p := ⟨ga, i, none⟩) (cell_lt (ca i (by omega)))).trans (ca i (by omega))
      have d1 := dg_lt (norm_digs x).1 i
      clear ca
      generalize hA : val ((digs x).drop (i + 1)) = A at *
      have HAv := Lib.hid hA
      generalize hdd : dg (digs x) i = d at c1 d1
      have HDD := Lib.hid hdd
      clear hA hdd
      have ei : ((i + 1 : Nat) : Int) - 1 = (i : Int) := by omega
      rw [ei]
      have hlen : ∀ {A : Nat}, (digs (A % y)).length ≤ nb := fun {A} => by
        have := digs_mono (Nat.le_of_lt (Nat.mod_lt A hy0))
        rw [HM.out] at this
        exact this
      have HLe := Lib.hid (hlen (A := A))
      clear hlen
      have HW2 := Lib.hid (show (wr.alloc (.cells #[Value.int .u64 (d : Nat)] 45)).ownsRow wr.heap.size 45 1 (.slice (some ⟨wr.heap.size, 0, none⟩) 1 1) [d].length ([d].map fun d => Value.int .u64 (d : Nat)) from World.ownsRow_lit wr #[Value.int .u64 (d : Nat)] 1 (Nat.le_refl _) (by unfold maxLen; omega) rfl)
      have HR2 := Lib.hid (HR.out.below (w' := wr.alloc (.cells #[Value.int .u64 (d : Nat)] 45)) ((Below.refl _ _).alloc (Nat.le_refl _) _))
      go_wp2_with (at_builtin; refine wpList_append_reads rfl _ _ rfl wr.heap.size _ _ [d] (digs (A % y)) rfl HW2.out rfl HR2.out ?c1 ?c2 ?_)
      case c1 => have := HLe.out; simp; omega
      case c2 => simp
      intro v' w3 hown hg3
      obtain ⟨g', cap', rfl, hO'⟩ := Own.of_row (n := 1 + (digs (A % y)).length) (l := d :: digs (A % y)) (by simpa [Nat.add_comm] using hown) (by simp [Nat.add_comm]) (by omega)
      have hB3 : Below wr.heap.size wr w3 := ((Below.refl _ _).alloc (Nat.le_refl _) _).grown hg3 (by simp) (fun k hk => by simp [Value.ownBlock] at hk; omega)
      have hD3 : Dig (d :: digs (A % y)) := (norm_digs _).1.cons d1
      have HT := Lib.hid (trim_at (some ⟨g', 0, none⟩) cap' (d :: digs (A % y)) w3 hO'.reads hD3)
      have HB3 := Lib.hid hB3
      have HG := Lib.hid (show w.heap.size < g' from Nat.lt_of_lt_of_le HO.out.low.2 hO'.low.1)
      clear hown hg3 hO' hB3 hD3 HW2 HR2
      rw [show (d :: digs (A % y)).length = 1 + (digs (A % y)).length from by simp [Nat.add_comm]] at HT
      go_wp2_with (go_at_call 111; refine (HT.out).mono ?_; rintro e' w' ⟨l', rfl, hr, hn, hval, rfl⟩; have HRd := Lib.hid hr; have HNr := Lib.hid hn; have HVl := Lib.hid hval; clear hr hn hval HT)
      obtain ⟨R, hRR⟩ : ∃ R, val l' = R := ⟨_, rfl⟩
      have HRR := Lib.hid (show R = d + 1000000000 * (A % y) from by rw [← hRR, HVl.out]; show d + 1000000000 * val (digs (A % y)) = _; rw [val_digs])
      have HRn := Lib.hid (show IsN w3 (.slice (some ⟨g', 0, none⟩) l'.length cap') R from by rw [← hRR]; exact IsN.of HRd.out HNr.out)
      clear hRR
      have hlt : R < 1000000000 * y := by have := Nat.mod_lt A hy0; have := HRR.out; omega
      have HRL := Lib.hid (show (digs R).length ≤ 100000 from by
        have h1 : R < 1000000000 ^ (nb + 1) := by
          have h2 := val_lt (norm_digs y).1
          rw [val_digs, HM.out] at h2
          rw [Nat.pow_succ]
          omega
        have := digs_len_of_lt h1
        omega)
      have hb0 : digs y ≠ [] := fun h => by
        have := congrArg val h
        rw [val_digs] at this
        simp [val] at this
        omega
      have HAB := Lib.hid (HBe.out.trans (HB3.out.mono HBe.out.size))
      have hQ : R / y < 1000000000 := (Nat.div_lt_iff_lt_mul hy0).2 hlt
      have HMo := Lib.hid (most_any _ b _ y _ HRn.out (HB.out.below HAB.out) (by rw [HM.out]; omega) hb0 hQ)
      generalize hqn : R / y = qn at *
      have HQn := Lib.hid hqn
      have HYq := Lib.hid (show y * qn ≤ R from by rw [← hqn]; exact Nat.mul_div_le R y)
      clear hlt hb0 hqn
      go_wp2_with (go_at_call 113; refine (HMo.out).mono ?_; rintro e' w4 ⟨rfl, hb4⟩; have HB4 := Lib.hid (HB3.out.trans (hb4.mono HB3.out.size)); have HRn4 := Lib.hid (HRn.out.below hb4); have HO4 := Lib.hid (HO.out.below HB4.out); have cq := HO4.out.cell i (by rw [HL.out]; omega); have fq := HO4.out.frozen i; clear hb4 HMo)
      have HOf := Lib.hid (fun w => OfU_any qn (by omega) w)
      generalize hw5 : w4.setCell ⟨w.heap.size, i, none⟩ (.int .u64 (qn : Nat)) = w5 at *
      have HO5 := Lib.hid (show Own w5 w.heap.size w.heap.size na (qd.set i qn) from by rw [← hw5]; exact HO4.out.store i qn _ rfl)
      have HB5 := Lib.hid (show Below w.heap.size w w5 from by rw [← hw5]; exact (HBe.out.trans (HB4.out.mono HBe.out.size)).setCell (Nat.le_refl _) _)
      have HR5 := Lib.hid (show IsN w5 (.slice (some ⟨g', 0, none⟩) l'.length cap') R from by rw [← hw5]; exact Reads.setCell HRn4.out (fun a ha => by obtain rfl := (Option.some.inj ha).symm; have := HG.out; show g' ≠ w.heap.size; omega) _)
      clear hw5 cq fq
      go_wp2_with (go_at_call 48; refine (HOf.out _).mono ?_; rintro e' w6 ⟨sv, rfl, hs, hb6⟩; have HS := Lib.hid hs; have HB6 := Lib.hid hb6; clear hs hb6 HOf)
      have HMu := Lib.hid (Mul_any b sv y qn w6 (HB.out.below (HB5.out.trans (HB6.out.mono HB5.out.size))) HS.out (by rw [HM.out]; omega) (by have := digs_small (x := qn) (by omega); omega))
      go_wp2_with (go_at_call 38; refine (HMu.out).mono ?_; rintro e' w7 ⟨pv, rfl, hp, hb7⟩; have HP := Lib.hid hp; have HB7 := Lib.hid (HB6.out.trans (hb7.mono HB6.out.size)); clear hp hb7 HMu)
      have HSu := Lib.hid (Sub_any _ pv R (y * qn) w7 (HR5.out.below HB7.out) HP.out HYq.out HRL.out)
      go_wp2_with (go_at_call 31; refine (HSu.out).mono ?_; rintro e' w8 ⟨rv, rfl, hr8, hb8⟩; have HR8 := Lib.hid hr8; have HB8 := Lib.hid (HB7.out.trans (hb8.mono HB7.out.size)); clear hr8 hb8 HSu)
      go_roundw
      case rel =>
        have hA' : val ((digs x).drop i) = d + 1000000000 * A := by
          rw [drop_dg _ _ (by rw [HN.out]; omega), HDD.out]
          show d + 1000000000 * val ((digs x).drop (i + 1)) = _
          rw [HAv.out]
        obtain ⟨s1, s2⟩ := div_step (d := d) (A := A) hy0
        rw [← HRR.out] at s1 s2
        rw [HQn.out] at s1
        refine ⟨i, qd.set i qn, by omega, by go_num, ?_, by rw [List.length_set]; exact HL.out, HO5.out.below HB8.out, HB5.out.trans (HB8.out.mono HB5.out.size), HD.out.set hQ, ?_, fun j hj => ?_⟩
        · rw [hA', s2]
          have h1 : R - y * qn = R % y := by have := Nat.div_add_mod R y; rw [HQn.out] at this; omega
          rw [← h1]
          exact HR8.out
        · rw [hA', s1]
          have h1 := val_set (l := qd) (j := i) (d := qn) (by rw [HL.out]; omega)
          rw [HZ.out i (by omega), Nat.mul_zero, Nat.add_zero, HV.out] at h1
          rw [h1, Nat.pow_succ, Nat.mul_add, Nat.mul_assoc]
        · rw [dg_set_other (by omega)]
          exact HZ.out j (by omega)
      case measure => simp [intOf] <;> omega
end Go.Proofs.YtfpooimjjpamoaaGreatDoor.ref
