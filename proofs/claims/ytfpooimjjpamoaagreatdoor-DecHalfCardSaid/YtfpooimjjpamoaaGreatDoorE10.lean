/-
  The steps of the walks, part 10: RefNear.
-/
import Derived.Test.YtfpooimjjpamoaaGreatDoorE09
namespace Go.Proofs.YtfpooimjjpamoaaGreatDoor.ref
open Go.RowKit
def nearUp (x d : Nat) (mode : Int) : Bool :=
  (decide (mode = 1) && decide (d ≤ x % d * 2)) || (decide (mode = 2) && (decide (d < x % d * 2) || (decide (d = x % d * 2) && decide (x / d % 2 = 1))))
def nearN (x d : Nat) (mode : Int) : Nat := x / d + (if nearUp x d mode then 1 else 0)
theorem low_odd {N : Nat} (h : 0 < N) : 0 < (digs N).length ∧ dg (digs N) 0 % 2 = N % 2 := by
  have hp := digs_pos (x := N) (by omega)
  rw [hp]
  refine ⟨by simp, ?_⟩
  show (N % 1000000000) % 2 = N % 2
  omega
theorem near_up {x d : Nat} {mode C : Int} (hC : C = cmpN (x % d * 2) d) : nearUp x d mode = (((mode == 1) && decide (0 ≤ C)) || ((mode == 2) && (decide (0 < C) || ((C == 0) && decide (x / d % 2 = 1))))) := by
  have h1 : decide (0 ≤ C) = decide (d ≤ x % d * 2) := by
    rw [decide_eq_decide, hC]; unfold cmpN; (repeat' split) <;> omega
  have h2 : decide (0 < C) = decide (d < x % d * 2) := by
    rw [decide_eq_decide, hC]; unfold cmpN; (repeat' split) <;> omega
  have h3 : (C == 0) = decide (d = x % d * 2) := by
    show decide (C = 0) = _
    rw [decide_eq_decide, hC]; unfold cmpN; (repeat' split) <;> omega
  unfold nearUp
  rw [h1, h2, h3]
  rfl
set_option maxRecDepth 100000 in
set_option maxHeartbeats 4000000 in
theorem Near_any (v : Value) (z : Int) (d : Nat) (mode : Int) (w : World) (hv : IsQ w v z d) (hz : (digs z.natAbs).length ≤ 40000) (hd : (digs d).length ≤ 40000) (h0 : 0 < d) :
    Calls Tryz.prog 85 #[v, .int .i64 mode] w fun e w' => ∃ v', e = .returned v' ∧ IsI w' v' (signed (decide (z < 0)) (nearN z.natAbs d mode)) ∧ Below w.heap.size w w' := by
  obtain ⟨s, t, rfl, hs, ht⟩ := hv
  obtain ⟨x, hx⟩ : ∃ x, z.natAbs = x := ⟨_, rfl⟩
  rw [hx] at hs hz ⊢
  obtain ⟨N, hN⟩ : ∃ N, x / d = N := ⟨_, rfl⟩
  obtain ⟨R, hR⟩ : ∃ R, x % d = R := ⟨_, rfl⟩
  have hln : (digs N).length ≤ 40000 := by rw [← hN]; exact digs_le (Nat.div_le_self _ _) hz
  have hlr : (digs R).length ≤ 40000 := by rw [← hR]; exact digs_le (Nat.mod_le _ _) hz
  have HD0 := fun w' (hb : Below w.heap.size w w') => Div_any s t x d w' (hs.below hb) (ht.below hb) (by omega) (by omega) h0
  rw [hN, hR] at HD0
  have HD := Lib.hid HD0
  have HT := Lib.hid ht
  obtain ⟨C, hC⟩ : ∃ C, C = cmpN (R * 2) d := ⟨_, rfl⟩
  have hup := near_up (x := x) (d := d) (mode := mode) (C := C) (by rw [hR]; exact hC)
  have HU := Lib.hid (fun W => OfU_int 2 2 rfl (by decide) W)
  have HMu := Lib.hid (fun W a b (h1 : IsN W a R) (h2 : IsN W b 2) => Mul_any a b R 2 W h1 h2 (by omega) (by rw [show digs 2 = [2] by decide +kernel]; simp))
  have HC0 := fun W a b (h1 : IsN W a (R * 2)) (h2 : IsN W b d) => Cmp_any a b (R * 2) d W h1 h2
  rw [← hC] at HC0
  have HC := Lib.hid HC0
  rw [hN] at hup
  have HI := Lib.hid (fun W a (h : IsN W a (nearN x d mode)) => Int_ex (decide (z < 0)) a (nearN x d mode) W h)
  have HA := Lib.hid (fun W a b (h1 : IsN W a N) (h2 : IsN W b 1) => Add_any a b N 1 W h1 h2 (by omega) (by rw [show digs 1 = [1] by decide +kernel]; simp))
  have HU1 := Lib.hid (fun W => OfU_int 1 1 rfl (by decide) W)
  have HNN := Lib.hid (show nearN x d mode = N + (if nearUp x d mode then 1 else 0) by unfold nearN; rw [hN])
  generalize nearN x d mode = M at *
  generalize nearUp x d mode = up at *
  obtain ⟨ao, ac, rfl, -⟩ := id hs
  obtain ⟨co, cc, rfl, -⟩ := id ht
  generalize decide (z < 0) = p at *
  clear hs ht hz hd h0 hx hN hR hln hlr hC HD0 HC0
  generalize (digs x).length = an at *
  generalize (digs d).length = cn at *
  have HB := Lib.hid (((Below.refl w.heap.size w).alloc (Nat.le_refl _) (.cells #[.bool p, .slice ao an ac, .slice co cn cc] 86)).alloc (by simp) (.cells #[Value.bool false, .slice none 0 0] 57))
  have hcase : (mode = 1 ∧ 0 ≤ C ∧ M = N + 1) ∨ (mode = 1 ∧ C < 0 ∧ M = N) ∨ (mode = 2 ∧ 0 < C ∧ M = N + 1) ∨ (mode = 2 ∧ C = 0 ∧ N % 2 = 1 ∧ M = N + 1) ∨ (mode = 2 ∧ C = 0 ∧ N % 2 = 0 ∧ M = N) ∨ (mode = 2 ∧ C < 0 ∧ M = N) ∨ ((mode == 1) = false ∧ (mode == 2) = false ∧ M = N) := by
    have hm := HNN.out
    rw [hup] at hm
    by_cases h1 : mode = 1
    · subst h1
      by_cases h2 : 0 ≤ C
      · exact Or.inl ⟨rfl, h2, by simpa [h2] using hm⟩
      · exact Or.inr (Or.inl ⟨rfl, by omega, by simpa [h2] using hm⟩)
    · have h1b : (mode == 1) = false := by simp [h1]
      by_cases h3 : mode = 2
      · subst h3
        rcases (show C < 0 ∨ C = 0 ∨ 0 < C by omega) with h | h | h
        · have h4 : ¬ 0 < C := by omega
          have h5 : (C == 0) = false := by simp; omega
          exact Or.inr (Or.inr (Or.inr (Or.inr (Or.inr (Or.inl ⟨rfl, h, by simpa [h4, h5] using hm⟩)))))
        · subst h
          rcases (show N % 2 = 1 ∨ N % 2 = 0 by omega) with ho | ho
          · exact Or.inr (Or.inr (Or.inr (Or.inl ⟨rfl, rfl, ho, by simpa [ho] using hm⟩)))
          · exact Or.inr (Or.inr (Or.inr (Or.inr (Or.inl ⟨rfl, rfl, ho, by simpa [ho] using hm⟩))))
        · exact Or.inr (Or.inr (Or.inl ⟨rfl, h, by simpa [h] using hm⟩))
      · have h3b : (mode == 2) = false := by simp [h3]
        exact Or.inr (Or.inr (Or.inr (Or.inr (Or.inr (Or.inr ⟨h1b, h3b, by simpa [h1b, h3b] using hm⟩)))))
  have HCase := Lib.hid hcase
  have HSZ := Lib.hid (show (w.alloc (.cells #[.bool p, .slice ao an ac, .slice co cn cc] 86)).heap.size = w.heap.size + 1 by simp)
  clear hup hcase HNN
  go_enter Tryz.func85, Tryz.ntmps85
  go_wp2_with (first
    | (go_at_call 34; (with_reducible refine (HD.out _ HB.out).mono ?_); rintro e' w2 ⟨nv, rv, rfl, hn, hr, hb⟩
       obtain ⟨no', nc, rfl, -⟩ := id hn
       obtain ⟨ro', rc, rfl, -⟩ := id hr
       have HN := Lib.hid hn
       have HR := Lib.hid hr
       have HBl := Lib.hid hb
       have HB2 := Lib.hid (HB.out.trans (hb.mono HB.out.size))
       clear hn hr hb HD)
    | (fail "no arm"))
  have hm2 := (show MadeAt (w.alloc (.cells #[.bool p, .slice ao an ac, .slice co cn cc] 86)) w2 from HBl.out)
  obtain ⟨k0, -, k2, -, -, -⟩ := row3 ((HBl.out.block w.heap.size (by simp; omega)).trans ((((Below.refl (w.alloc (.cells #[.bool p, .slice ao an ac, .slice co cn cc] 86)).heap.size (w.alloc (.cells #[.bool p, .slice ao an ac, .slice co cn cc] 86))).alloc (Nat.le_refl _) _).block w.heap.size (by simp)).trans (heap_alloc_new w (.cells #[.bool p, .slice ao an ac, .slice co cn cc] 86))))
  have HM2 := Lib.hid hm2
  have HOLD := Lib.hid (fun W (hW : Below w2.heap.size w2 W) => (show Below w2.heap.size w2 W ∧ W.cell? ⟨w.heap.size, 0, none⟩ = some (.bool p) ∧ W.cell? ⟨w.heap.size, 2, none⟩ = some (.slice co cn cc) from
    ⟨hW, (hW.cell (cell_lt k0)).trans k0, (hW.cell (cell_lt k2)).trans k2⟩))
  have HTT := Lib.hid (HT.out.below HB2.out)
  clear hm2 k0 k2 HBl
  go_region_held3 (fun w' => Below w2.heap.size w2 w' ∧ w'.cell? ⟨w.heap.size, 0, none⟩ = some (.bool p) ∧ w'.cell? ⟨w.heap.size, 2, none⟩ = some (.slice co cn cc))
    (first
      | exact HOLD.out _ (Below.refl _ _).drew
      | exact HOLD.out _ HB5.out
      | exact HOLD.out _ HB4.out
      | exact HOLD.out _ HB3.out)
    (first
      | (go_at_call 48; (with_reducible refine (HU.out _).mono ?_); rintro e' w3 ⟨two, rfl, ho, hb⟩
         have HO := Lib.hid ho
         have HB3 := Lib.hid ((Below.refl w2.heap.size w2).drew.trans hb)
         clear ho hb)
      | (go_at_call 38; (with_reducible refine (HMu.out _ _ _ (HR.out.below HB3.out) HO.out).mono ?_); rintro e' w4 ⟨rr, rfl, ho, hb⟩
         have HRR := Lib.hid ho
         have HB4 := Lib.hid (HB3.out.trans (hb.mono HB3.out.size))
         clear ho hb)
      | (go_at_call 28; (with_reducible refine (HC.out _ _ _ HRR.out (HTT.out.below HB4.out)).mono ?_); rintro e' w5 ⟨rfl, hb⟩
         have HB5 := Lib.hid (HB4.out.trans (hb.mono HB4.out.size))
         clear hb)
      | (fail "no arm"))
  obtain ⟨-, k0, k2⟩ := HOLD.out _ HB5.out
  have HN5 := Lib.hid (HN.out.below HB5.out)
  have HM5 := Lib.hid (HM2.out.at HB5.out)
  have HW5 := Lib.hid (HB2.out.trans (HB5.out.mono HB2.out.size))
  clear HOLD HM2 HB2 HB3 HB4 HB5 HRR HO HTT HT HR HN HU HMu HC HB
  have hln : (digs N).length = 0 ∧ N = 0 ∨ 0 < N ∧ ∃ g, no' = some ⟨g, 0, none⟩ ∧ w5.cell? ⟨g, 0, none⟩ = some (.int .u64 (dg (digs N) 0 : Nat)) := by
    rcases Nat.eq_zero_or_pos N with hN0 | hN0
    · exact Or.inl ⟨(digs_len_zero N).2 hN0, hN0⟩
    · refine Or.inr ⟨hN0, ?_⟩
      obtain ⟨ao', cap', he, -, -, h3⟩ := HN5.out
      simp only [Value.slice.injEq] at he
      obtain ⟨rfl, -, rfl⟩ := he
      rcases h3 with h3 | ⟨g, hg, hc⟩
      · have := (low_odd hN0).1
        rw [h3] at this
        simp at this
      · exact ⟨g, hg, hc 0 (low_odd hN0).1⟩
  have HLow := Lib.hid (fun h : 0 < N => low_odd h)
  generalize dg (digs N) 0 = D0 at *
  generalize hnl : (digs N).length = nl at *
  have HNL := Lib.hid hnl
  clear hnl
  rcases hln with ⟨rfl, hN0⟩ | ⟨hN0, g, rfl, hc⟩
  · rcases HCase.out with ⟨rfl, h1, h2⟩ | ⟨rfl, h1, h2⟩ | ⟨rfl, h1, h2⟩ | ⟨rfl, rfl, h1, h2⟩ | ⟨rfl, rfl, h1, h2⟩ | ⟨rfl, h1, h2⟩ | ⟨h0, h1, h2⟩
    case inr.inr.inr.inl => omega
    all_goals
      have HM := Lib.hid h2
      clear h2 hN0 HCase HLow
      go_wp2_with (first
        | (go_at_call 48; (with_reducible refine (HU1.out _).mono ?_); rintro e' w6 ⟨one, rfl, ho, hb⟩
           have HO1 := Lib.hid ho
           have HN6 := Lib.hid (HN5.out.below hb)
           have HM6 := Lib.hid (HM5.out.at hb)
           have HW6 := Lib.hid (HW5.out.trans (hb.mono HW5.out.size))
           have k0' := (hb.cell (cell_lt k0)).trans k0
           clear ho hb)
        | (go_at_call 36; (with_reducible refine (HA.out _ _ _ HN6.out HO1.out).mono ?_); rintro e' w7 ⟨nn, rfl, ho, hb⟩
           have HX := Lib.hid ho
           have HM7 := Lib.hid (HM6.out.at hb)
           have HW7 := Lib.hid (HW6.out.trans (hb.mono HW6.out.size))
           have k0'' := (hb.cell (cell_lt k0')).trans k0'
           clear ho hb)
        | (go_at_call 121; (with_reducible refine (HI.out _ _ (by rw [HM.out]; exact HX.out)).mono ?_); rintro e' w8 ⟨si, rfl, hs, hb⟩
           obtain ⟨zo, zc, rfl, -⟩ := id hs
           have HS8 := Lib.hid hs
           obtain ⟨c0, c1, f0, f1⟩ := (HM7.out.at hb).cells
           rw [HSZ.out] at c0 c1 f0 f1
           have HW8 := Lib.hid (HW7.out.trans (hb.mono HW7.out.size))
           clear hs hb)
        | (go_at_call 121; (with_reducible refine (HI.out _ _ (by rw [HM.out]; exact HN5.out)).mono ?_); rintro e' w8 ⟨si, rfl, hs, hb⟩
           obtain ⟨zo, zc, rfl, -⟩ := id hs
           have HS8 := Lib.hid hs
           obtain ⟨c0, c1, f0, f1⟩ := (HM5.out.at hb).cells
           rw [HSZ.out] at c0 c1 f0 f1
           have HW8 := Lib.hid (HW5.out.trans (hb.mono HW5.out.size))
           clear hs hb)
        | (fail "no arm"))
      obtain ⟨q0, q1⟩ := two_cells (.bool (decide (signed p M < 0))) (.slice zo (digs (signed p M).natAbs).length zc) c0 c1
      refine bodyPost_ret (v := .agg #[.bool (decide (signed p M < 0)), .slice zo (digs (signed p M).natAbs).length zc]) ?_ rfl ?_
      · simp [results, Tryz.results85, go_sem, q0, q1]
      · exact ⟨_, rfl, ⟨_, rfl, Reads.result (Reads.result HS8.out c0 0 _) q0 1 _⟩, (HW8.out.setCell (by simp) _).setCell (by simp) _⟩
  · have hlen := (HLow.out hN0).1
    have HOd := Lib.hid (HLow.out hN0).2
    rcases HCase.out with ⟨rfl, h1, h2⟩ | ⟨rfl, h1, h2⟩ | ⟨rfl, h1, h2⟩ | ⟨rfl, rfl, h1, h2⟩ | ⟨rfl, rfl, h1, h2⟩ | ⟨rfl, h1, h2⟩ | ⟨h0, h1, h2⟩
    all_goals try (have hodd : ((D0 : Int) % 2 == 1) = true := by (have := HOd.out; simp only [beq_iff_eq]; omega))
    all_goals try (have hodd : ((D0 : Int) % 2 == 1) = false := by (have := HOd.out; simp only [beq_eq_false_iff_ne, ne_eq]; omega))
    all_goals
      have HM := Lib.hid h2
      clear h2 hN0 HCase HLow
      go_wp2_with (first
        | (go_at_call 48; (with_reducible refine (HU1.out _).mono ?_); rintro e' w6 ⟨one, rfl, ho, hb⟩
           have HO1 := Lib.hid ho
           have HN6 := Lib.hid (HN5.out.below hb)
           have HM6 := Lib.hid (HM5.out.at hb)
           have HW6 := Lib.hid (HW5.out.trans (hb.mono HW5.out.size))
           have k0' := (hb.cell (cell_lt k0)).trans k0
           clear ho hb)
        | (go_at_call 36; (with_reducible refine (HA.out _ _ _ HN6.out HO1.out).mono ?_); rintro e' w7 ⟨nn, rfl, ho, hb⟩
           have HX := Lib.hid ho
           have HM7 := Lib.hid (HM6.out.at hb)
           have HW7 := Lib.hid (HW6.out.trans (hb.mono HW6.out.size))
           have k0'' := (hb.cell (cell_lt k0')).trans k0'
           clear ho hb)
        | (go_at_call 121; (with_reducible refine (HI.out _ _ (by rw [HM.out]; exact HX.out)).mono ?_); rintro e' w8 ⟨si, rfl, hs, hb⟩
           obtain ⟨zo, zc, rfl, -⟩ := id hs
           have HS8 := Lib.hid hs
           obtain ⟨c0, c1, f0, f1⟩ := (HM7.out.at hb).cells
           rw [HSZ.out] at c0 c1 f0 f1
           have HW8 := Lib.hid (HW7.out.trans (hb.mono HW7.out.size))
           clear hs hb)
        | (go_at_call 121; (with_reducible refine (HI.out _ _ (by rw [HM.out]; exact HN5.out)).mono ?_); rintro e' w8 ⟨si, rfl, hs, hb⟩
           obtain ⟨zo, zc, rfl, -⟩ := id hs
           have HS8 := Lib.hid hs
           obtain ⟨c0, c1, f0, f1⟩ := (HM5.out.at hb).cells
           rw [HSZ.out] at c0 c1 f0 f1
           have HW8 := Lib.hid (HW5.out.trans (hb.mono HW5.out.size))
           clear hs hb)
        | (fail "no arm"))
      obtain ⟨q0, q1⟩ := two_cells (.bool (decide (signed p M < 0))) (.slice zo (digs (signed p M).natAbs).length zc) c0 c1
      refine bodyPost_ret (v := .agg #[.bool (decide (signed p M < 0)), .slice zo (digs (signed p M).natAbs).length zc]) ?_ rfl ?_
      · simp [results, Tryz.results85, go_sem, q0, q1]
      · exact ⟨_, rfl, ⟨_, rfl, Reads.result (Reads.result HS8.out c0 0 _) q0 1 _⟩, (HW8.out.setCell (by simp) _).setCell (by simp) _⟩
end Go.Proofs.YtfpooimjjpamoaaGreatDoor.ref
