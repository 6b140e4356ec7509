/-
  The steps of the walks, part 14: Law2R, RatG, RefGetQ2, RatTxt.
-/
import Derived.Lib.Bytealg
import Derived.Laws.Externs
import Derived.Test.YtfpooimjjpamoaaGreatDoorE13
import Derived.Test.YtfpooimjjpamoaaGreatDoorS19
import Derived.Test.YtfpooimjjpamoaaGreatDoorS20
import Derived.Test.YtfpooimjjpamoaaGreatDoorE12
import Derived.Test.YtfpooimjjpamoaaGreatDoorS22
namespace Go.Proofs.YtfpooimjjpamoaaGreatDoor.law2
open Go.RowKit Go.Proofs.YtfpooimjjpamoaaGreatDoor.nat
open Go.Proofs.YtfpooimjjpamoaaGreatDoor.ref (str str_size Numeral seg seg_lt)
theorem Rd_set3 {w : World} {sv u : Value} {l : List Nat} {g k : Nat} {p : Bool} {a a' : Option Addr} {n c n' c' : Nat} {t : TypeId} (h : Rd w sv l) (hg : w.heap[g]? = some (.cells #[.bool p, .slice a n c, .slice a' n' c'] t (0, 0))) : Rd (w.setCell ⟨g, k, none⟩ u) sv l := by
  refine h.kept (grown_set w g k u) ?_
  obtain ⟨ao, cap, rfl, h1, h2, h3⟩ := h
  rintro ad m c' he hm
  simp only [Value.slice.injEq] at he
  obtain ⟨rfl, rfl, rfl⟩ := he
  rcases h3 with rfl | ⟨b, off, hb, hc⟩
  · simp at hm
  · simp only [Option.some.injEq] at hb
    subst hb
    rintro rfl
    have h4 := hc 0 hm
    rw [cell_of_row _ _ _ _ t (0, 0) hg] at h4
    rcases hoff : off + 0 with _ | _ | _ | _
    all_goals
      rw [hoff] at h4
      simp at h4
def QRow (w : World) (g : Nat) : Prop := ∃ p a n c a' n' c', w.heap[g]? = some (.cells #[.bool p, .slice a n c, .slice a' n' c'] 86 (0, 0))
theorem QRow.rd {w : World} {sv u : Value} {l : List Nat} {g k : Nat} (h : Rd w sv l) (hg : QRow w g) : Rd (w.setCell ⟨g, k, none⟩ u) sv l := by
  obtain ⟨p, a, n, c, a', n', c', hg⟩ := hg
  exact Rd_set3 h hg
theorem QRow.at {w : World} {g o : Nat} {p : Bool} (hg : QRow w g) (h : w.cell? ⟨g, o, none⟩ = some (.bool p)) : o = 0 := by
  obtain ⟨p, a, n, c, a', n', c', hg⟩ := hg
  rw [cell_of_row _ _ _ _ _ (0, 0) hg] at h
  rcases o with _ | _ | _ | _
  · rfl
  all_goals simp at h
theorem QRow.set0 {w : World} {g : Nat} {b : Bool} (hg : QRow w g) : QRow (w.setCell ⟨g, 0, none⟩ (.bool b)) g := by
  obtain ⟨p, a, n, c, a', n', c', hg⟩ := hg
  exact ⟨b, a, n, c, a', n', c', by rw [heap_setCell_same w g 0 _ _ _ hg]; rfl⟩
theorem QRow.set1 {w : World} {g n : Nat} {a : Option Addr} {c : Nat} (hg : QRow w g) : QRow (w.setCell ⟨g, 1, none⟩ (.slice a n c)) g := by
  obtain ⟨p, a1, n1, c1, a', n', c', hg⟩ := hg
  exact ⟨p, a, n, c, a', n', c', by rw [heap_setCell_same w g 1 _ _ _ hg]; rfl⟩
theorem QRow.isR {w : World} {g k : Nat} {u v : Value} {q : Rat} (h : rat.IsR w v q) (hg : QRow w g) : rat.IsR (w.setCell ⟨g, k, none⟩ u) v q := by
  rcases h with h | ⟨b, o, y, rfl, hz, hy, hd⟩
  · exact Or.inl h
  · obtain ⟨b1, o1, n1, a1, l1, c1, X1, he1, p1, p2, p3, p4, p5⟩ := rat.IsZ.cells hz (by simp)
    obtain ⟨b2, o2, n2, a2, l2, c2, X2, he2, r1, r2, r3, r4, r5⟩ := rat.IsZ.cells hy (by simp)
    simp only [Value.pointer.injEq, Option.some.injEq, Addr.mk.injEq, and_true] at he1 he2
    obtain ⟨rfl, rfl⟩ := he1
    obtain ⟨rfl, rfl⟩ := he2
    have hb : b ≠ g := by
      rintro rfl
      have e1 := hg.at p1
      have e2 := hg.at r1
      omega
    have F : ∀ i, (w.setCell ⟨g, k, none⟩ u).cell? ⟨b, i, none⟩ = w.cell? ⟨b, i, none⟩ := fun i => World.cell?_setCell_other _ _ _ _ (fun e => hb (by cases e <;> rfl))
    exact Or.inr ⟨b, o, y, rfl, rat.IsZ.of_cells ((F _).trans p1) ((F _).trans p2) (QRow.rd p3 hg) p4 p5, rat.IsZ.of_cells ((F _).trans r1) ((F _).trans r2) (QRow.rd r3 hg) r4 r5, hd⟩
def REnd (w : World) (e : Ending) (w' : World) : Prop :=
  ∃ a b z d, e = .returned (.tuple #[a, b]) ∧ (Bz z 30 ∧ Bn d 30 ∧ 0 < d) ∧ (rat.IsR w' a ((z : Rat) / (d : Rat)) ∧ a ≠ .pointer none ∧ ref.IsQ w' b z d) ∧ Below w.heap.size w w'
set_option maxRecDepth 100000 in
set_option maxHeartbeats 4000000 in
theorem R_any (s t : List UInt8) (neg : Bool) (w : World) (hs : s.length ≤ 4611686018427387904) (ht : t.length ≤ 4611686018427387904) :
    Calls Tryz.prog 81 #[.string (str s), .string (str t), .bool neg] w fun e w' => REnd w e w' := by
  have HD1 : Hid (∀ W, Calls Tryz.prog 101 #[.string (str s), .int .i64 30] W fun e w' => ∃ t, e = .returned (.string (str t)) ∧ (Numeral t ∧ t.length ≤ max 30 1) ∧ W = w') := Lib.hid (fun W => Digits_any s 30 W hs (by omega))
  have HD2 : Hid (∀ W, Calls Tryz.prog 101 #[.string (str t), .int .i64 30] W fun e w' => ∃ t, e = .returned (.string (str t)) ∧ (Numeral t ∧ t.length ≤ max 30 1) ∧ W = w') := Lib.hid (fun W => Digits_any t 30 W ht (by omega))
  have HB0 := Lib.hid ((Below.refl w.heap.size w).alloc (Nat.le_refl _) ref.blankQ)
  have HBL := Lib.hid (heap_alloc_new w ref.blankQ)
  unfold ref.blankQ at HB0 HBL
  clear hs ht
  generalize str s = s0 at *
  generalize str t = t0 at *
  go_enter Tryz.func81, Tryz.ntmps81
  go_wp2_with (first
    | (go_at_call 101; (with_reducible refine (HD1.out _).mono ?_); rintro e w1 ⟨l1, rfl, ⟨hN, hl⟩, rfl⟩
       have HL1 := Lib.hid (show Bn (seg l1 0 l1.length) 30 from Nat.lt_of_lt_of_le (seg_lt (l := l1) (st := 0) (m := l1.length) fun i _ hi => hN.2.2.2 i (by omega)) (ten_le (by omega)))
       have HG1 := Lib.hid (fun w' => nat.Get_ok l1 w' hN)
       have HR1 := Lib.hid (fun w' => ref.GetN_yes l1 w' hN)
       generalize str l1 = s1 at *
       generalize seg l1 0 l1.length = X at *
       clear hN hl HD1)
    | (go_at_call 101; (with_reducible refine (HD2.out _).mono ?_); rintro e w1 ⟨l2, rfl, ⟨hN, hl⟩, rfl⟩
       have HL2 := Lib.hid (show Bn (seg l2 0 l2.length) 30 from Nat.lt_of_lt_of_le (seg_lt (l := l2) (st := 0) (m := l2.length) fun i _ hi => hN.2.2.2 i (by omega)) (ten_le (by omega)))
       have HG2 := Lib.hid (fun w' => nat.Get_ok l2 w' hN)
       have HR2 := Lib.hid (fun w' => ref.GetN_yes l2 w' hN)
       generalize str l2 = s2 at *
       generalize seg l2 0 l2.length = Y at *
       clear hN hl HD2)
    | (go_at_call 44; (with_reducible refine (HG1.out _).mono ?_); rintro e W1 ⟨n, rfl, ⟨h_n, n_n⟩, hb⟩
       have H_n := Lib.hid h_n
       have HB1 := Lib.hid hb
       clear h_n n_n hb HG1)
    | (go_at_call 44; (with_reducible refine (HG2.out _).mono ?_); rintro e W2 ⟨d, rfl, ⟨h_d, n_d⟩, hb⟩
       have H_d := Lib.hid h_d
       have HB2 := Lib.hid hb
       clear h_d n_d hb HG2)
    | (go_at_call 45; (with_reducible refine (HR1.out _).mono ?_); rintro e W3 ⟨x, rfl, h_x, hb⟩
       obtain ⟨xo, xc, rfl, -⟩ := id h_x
       have H_x := Lib.hid h_x
       have HB3 := Lib.hid hb
       clear h_x hb HR1)
    | (fail "no arm"))
  rcases Nat.eq_zero_or_pos Y with hY | hY
  · have HY := Lib.hid hY
    have hlen : (((ref.digs Y).length : Nat) : Int) = 0 := by rw [hY, ref.digs_zero]; rfl
    clear hY
    have HNew := Lib.hid (fun W a b (h0 : num.IsZ W a (num.sgn neg X)) (h1 : num.IsZ W b ((3 : Nat) : Int)) => rat.New_ok a b (num.sgn neg X) ((3 : Nat) : Int) W h0 h1 (by unfold num.Lz; rw [num.sgn_natAbs]; exact HL1.out.nat (by decide)) (by unfold num.Lz; rw [Int.natAbs_natCast]; exact (Bn_small (x := 3) (by decide)).nat (by decide)) (by decide))
    go_wp2_with (first
      | (go_at_call 45; (with_reducible refine (HR2.out _).mono ?_); rintro e W4 ⟨y, rfl, h_y, hb⟩
         obtain ⟨yo, yc, rfl, -⟩ := id h_y
         have H_y := Lib.hid h_y
         have HB4 := Lib.hid hb
         clear h_y hb HR2)
      | (go_at_call 46; (with_reducible refine (nat.Of_int 3 3 rfl (by decide) _).mono ?_); rintro e W5 ⟨d3, rfl, ⟨h_d3, -⟩, hb⟩
         have H_dd := Lib.hid h_d3
         have HB5 := Lib.hid hb
         clear h_d3 hb)
      | (go_at_call 48; (with_reducible refine (ref.OfU_int 3 3 rfl (by decide) _).mono ?_); rintro e W6 ⟨y3, rfl, h_y3, hb⟩
         obtain ⟨y3o, y3c, rfl, -⟩ := id h_y3
         have H_yy := Lib.hid h_y3
         have HB6 := Lib.hid hb
         clear h_y3 hb)
      | (go_at_call 97; (with_reducible refine (num.New_any neg _ X _ (((((H_n.out.below HB2.out).below HB3.out).below HB4.out).below HB5.out).below HB6.out)).mono ?_); rintro e W7 ⟨nz, rfl, ⟨h_nz, -⟩, hb⟩
         have H_nz := Lib.hid h_nz
         have HB7 := Lib.hid hb
         clear h_nz hb)
      | (go_at_call 97; (with_reducible refine (num.New_any false _ 3 _ ((H_dd.out.below HB6.out).below HB7.out)).mono ?_); rintro e W8 ⟨dz, rfl, ⟨h_dz, -⟩, hb⟩
         have H_dz := Lib.hid h_dz
         have HB8 := Lib.hid hb
         clear h_dz hb)
      | (go_at_call 130; (with_reducible refine (HNew.out _ _ _ (show num.IsZ _ _ (num.sgn neg X) from (H_nz.out.below HB8.out)) (show num.IsZ _ _ ((3 : Nat) : Int) from H_dz.out)).mono ?_); rintro e W9 ⟨q, rfl, ⟨h_q, n_q⟩, hb⟩
         obtain ⟨qp, rfl⟩ := h_q.some n_q
         have H_q := Lib.hid h_q
         have HB9 := Lib.hid hb
         clear h_q n_q hb)
      | (go_at_call 121; (with_reducible refine (ref.Int_ex neg _ X _ ((((((H_x.out.below HB4.out).below HB5.out).below HB6.out).below HB7.out).below HB8.out).below HB9.out)).mono ?_); rintro e W10 ⟨s, rfl, h_s, hb⟩
         obtain ⟨so, sc, rfl, -⟩ := id h_s
         have H_s := Lib.hid h_s
         have HB10 := Lib.hid hb
         have HBQ := Lib.hid (nat.below_tr (nat.below_tr (nat.below_tr (nat.below_tr (nat.below_tr (nat.below_tr (nat.below_tr (nat.below_tr (nat.below_tr HB1.out HB2.out) HB3.out) HB4.out) HB5.out) HB6.out) HB7.out) HB8.out) HB9.out) hb)
         obtain ⟨c0, c1, c2, f0, f1, f2⟩ := ref.result_cells3 HBL.out HBQ.out
         have H_q2 := Lib.hid (H_q.out.below hb)
         have H_y2 := Lib.hid ((((H_yy.out.below HB7.out).below HB8.out).below HB9.out).below hb)
         clear h_s hb)
      | (fail "no arm"))
    have hq := ref.Q_end H_s.out H_y2.out HBL.out HBQ.out HB0.out (Nat.le_refl _)
    have hr0 : QRow W10 w.heap.size := ⟨_, _, _, _, _, _, _, (HBQ.out.block w.heap.size (Array.getElem?_eq_some_iff.1 HBL.out).1).trans HBL.out⟩
    have hqr := QRow.isR (g := w.heap.size) (k := 2) (u := .slice y3o (ref.digs 3).length y3c) (QRow.isR (k := 1) (u := .slice so (ref.digs (ref.signed neg X).natAbs).length sc) (QRow.isR (k := 0) (u := .bool (decide (ref.signed neg X < 0))) H_q2.out hr0) hr0.set0) hr0.set0.set1
    have HQ := Lib.hid hq.1
    have HBf := Lib.hid hq.2
    have HQR := Lib.hid hqr
    clear hq hr0 hqr
    obtain ⟨-, -, -, q3, q4, q5⟩ := ref.three_cells (.bool (decide (ref.signed neg X < 0))) (.slice so (ref.digs (ref.signed neg X).natAbs).length sc) (.slice y3o (ref.digs 3).length y3c) c0 c1 c2
    refine bodyPost_ret (v := .tuple #[.pointer (some qp), .agg #[.bool (decide (ref.signed neg X < 0)), .slice so (ref.digs (ref.signed neg X).natAbs).length sc, .slice y3o (ref.digs 3).length y3c]]) ?_ rfl ?_
    · simp [results, Tryz.results81, go_sem, q3, q4, q5]
    · refine ⟨_, _, ref.signed neg X, 3, rfl, ⟨?_, (Bn_small (x := 3) (by decide)).le (by decide), by decide⟩, ⟨HQR.out, by simp, HQ.out⟩, HBf.out⟩
      unfold Bz ref.signed
      split
      · rw [Int.natAbs_neg, Int.natAbs_natCast]; exact HL1.out
      · rw [Int.natAbs_natCast]; exact HL1.out
  · have HY := Lib.hid hY
    have hlen : ((((ref.digs Y).length : Nat) : Int) == 0) = false := by rw [ref.digs_pos (by omega)]; simp only [List.length_cons, beq_eq_false_iff_ne, ne_eq]; omega
    clear hY
    have HNew := Lib.hid (fun W a b (h0 : num.IsZ W a (num.sgn neg X)) (h1 : num.IsZ W b ((Y : Nat) : Int)) => rat.New_ok a b (num.sgn neg X) ((Y : Nat) : Int) W h0 h1 (by unfold num.Lz; rw [num.sgn_natAbs]; exact HL1.out.nat (by decide)) (by unfold num.Lz; rw [Int.natAbs_natCast]; exact HL2.out.nat (by decide)) (by have := HY.out; omega))
    go_wp2_with (first
      | (go_at_call 45; (with_reducible refine (HR2.out _).mono ?_); rintro e W4 ⟨y, rfl, h_y, hb⟩
         obtain ⟨yo, yc, rfl, -⟩ := id h_y
         have H_y := Lib.hid h_y
         have HB4 := Lib.hid hb
         clear h_y hb HR2)
      | (go_at_call 97; (with_reducible refine (num.New_any neg _ X _ (((H_n.out.below HB2.out).below HB3.out).below HB4.out)).mono ?_); rintro e W5 ⟨nz, rfl, ⟨h_nz, -⟩, hb⟩
         have H_nz := Lib.hid h_nz
         have HB5 := Lib.hid hb
         clear h_nz hb)
      | (go_at_call 97; (with_reducible refine (num.New_any false _ Y _ (((H_d.out.below HB3.out).below HB4.out).below HB5.out)).mono ?_); rintro e W6 ⟨dz, rfl, ⟨h_dz, -⟩, hb⟩
         have H_dz := Lib.hid h_dz
         have HB6 := Lib.hid hb
         clear h_dz hb)
      | (go_at_call 130; (with_reducible refine (HNew.out _ _ _ (show num.IsZ _ _ (num.sgn neg X) from (H_nz.out.below HB6.out)) (show num.IsZ _ _ ((Y : Nat) : Int) from H_dz.out)).mono ?_); rintro e W7 ⟨q, rfl, ⟨h_q, n_q⟩, hb⟩
         obtain ⟨qp, rfl⟩ := h_q.some n_q
         have H_q := Lib.hid h_q
         have HB7 := Lib.hid hb
         clear h_q n_q hb)
      | (go_at_call 121; (with_reducible refine (ref.Int_ex neg _ X _ ((((H_x.out.below HB4.out).below HB5.out).below HB6.out).below HB7.out)).mono ?_); rintro e W8 ⟨s, rfl, h_s, hb⟩
         obtain ⟨so, sc, rfl, -⟩ := id h_s
         have H_s := Lib.hid h_s
         have HB8 := Lib.hid hb
         have HBQ := Lib.hid (nat.below_tr (nat.below_tr (nat.below_tr (nat.below_tr (nat.below_tr (nat.below_tr (nat.below_tr HB1.out HB2.out) HB3.out) HB4.out) HB5.out) HB6.out) HB7.out) hb)
         obtain ⟨c0, c1, c2, f0, f1, f2⟩ := ref.result_cells3 HBL.out HBQ.out
         have H_q2 := Lib.hid (H_q.out.below hb)
         have H_y2 := Lib.hid ((((H_y.out.below HB5.out).below HB6.out).below HB7.out).below hb)
         clear h_s hb)
      | (fail "no arm"))
    have hq := ref.Q_end H_s.out H_y2.out HBL.out HBQ.out HB0.out (Nat.le_refl _)
    have hr0 : QRow W8 w.heap.size := ⟨_, _, _, _, _, _, _, (HBQ.out.block w.heap.size (Array.getElem?_eq_some_iff.1 HBL.out).1).trans HBL.out⟩
    have hqr := QRow.isR (g := w.heap.size) (k := 2) (u := .slice yo (ref.digs Y).length yc) (QRow.isR (k := 1) (u := .slice so (ref.digs (ref.signed neg X).natAbs).length sc) (QRow.isR (k := 0) (u := .bool (decide (ref.signed neg X < 0))) H_q2.out hr0) hr0.set0) hr0.set0.set1
    have HQ := Lib.hid hq.1
    have HBf := Lib.hid hq.2
    have HQR := Lib.hid hqr
    clear hq hr0 hqr
    obtain ⟨-, -, -, q3, q4, q5⟩ := ref.three_cells (.bool (decide (ref.signed neg X < 0))) (.slice so (ref.digs (ref.signed neg X).natAbs).length sc) (.slice yo (ref.digs Y).length yc) c0 c1 c2
    refine bodyPost_ret (v := .tuple #[.pointer (some qp), .agg #[.bool (decide (ref.signed neg X < 0)), .slice so (ref.digs (ref.signed neg X).natAbs).length sc, .slice yo (ref.digs Y).length yc]]) ?_ rfl ?_
    · simp [results, Tryz.results81, go_sem, q3, q4, q5]
    · refine ⟨_, _, ref.signed neg X, Y, rfl, ⟨?_, HL2.out, HY.out⟩, ⟨HQR.out, by simp, HQ.out⟩, HBf.out⟩
      unfold Bz ref.signed
      split
      · rw [Int.natAbs_neg, Int.natAbs_natCast]; exact HL1.out
      · rw [Int.natAbs_natCast]; exact HL1.out
end Go.Proofs.YtfpooimjjpamoaaGreatDoor.law2
namespace Go.Proofs.YtfpooimjjpamoaaGreatDoor.rat
open Go.RowKit Go.Proofs.YtfpooimjjpamoaaGreatDoor.nat Go.Proofs.YtfpooimjjpamoaaGreatDoor.num
open Go.Proofs.YtfpooimjjpamoaaGreatDoor.ref (str str_size IntText Numeral seg seg_lt)
theorem Ln_tens {x n m : Nat} (h : x < 10 ^ n) (hn : n ≤ m) : Ln x m :=
  Ln_pow (Nat.lt_of_lt_of_le h (Nat.le_trans (Nat.pow_le_pow_right (by omega) hn) (Nat.pow_le_pow_left (by omega) _)))
def FracText (l : List UInt8) (q : Rat) : Prop := (IntText l q.num ∧ q.den = 1) ∨ ∃ a b, l = a ++ 47 :: b ∧ IntText a q.num ∧ IntText b (q.den : Int) ∧ 1 < q.den
end Go.Proofs.YtfpooimjjpamoaaGreatDoor.rat
namespace Go.Proofs.YtfpooimjjpamoaaGreatDoor.ref
open Go.RowKit
theorem MadeQ.row {V w3 : World} (h : MadeQ V w3) : w3.heap[V.heap.size]? = some (.cells #[.bool false, .slice none 0 0, .slice none 0 0] 86 (0, 0)) :=
  (Below.block h V.heap.size (by simp)).trans (heap_alloc_new V _)
end Go.Proofs.YtfpooimjjpamoaaGreatDoor.ref
namespace Go.Proofs.YtfpooimjjpamoaaGreatDoor.rat
open Go.Proofs.YtfpooimjjpamoaaGreatDoor.ref (str IntText Numeral seg seg_lt lowN lowD ratText RatForm signed)
theorem low_ends {z : Int} {d : Nat} (hd : 0 < d) : ((z : Rat) / (d : Rat)).num = lowN z d ∧ ((z : Rat) / (d : Rat)).den = lowD z d := by
  have hg : 0 < Nat.gcd z.natAbs d := Nat.gcd_pos_of_pos_right _ hd
  obtain ⟨D, hD⟩ := Nat.gcd_dvd_right z.natAbs d
  obtain ⟨Z, hZ⟩ : ((Nat.gcd z.natAbs d : Nat) : Int) ∣ z := by rw [← Int.dvd_natAbs, Int.ofNat_dvd]; exact Nat.gcd_dvd_left _ _
  have hc : Nat.gcd (z.natAbs / Nat.gcd z.natAbs d) (d / Nat.gcd z.natAbs d) = 1 := Nat.coprime_div_gcd_div_gcd hg
  have hN : (lowN z d).natAbs = z.natAbs / Nat.gcd z.natAbs d := ref.lowN_abs z d
  have hNZ : lowN z d = Z := by
    have h1 : z.natAbs / Nat.gcd z.natAbs d = Z.natAbs := by
      have : z.natAbs = Nat.gcd z.natAbs d * Z.natAbs := by
        conv => lhs; rw [hZ]
        rw [Int.natAbs_mul, Int.natAbs_natCast]
      rw [Nat.div_eq_of_eq_mul_right hg this]
    unfold lowN
    rw [h1]
    unfold signed
    have hsg : z < 0 ↔ Z < 0 := by
      constructor <;> intro h
      · rcases Int.lt_or_le Z 0 with h2 | h2
        · exact h2
        · have := Int.mul_nonneg (show (0 : Int) ≤ ((Nat.gcd z.natAbs d : Nat) : Int) by omega) h2
          omega
      · have := Int.mul_neg_of_pos_of_neg (show (0 : Int) < ((Nat.gcd z.natAbs d : Nat) : Int) by omega) h
        omega
    by_cases h : z < 0
    · have h2 := hsg.1 h
      simp [h]; omega
    · have h2 : ¬ Z < 0 := fun k => h (hsg.2 k)
      simp [h]; omega
  have hDD : lowD z d = D := by
    unfold lowD
    exact Nat.div_eq_of_eq_mul_right hg hD
  have hD0 : 0 < lowD z d := by
    rw [hDD]
    exact Nat.pos_of_ne_zero fun h => by rw [h] at hD; omega
  refine num_den_of hD0 (by rw [hN]; exact hc) ?_
  rw [hNZ, hDD]
  have e1 : (z : Rat) = ((Nat.gcd z.natAbs d : Nat) : Rat) * (Z : Rat) := by
    conv => lhs; rw [hZ]
    rw [Rat.intCast_mul, Rat.intCast_natCast]
  have e2 : (d : Rat) = ((Nat.gcd z.natAbs d : Nat) : Rat) * (D : Rat) := by
    conv => lhs; rw [hD]
    rw [Rat.natCast_mul]
  have n1 := cast_ne hg
  have n2 : (D : Rat) ≠ 0 := cast_ne (by rw [hDD] at hD0; exact hD0)
  rw [e1, e2]
  generalize ((Nat.gcd z.natAbs d : Nat) : Rat) = g at *
  grind
theorem ratText_rtxt {z : Int} {d : Nat} (hd : 0 < d) : ratText z d = rtxt ((z : Rat) / (d : Rat)) := by
  unfold rtxt ratText
  rw [(low_ends hd).1, (low_ends hd).2]
theorem FracText.form {l : List UInt8} {q : Rat} (h : FracText l q) : RatForm l q.num q.den ∧ l = ratText q.num q.den ∧ l = rtxt q := by
  have hr : ratText q.num q.den = rtxt q := by rw [ratText_rtxt q.den_pos, ← self_div]
  rcases h with ⟨h, h1⟩ | ⟨a, b, rfl, h1, h2, h3⟩
  · have e : l = rtxt q := by unfold rtxt; rw [if_pos h1, List.append_nil]; exact h.itoa
    exact ⟨Or.inl ⟨h, h1⟩, by rw [hr]; exact e, e⟩
  · have hb : Numeral b ∧ q.den = seg b 0 b.length := by
      rcases h2 with ⟨h2, h4⟩ | ⟨t, rfl, h2, h4, h5⟩
      · exact ⟨h2, by omega⟩
      · omega
    have e : a ++ 47 :: b = rtxt q := by
      unfold rtxt
      rw [if_neg (by omega), ← h1.itoa]
      congr 2
      rw [hb.2]
      exact hb.1.dec
    exact ⟨Or.inr ⟨a, b, rfl, h1, hb.1, hb.2, q.den_pos⟩, by rw [hr]; exact e, e⟩
end Go.Proofs.YtfpooimjjpamoaaGreatDoor.rat
