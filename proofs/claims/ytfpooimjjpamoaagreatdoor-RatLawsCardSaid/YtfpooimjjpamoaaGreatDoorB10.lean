/-
  The steps of the walks, part 10: RefGetI, Law2Dg, Law2T.
-/
import Derived.Test.YtfpooimjjpamoaaGreatDoorB07
import Derived.Test.YtfpooimjjpamoaaGreatDoorS19
import Derived.Test.YtfpooimjjpamoaaGreatDoorS15
import Derived.Test.YtfpooimjjpamoaaGreatDoorS17
namespace Go.Proofs.YtfpooimjjpamoaaGreatDoor.ref
open Go.RowKit
def GetIEnd (l : List UInt8) (w : World) (e : Ending) (w' : World) : Prop :=
  ∃ s b ok, e = .returned (.tuple #[.agg #[.bool b, s], .bool ok]) ∧ (ok = true → ∃ z, IntText l z ∧ b = decide (z < 0) ∧ IsN w' s z.natAbs) ∧ (ok = false → (∀ z, ¬ IntText l z) ∧ s = .slice none 0 0 ∧ b = false) ∧ Below w.heap.size w w'
theorem GetN_yes (l : List UInt8) (w : World) (h : Numeral l) :
    Calls Tryz.prog 45 #[.string (str l)] w fun e w' => ∃ sv, e = .returned (.tuple #[sv, .bool true]) ∧ IsN w' sv (seg l 0 l.length) ∧ Below w.heap.size w w' := by
  refine (GetN_any l w (by have := h.2.1; omega)).mono ?_
  rintro e w' ⟨sv, ok, rfl, h1, h2, hb⟩
  cases ok
  · exact absurd h (h2 rfl).1
  · exact ⟨sv, rfl, (h1 rfl).2, hb⟩
theorem GetN_no (l : List UInt8) (w : World) (hl : l.length ≤ 100000) (h : ¬ Numeral l) :
    Calls Tryz.prog 45 #[.string (str l)] w fun e w' => e = .returned (.tuple #[.slice none 0 0, .bool false]) ∧ Below w.heap.size w w' := by
  refine (GetN_any l w hl).mono ?_
  rintro e w' ⟨sv, ok, rfl, h1, h2, hb⟩
  cases ok
  · rw [(h2 rfl).2]
    exact ⟨rfl, hb⟩
  · exact absurd (h1 rfl).1 h
set_option maxRecDepth 100000 in
set_option maxHeartbeats 4000000 in
theorem GetI_minus (t : List UInt8) (w : World) (hl : t.length ≤ 90000) :
    Calls Tryz.prog 70 #[.string (str (45 :: t))] w fun e w' => GetIEnd (45 :: t) w e w' := by
  have hzl : (str (45 :: t)).size = t.length + 1 := str_size _
  have hem : (str (45 :: t)).toList.isEmpty = false := by rw [ByteArray.toList_eq]; rfl
  have hg : ∀ h : 0 < (str (45 :: t)).size, ((str (45 :: t))[0]'h).toNat = 45 := fun _ => rfl
  have ht := str_tail 45 t
  rw [hzl] at ht
  by_cases hN : Numeral t
  · have hne : seg t 0 t.length = 0 ∨ seg t 0 t.length ≠ 0 := by omega
    have HNl := Lib.hid (digs_len_zero (seg t 0 t.length))
    have HIn := Lib.hid (fun (h : seg t 0 t.length ≠ 0) => (Or.inr ⟨t, rfl, hN, h, rfl⟩ : IntText (45 :: t) (-(seg t 0 t.length : Nat))))
    have HOut := Lib.hid (fun (h : seg t 0 t.length = 0) z (hz : IntText (45 :: t) z) => (show False by
      rcases hz with ⟨h1, -⟩ | ⟨t', h1, h2, h3, -⟩
      · exact numeral_head h1
      · simp at h1
        subst h1
        exact h3 h))
    have HG := Lib.hid (fun w => GetN_yes t w hN)
    have htl : t.length ≤ 4000 := hN.2.1
    generalize hs1 : str (45 :: t) = s at *
    generalize hs2 : str t = s2 at *
    generalize t.length = n at *
    generalize seg t 0 n = X at *
    clear hs1 hs2 hN
    rcases hne with h0 | h0
    · have hm : (digs X).length = 0 := HNl.out.2 h0
      go_enter Tryz.func70, Tryz.ntmps70
      go_wp2_with (first
        | (go_at_call 45; (with_reducible refine (HG.out _).mono ?_); rintro e' w2 ⟨sv, rfl, hs, hb⟩
           obtain ⟨so, sc, rfl, -⟩ := hs
           rw [hm]
           obtain ⟨c0, c1, f0, f1⟩ := (show MadeAt w w2 from hb).cells
           have HB2 := Lib.hid (((Below.refl w.heap.size w).alloc (Nat.le_refl _) _).trans (hb.mono (by simp)))
           clear hb)
        | (fail "no arm"))
      obtain ⟨q0, q1⟩ := two_cells (.bool false) (.slice none 0 0) c0 c1
      refine bodyPost_ret (v := .tuple #[.agg #[.bool false, .slice none 0 0], .bool false]) ?_ rfl ?_
      · simp [results, Tryz.results70, go_sem, q0, q1]
      · exact ⟨_, _, _, rfl, (fun h => by cases h), fun _ => ⟨HOut.out h0, rfl, rfl⟩, (HB2.out.setCell (Nat.le_refl _) _).setCell (Nat.le_refl _) _⟩
    · have hm : (((digs X).length : Int) == 0) = false := by have := HNl.out; simp only [beq_eq_false_iff_ne, ne_eq]; omega
      go_enter Tryz.func70, Tryz.ntmps70
      go_wp2_with (first
        | (go_at_call 45; (with_reducible refine (HG.out _).mono ?_); rintro e' w2 ⟨sv, rfl, hs, hb⟩
           have HS := Lib.hid hs
           obtain ⟨so, sc, rfl, -⟩ := hs
           obtain ⟨c0, c1, f0, f1⟩ := (show MadeAt w w2 from hb).cells
           have HB2 := Lib.hid (((Below.refl w.heap.size w).alloc (Nat.le_refl _) _).trans (hb.mono (by simp)))
           clear hb)
        | (fail "no arm"))
      obtain ⟨q0, q1⟩ := two_cells (.bool true) (.slice so (digs X).length sc) c0 c1
      refine bodyPost_ret (v := .tuple #[.agg #[.bool true, .slice so (digs X).length sc], .bool true]) ?_ rfl ?_
      · simp [results, Tryz.results70, go_sem, q0, q1]
      · exact ⟨_, _, _, rfl, fun _ => ⟨_, HIn.out h0, by rw [decide_eq_true (by omega)], by rw [show (-(X : Int)).natAbs = X by omega]; exact Reads.result (Reads.result HS.out c0 0 _) q0 1 _⟩, (fun h => by cases h), (HB2.out.setCell (Nat.le_refl _) _).setCell (Nat.le_refl _) _⟩
  · have HOut := Lib.hid (fun z (hz : IntText (45 :: t) z) => (show False by
      rcases hz with ⟨h1, -⟩ | ⟨t', h1, h2, h3, -⟩
      · exact numeral_head h1
      · simp at h1
        subst h1
        exact hN h2))
    have HG := Lib.hid (fun w => GetN_no t w (by omega) hN)
    generalize hs1 : str (45 :: t) = s at *
    generalize hs2 : str t = s2 at *
    generalize t.length = n at *
    clear hs1 hs2 hN
    go_enter Tryz.func70, Tryz.ntmps70
    go_wp2_with (first
      | (go_at_call 45; (with_reducible refine (HG.out _).mono ?_); rintro e' w2 ⟨rfl, hb⟩
         obtain ⟨c0, c1, f0, f1⟩ := (show MadeAt w w2 from hb).cells
         have HB2 := Lib.hid (((Below.refl w.heap.size w).alloc (Nat.le_refl _) _).trans (hb.mono (by simp)))
         clear hb)
      | (fail "no arm"))
    obtain ⟨q0, q1⟩ := two_cells (.bool false) (.slice none 0 0) c0 c1
    refine bodyPost_ret (v := .tuple #[.agg #[.bool false, .slice none 0 0], .bool false]) ?_ rfl ?_
    · simp [results, Tryz.results70, go_sem, q0, q1]
    · exact ⟨_, _, _, rfl, (fun h => by cases h), fun _ => ⟨HOut.out, rfl, rfl⟩, (HB2.out.setCell (Nat.le_refl _) _).setCell (Nat.le_refl _) _⟩
theorem no_minus {l : List UInt8} {z : Int} (h : ∀ t, l ≠ 45 :: t) (hz : IntText l z) : Numeral l ∧ z = (seg l 0 l.length : Nat) := by
  rcases hz with hz | ⟨t, h1, _⟩
  · exact hz
  · exact absurd h1 (h t)
set_option maxRecDepth 100000 in
set_option maxHeartbeats 4000000 in
theorem GetI_plain (c : UInt8) (t : List UInt8) (w : World) (hl : t.length ≤ 90000) (hc : c ≠ 45) :
    Calls Tryz.prog 70 #[.string (str (c :: t))] w fun e w' => GetIEnd (c :: t) w e w' := by
  have hzl : (str (c :: t)).size = t.length + 1 := str_size _
  have hem : (str (c :: t)).toList.isEmpty = false := by rw [ByteArray.toList_eq]; rfl
  have hg : ∀ h : 0 < (str (c :: t)).size, ((str (c :: t))[0]'h).toNat = c.toNat := fun _ => rfl
  have hcn : c.toNat ≠ 45 := fun e => hc (by rw [← UInt8.ofNat_toNat (x := c), e]; rfl)
  have hcb : ((c.toNat : Int) == 45) = false := by simp only [beq_eq_false_iff_ne, ne_eq]; omega
  have hnm : ∀ t', c :: t ≠ 45 :: t' := fun t' e => hc (by simp at e; exact e.1)
  generalize hcc : c.toNat = C at *
  clear hcc hcn
  by_cases hN : Numeral (c :: t)
  · have HIn : Hid (IntText (c :: t) (seg (c :: t) 0 (c :: t).length : Nat)) := Lib.hid (Or.inl ⟨hN, rfl⟩)
    have HG := Lib.hid (fun w => GetN_yes (c :: t) w hN)
    generalize hX : seg (c :: t) 0 (c :: t).length = X at *
    generalize hs1 : str (c :: t) = s at *
    generalize t.length = n at *
    clear hs1 hN hX hnm
    go_enter Tryz.func70, Tryz.ntmps70
    go_wp2_with (first
      | (go_at_call 45; (with_reducible refine (HG.out _).mono ?_); rintro e' w2 ⟨sv, rfl, hs, hb⟩
         have HS := Lib.hid hs
         obtain ⟨so, sc, rfl, -⟩ := hs
         obtain ⟨c0, c1, f0, f1⟩ := (show MadeAt w w2 from hb).cells
         have HB2 := Lib.hid (((Below.refl w.heap.size w).alloc (Nat.le_refl _) _).trans (hb.mono (by simp)))
         clear hb)
      | (fail "no arm"))
    obtain ⟨q0, q1⟩ := two_cells (.bool false) (.slice so (digs X).length sc) c0 c1
    refine bodyPost_ret (v := .tuple #[.agg #[.bool false, .slice so (digs X).length sc], .bool true]) ?_ rfl ?_
    · simp [results, Tryz.results70, go_sem, q0, q1]
    · exact ⟨_, _, _, rfl, fun _ => ⟨(X : Int), HIn.out, by rw [decide_eq_false (by omega)], by rw [Int.natAbs_natCast]; exact Reads.result (Reads.result HS.out c0 0 _) q0 1 _⟩, (fun h => by cases h), (HB2.out.setCell (Nat.le_refl _) _).setCell (Nat.le_refl _) _⟩
  · have HOut := Lib.hid (fun z (hz : IntText (c :: t) z) => (show False from hN (no_minus hnm hz).1))
    have HG := Lib.hid (fun w => GetN_no (c :: t) w (by simp; omega) hN)
    generalize hs1 : str (c :: t) = s at *
    generalize t.length = n at *
    clear hs1 hN hnm
    go_enter Tryz.func70, Tryz.ntmps70
    go_wp2_with (first
      | (go_at_call 45; (with_reducible refine (HG.out _).mono ?_); rintro e' w2 ⟨rfl, hb⟩
         obtain ⟨c0, c1, f0, f1⟩ := (show MadeAt w w2 from hb).cells
         have HB2 := Lib.hid (((Below.refl w.heap.size w).alloc (Nat.le_refl _) _).trans (hb.mono (by simp)))
         clear hb)
      | (fail "no arm"))
    obtain ⟨q0, q1⟩ := two_cells (.bool false) (.slice none 0 0) c0 c1
    refine bodyPost_ret (v := .tuple #[.agg #[.bool false, .slice none 0 0], .bool false]) ?_ rfl ?_
    · simp [results, Tryz.results70, go_sem, q0, q1]
    · exact ⟨_, _, _, rfl, (fun h => by cases h), fun _ => ⟨HOut.out, rfl, rfl⟩, (HB2.out.setCell (Nat.le_refl _) _).setCell (Nat.le_refl _) _⟩
set_option maxRecDepth 100000 in
set_option maxHeartbeats 4000000 in
theorem GetI_none (w : World) :
    Calls Tryz.prog 70 #[.string (str [])] w fun e w' => GetIEnd [] w e w' := by
  have hem : (str []).toList.isEmpty = true := by rw [ByteArray.toList_eq]; rfl
  have hzl : (str []).size = 0 := rfl
  have hN : ¬ Numeral [] := fun h => by have := h.1; simp at this
  have HOut := Lib.hid (fun z (hz : IntText [] z) => (show False from hN (no_minus (by simp) hz).1))
  have HG := Lib.hid (fun w => GetN_no [] w (by simp) hN)
  generalize hs1 : str [] = s at *
  clear hs1 hN
  go_enter Tryz.func70, Tryz.ntmps70
  go_wp2_with (first
    | (go_at_call 45; (with_reducible refine (HG.out _).mono ?_); rintro e' w2 ⟨rfl, hb⟩
       obtain ⟨c0, c1, f0, f1⟩ := (show MadeAt w w2 from hb).cells
       have HB2 := Lib.hid (((Below.refl w.heap.size w).alloc (Nat.le_refl _) _).trans (hb.mono (by simp)))
       clear hb)
    | (fail "no arm"))
  obtain ⟨q0, q1⟩ := two_cells (.bool false) (.slice none 0 0) c0 c1
  refine bodyPost_ret (v := .tuple #[.agg #[.bool false, .slice none 0 0], .bool false]) ?_ rfl ?_
  · simp [results, Tryz.results70, go_sem, q0, q1]
  · exact ⟨_, _, _, rfl, (fun h => by cases h), fun _ => ⟨HOut.out, rfl, rfl⟩, (HB2.out.setCell (Nat.le_refl _) _).setCell (Nat.le_refl _) _⟩
theorem GetI_any (l : List UInt8) (w : World) (hl : l.length ≤ 90000) :
    Calls Tryz.prog 70 #[.string (str l)] w fun e w' => GetIEnd l w e w' := by
  rcases l with _ | ⟨c, t⟩
  · exact GetI_none w
  · simp at hl
    by_cases hc : c = 45
    · subst hc
      exact GetI_minus t w (by omega)
    · exact GetI_plain c t w (by omega) hc
end Go.Proofs.YtfpooimjjpamoaaGreatDoor.ref
namespace Go.Proofs.YtfpooimjjpamoaaGreatDoor.law2
open Go.RowKit Go.Proofs.YtfpooimjjpamoaaGreatDoor.nat
open Go.Proofs.YtfpooimjjpamoaaGreatDoor.ref (str str_size str_append ch seg IsDig Numeral seg_lt)
def Front (t : List UInt8) (n : Nat) : Prop := t.length ≤ n ∧ (t ≠ [] → ch t 0 ≠ 48) ∧ ∀ i, i < t.length → IsDig t i
theorem Front.numeral {t : List UInt8} {n : Nat} (h : Front t n) (hn : n ≤ 4000) (hne : t ≠ []) : Numeral t :=
  ⟨List.length_pos_iff.2 hne, by have := h.1; omega, fun _ => h.2.1 hne, h.2.2⟩
theorem Front.next {t : List UInt8} {n : Nat} {c : UInt8} (h : Front t n) (hl : t.length < n) (h1 : 48 ≤ c.toNat) (h2 : c.toNat ≤ 57) (h3 : t ≠ [] ∨ c.toNat ≠ 48) : Front (t ++ [c]) n := by
  refine ⟨by simp; omega, fun _ => ?_, fun i hi => ?_⟩
  · rcases t with _ | ⟨d, t⟩
    · simp [ch]
      rcases h3 with h3 | h3
      · exact absurd rfl h3
      · exact h3
    · exact h.2.1 (by simp)
  · simp at hi
    by_cases hi2 : i < t.length
    · have := h.2.2 i hi2
      unfold IsDig ch at this ⊢
      rw [List.getD_eq_getElem?_getD, List.getElem?_append_left hi2, ← List.getD_eq_getElem?_getD]
      exact this
    · obtain rfl : i = t.length := by omega
      unfold IsDig ch
      simp
      exact ⟨h1, h2⟩
def DRel (w : World) (l : List UInt8) (n : Nat) (tv iv : Value) (wr : World) : Prop :=
  w = wr ∧ ∃ (t : List UInt8) (i : Nat), i ≤ l.length ∧ iv = .int .i64 i ∧ tv = .string (str t) ∧ Front t n
set_option maxRecDepth 100000 in
set_option maxHeartbeats 4000000 in
theorem Digits_any (l : List UInt8) (n : Nat) (w : World) (hl : l.length ≤ 4611686018427387904) (hn : n ≤ 4000) :
    Calls Tryz.prog 101 #[.string (str l), .int .i64 (n : Nat)] w fun e w' => ∃ t, e = .returned (.string (str t)) ∧ (Numeral t ∧ t.length ≤ max n 1) ∧ w = w' := by
  have hz : (str l).size = l.length := str_size l
  have HG := Lib.hid (fun i (h : i < (str l).size) => ch_get (l := l) h)
  have HX := Lib.hid (fun i (h : i < l.length) => (show (str l).extract i (i + 1) = str [UInt8.ofNat (ch l i)] ∧ ch l i < 256 from by
    have hc : ch l i = l[i].toNat := by simp [ch, h]
    have he : UInt8.ofNat (ch l i) = l[i] := by rw [hc, UInt8.ofNat_toNat]
    refine ⟨?_, by rw [hc]; exact l[i].toNat_lt⟩
    rw [he]
    apply ByteArray.ext
    simp [str, List.take_one, h]))
  obtain ⟨N, hN⟩ : ∃ N, l.length = N := ⟨_, rfl⟩
  rw [hN] at hz HX hl
  have HN := Lib.hid hN
  generalize str l = s at *
  clear hN
  go_enter Tryz.func101, Tryz.ntmps101
  go_wp2
  go_loopw [5, 6] (fun tv iv wr => DRel w l n tv iv wr) (fun _ iv _ => N - (intOf iv).toNat)
  case atStart => exact ⟨rfl, [], 0, Nat.zero_le _, rfl, rfl, by simp, fun h => absurd rfl h, fun i hi => by simp at hi⟩
  case round =>
    obtain ⟨rfl, t, i, hi, rfl, rfl, hF⟩ := hrel
    rw [HN.out] at hi
    have HF := Lib.hid hF
    have hts : (str t).size = t.length := str_size t
    have hte : (str t).toList.isEmpty = t.isEmpty := by rw [ByteArray.toList_eq]; rfl
    have htn := hF.1
    by_cases hgo : i < N ∧ t.length < n
    · obtain ⟨hiN, htl⟩ := hgo
      obtain ⟨hx, hc256⟩ := HX.out i hiN
      have hgk : ∀ h : i < s.size, (s[i]'h).toNat = ch l i := fun h => HG.out _ h
      have HNext := Lib.hid (fun h1 h2 h3 => hF.next (c := UInt8.ofNat (ch l i)) htl h1 h2 h3)
      have HTo := Lib.hid (show (UInt8.ofNat (ch l i)).toNat = ch l i by rw [UInt8.toNat_ofNat']; omega)
      have HAp := Lib.hid (str_append t [UInt8.ofNat (ch l i)])
      have hs1 : (str [UInt8.ofNat (ch l i)]).size = 1 := rfl
      have hcat : ¬ 9223372036854775807 < (str t).size + (str [UInt8.ofNat (ch l i)]).size := by omega
      generalize str [UInt8.ofNat (ch l i)] = one at *
      generalize hcc : ch l i = c at *
      have HSt := Lib.hid (show str t = str t from rfl)
      clear hcc hF
      by_cases h1 : c < 48
      · go_wp2
        refine ⟨?_, ?_⟩
        · exact ⟨rfl, t, i + 1, by rw [HN.out]; omega, by go_num, rfl, HF.out⟩
        · simp [intOf]; omega
      · by_cases h2 : 57 < c
        · go_wp2
          refine ⟨?_, ?_⟩
          · exact ⟨rfl, t, i + 1, by rw [HN.out]; omega, by go_num, rfl, HF.out⟩
          · simp [intOf]; omega
        · rcases t with _ | ⟨d, t⟩
          · have hte2 : (str []).toList.isEmpty = true := hte
            by_cases h48 : c = 48
            · subst h48
              go_wp2
              refine ⟨?_, ?_⟩
              · exact ⟨rfl, [], i + 1, by rw [HN.out]; omega, by go_num, rfl, HF.out⟩
              · simp [intOf]; omega
            · have hc48 : ((c : Int) == 48) = false := by simp only [beq_eq_false_iff_ne, ne_eq]; omega
              have HR := Lib.hid (HNext.out (by rw [HTo.out]; omega) (by rw [HTo.out]; omega) (Or.inr (by rw [HTo.out]; omega)))
              go_wp2
              refine ⟨?_, ?_⟩
              · exact ⟨rfl, _, i + 1, by rw [HN.out]; omega, by go_num, by rw [HAp.out], HR.out⟩
              · simp [intOf]; omega
          · have hte2 : (str (d :: t)).toList.isEmpty = false := hte
            have hlt2 : ((t.length : Int) + 1) < (n : Int) := by have := htl; simp at this; omega
            have HR := Lib.hid (HNext.out (by rw [HTo.out]; omega) (by rw [HTo.out]; omega) (Or.inl (by simp)))
            generalize str (d :: t) = st at *
            go_wp2
            refine ⟨?_, ?_⟩
            · exact ⟨rfl, _, i + 1, by rw [HN.out]; omega, by go_num, by rw [HAp.out], HR.out⟩
            · simp [intOf]; omega
    · rcases t with _ | ⟨d, t⟩
      · have hte2 : (str []).toList.isEmpty = true := hte
        have h0 : Numeral [48] := by
          refine ⟨by simp, by simp, fun h => by simp at h, fun i hi => ?_⟩
          have : i = 0 := by simp at hi; omega
          subst this
          exact ⟨by decide, by decide⟩
        have HNum := Lib.hid h0
        clear hF h0
        rcases Nat.lt_or_ge i N with hiN | hiN
        · have hn0 : n = 0 := by
            rcases Nat.eq_zero_or_pos n with h | h
            · exact h
            · exact absurd ⟨hiN, by simpa using h⟩ hgo
          subst hn0
          clear hgo
          go_wp2
          go_ret
          exact ⟨[48], rfl, ⟨HNum.out, by simp⟩, rfl⟩
        · obtain rfl : i = N := by omega
          clear hgo
          go_wp2
          go_ret
          exact ⟨[48], rfl, ⟨HNum.out, by simp; omega⟩, rfl⟩
      · have hte2 : (str (d :: t)).toList.isEmpty = false := hte
        have HNum := Lib.hid (hF.numeral hn (by simp))
        have HLe := Lib.hid hF.1
        have hnot : ¬ (i < N ∧ (d :: t).length < n) := hgo
        generalize hst : str (d :: t) = st at *
        have HSt := Lib.hid hst
        clear hF hst hgo
        rcases Nat.lt_or_ge i N with hiN | hiN
        · have hlt2 : ¬ ((t.length : Int) + 1) < (n : Int) := by
            intro h
            exact hnot ⟨hiN, by simp; omega⟩
          clear hnot
          go_wp2
          go_ret
          exact ⟨d :: t, by rw [HSt.out]; rfl, ⟨HNum.out, by have := HLe.out; omega⟩, rfl⟩
        · obtain rfl : i = N := by omega
          clear hnot
          go_wp2
          go_ret
          exact ⟨d :: t, by rw [HSt.out]; rfl, ⟨HNum.out, by have := HLe.out; omega⟩, rfl⟩
end Go.Proofs.YtfpooimjjpamoaaGreatDoor.law2
namespace Go.Proofs.YtfpooimjjpamoaaGreatDoor.law2
open Go.RowKit Go.Proofs.YtfpooimjjpamoaaGreatDoor.nat
open Go.Proofs.YtfpooimjjpamoaaGreatDoor.ref (str str_size)
theorem str_take (l : List UInt8) (m : Nat) : (str l).extract 0 m = str (l.take m) := by
  apply ByteArray.ext
  simp [str]
set_option maxRecDepth 100000 in
theorem Text_any (l : List UInt8) (n : Nat) (w : World) (hl : l.length ≤ 4611686018427387904) (hn : n ≤ 100000) :
    Calls Tryz.prog 43 #[.string (str l), .int .i64 (n : Nat)] w fun e w' => e = .returned (.string (str (l.take n))) ∧ w = w' := by
  have hz : (str l).size = l.length := str_size l
  have HX := Lib.hid (fun m => str_take l m)
  obtain ⟨N, hN⟩ : ∃ N, l.length = N := ⟨_, rfl⟩
  rw [hN] at hz hl
  have HT := Lib.hid (show l.take (min N n) = l.take n by
    rcases Nat.le_total N n with h | h
    · rw [Nat.min_eq_left h, List.take_of_length_le (by omega), List.take_of_length_le (by omega)]
    · rw [Nat.min_eq_right h])
  generalize str l = s at *
  clear hN
  go_enter Tryz.func43, Tryz.ntmps43
  go_wp2
  go_ret
  refine ⟨?_, rfl⟩
  show Ending.returned (.string (s.extract 0 (min (N : Int) (n : Int)).toNat)) = _
  rw [show (min (N : Int) (n : Int)).toNat = min N n by omega, HX.out, HT.out]
end Go.Proofs.YtfpooimjjpamoaaGreatDoor.law2
