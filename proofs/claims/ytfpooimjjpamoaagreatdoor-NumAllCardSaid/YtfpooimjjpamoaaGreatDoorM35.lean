/-
  The steps of the walks, part 35: RefGetI, Law2Dg, Law2Z, Code, TextD, RatForm.
-/
import Derived.Test.YtfpooimjjpamoaaGreatDoorM34
import Derived.Test.YtfpooimjjpamoaaGreatDoorM25
import Derived.Test.YtfpooimjjpamoaaGreatDoorM19
import Derived.Test.YtfpooimjjpamoaaGreatDoorM21
import Derived.Test.YtfpooimjjpamoaaGreatDoorM26
namespace Go.Proofs.YtfpooimjjpamoaaGreatDoor.ref
open Go.RowKit
set_option maxRecDepth 100000 in
set_option maxHeartbeats 4000000 in
theorem ISmall_in (v : Value) (z : Int) (w : World) (hv : IsI w v z) (h1 : -9223372036854775808 ≤ z) (h2 : z < 9223372036854775808) :
    Calls Tryz.prog 59 #[v] w fun e w' => e = .returned (.tuple #[.int .i64 z, .bool true]) ∧ Below w.heap.size w w' := by
  obtain ⟨s, rfl, hs⟩ := hv
  obtain ⟨ao, ac, rfl, -⟩ := id hs
  have HB := Lib.hid ((Below.refl w.heap.size w).alloc (Nat.le_refl _) (.cells #[.bool (decide (z < 0)), .slice ao (digs z.natAbs).length ac] 57))
  have HS : Calls Tryz.prog 125 #[.slice ao (digs z.natAbs).length ac] (w.alloc (.cells #[.bool (decide (z < 0)), .slice ao (digs z.natAbs).length ac] 57)) fun e w' => e = .returned (.tuple #[.int .u64 ((z.natAbs : Nat) : Int), .bool true]) ∧ Below (w.alloc (.cells #[.bool (decide (z < 0)), .slice ao (digs z.natAbs).length ac] 57)).heap.size (w.alloc (.cells #[.bool (decide (z < 0)), .slice ao (digs z.natAbs).length ac] 57)) w' := by
    refine (Small_any _ z.natAbs _ (hs.below HB.out)).mono ?_
    rintro e w' ⟨ha, -, hb⟩
    exact ⟨ha (by omega), hb⟩
  generalize (digs z.natAbs).length = n at *
  by_cases h : z < 0
  · rw [show ((z.natAbs : Nat) : Int) = -z by omega] at HS
    rw [decide_eq_true h] at *
    have HS := Lib.hid HS
    clear hs
    go_enter Tryz.func59, Tryz.ntmps59
    go_wp2_with (first
      | (go_at_call 125; (with_reducible refine (HS.out).mono ?_); rintro e' w2 ⟨rfl, hb⟩
         have k0 : w2.cell? ⟨w.heap.size, 0, none⟩ = some (.bool true) := (hb.cell (p := ⟨w.heap.size, 0, none⟩) (by simp)).trans (cell_of_row _ w.heap.size 0 _ 57 (0, 0) (heap_alloc_new w _))
         have HB2 := Lib.hid (HB.out.trans (hb.mono HB.out.size))
         clear hb)
      | (fail "no arm"))
    go_ret2
    refine ⟨?_, HB2.out⟩
    show Ending.returned (.tuple #[.int .i64 (-(-z - 1) - 1), .bool true]) = _
    rw [show -(-z - 1) - 1 = z by omega]
  · rw [show ((z.natAbs : Nat) : Int) = z by omega] at HS
    rw [decide_eq_false h] at *
    have HS := Lib.hid HS
    clear hs
    go_enter Tryz.func59, Tryz.ntmps59
    go_wp2_with (first
      | (go_at_call 125; (with_reducible refine (HS.out).mono ?_); rintro e' w2 ⟨rfl, hb⟩
         have k0 : w2.cell? ⟨w.heap.size, 0, none⟩ = some (.bool false) := (hb.cell (p := ⟨w.heap.size, 0, none⟩) (by simp)).trans (cell_of_row _ w.heap.size 0 _ 57 (0, 0) (heap_alloc_new w _))
         have HB2 := Lib.hid (HB.out.trans (hb.mono HB.out.size))
         clear hb)
      | (fail "no arm"))
    go_ret2
    exact ⟨rfl, HB2.out⟩
set_option maxRecDepth 100000 in
set_option maxHeartbeats 4000000 in
theorem ISmall_out (v : Value) (z : Int) (w : World) (hv : IsI w v z) (h : z < -9223372036854775808 ∨ 9223372036854775808 ≤ z) :
    Calls Tryz.prog 59 #[v] w fun e w' => e = .returned (.tuple #[.int .i64 0, .bool false]) ∧ Below w.heap.size w w' := by
  obtain ⟨s, rfl, hs⟩ := hv
  obtain ⟨ao, ac, rfl, -⟩ := id hs
  have HB := Lib.hid ((Below.refl w.heap.size w).alloc (Nat.le_refl _) (.cells #[.bool (decide (z < 0)), .slice ao (digs z.natAbs).length ac] 57))
  have HE := Small_any _ z.natAbs _ (hs.below HB.out)
  generalize (digs z.natAbs).length = n at *
  rcases Nat.lt_or_ge z.natAbs 18446744073709551616 with hl | hl
  · have HS : ∃ S : Int, S = ((z.natAbs : Nat) : Int) ∧ Calls Tryz.prog 125 #[.slice ao n ac] (w.alloc (.cells #[.bool (decide (z < 0)), .slice ao n ac] 57)) fun e w' => e = .returned (.tuple #[.int .u64 S, .bool true]) ∧ Below (w.alloc (.cells #[.bool (decide (z < 0)), .slice ao n ac] 57)).heap.size (w.alloc (.cells #[.bool (decide (z < 0)), .slice ao n ac] 57)) w' := by
      refine ⟨_, rfl, HE.mono ?_⟩
      rintro e w' ⟨ha, -, hb⟩
      exact ⟨ha hl, hb⟩
    obtain ⟨S, hS, HS⟩ := HS
    by_cases hz : z < 0
    · have hx : (9223372036854775808 : Int) < S := by omega
      rw [decide_eq_true hz] at *
      have HS2 := Lib.hid HS
      clear hs HE hl hS h HS
      go_enter Tryz.func59, Tryz.ntmps59
      go_wp2_with (first
        | (go_at_call 125; (with_reducible refine (HS2.out).mono ?_); rintro e' w2 ⟨rfl, hb⟩
           have k0 : w2.cell? ⟨w.heap.size, 0, none⟩ = some (.bool true) := (hb.cell (p := ⟨w.heap.size, 0, none⟩) (by simp)).trans (cell_of_row _ w.heap.size 0 _ 57 (0, 0) (heap_alloc_new w _))
           have HB2 := Lib.hid (HB.out.trans (hb.mono HB.out.size))
           clear hb)
        | (fail "no arm"))
      go_ret2
      exact ⟨rfl, HB2.out⟩
    · have hx : (9223372036854775807 : Int) < S := by omega
      rw [decide_eq_false hz] at *
      have HS2 := Lib.hid HS
      clear hs HE hl hS h HS
      go_enter Tryz.func59, Tryz.ntmps59
      go_wp2_with (first
        | (go_at_call 125; (with_reducible refine (HS2.out).mono ?_); rintro e' w2 ⟨rfl, hb⟩
           have k0 : w2.cell? ⟨w.heap.size, 0, none⟩ = some (.bool false) := (hb.cell (p := ⟨w.heap.size, 0, none⟩) (by simp)).trans (cell_of_row _ w.heap.size 0 _ 57 (0, 0) (heap_alloc_new w _))
           have HB2 := Lib.hid (HB.out.trans (hb.mono HB.out.size))
           clear hb)
        | (fail "no arm"))
      go_ret2
      exact ⟨rfl, HB2.out⟩
  · have HS : Calls Tryz.prog 125 #[.slice ao n ac] (w.alloc (.cells #[.bool (decide (z < 0)), .slice ao n ac] 57)) fun e w' => e = .returned (.tuple #[.int .u64 0, .bool false]) ∧ Below (w.alloc (.cells #[.bool (decide (z < 0)), .slice ao n ac] 57)).heap.size (w.alloc (.cells #[.bool (decide (z < 0)), .slice ao n ac] 57)) w' := by
      refine HE.mono ?_
      rintro e w' ⟨-, ha, hb⟩
      exact ⟨ha (by omega), hb⟩
    have HS2 := Lib.hid HS
    generalize decide (z < 0) = p at *
    clear hs HE hl h HS
    go_enter Tryz.func59, Tryz.ntmps59
    go_wp2_with (first
      | (go_at_call 125; (with_reducible refine (HS2.out).mono ?_); rintro e' w2 ⟨rfl, hb⟩
         have k0 : w2.cell? ⟨w.heap.size, 0, none⟩ = some (.bool p) := (hb.cell (p := ⟨w.heap.size, 0, none⟩) (by simp)).trans (cell_of_row _ w.heap.size 0 _ 57 (0, 0) (heap_alloc_new w _))
         have HB2 := Lib.hid (HB.out.trans (hb.mono HB.out.size))
         clear hb)
      | (fail "no arm"))
    go_ret2
    exact ⟨rfl, HB2.out⟩
theorem GetN_yes (l : List UInt8) (w : World) (h : Numeral l) :
    Calls Tryz.prog 45 #[.string (str l)] w fun e w' => ∃ sv, e = .returned (.tuple #[sv, .bool true]) ∧ IsN w' sv (seg l 0 l.length) ∧ Below w.heap.size w w' := by
  refine (GetN_any l w (by have := h.2.1; omega)).mono ?_
  rintro e w' ⟨sv, ok, rfl, h1, h2, hb⟩
  cases ok
  · exact absurd h (h2 rfl).1
  · exact ⟨sv, rfl, (h1 rfl).2, hb⟩
end Go.Proofs.YtfpooimjjpamoaaGreatDoor.ref
namespace Go.Proofs.YtfpooimjjpamoaaGreatDoor.law2
open Go.RowKit Go.Proofs.YtfpooimjjpamoaaGreatDoor.nat
open Go.Proofs.YtfpooimjjpamoaaGreatDoor.ref (str str_size str_append ch seg IsDig Numeral seg_lt)
def Front (t : List UInt8) (n : Nat) : Prop := t.length ≤ n ∧ (t ≠ [] → ch t 0 ≠ 48) ∧ ∀ i, i < t.length → IsDig t i
theorem Front.numeral {t : List UInt8} {n : Nat} (h : Front t n) (hn : n ≤ 4000) (hne : t ≠ []) : Numeral t :=
  ⟨List.length_pos_iff.2 hne, by have := h.1; omega, fun _ => h.2.1 hne, h.2.2⟩
theorem Front.next {t : List UInt8} {n : Nat} {c : UInt8} (h : Front t n) (hl : t.length < n) (h1 : 48 ≤ c.toNat) (h2 : c.toNat ≤ 57) (h3 : t ≠ [] ∨ c.toNat ≠ 48) : Front (t ++ [c]) n := by
  refine ⟨by simp; omega, fun _ => ?_, fun i hi => ?_⟩
  · rcases t with _ | ⟨d, t⟩
    · simp [ch]
      rcases h3 with h3 | h3
      · exact absurd rfl h3
      · exact h3
    · exact h.2.1 (by simp)
  · simp at hi
    by_cases hi2 : i < t.length
    · have := h.2.2 i hi2
      unfold IsDig ch at this ⊢
      rw [List.getD_eq_getElem?_getD, List.getElem?_append_left hi2, ← List.getD_eq_getElem?_getD]
      exact this
    · obtain rfl : i = t.length := by omega
      unfold IsDig ch
      simp
      exact ⟨h1, h2⟩
def DRel (w : World) (l : List UInt8) (n : Nat) (tv iv : Value) (wr : World) : Prop :=
  w = wr ∧ ∃ (t : List UInt8) (i : Nat), i ≤ l.length ∧ iv = .int .i64 i ∧ tv = .string (str t) ∧ Front t n
set_option maxRecDepth 100000 in
set_option maxHeartbeats 4000000 in
theorem Digits_any (l : List UInt8) (n : Nat) (w : World) (hl : l.length ≤ 4611686018427387904) (hn : n ≤ 4000) :
    Calls Tryz.prog 101 #[.string (str l), .int .i64 (n : Nat)] w fun e w' => ∃ t, e = .returned (.string (str t)) ∧ (Numeral t ∧ t.length ≤ max n 1) ∧ w = w' := by
  have hz : (str l).size = l.length := str_size l
  have HG := Lib.hid (fun i (h : i < (str l).size) => ch_get (l := l) h)
  have HX := Lib.hid (fun i (h : i < l.length) => (show (str l).extract i (i + 1) = str [UInt8.ofNat (ch l i)] ∧ ch l i < 256 from by
    have hc : ch l i = l[i].toNat := by simp [ch, h]
    have he : UInt8.ofNat (ch l i) = l[i] := by rw [hc, UInt8.ofNat_toNat]
    refine ⟨?_, by rw [hc]; exact l[i].toNat_lt⟩
    rw [he]
    apply ByteArray.ext
    simp [str, List.take_one, h]))
  obtain ⟨N, hN⟩ : ∃ N, l.length = N := ⟨_, rfl⟩
  rw [hN] at hz HX hl
  have HN := Lib.hid hN
  generalize str l = s at *
  clear hN
  go_enter Tryz.func101, Tryz.ntmps101
  go_wp2
  go_loopw [5, 6] (fun tv iv wr => DRel w l n tv iv wr) (fun _ iv _ => N - (intOf iv).toNat)
  case atStart => exact ⟨rfl, [], 0, Nat.zero_le _, rfl, rfl, by simp, fun h => absurd rfl h, fun i hi => by simp at hi⟩
  case round =>
    obtain ⟨rfl, t, i, hi, rfl, rfl, hF⟩ := hrel
    rw [HN.out] at hi
    have HF := Lib.hid hF
    have hts : (str t).size = t.length := str_size t
    have hte : (str t).toList.isEmpty = t.isEmpty := by rw [ByteArray.toList_eq]; rfl
    have htn := hF.1
    by_cases hgo : i < N ∧ t.length < n
    · obtain ⟨hiN, htl⟩ := hgo
      obtain ⟨hx, hc256⟩ := HX.out i hiN
      have hgk : ∀ h : i < s.size, (s[i]'h).toNat = ch l i := fun h => HG.out _ h
      have HNext := Lib.hid (fun h1 h2 h3 => hF.next (c := UInt8.ofNat (ch l i)) htl h1 h2 h3)
      have HTo := Lib.hid (show (UInt8.ofNat (ch l i)).toNat = ch l i by rw [UInt8.toNat_ofNat']; omega)
      have HAp := Lib.hid (str_append t [UInt8.ofNat (ch l i)])
      have hs1 : (str [UInt8.ofNat (ch l i)]).size = 1 := rfl
      have hcat : ¬ 9223372036854775807 < (str t).size + (str [UInt8.ofNat (ch l i)]).size := by omega
      generalize str [UInt8.ofNat (ch l i)] = one at *
      generalize hcc : ch l i = c at *
      have HSt := Lib.hid (show str t = str t from rfl)
      clear hcc hF
      by_cases h1 : c < 48
      · go_wp2
        refine ⟨?_, ?_⟩
        · exact ⟨rfl, t, i + 1, by rw [HN.out]; omega, by go_num, rfl, HF.out⟩
        · simp [intOf]; omega
      · by_cases h2 : 57 < c
        · go_wp2
          refine ⟨?_, ?_⟩
          · exact ⟨rfl, t, i + 1, by rw [HN.out]; omega, by go_num, rfl, HF.out⟩
          · simp [intOf]; omega
        · rcases t with _ | ⟨d, t⟩
          · have hte2 : (str []).toList.isEmpty = true := hte
            by_cases h48 : c = 48
            · subst h48
              go_wp2
              refine ⟨?_, ?_⟩
              · exact ⟨rfl, [], i + 1, by rw [HN.out]; omega, by go_num, rfl, HF.out⟩
              · simp [intOf]; omega
            · have hc48 : ((c : Int) == 48) = false := by simp only [beq_eq_false_iff_ne, ne_eq]; omega
              have HR := Lib.hid (HNext.out (by rw [HTo.out]; omega) (by rw [HTo.out]; omega) (Or.inr (by rw [HTo.out]; omega)))
              go_wp2
              refine ⟨?_, ?_⟩
              · exact ⟨rfl, _, i + 1, by rw [HN.out]; omega, by go_num, by rw [HAp.out], HR.out⟩
              · simp [intOf]; omega
          · have hte2 : (str (d :: t)).toList.isEmpty = false := hte
            have hlt2 : ((t.length : Int) + 1) < (n : Int) := by have := htl; simp at this; omega
            have HR := Lib.hid (HNext.out (by rw [HTo.out]; omega) (by rw [HTo.out]; omega) (Or.inl (by simp)))
            generalize str (d :: t) = st at *
            go_wp2
            refine ⟨?_, ?_⟩
            · exact ⟨rfl, _, i + 1, by rw [HN.out]; omega, by go_num, by rw [HAp.out], HR.out⟩
            · simp [intOf]; omega
    · rcases t with _ | ⟨d, t⟩
      · have hte2 : (str []).toList.isEmpty = true := hte
        have h0 : Numeral [48] := by
          refine ⟨by simp, by simp, fun h => by simp at h, fun i hi => ?_⟩
          have : i = 0 := by simp at hi; omega
          subst this
          exact ⟨by decide, by decide⟩
        have HNum := Lib.hid h0
        clear hF h0
        rcases Nat.lt_or_ge i N with hiN | hiN
        · have hn0 : n = 0 := by
            rcases Nat.eq_zero_or_pos n with h | h
            · exact h
            · exact absurd ⟨hiN, by simpa using h⟩ hgo
          subst hn0
          clear hgo
          go_wp2
          go_ret
          exact ⟨[48], rfl, ⟨HNum.out, by simp⟩, rfl⟩
        · obtain rfl : i = N := by omega
          clear hgo
          go_wp2
          go_ret
          exact ⟨[48], rfl, ⟨HNum.out, by simp; omega⟩, rfl⟩
      · have hte2 : (str (d :: t)).toList.isEmpty = false := hte
        have HNum := Lib.hid (hF.numeral hn (by simp))
        have HLe := Lib.hid hF.1
        have hnot : ¬ (i < N ∧ (d :: t).length < n) := hgo
        generalize hst : str (d :: t) = st at *
        have HSt := Lib.hid hst
        clear hF hst hgo
        rcases Nat.lt_or_ge i N with hiN | hiN
        · have hlt2 : ¬ ((t.length : Int) + 1) < (n : Int) := by
            intro h
            exact hnot ⟨hiN, by simp; omega⟩
          clear hnot
          go_wp2
          go_ret
          exact ⟨d :: t, by rw [HSt.out]; rfl, ⟨HNum.out, by have := HLe.out; omega⟩, rfl⟩
        · obtain rfl : i = N := by omega
          clear hnot
          go_wp2
          go_ret
          exact ⟨d :: t, by rw [HSt.out]; rfl, ⟨HNum.out, by have := HLe.out; omega⟩, rfl⟩
set_option maxRecDepth 100000 in
set_option maxHeartbeats 4000000 in
theorem N_any (l : List UInt8) (w : World) (hl : l.length ≤ 4611686018427387904) :
    Calls Tryz.prog 26 #[.string (str l)] w fun e w' => ∃ a b X, e = .returned (.tuple #[a, b]) ∧ (X < 10 ^ 120 ∧ nat.IsN w' a X ∧ a ≠ .pointer none ∧ ref.IsN w' b X) ∧ Below w.heap.size w w' := by
  have HDg : Hid (Calls Tryz.prog 101 #[.string (str l), .int .i64 120] w fun e w' => ∃ t, e = .returned (.string (str t)) ∧ (Numeral t ∧ t.length ≤ max 120 1) ∧ w = w') := Lib.hid (Digits_any l 120 w hl (by omega))
  clear hl
  generalize str l = s0 at *
  go_enter Tryz.func26, Tryz.ntmps26
  go_wp2_with (first
    | (go_at_call 101; (with_reducible refine (HDg.out).mono ?_); rintro e w1 ⟨t, rfl, ⟨hN, hl⟩, rfl⟩
       have HN := Lib.hid hN
       have HLt := Lib.hid (show seg t 0 t.length < 10 ^ 120 from Nat.lt_of_lt_of_le (seg_lt (l := t) (st := 0) (m := t.length) fun i _ hi => hN.2.2.2 i (by omega)) (Nat.pow_le_pow_right (by omega) (by omega)))
       have HG1 := Lib.hid (nat.Get_ok t w hN)
       have HG2 := Lib.hid (fun w' => ref.GetN_yes t w' hN)
       generalize str t = s1 at *
       generalize seg t 0 t.length = X at *
       clear hN hl HDg)
    | (go_at_call 44; (with_reducible refine (HG1.out).mono ?_); rintro e w2 ⟨a, rfl, ⟨ha, hna⟩, hb⟩
       have HA := Lib.hid ha
       have HB := Lib.hid hb
       have HNa := Lib.hid hna
       clear ha hb hna HG1)
    | (go_at_call 45; (with_reducible refine (HG2.out _).mono ?_); rintro e w3 ⟨b, rfl, hi, hb⟩
       obtain ⟨bo, bc, rfl, -⟩ := id hi
       have HI := Lib.hid hi
       have HA3 := Lib.hid (HA.out.below hb)
       have HB3 := Lib.hid (HB.out.trans (hb.mono HB.out.size))
       clear hi hb)
    | (fail "no arm"))
  go_ret2
  exact ⟨_, _, X, rfl, ⟨HLt.out, HA3.out, HNa.out, HI.out⟩, HB3.out⟩
end Go.Proofs.YtfpooimjjpamoaaGreatDoor.law2
namespace Go.Proofs.YtfpooimjjpamoaaGreatDoor.law2
open Go.RowKit Go.Proofs.YtfpooimjjpamoaaGreatDoor.nat
open Go.Proofs.YtfpooimjjpamoaaGreatDoor.ref (str str_size)
theorem Rd_set {w : World} {sv u : Value} {l : List Nat} {g k : Nat} {p : Bool} {a : Option Addr} {n c : Nat} {t : TypeId} (h : Rd w sv l) (hg : w.heap[g]? = some (.cells #[.bool p, .slice a n c] t (0, 0))) : Rd (w.setCell ⟨g, k, none⟩ u) sv l := by
  refine h.kept (grown_set w g k u) ?_
  obtain ⟨ao, cap, rfl, h1, h2, h3⟩ := h
  rintro ad m c' he hm
  simp only [Value.slice.injEq] at he
  obtain ⟨rfl, rfl, rfl⟩ := he
  rcases h3 with rfl | ⟨b, off, hb, hc⟩
  · simp at hm
  · simp only [Option.some.injEq] at hb
    subst hb
    rintro rfl
    have h4 := hc 0 hm
    rw [cell_of_row _ _ _ _ t (0, 0) hg] at h4
    rcases hoff : off + 0 with _ | _ | _
    all_goals
      rw [hoff] at h4
      simp at h4
theorem IsZ_set {w : World} {z : Int} {b g : Nat} {p p' : Bool} {a : Option Addr} {n c : Nat} {t : TypeId} {a' : Option Addr} {n' c' : Nat} (h : num.IsZ w (.pointer (some ⟨b, 0, none⟩)) z) (hbg : b ≠ g) (hg : w.heap[g]? = some (.cells #[.bool p, .slice a n c] t (0, 0))) :
    num.IsZ ((w.setCell ⟨g, 0, none⟩ (.bool p')).setCell ⟨g, 1, none⟩ (.slice a' n' c')) (.pointer (some ⟨b, 0, none⟩)) z := by
  rcases h with ⟨h, -⟩ | ⟨b', o, neg, sv, X, he, h2, h3, h4, h5⟩
  · simp at h
  · simp only [Value.pointer.injEq, Option.some.injEq, Addr.mk.injEq, and_true] at he
    obtain ⟨rfl, rfl⟩ := he
    have hg2 : (w.setCell ⟨g, 0, none⟩ (.bool p')).heap[g]? = some (.cells #[.bool p', .slice a n c] t (0, 0)) := by
      rw [heap_setCell_same w g 0 _ _ _ hg]
      rfl
    refine Or.inr ⟨b, 0, neg, sv, X, rfl, ?_, ?_, Rd_set (Rd_set h4 hg) hg2, h5⟩
    · rw [World.cell?_setCell_other _ _ _ _ (fun e => hbg (by cases e <;> rfl)), World.cell?_setCell_other _ _ _ _ (fun e => hbg (by cases e <;> rfl)), h2]
    · rw [World.cell?_setCell_other _ _ _ _ (fun e => hbg (by cases e <;> rfl)), World.cell?_setCell_other _ _ _ _ (fun e => hbg (by cases e <;> rfl)), h3]
set_option maxRecDepth 100000 in
set_option maxHeartbeats 4000000 in
theorem Z_any (l : List UInt8) (neg : Bool) (w : World) (hl : l.length ≤ 4611686018427387904) :
    Calls Tryz.prog 49 #[.string (str l), .bool neg] w fun e w' => ∃ a b z, e = .returned (.tuple #[a, b]) ∧ (z.natAbs < 10 ^ 120 ∧ num.IsZ w' a z ∧ a ≠ .pointer none ∧ ref.IsI w' b z) ∧ Below w.heap.size w w' := by
  have HN := Lib.hid (fun W => N_any l W hl)
  have HB0 := Lib.hid ((Below.refl w.heap.size w).alloc (Nat.le_refl _) (.cells #[.bool false, .slice none 0 0] 57))
  clear hl
  generalize str l = s0 at *
  have hP : ∃ P, P = (10 : Nat) ^ 120 := ⟨_, rfl⟩
  obtain ⟨P, hP⟩ := hP
  rw [← hP] at HN ⊢
  clear hP
  have HZ := Lib.hid (fun X => (show num.sgn neg X = ref.signed neg X from rfl))
  go_enter Tryz.func49, Tryz.ntmps49
  go_wp2_with (first
    | (go_at_call 26; (with_reducible refine (HN.out _).mono ?_); rintro e w1 ⟨a, b, X, rfl, ⟨hlt, ha, hna, hb1⟩, hb⟩
       obtain ⟨bo, bc, rfl, -⟩ := id hb1
       have HLt := Lib.hid hlt
       have HA := Lib.hid ha
       have HBn := Lib.hid hb1
       have HM := Lib.hid (show ref.MadeAt w w1 from hb)
       have HB := Lib.hid (HB0.out.trans (hb.mono HB0.out.size))
       have ha2 : ∃ p, a = .pointer (some p) := by
         rcases ha with ⟨h, -⟩ | ⟨b, o, sv, h, -⟩
         · exact absurd h hna
         · exact ⟨_, h⟩
       obtain ⟨ap, rfl⟩ := ha2
       clear hlt ha hna hb1 hb HN)
    | (go_at_call 97; (with_reducible refine (num.New_at neg _ X _ HA.out).mono ?_); rintro e w2 ⟨rfl, hu, hb⟩
       have HU := Lib.hid hu
       have HBn2 := Lib.hid (HBn.out.below hb)
       have HM2 := Lib.hid (HM.out.at hb)
       have HB2 := Lib.hid (HB.out.trans (hb.mono HB.out.size))
       clear hu hb)
    | (go_at_call 121; (with_reducible refine (ref.Int_any neg _ X _ HBn2.out).mono ?_); rintro e w3 ⟨v, rfl, hv, hb⟩
       obtain ⟨s3, rfl, hs3⟩ := hv
       obtain ⟨so, sc, rfl, -⟩ := id hs3
       have HV := Lib.hid hs3
       have HU3 := Lib.hid (HU.out.below hb)
       have HM3 := Lib.hid (HM2.out.at hb)
       obtain ⟨c0, c1, f0, f1⟩ := HM3.out.cells
       have HB3 := Lib.hid (HB2.out.trans (hb.mono HB2.out.size))
       clear hs3 hb)
    | (fail "no arm"))
  obtain ⟨q0, q1⟩ := ref.two_cells (.bool (decide (ref.signed neg X < 0))) (.slice so (ref.digs (ref.signed neg X).natAbs).length sc) c0 c1
  refine bodyPost_ret (v := .tuple #[.pointer (some ⟨w1.heap.size, 0, none⟩), .agg #[.bool (decide (ref.signed neg X < 0)), .slice so (ref.digs (ref.signed neg X).natAbs).length sc]]) ?_ rfl ?_
  · simp [results, Tryz.results49, go_sem, q0, q1]
  · refine ⟨_, _, ref.signed neg X, rfl, ⟨?_, ?_, by simp, ⟨_, rfl, ?_⟩⟩, (HB3.out.setCell (Nat.le_refl _) _).setCell (Nat.le_refl _) _⟩
    · have := HLt.out
      unfold ref.signed
      split <;> omega
    · have hs1 := HM.out.size
      have hg : w3.heap[w.heap.size]? = some (.cells #[.bool false, .slice none 0 0] 57 (0, 0)) := ((show Below _ _ w3 from HM3.out).block w.heap.size (by simp)).trans (heap_alloc_new w _)
      exact IsZ_set HU3.out (by simp at hs1; omega) hg
    · exact ref.Reads.result (ref.Reads.result HV.out c0 0 _) q0 1 _
end Go.Proofs.YtfpooimjjpamoaaGreatDoor.law2
namespace Go.Proofs.YtfpooimjjpamoaaGreatDoor.flt
open Go.RowKit Go.Extern.Stop Go.Stop Go.Extern
theorem Code_hit (u : TypeId) (x : Value) (c : Int) (w : World)
    (hF : Calls Tryz.prog 147 #[.iface u x] w fun ev w' => ∃ b, ev = .returned (.pointer (some ⟨b, 0, none⟩)) ∧ Below w.heap.size w w' ∧ w'.cell? ⟨b, 0, none⟩ = some (.int .i64 c)) :
    Calls Tryz.prog 107 #[.iface u x] w fun ev w' => ev = .returned (.int .i64 c) ∧ Below w.heap.size w w' := by
  have HF := Lib.hid hF
  clear hF
  go_enter Tryz.func107, Tryz.ntmps107
  go_wp2_with (go_at_call 147; refine (HF.out).mono ?_; rintro e' w' ⟨b, rfl, hb, hc⟩)
  go_ret
  exact ⟨rfl, hb⟩
theorem Code_fault (b : Nat) (c : Int) (w : World) (hg : Handle w) (hc : w.cell? ⟨b, 0, none⟩ = some (.int .i64 c)) :
    Calls Tryz.prog 107 #[.iface 173 (.pointer (some ⟨b, 0, none⟩))] w fun ev w' => ev = .returned (.int .i64 c) ∧ Below w.heap.size w w' :=
  Code_hit _ _ c w ((first_fault ⟨b, 0, none⟩ w hg).mono fun _ _ ⟨he, hb⟩ => ⟨b, he, hb, (hb.cell (cell_lt hc)).trans hc⟩)
theorem Code_plain (c : Int) (w : World) (hg : Handle w) :
    Calls Tryz.prog 107 #[.iface 171 (.int .i64 c)] w fun ev w' => ev = .returned (.int .i64 c) ∧ Below w.heap.size w w' :=
  Code_hit _ _ c w ((first_plain c w hg).mono fun _ _ ⟨b, he, _, hb, hk⟩ => ⟨b, he, hb, by simp [World.cell?, hk]⟩)
def Wrapped (w : World) (c : Int) (s : ByteArray) (v : Value) (e : Ending) (w' : World) : Prop :=
  ∃ b, e = .returned (.iface 173 (.pointer (some ⟨b, 0, none⟩))) ∧ w.heap.size ≤ b ∧ FaultAt w' b c s v ∧ Below w.heap.size w w'
theorem Wrap_of (s : ByteArray) (u : TypeId) (x : Value) (c : Int) (w : World)
    (hC : Calls Tryz.prog 107 #[.iface u x] w fun ev w' => ev = .returned (.int .i64 c) ∧ Below w.heap.size w w') :
    Calls Tryz.prog 178 #[.string s, .iface u x] w (Wrapped w c s (.iface u x)) := by
  have HC := Lib.hid hC
  clear hC
  go_enter Tryz.func178, Tryz.ntmps178
  go_wp2_with (go_at_call 107; refine (HC.out).mono ?_; rintro e' w' ⟨rfl, hb⟩)
  go_ret
  refine ⟨_, rfl, hb.size, ?_, hb.alloc hb.size _⟩
  show (w'.heap.push _)[w'.heap.size]? = _
  simp
end Go.Proofs.YtfpooimjjpamoaaGreatDoor.flt
namespace Go.Proofs.YtfpooimjjpamoaaGreatDoor.ref
theorem ch_left {a b : List UInt8} {i : Nat} (h : i < a.length) : ch (a ++ b) i = ch a i := by
  unfold ch
  rw [List.getD_eq_getElem?_getD, List.getD_eq_getElem?_getD, List.getElem?_append_left h]
theorem ch_last {a : List UInt8} {c : UInt8} : ch (a ++ [c]) a.length = c.toNat := by
  unfold ch
  rw [List.getD_eq_getElem?_getD, List.getElem?_append_right (Nat.le_refl _), Nat.sub_self]
  rfl
theorem seg_congr {l l' : List UInt8} {st : Nat} : ∀ m, (∀ i, i < m → ch l (st + i) = ch l' (st + i)) → seg l st m = seg l' st m
  | 0, _ => rfl
  | m + 1, h => by rw [seg, seg, seg_congr m fun i hi => h i (by omega), h m (by omega)]
theorem pad_reads : ∀ k d : Nat, (∀ i, i < k → IsDig (pad k d) i) ∧ seg (pad k d) 0 k = d % 10 ^ k
  | 0, d => ⟨fun i h => absurd h (by omega), by simp [seg, Nat.mod_one]⟩
  | k + 1, d => by
    have ih := pad_reads k (d / 10)
    have hl := pad_length k (d / 10)
    have hc : ch (pad (k + 1) d) k = 48 + d % 10 := by
      have h := ch_last (a := pad k (d / 10)) (c := UInt8.ofNat (48 + d % 10))
      rw [hl, UInt8.toNat_ofNat'] at h
      rw [pad, h]
      omega
    have hlt : ∀ i, i < k → ch (pad (k + 1) d) i = ch (pad k (d / 10)) i := fun i hi => by rw [pad, ch_left (by omega)]
    refine ⟨fun i hi => ?_, ?_⟩
    · rcases Nat.lt_or_ge i k with h | h
      · have := ih.1 i h
        unfold IsDig at this ⊢
        rw [hlt i h]
        exact this
      · obtain rfl : i = k := by omega
        unfold IsDig
        rw [hc]
        omega
    · rw [seg, Nat.zero_add, hc, seg_congr (l' := pad k (d / 10)) k (fun i hi => by rw [Nat.zero_add]; exact hlt i hi), ih.2, Nat.pow_succ, Nat.mul_comm (10 ^ k) 10, Nat.mod_mul]
      omega
theorem digits_of : ∀ (p x : Nat), x < 10 ^ (p + 1) → ∃ m, x < 10 ^ (m + 1) ∧ (m = 0 ∨ 10 ^ m ≤ x) ∧ m ≤ p
  | 0, x, h => ⟨0, h, Or.inl rfl, Nat.le_refl _⟩
  | p + 1, x, h => by
    rcases Nat.lt_or_ge x (10 ^ (p + 1)) with h1 | h1
    · obtain ⟨m, a, b, c⟩ := digits_of p x h1
      exact ⟨m, a, b, by omega⟩
    · exact ⟨p + 1, h, Or.inr h1, Nat.le_refl _⟩
theorem dec_numeral {x p : Nat} (h : x < 10 ^ (p + 1)) (hp : p < 4000) : Numeral (Lib.decDigits x) ∧ seg (Lib.decDigits x) 0 (Lib.decDigits x).length = x ∧ (Lib.decDigits x).length ≤ p + 1 := by
  obtain ⟨m, h1, h2, h3⟩ := digits_of p x h
  have hr := pad_reads (m + 1) x
  have hl := pad_length (m + 1) x
  rw [← pad_dec m x h1 h2, hl]
  refine ⟨⟨by omega, by omega, fun hm => ?_, fun i hi => hr.1 i (by omega)⟩, ?_, by omega⟩
  · have h4 := h2.resolve_left (by omega)
    have h5 := pad_head h1 h4
    have h6 : ch (pad (m + 1) x) 0 = (UInt8.ofNat (48 + x / 10 ^ m % 10)).toNat := by rw [pad_cons]; rfl
    rw [h6]
    exact h5
  · rw [hr.2, Nat.mod_eq_of_lt h1]
end Go.Proofs.YtfpooimjjpamoaaGreatDoor.ref
namespace Go.Proofs.YtfpooimjjpamoaaGreatDoor.ref
def RatForm (l : List UInt8) (z : Int) (d : Nat) : Prop := (IntText l z ∧ d = 1) ∨ ∃ a b, l = a ++ 47 :: b ∧ IntText a z ∧ Numeral b ∧ d = seg b 0 b.length ∧ 0 < d
theorem numeral_mem {l : List UInt8} (h : Numeral l) {c : UInt8} (hc : c ∈ l) : 48 ≤ c.toNat ∧ c.toNat ≤ 57 := by
  obtain ⟨i, hi, rfl⟩ := List.mem_iff_getElem.1 hc
  have := h.2.2.2 i hi
  unfold IsDig ch at this
  rw [List.getD_eq_getElem?_getD, List.getElem?_eq_getElem hi] at this
  exact this
theorem IntText.mem {l : List UInt8} {z : Int} (h : IntText l z) {c : UInt8} (hc : c ∈ l) : c ≠ 47 := by
  rintro rfl
  rcases h with ⟨h, _⟩ | ⟨t, rfl, h, _⟩
  · have := numeral_mem h hc
    simp at this
  · rcases List.mem_cons.1 hc with h1 | h1
    · simp at h1
    · have := numeral_mem h h1
      simp at this
theorem RatForm.whole {l : List UInt8} {z : Int} {d : Nat} (h : RatForm l z d) (hn : ∀ c ∈ l, c ≠ 47) : IntText l z ∧ d = 1 := by
  rcases h with h | ⟨a, b, rfl, _⟩
  · exact h
  · exact absurd rfl (hn 47 (by simp))
theorem RatForm.parts {a b : List UInt8} {z : Int} {d : Nat} (h : RatForm (a ++ 47 :: b) z d) (hn : ∀ c ∈ a, c ≠ 47) : IntText a z ∧ Numeral b ∧ d = seg b 0 b.length ∧ 0 < d := by
  rcases h with ⟨h, -⟩ | ⟨a', b', he, h1, h2, h3, h4⟩
  · exact absurd rfl (h.mem (c := 47) (by simp))
  · have : a = a' ∧ b = b' := by
      clear h2 h3 h4
      have hn' : ∀ c ∈ a', c ≠ 47 := fun c hc => h1.mem hc
      clear h1
      induction a generalizing a' with
      | nil =>
        rcases a' with _ | ⟨c, a'⟩
        · simp at he; exact ⟨rfl, he⟩
        · simp at he
          exact absurd he.1.symm (hn' c (by simp))
      | cons x a ih =>
        rcases a' with _ | ⟨c, a'⟩
        · simp at he
          exact absurd he.1 (hn x (by simp))
        · simp at he
          obtain ⟨rfl, he⟩ := he
          obtain ⟨rfl, rfl⟩ := ih (fun c hc => hn c (by simp [hc])) a' he (fun c hc => hn' c (by simp [hc]))
          exact ⟨rfl, rfl⟩
    obtain ⟨rfl, rfl⟩ := this
    exact ⟨h1, h2, h3, h4⟩
theorem RatForm.inj {l : List UInt8} {z z' : Int} {d d' : Nat} (h : RatForm l z d) (h' : RatForm l z' d') : z = z' ∧ d = d' := by
  rcases h with ⟨h, rfl⟩ | ⟨a, b, rfl, h1, h2, rfl, h4⟩
  · obtain ⟨k, rfl⟩ := h'.whole fun c hc => h.mem hc
    exact ⟨h.inj k, rfl⟩
  · obtain ⟨k1, k2, k3, k4⟩ := h'.parts fun c hc => h1.mem hc
    exact ⟨h1.inj k1, k3.symm⟩
end Go.Proofs.YtfpooimjjpamoaaGreatDoor.ref
