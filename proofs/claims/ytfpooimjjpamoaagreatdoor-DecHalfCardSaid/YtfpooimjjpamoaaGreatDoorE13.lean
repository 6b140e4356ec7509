/-
  The steps of the walks, part 13: Law2Dg, RefGetQ.
-/
import Derived.Test.YtfpooimjjpamoaaGreatDoorS15
import Derived.Test.YtfpooimjjpamoaaGreatDoorE12
import Derived.Test.YtfpooimjjpamoaaGreatDoorS19
import Derived.Test.YtfpooimjjpamoaaGreatDoorS17
import Derived.Test.YtfpooimjjpamoaaGreatDoorE09
import Derived.Test.YtfpooimjjpamoaaGreatDoorS22
namespace Go.Proofs.YtfpooimjjpamoaaGreatDoor.law2
open Go.RowKit Go.Proofs.YtfpooimjjpamoaaGreatDoor.nat
open Go.Proofs.YtfpooimjjpamoaaGreatDoor.ref (str str_size str_append ch seg IsDig Numeral seg_lt)
def Front (t : List UInt8) (n : Nat) : Prop := t.length ≤ n ∧ (t ≠ [] → ch t 0 ≠ 48) ∧ ∀ i, i < t.length → IsDig t i
theorem Front.numeral {t : List UInt8} {n : Nat} (h : Front t n) (hn : n ≤ 4000) (hne : t ≠ []) : Numeral t :=
  ⟨List.length_pos_iff.2 hne, by have := h.1; omega, fun _ => h.2.1 hne, h.2.2⟩
theorem Front.next {t : List UInt8} {n : Nat} {c : UInt8} (h : Front t n) (hl : t.length < n) (h1 : 48 ≤ c.toNat) (h2 : c.toNat ≤ 57) (h3 : t ≠ [] ∨ c.toNat ≠ 48) : Front (t ++ [c]) n := by
  refine ⟨by simp; omega, fun _ => ?_, fun i hi => ?_⟩
  · rcases t with _ | ⟨d, t⟩
    · simp [ch]
      rcases h3 with h3 | h3
      · exact absurd rfl h3
      · exact h3
    · exact h.2.1 (by simp)
  · simp at hi
    by_cases hi2 : i < t.length
    · have := h.2.2 i hi2
      unfold IsDig ch at this ⊢
      rw [List.getD_eq_getElem?_getD, List.getElem?_append_left hi2, ← List.getD_eq_getElem?_getD]
      exact this
    · obtain rfl : i = t.length := by omega
      unfold IsDig ch
      simp
      exact ⟨h1, h2⟩
def DRel (w : World) (l : List UInt8) (n : Nat) (tv iv : Value) (wr : World) : Prop :=
  w = wr ∧ ∃ (t : List UInt8) (i : Nat), i ≤ l.length ∧ iv = .int .i64 i ∧ tv = .string (str t) ∧ Front t n
set_option maxRecDepth 100000 in
set_option maxHeartbeats 4000000 in
theorem Digits_any (l : List UInt8) (n : Nat) (w : World) (hl : l.length ≤ 4611686018427387904) (hn : n ≤ 4000) :
    Calls Tryz.prog 101 #[.string (str l), .int .i64 (n : Nat)] w fun e w' => ∃ t, e = .returned (.string (str t)) ∧ (Numeral t ∧ t.length ≤ max n 1) ∧ w = w' := by
  have hz : (str l).size = l.length := str_size l
  have HG := Lib.hid (fun i (h : i < (str l).size) => ch_get (l := l) h)
  have HX := Lib.hid (fun i (h : i < l.length) => (show (str l).extract i (i + 1) = str [UInt8.ofNat (ch l i)] ∧ ch l i < 256 from by
    have hc : ch l i = l[i].toNat := by simp [ch, h]
    have he : UInt8.ofNat (ch l i) = l[i] := by rw [hc, UInt8.ofNat_toNat]
    refine ⟨?_, by rw [hc]; exact l[i].toNat_lt⟩
    rw [he]
    apply ByteArray.ext
    simp [str, List.take_one, h]))
  obtain ⟨N, hN⟩ : ∃ N, l.length = N := ⟨_, rfl⟩
  rw [hN] at hz HX hl
  have HN := Lib.hid hN
  generalize str l = s at *
  clear hN
  go_enter Tryz.func101, Tryz.ntmps101
  go_wp2
  go_loopw [5, 6] (fun tv iv wr => DRel w l n tv iv wr) (fun _ iv _ => N - (intOf iv).toNat)
  case atStart => exact ⟨rfl, [], 0, Nat.zero_le _, rfl, rfl, by simp, fun h => absurd rfl h, fun i hi => by simp at hi⟩
  case round =>
    obtain ⟨rfl, t, i, hi, rfl, rfl, hF⟩ := hrel
    rw [HN.out] at hi
    have HF := Lib.hid hF
    have hts : (str t).size = t.length := str_size t
    have hte : (str t).toList.isEmpty = t.isEmpty := by rw [ByteArray.toList_eq]; rfl
    have htn := hF.1
    by_cases hgo : i < N ∧ t.length < n
    · obtain ⟨hiN, htl⟩ := hgo
      obtain ⟨hx, hc256⟩ := HX.out i hiN
      have hgk : ∀ h : i < s.size, (s[i]'h).toNat = ch l i := fun h => HG.out _ h
      have HNext := Lib.hid (fun h1 h2 h3 => hF.next (c := UInt8.ofNat (ch l i)) htl h1 h2 h3)
      have HTo := Lib.hid (show (UInt8.ofNat (ch l i)).toNat = ch l i by rw [UInt8.toNat_ofNat']; omega)
      have HAp := Lib.hid (str_append t [UInt8.ofNat (ch l i)])
      have hs1 : (str [UInt8.ofNat (ch l i)]).size = 1 := rfl
      have hcat : ¬ 9223372036854775807 < (str t).size + (str [UInt8.ofNat (ch l i)]).size := by omega
      generalize str [UInt8.ofNat (ch l i)] = one at *
      generalize hcc : ch l i = c at *
      have HSt := Lib.hid (show str t = str t from rfl)
      clear hcc hF
      by_cases h1 : c < 48
      · go_wp2
        refine ⟨?_, ?_⟩
        · exact ⟨rfl, t, i + 1, by rw [HN.out]; omega, by go_num, rfl, HF.out⟩
        · simp [intOf]; omega
      · by_cases h2 : 57 < c
        · go_wp2
          refine ⟨?_, ?_⟩
          · exact ⟨rfl, t, i + 1, by rw [HN.out]; omega, by go_num, rfl, HF.out⟩
          · simp [intOf]; omega
        · rcases t with _ | ⟨d, t⟩
          · have hte2 : (str []).toList.isEmpty = true := hte
            by_cases h48 : c = 48
            · subst h48
              go_wp2
              refine ⟨?_, ?_⟩
              · exact ⟨rfl, [], i + 1, by rw [HN.out]; omega, by go_num, rfl, HF.out⟩
              · simp [intOf]; omega
            · have hc48 : ((c : Int) == 48) = false := by simp only [beq_eq_false_iff_ne, ne_eq]; omega
              have HR := Lib.hid (HNext.out (by rw [HTo.out]; omega) (by rw [HTo.out]; omega) (Or.inr (by rw [HTo.out]; omega)))
              go_wp2
              refine ⟨?_, ?_⟩
              · exact ⟨rfl, _, i + 1, by rw [HN.out]; omega, by go_num, by rw [HAp.out], HR.out⟩
              · simp [intOf]; omega
          · have hte2 : (str (d :: t)).toList.isEmpty = false := hte
            have hlt2 : ((t.length : Int) + 1) < (n : Int) := by have := htl; simp at this; omega
            have HR := Lib.hid (HNext.out (by rw [HTo.out]; omega) (by rw [HTo.out]; omega) (Or.inl (by simp)))
            generalize str (d :: t) = st at *
            go_wp2
            refine ⟨?_, ?_⟩
            · exact ⟨rfl, _, i + 1, by rw [HN.out]; omega, by go_num, by rw [HAp.out], HR.out⟩
            · simp [intOf]; omega
    · rcases t with _ | ⟨d, t⟩
      · have hte2 : (str []).toList.isEmpty = true := hte
        have h0 : Numeral [48] := by
          refine ⟨by simp, by simp, fun h => by simp at h, fun i hi => ?_⟩
          have : i = 0 := by simp at hi; omega
          subst this
          exact ⟨by decide, by decide⟩
        have HNum := Lib.hid h0
        clear hF h0
        rcases Nat.lt_or_ge i N with hiN | hiN
        · have hn0 : n = 0 := by
            rcases Nat.eq_zero_or_pos n with h | h
            · exact h
            · exact absurd ⟨hiN, by simpa using h⟩ hgo
          subst hn0
          clear hgo
          go_wp2
          go_ret
          exact ⟨[48], rfl, ⟨HNum.out, by simp⟩, rfl⟩
        · obtain rfl : i = N := by omega
          clear hgo
          go_wp2
          go_ret
          exact ⟨[48], rfl, ⟨HNum.out, by simp; omega⟩, rfl⟩
      · have hte2 : (str (d :: t)).toList.isEmpty = false := hte
        have HNum := Lib.hid (hF.numeral hn (by simp))
        have HLe := Lib.hid hF.1
        have hnot : ¬ (i < N ∧ (d :: t).length < n) := hgo
        generalize hst : str (d :: t) = st at *
        have HSt := Lib.hid hst
        clear hF hst hgo
        rcases Nat.lt_or_ge i N with hiN | hiN
        · have hlt2 : ¬ ((t.length : Int) + 1) < (n : Int) := by
            intro h
            exact hnot ⟨hiN, by simp; omega⟩
          clear hnot
          go_wp2
          go_ret
          exact ⟨d :: t, by rw [HSt.out]; rfl, ⟨HNum.out, by have := HLe.out; omega⟩, rfl⟩
        · obtain rfl : i = N := by omega
          clear hnot
          go_wp2
          go_ret
          exact ⟨d :: t, by rw [HSt.out]; rfl, ⟨HNum.out, by have := HLe.out; omega⟩, rfl⟩
end Go.Proofs.YtfpooimjjpamoaaGreatDoor.law2
namespace Go.Proofs.YtfpooimjjpamoaaGreatDoor.ref
open Go.RowKit
def MadeQ (V w3 : World) : Prop := Below (V.alloc (.cells #[Value.bool false, .slice none 0 0, .slice none 0 0] 86)).heap.size (V.alloc (.cells #[Value.bool false, .slice none 0 0, .slice none 0 0] 86)) w3
theorem MadeQ.cells {V w3 : World} (h : MadeQ V w3) : w3.cell? ⟨V.heap.size, 0, none⟩ = some (.bool false) ∧ w3.cell? ⟨V.heap.size, 1, none⟩ = some (.slice none 0 0) ∧ w3.cell? ⟨V.heap.size, 2, none⟩ = some (.slice none 0 0) ∧ w3.frozen? ⟨V.heap.size, 0, none⟩ = false ∧ w3.frozen? ⟨V.heap.size, 1, none⟩ = false ∧ w3.frozen? ⟨V.heap.size, 2, none⟩ = false :=
  row3 ((Below.block h V.heap.size (by simp)).trans (heap_alloc_new V _))
theorem IsQ.of {w : World} {s t : Value} {z : Int} {d : Nat} {p : Bool} (hp : decide (z < 0) = p) (hs : IsN w s z.natAbs) (ht : IsN w t d) : IsQ w (.agg #[.bool p, s, t]) z d := ⟨s, t, by rw [hp], hs, ht⟩
end Go.Proofs.YtfpooimjjpamoaaGreatDoor.ref
