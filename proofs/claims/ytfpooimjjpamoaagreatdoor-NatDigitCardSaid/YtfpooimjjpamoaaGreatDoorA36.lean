/-
  The steps of the walks, part 36: Law2Z, Code, TextD, Law2T, RatForm, RefGetQ.
-/
import Derived.Test.YtfpooimjjpamoaaGreatDoorA35
import Derived.Test.YtfpooimjjpamoaaGreatDoorA26
import Derived.Test.YtfpooimjjpamoaaGreatDoorA21
import Derived.Test.YtfpooimjjpamoaaGreatDoorA25
import Derived.Test.YtfpooimjjpamoaaGreatDoorA34
namespace Go.Proofs.YtfpooimjjpamoaaGreatDoor.law2
open Go.RowKit Go.Proofs.YtfpooimjjpamoaaGreatDoor.nat
open Go.Proofs.YtfpooimjjpamoaaGreatDoor.ref (str str_size)
theorem Rd_set {w : World} {sv u : Value} {l : List Nat} {g k : Nat} {p : Bool} {a : Option Addr} {n c : Nat} {t : TypeId} (h : Rd w sv l) (hg : w.heap[g]? = some (.cells #[.bool p, .slice a n c] t (0, 0))) : Rd (w.setCell ⟨g, k, none⟩ u) sv l := by
  refine h.kept (grown_set w g k u) ?_
  obtain ⟨ao, cap, rfl, h1, h2, h3⟩ := h
  rintro ad m c' he hm
  simp only [Value.slice.injEq] at he
  obtain ⟨rfl, rfl, rfl⟩ := he
  rcases h3 with rfl | ⟨b, off, hb, hc⟩
  · simp at hm
  · simp only [Option.some.injEq] at hb
    subst hb
    rintro rfl
    have h4 := hc 0 hm
    rw [cell_of_row _ _ _ _ t (0, 0) hg] at h4
    rcases hoff : off + 0 with _ | _ | _
    all_goals
      rw [hoff] at h4
      simp at h4
theorem IsZ_set {w : World} {z : Int} {b g : Nat} {p p' : Bool} {a : Option Addr} {n c : Nat} {t : TypeId} {a' : Option Addr} {n' c' : Nat} (h : num.IsZ w (.pointer (some ⟨b, 0, none⟩)) z) (hbg : b ≠ g) (hg : w.heap[g]? = some (.cells #[.bool p, .slice a n c] t (0, 0))) :
    num.IsZ ((w.setCell ⟨g, 0, none⟩ (.bool p')).setCell ⟨g, 1, none⟩ (.slice a' n' c')) (.pointer (some ⟨b, 0, none⟩)) z := by
  rcases h with ⟨h, -⟩ | ⟨b', o, neg, sv, X, he, h2, h3, h4, h5⟩
  · simp at h
  · simp only [Value.pointer.injEq, Option.some.injEq, Addr.mk.injEq, and_true] at he
    obtain ⟨rfl, rfl⟩ := he
    have hg2 : (w.setCell ⟨g, 0, none⟩ (.bool p')).heap[g]? = some (.cells #[.bool p', .slice a n c] t (0, 0)) := by
      rw [heap_setCell_same w g 0 _ _ _ hg]
      rfl
    refine Or.inr ⟨b, 0, neg, sv, X, rfl, ?_, ?_, Rd_set (Rd_set h4 hg) hg2, h5⟩
    · rw [World.cell?_setCell_other _ _ _ _ (fun e => hbg (by cases e <;> rfl)), World.cell?_setCell_other _ _ _ _ (fun e => hbg (by cases e <;> rfl)), h2]
    · rw [World.cell?_setCell_other _ _ _ _ (fun e => hbg (by cases e <;> rfl)), World.cell?_setCell_other _ _ _ _ (fun e => hbg (by cases e <;> rfl)), h3]
set_option maxRecDepth 100000 in
set_option maxHeartbeats 4000000 in
theorem Z_any (l : List UInt8) (neg : Bool) (w : World) (hl : l.length ≤ 4611686018427387904) :
    Calls Tryz.prog 49 #[.string (str l), .bool neg] w fun e w' => ∃ a b z, e = .returned (.tuple #[a, b]) ∧ (z.natAbs < 10 ^ 120 ∧ num.IsZ w' a z ∧ a ≠ .pointer none ∧ ref.IsI w' b z) ∧ Below w.heap.size w w' := by
  have HN := Lib.hid (fun W => N_any l W hl)
  have HB0 := Lib.hid ((Below.refl w.heap.size w).alloc (Nat.le_refl _) (.cells #[.bool false, .slice none 0 0] 57))
  clear hl
  generalize str l = s0 at *
  have hP : ∃ P, P = (10 : Nat) ^ 120 := ⟨_, rfl⟩
  obtain ⟨P, hP⟩ := hP
  rw [← hP] at HN ⊢
  clear hP
  have HZ := Lib.hid (fun X => (show num.sgn neg X = ref.signed neg X from rfl))
  go_enter Tryz.func49, Tryz.ntmps49
  go_wp2_with (first
    | (go_at_call 26; (with_reducible refine (HN.out _).mono ?_); rintro e w1 ⟨a, b, X, rfl, ⟨hlt, ha, hna, hb1⟩, hb⟩
       obtain ⟨bo, bc, rfl, -⟩ := id hb1
       have HLt := Lib.hid hlt
       have HA := Lib.hid ha
       have HBn := Lib.hid hb1
       have HM := Lib.hid (show ref.MadeAt w w1 from hb)
       have HB := Lib.hid (HB0.out.trans (hb.mono HB0.out.size))
       have ha2 : ∃ p, a = .pointer (some p) := by
         rcases ha with ⟨h, -⟩ | ⟨b, o, sv, h, -⟩
         · exact absurd h hna
         · exact ⟨_, h⟩
       obtain ⟨ap, rfl⟩ := ha2
       clear hlt ha hna hb1 hb HN)
    | (go_at_call 97; (with_reducible refine (num.New_at neg _ X _ HA.out).mono ?_); rintro e w2 ⟨rfl, hu, hb⟩
       have HU := Lib.hid hu
       have HBn2 := Lib.hid (HBn.out.below hb)
       have HM2 := Lib.hid (HM.out.at hb)
       have HB2 := Lib.hid (HB.out.trans (hb.mono HB.out.size))
       clear hu hb)
    | (go_at_call 121; (with_reducible refine (ref.Int_any neg _ X _ HBn2.out).mono ?_); rintro e w3 ⟨v, rfl, hv, hb⟩
       obtain ⟨s3, rfl, hs3⟩ := hv
       obtain ⟨so, sc, rfl, -⟩ := id hs3
       have HV := Lib.hid hs3
       have HU3 := Lib.hid (HU.out.below hb)
       have HM3 := Lib.hid (HM2.out.at hb)
       obtain ⟨c0, c1, f0, f1⟩ := HM3.out.cells
       have HB3 := Lib.hid (HB2.out.trans (hb.mono HB2.out.size))
       clear hs3 hb)
    | (fail "no arm"))
  obtain ⟨q0, q1⟩ := ref.two_cells (.bool (decide (ref.signed neg X < 0))) (.slice so (ref.digs (ref.signed neg X).natAbs).length sc) c0 c1
  refine bodyPost_ret (v := .tuple #[.pointer (some ⟨w1.heap.size, 0, none⟩), .agg #[.bool (decide (ref.signed neg X < 0)), .slice so (ref.digs (ref.signed neg X).natAbs).length sc]]) ?_ rfl ?_
  · simp [results, Tryz.results49, go_sem, q0, q1]
  · refine ⟨_, _, ref.signed neg X, rfl, ⟨?_, ?_, by simp, ⟨_, rfl, ?_⟩⟩, (HB3.out.setCell (Nat.le_refl _) _).setCell (Nat.le_refl _) _⟩
    · have := HLt.out
      unfold ref.signed
      split <;> omega
    · have hs1 := HM.out.size
      have hg : w3.heap[w.heap.size]? = some (.cells #[.bool false, .slice none 0 0] 57 (0, 0)) := ((show Below _ _ w3 from HM3.out).block w.heap.size (by simp)).trans (heap_alloc_new w _)
      exact IsZ_set HU3.out (by simp at hs1; omega) hg
    · exact ref.Reads.result (ref.Reads.result HV.out c0 0 _) q0 1 _
end Go.Proofs.YtfpooimjjpamoaaGreatDoor.law2
namespace Go.Proofs.YtfpooimjjpamoaaGreatDoor.flt
open Go.RowKit Go.Extern.Stop Go.Stop Go.Extern
theorem Code_hit (u : TypeId) (x : Value) (c : Int) (w : World)
    (hF : Calls Tryz.prog 147 #[.iface u x] w fun ev w' => ∃ b, ev = .returned (.pointer (some ⟨b, 0, none⟩)) ∧ Below w.heap.size w w' ∧ w'.cell? ⟨b, 0, none⟩ = some (.int .i64 c)) :
    Calls Tryz.prog 107 #[.iface u x] w fun ev w' => ev = .returned (.int .i64 c) ∧ Below w.heap.size w w' := by
  have HF := Lib.hid hF
  clear hF
  go_enter Tryz.func107, Tryz.ntmps107
  go_wp2_with (go_at_call 147; refine (HF.out).mono ?_; rintro e' w' ⟨b, rfl, hb, hc⟩)
  go_ret
  exact ⟨rfl, hb⟩
theorem Code_fault (b : Nat) (c : Int) (w : World) (hg : Handle w) (hc : w.cell? ⟨b, 0, none⟩ = some (.int .i64 c)) :
    Calls Tryz.prog 107 #[.iface 173 (.pointer (some ⟨b, 0, none⟩))] w fun ev w' => ev = .returned (.int .i64 c) ∧ Below w.heap.size w w' :=
  Code_hit _ _ c w ((first_fault ⟨b, 0, none⟩ w hg).mono fun _ _ ⟨he, hb⟩ => ⟨b, he, hb, (hb.cell (cell_lt hc)).trans hc⟩)
theorem Code_plain (c : Int) (w : World) (hg : Handle w) :
    Calls Tryz.prog 107 #[.iface 171 (.int .i64 c)] w fun ev w' => ev = .returned (.int .i64 c) ∧ Below w.heap.size w w' :=
  Code_hit _ _ c w ((first_plain c w hg).mono fun _ _ ⟨b, he, _, hb, hk⟩ => ⟨b, he, hb, by simp [World.cell?, hk]⟩)
def Wrapped (w : World) (c : Int) (s : ByteArray) (v : Value) (e : Ending) (w' : World) : Prop :=
  ∃ b, e = .returned (.iface 173 (.pointer (some ⟨b, 0, none⟩))) ∧ w.heap.size ≤ b ∧ FaultAt w' b c s v ∧ Below w.heap.size w w'
theorem Wrap_of (s : ByteArray) (u : TypeId) (x : Value) (c : Int) (w : World)
    (hC : Calls Tryz.prog 107 #[.iface u x] w fun ev w' => ev = .returned (.int .i64 c) ∧ Below w.heap.size w w') :
    Calls Tryz.prog 178 #[.string s, .iface u x] w (Wrapped w c s (.iface u x)) := by
  have HC := Lib.hid hC
  clear hC
  go_enter Tryz.func178, Tryz.ntmps178
  go_wp2_with (go_at_call 107; refine (HC.out).mono ?_; rintro e' w' ⟨rfl, hb⟩)
  go_ret
  refine ⟨_, rfl, hb.size, ?_, hb.alloc hb.size _⟩
  show (w'.heap.push _)[w'.heap.size]? = _
  simp
end Go.Proofs.YtfpooimjjpamoaaGreatDoor.flt
namespace Go.Proofs.YtfpooimjjpamoaaGreatDoor.ref
theorem ch_left {a b : List UInt8} {i : Nat} (h : i < a.length) : ch (a ++ b) i = ch a i := by
  unfold ch
  rw [List.getD_eq_getElem?_getD, List.getD_eq_getElem?_getD, List.getElem?_append_left h]
theorem ch_last {a : List UInt8} {c : UInt8} : ch (a ++ [c]) a.length = c.toNat := by
  unfold ch
  rw [List.getD_eq_getElem?_getD, List.getElem?_append_right (Nat.le_refl _), Nat.sub_self]
  rfl
theorem seg_congr {l l' : List UInt8} {st : Nat} : ∀ m, (∀ i, i < m → ch l (st + i) = ch l' (st + i)) → seg l st m = seg l' st m
  | 0, _ => rfl
  | m + 1, h => by rw [seg, seg, seg_congr m fun i hi => h i (by omega), h m (by omega)]
theorem pad_reads : ∀ k d : Nat, (∀ i, i < k → IsDig (pad k d) i) ∧ seg (pad k d) 0 k = d % 10 ^ k
  | 0, d => ⟨fun i h => absurd h (by omega), by simp [seg, Nat.mod_one]⟩
  | k + 1, d => by
    have ih := pad_reads k (d / 10)
    have hl := pad_length k (d / 10)
    have hc : ch (pad (k + 1) d) k = 48 + d % 10 := by
      have h := ch_last (a := pad k (d / 10)) (c := UInt8.ofNat (48 + d % 10))
      rw [hl, UInt8.toNat_ofNat'] at h
      rw [pad, h]
      omega
    have hlt : ∀ i, i < k → ch (pad (k + 1) d) i = ch (pad k (d / 10)) i := fun i hi => by rw [pad, ch_left (by omega)]
    refine ⟨fun i hi => ?_, ?_⟩
    · rcases Nat.lt_or_ge i k with h | h
      · have := ih.1 i h
        unfold IsDig at this ⊢
        rw [hlt i h]
        exact this
      · obtain rfl : i = k := by omega
        unfold IsDig
        rw [hc]
        omega
    · rw [seg, Nat.zero_add, hc, seg_congr (l' := pad k (d / 10)) k (fun i hi => by rw [Nat.zero_add]; exact hlt i hi), ih.2, Nat.pow_succ, Nat.mul_comm (10 ^ k) 10, Nat.mod_mul]
      omega
theorem digits_of : ∀ (p x : Nat), x < 10 ^ (p + 1) → ∃ m, x < 10 ^ (m + 1) ∧ (m = 0 ∨ 10 ^ m ≤ x) ∧ m ≤ p
  | 0, x, h => ⟨0, h, Or.inl rfl, Nat.le_refl _⟩
  | p + 1, x, h => by
    rcases Nat.lt_or_ge x (10 ^ (p + 1)) with h1 | h1
    · obtain ⟨m, a, b, c⟩ := digits_of p x h1
      exact ⟨m, a, b, by omega⟩
    · exact ⟨p + 1, h, Or.inr h1, Nat.le_refl _⟩
theorem dec_numeral {x p : Nat} (h : x < 10 ^ (p + 1)) (hp : p < 4000) : Numeral (Lib.decDigits x) ∧ seg (Lib.decDigits x) 0 (Lib.decDigits x).length = x ∧ (Lib.decDigits x).length ≤ p + 1 := by
  obtain ⟨m, h1, h2, h3⟩ := digits_of p x h
  have hr := pad_reads (m + 1) x
  have hl := pad_length (m + 1) x
  rw [← pad_dec m x h1 h2, hl]
  refine ⟨⟨by omega, by omega, fun hm => ?_, fun i hi => hr.1 i (by omega)⟩, ?_, by omega⟩
  · have h4 := h2.resolve_left (by omega)
    have h5 := pad_head h1 h4
    have h6 : ch (pad (m + 1) x) 0 = (UInt8.ofNat (48 + x / 10 ^ m % 10)).toNat := by rw [pad_cons]; rfl
    rw [h6]
    exact h5
  · rw [hr.2, Nat.mod_eq_of_lt h1]
end Go.Proofs.YtfpooimjjpamoaaGreatDoor.ref
namespace Go.Proofs.YtfpooimjjpamoaaGreatDoor.law2
open Go.RowKit Go.Proofs.YtfpooimjjpamoaaGreatDoor.nat
open Go.Proofs.YtfpooimjjpamoaaGreatDoor.ref (str str_size)
theorem str_take (l : List UInt8) (m : Nat) : (str l).extract 0 m = str (l.take m) := by
  apply ByteArray.ext
  simp [str]
set_option maxRecDepth 100000 in
theorem Text_any (l : List UInt8) (n : Nat) (w : World) (hl : l.length ≤ 4611686018427387904) (hn : n ≤ 100000) :
    Calls Tryz.prog 43 #[.string (str l), .int .i64 (n : Nat)] w fun e w' => e = .returned (.string (str (l.take n))) ∧ w = w' := by
  have hz : (str l).size = l.length := str_size l
  have HX := Lib.hid (fun m => str_take l m)
  obtain ⟨N, hN⟩ : ∃ N, l.length = N := ⟨_, rfl⟩
  rw [hN] at hz hl
  have HT := Lib.hid (show l.take (min N n) = l.take n by
    rcases Nat.le_total N n with h | h
    · rw [Nat.min_eq_left h, List.take_of_length_le (by omega), List.take_of_length_le (by omega)]
    · rw [Nat.min_eq_right h])
  generalize str l = s at *
  clear hN
  go_enter Tryz.func43, Tryz.ntmps43
  go_wp2
  go_ret
  refine ⟨?_, rfl⟩
  show Ending.returned (.string (s.extract 0 (min (N : Int) (n : Int)).toNat)) = _
  rw [show (min (N : Int) (n : Int)).toNat = min N n by omega, HX.out, HT.out]
end Go.Proofs.YtfpooimjjpamoaaGreatDoor.law2
namespace Go.Proofs.YtfpooimjjpamoaaGreatDoor.ref
def RatForm (l : List UInt8) (z : Int) (d : Nat) : Prop := (IntText l z ∧ d = 1) ∨ ∃ a b, l = a ++ 47 :: b ∧ IntText a z ∧ Numeral b ∧ d = seg b 0 b.length ∧ 0 < d
theorem numeral_mem {l : List UInt8} (h : Numeral l) {c : UInt8} (hc : c ∈ l) : 48 ≤ c.toNat ∧ c.toNat ≤ 57 := by
  obtain ⟨i, hi, rfl⟩ := List.mem_iff_getElem.1 hc
  have := h.2.2.2 i hi
  unfold IsDig ch at this
  rw [List.getD_eq_getElem?_getD, List.getElem?_eq_getElem hi] at this
  exact this
theorem IntText.mem {l : List UInt8} {z : Int} (h : IntText l z) {c : UInt8} (hc : c ∈ l) : c ≠ 47 := by
  rintro rfl
  rcases h with ⟨h, _⟩ | ⟨t, rfl, h, _⟩
  · have := numeral_mem h hc
    simp at this
  · rcases List.mem_cons.1 hc with h1 | h1
    · simp at h1
    · have := numeral_mem h h1
      simp at this
theorem RatForm.whole {l : List UInt8} {z : Int} {d : Nat} (h : RatForm l z d) (hn : ∀ c ∈ l, c ≠ 47) : IntText l z ∧ d = 1 := by
  rcases h with h | ⟨a, b, rfl, _⟩
  · exact h
  · exact absurd rfl (hn 47 (by simp))
theorem RatForm.parts {a b : List UInt8} {z : Int} {d : Nat} (h : RatForm (a ++ 47 :: b) z d) (hn : ∀ c ∈ a, c ≠ 47) : IntText a z ∧ Numeral b ∧ d = seg b 0 b.length ∧ 0 < d := by
  rcases h with ⟨h, -⟩ | ⟨a', b', he, h1, h2, h3, h4⟩
  · exact absurd rfl (h.mem (c := 47) (by simp))
  · have : a = a' ∧ b = b' := by
      clear h2 h3 h4
      have hn' : ∀ c ∈ a', c ≠ 47 := fun c hc => h1.mem hc
      clear h1
      induction a generalizing a' with
      | nil =>
        rcases a' with _ | ⟨c, a'⟩
        · simp at he; exact ⟨rfl, he⟩
        · simp at he
          exact absurd he.1.symm (hn' c (by simp))
      | cons x a ih =>
        rcases a' with _ | ⟨c, a'⟩
        · simp at he
          exact absurd he.1 (hn x (by simp))
        · simp at he
          obtain ⟨rfl, he⟩ := he
          obtain ⟨rfl, rfl⟩ := ih (fun c hc => hn c (by simp [hc])) a' he (fun c hc => hn' c (by simp [hc]))
          exact ⟨rfl, rfl⟩
    obtain ⟨rfl, rfl⟩ := this
    exact ⟨h1, h2, h3, h4⟩
theorem RatForm.inj {l : List UInt8} {z z' : Int} {d d' : Nat} (h : RatForm l z d) (h' : RatForm l z' d') : z = z' ∧ d = d' := by
  rcases h with ⟨h, rfl⟩ | ⟨a, b, rfl, h1, h2, rfl, h4⟩
  · obtain ⟨k, rfl⟩ := h'.whole fun c hc => h.mem hc
    exact ⟨h.inj k, rfl⟩
  · obtain ⟨k1, k2, k3, k4⟩ := h'.parts fun c hc => h1.mem hc
    exact ⟨h1.inj k1, k3.symm⟩
end Go.Proofs.YtfpooimjjpamoaaGreatDoor.ref
namespace Go.Proofs.YtfpooimjjpamoaaGreatDoor.ref
open Go.RowKit
theorem GetI_yes (l : List UInt8) (z : Int) (w : World) (hl : l.length ≤ 90000) (h : IntText l z) :
    Calls Tryz.prog 70 #[.string (str l)] w fun e w' => ∃ s, e = .returned (.tuple #[.agg #[.bool (decide (z < 0)), s], .bool true]) ∧ IsN w' s z.natAbs ∧ Below w.heap.size w w' := by
  refine (GetI_any l w hl).mono ?_
  rintro e w' ⟨s, b, ok, rfl, h1, h2, hb⟩
  cases ok
  · exact absurd h ((h2 rfl).1 z)
  · obtain ⟨z', hz, rfl, hs⟩ := h1 rfl
    obtain rfl := h.inj hz
    exact ⟨s, rfl, hs, hb⟩
theorem GetI_no (l : List UInt8) (w : World) (hl : l.length ≤ 90000) (h : ∀ z, ¬ IntText l z) :
    Calls Tryz.prog 70 #[.string (str l)] w fun e w' => e = .returned (.tuple #[.agg #[.bool false, .slice none 0 0], .bool false]) ∧ Below w.heap.size w w' := by
  refine (GetI_any l w hl).mono ?_
  rintro e w' ⟨s, b, ok, rfl, h1, h2, hb⟩
  cases ok
  · obtain ⟨-, rfl, rfl⟩ := h2 rfl
    exact ⟨rfl, hb⟩
  · obtain ⟨z', hz, -⟩ := h1 rfl
    exact absurd hz (h z')
def MadeQ (V w3 : World) : Prop := Below (V.alloc (.cells #[Value.bool false, .slice none 0 0, .slice none 0 0] 86)).heap.size (V.alloc (.cells #[Value.bool false, .slice none 0 0, .slice none 0 0] 86)) w3
theorem MadeQ.cells {V w3 : World} (h : MadeQ V w3) : w3.cell? ⟨V.heap.size, 0, none⟩ = some (.bool false) ∧ w3.cell? ⟨V.heap.size, 1, none⟩ = some (.slice none 0 0) ∧ w3.cell? ⟨V.heap.size, 2, none⟩ = some (.slice none 0 0) ∧ w3.frozen? ⟨V.heap.size, 0, none⟩ = false ∧ w3.frozen? ⟨V.heap.size, 1, none⟩ = false ∧ w3.frozen? ⟨V.heap.size, 2, none⟩ = false :=
  row3 ((Below.block h V.heap.size (by simp)).trans (heap_alloc_new V _))
theorem IsQ.of {w : World} {s t : Value} {z : Int} {d : Nat} {p : Bool} (hp : decide (z < 0) = p) (hs : IsN w s z.natAbs) (ht : IsN w t d) : IsQ w (.agg #[.bool p, s, t]) z d := ⟨s, t, by rw [hp], hs, ht⟩
end Go.Proofs.YtfpooimjjpamoaaGreatDoor.ref
