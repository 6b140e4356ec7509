/-
  The steps of the walks, part 1: DayM, RefDay, RefOf6, RefCivil6, DateM, DateA, Facts, As, AsJoin, AsTop, First, Next.
-/
import Derived.KernelRfl
import Derived.Test.YtlhmfgbaefaneaaGreatDoorProg
import Derived.WalkKit
import Derived.WalkSpells
import Derived.Lib.Hide
import Derived.OwnWalk
import Derived.Below
import Derived.Carry
import Derived.Outline
import Derived.Deep.Draws
import Derived.BigQuiet
import Derived.Deep.QuietTactic
import Derived.Laws.Rows
import Derived.LaidEql
import Derived.LaidEqlPtr
import Derived.Lib.IfaceEq
import Derived.Stop.Asserts
import Derived.Stop.IfaceNil
import Derived.RowKitTokens
import Derived.Recover
namespace Go.Proofs.YtlhmfgbaefaneaaGreatDoor.day
def leap (y : Int) : Bool := decide (y % 4 = 0) && (!decide (y % 100 = 0) || decide (y % 400 = 0))
def ylen (y : Int) : Int := if leap y then 366 else 365
def mlen (y m : Int) : Int :=
  if m = 1 ∨ m = 3 ∨ m = 5 ∨ m = 7 ∨ m = 8 ∨ m = 10 ∨ m = 12 then 31
  else if m = 4 ∨ m = 6 ∨ m = 9 ∨ m = 11 then 30
  else if m = 2 then (if leap y then 29 else 28) else 0
def ydays : Nat → Int
  | 0 => 0
  | k + 1 => ydays k + ylen (1900 + (k : Nat))
def mdays (y : Int) : Nat → Int
  | 0 => 0
  | k + 1 => mdays y k + mlen y ((k : Nat) + 1)
def IsCivil (y m d : Int) : Prop := 1900 ≤ y ∧ y ≤ 2199 ∧ 1 ≤ d ∧ d ≤ mlen y m
instance (y m d : Int) : Decidable (IsCivil y m d) := by unfold IsCivil; infer_instance
def dayOf (y m d : Int) : Int := ydays (y - 1900).toNat + mdays y (m - 1).toNat + d - 1
def IsDay (n : Int) : Prop := 0 ≤ n ∧ n ≤ 109572
instance (n : Int) : Decidable (IsDay n) := by unfold IsDay; infer_instance
theorem ylen_lo (y : Int) : 365 ≤ ylen y := by unfold ylen; split <;> omega
theorem ylen_hi (y : Int) : ylen y ≤ 366 := by unfold ylen; split <;> omega
theorem mlen_lo {y m : Int} (h1 : 1 ≤ m) (h2 : m ≤ 12) : 28 ≤ mlen y m := by unfold mlen; repeat' split <;> omega
theorem mlen_hi (y m : Int) : mlen y m ≤ 31 := by unfold mlen; repeat' split <;> omega
theorem mlen_nn (y m : Int) : 0 ≤ mlen y m := by unfold mlen; repeat' split <;> omega
theorem mlen_pos {y m : Int} (h : 1 ≤ mlen y m) : 1 ≤ m ∧ m ≤ 12 := by unfold mlen at h; repeat' split at h <;> omega
theorem IsCivil.month {y m d : Int} (h : IsCivil y m d) : 1 ≤ m ∧ m ≤ 12 := mlen_pos (y := y) (by have := h.2.2; omega)
theorem mdays_year (y : Int) : mdays y 12 = ylen y := by
  simp only [mdays, mlen, ylen]
  cases leap y <;> decide
theorem ydays_300 : ydays 300 = 109573 := by decide +kernel
theorem ydays_mono {a b : Nat} (h : a ≤ b) : ydays a + 365 * ((b : Int) - a) ≤ ydays b := by
  induction h with
  | refl => omega
  | step h ih => simp only [ydays]; rename_i m; have := ylen_lo (1900 + (m : Nat)); omega
theorem mdays_mono {y : Int} {a b : Nat} (h : a ≤ b) : mdays y a ≤ mdays y b := by
  induction h with
  | refl => omega
  | step h ih => rename_i m; have := mlen_nn y ((m : Nat) + 1); simp only [mdays]; omega
theorem mdays_succ (y : Int) (k : Nat) : mdays y (k + 1) = mdays y k + mlen y ((k : Nat) + 1) := rfl
theorem ydays_succ (k : Nat) : ydays (k + 1) = ydays k + ylen (1900 + (k : Nat)) := rfl
theorem dayOf_in {y m d : Int} (h : IsCivil y m d) : ydays (y - 1900).toNat + mdays y (m - 1).toNat ≤ dayOf y m d ∧ dayOf y m d < ydays (y - 1900).toNat + mdays y m.toNat := by
  obtain ⟨m1, m2⟩ := h.month
  obtain ⟨k, hk⟩ : ∃ k : Nat, m = k + 1 := ⟨(m - 1).toNat, by omega⟩
  subst hk
  have e1 : ((k : Int) + 1 - 1).toNat = k := by omega
  have e2 : ((k : Int) + 1).toNat = k + 1 := by omega
  unfold dayOf
  rw [e1, e2, mdays_succ]
  have := h.2.2
  omega
theorem dayOf_year {y m d : Int} (h : IsCivil y m d) : ydays (y - 1900).toNat ≤ dayOf y m d ∧ dayOf y m d < ydays ((y - 1900).toNat + 1) := by
  obtain ⟨m1, m2⟩ := h.month
  have h1 := dayOf_in h
  have h2 := mdays_mono (y := y) (show 0 ≤ (m - 1).toNat by omega)
  have h3 := mdays_mono (y := y) (show m.toNat ≤ 12 by omega)
  rw [mdays_year] at h3
  rw [ydays_succ]
  have e : (1900 : Int) + ((y - 1900).toNat : Nat) = y := by have := h.1; omega
  rw [e]
  simp only [mdays] at h2
  omega
theorem dayOf_isDay {y m d : Int} (h : IsCivil y m d) : IsDay (dayOf y m d) := by
  have h1 := dayOf_year h
  have h2 := ydays_mono (show 0 ≤ (y - 1900).toNat by omega)
  have h3 := ydays_mono (show (y - 1900).toNat + 1 ≤ 300 by have := h.1; have := h.2.1; omega)
  rw [ydays_300] at h3
  simp only [ydays] at h2
  have := h.1
  have := h.2.1
  unfold IsDay
  omega
theorem year_unique {a b : Nat} {n : Int} (h1 : ydays a ≤ n) (h2 : n < ydays (a + 1)) (h3 : ydays b ≤ n) (h4 : n < ydays (b + 1)) : a = b := by
  rcases Nat.lt_trichotomy a b with h | h | h
  · have := ydays_mono (show a + 1 ≤ b by omega); omega
  · exact h
  · have := ydays_mono (show b + 1 ≤ a by omega); omega
theorem month_unique {y : Int} {a b : Nat} {n : Int} (h1 : mdays y a ≤ n) (h2 : n < mdays y (a + 1)) (h3 : mdays y b ≤ n) (h4 : n < mdays y (b + 1)) : a = b := by
  rcases Nat.lt_trichotomy a b with h | h | h
  · have := mdays_mono (y := y) (show a + 1 ≤ b by omega); omega
  · exact h
  · have := mdays_mono (y := y) (show b + 1 ≤ a by omega); omega
theorem dayOf_inj {y m d y' m' d' : Int} (h : IsCivil y m d) (h' : IsCivil y' m' d') (e : dayOf y m d = dayOf y' m' d') : y = y' ∧ m = m' ∧ d = d' := by
  have a := dayOf_year h
  have b := dayOf_year h'
  rw [← e] at b
  have hy := year_unique a.1 a.2 b.1 b.2
  have hyy : y = y' := by have := h.1; have := h'.1; omega
  subst hyy
  have a2 := dayOf_in h
  have b2 := dayOf_in h'
  rw [← e] at b2
  obtain ⟨m1, m2⟩ := h.month
  obtain ⟨n1, n2⟩ := h'.month
  obtain ⟨k, rfl⟩ : ∃ k : Nat, m = k + 1 := ⟨(m - 1).toNat, by omega⟩
  obtain ⟨j, rfl⟩ : ∃ k : Nat, m' = k + 1 := ⟨(m' - 1).toNat, by omega⟩
  rw [show ((k : Int) + 1 - 1).toNat = k by omega, show ((k : Int) + 1).toNat = k + 1 by omega] at a2
  rw [show ((j : Int) + 1 - 1).toNat = j by omega, show ((j : Int) + 1).toNat = j + 1 by omega] at b2
  have hm := month_unique (y := y) (n := dayOf y ((k : Int) + 1) d - ydays (y - 1900).toNat) (show mdays y k ≤ _ by omega) (show _ < mdays y (k + 1) by omega) (show mdays y j ≤ _ by omega) (show _ < mdays y (j + 1) by omega)
  subst hm
  unfold dayOf at e
  omega
theorem find (f : Nat → Int) (n : Int) : ∀ N : Nat, f 0 ≤ n → n < f N → ∃ k, k < N ∧ f k ≤ n ∧ n < f (k + 1)
  | 0, h0, hN => by omega
  | N + 1, h0, hN => by
    by_cases h : f N ≤ n
    · exact ⟨N, by omega, h, hN⟩
    · obtain ⟨k, hk, h1, h2⟩ := find f n N h0 (by omega)
      exact ⟨k, by omega, h1, h2⟩
theorem IsDay.civil {n : Int} (h : IsDay n) : ∃ y m d, IsCivil y m d ∧ dayOf y m d = n := by
  obtain ⟨h1, h2⟩ := h
  obtain ⟨K, hK, k1, k2⟩ := find ydays n 300 (by simpa [ydays] using h1) (by rw [ydays_300]; omega)
  rw [ydays_succ] at k2
  obtain ⟨M, hM, m1, m2⟩ := find (mdays (1900 + (K : Nat))) (n - ydays K) 12 (by simp only [mdays]; omega) (by rw [mdays_year]; omega)
  rw [mdays_succ] at m2
  refine ⟨1900 + (K : Nat), (M : Nat) + 1, n - ydays K - mdays (1900 + (K : Nat)) M + 1, ⟨by omega, by omega, by omega, by omega⟩, ?_⟩
  unfold dayOf
  rw [show ((1900 : Int) + (K : Nat) - 1900).toNat = K by omega, show (((M : Nat) : Int) + 1 - 1).toNat = M by omega]
  omega
end Go.Proofs.YtlhmfgbaefaneaaGreatDoor.day
namespace Go.Proofs.YtlhmfgbaefaneaaGreatDoor.ref6
open Go Go.RowKit Go.Proofs.YtlhmfgbaefaneaaGreatDoor.day
theorem tmod_zero (y k : Int) : (y.tmod k == 0) = decide (y % k = 0) := by
  rw [Bool.eq_iff_iff]
  simp only [beq_iff_eq, decide_eq_true_eq]
  rw [← Int.dvd_iff_tmod_eq_zero, ← Int.dvd_iff_emod_eq_zero]
theorem tmod_ne (y k : Int) : (y.tmod k != 0) = !decide (y % k = 0) := by
  rw [bne, tmod_zero]
end Go.Proofs.YtlhmfgbaefaneaaGreatDoor.ref6
namespace Go.Proofs.YtlhmfgbaefaneaaGreatDoor.ref6
open Go Go.RowKit Go.Proofs.YtlhmfgbaefaneaaGreatDoor.day
theorem quiet_same {P : Program} {f : FuncId} {args : Array Value} {w : World} {n : Nat} {v : Value}
    (h : Calls P f args (w.drewN n) fun e w' => e = .returned v ∧ w.drewN n = w') : Calls P f args (w.drewN n) fun e w'' => e = .returned v ∧ ∃ m, w'' = w.drewN m :=
  h.mono fun _ _ ⟨he, hm⟩ => ⟨he, n, hm.symm⟩
theorem drewN_below6 {n : Nat} {w w' : World} (h : Below n w w') (k : Nat) : Below n w (w'.drewN k) := by
  induction k with
  | zero => exact h
  | succ k ih => exact ih.drew
theorem ydays_hi {k : Nat} (h : k ≤ 300) : 0 ≤ ydays k ∧ ydays k ≤ 109573 := by
  have h1 := ydays_mono (Nat.zero_le k)
  have h2 := ydays_mono h
  rw [ydays_300] at h2
  simp only [ydays] at h1
  omega
theorem mdays_hi {y : Int} {k : Nat} (h : k ≤ 12) : 0 ≤ mdays y k ∧ mdays y k ≤ 366 := by
  have h1 := mdays_mono (y := y) (Nat.zero_le k)
  have h2 := mdays_mono (y := y) h
  rw [mdays_year] at h2
  have := ylen_hi y
  simp only [mdays] at h1
  omega
end Go.Proofs.YtlhmfgbaefaneaaGreatDoor.ref6
namespace Go.Proofs.YtlhmfgbaefaneaaGreatDoor.ref6
open Go Go.RowKit Go.Proofs.YtlhmfgbaefaneaaGreatDoor.day
def CAt (w : World) (b : Nat) (y m d : Int) : Prop := w.heap[b]? = some (.cells #[.int .i64 y, .int .i64 m, .int .i64 d] 23 (0, 0))
theorem CAt.cells {w : World} {g : Nat} {y m d : Int} (h3 : CAt w g y m d) :
    w.cell? ⟨g, 0, none⟩ = some (.int .i64 y) ∧ w.cell? ⟨g, 1, none⟩ = some (.int .i64 m) ∧ w.cell? ⟨g, 2, none⟩ = some (.int .i64 d) ∧ w.frozen? ⟨g, 0, none⟩ = false ∧ w.frozen? ⟨g, 1, none⟩ = false ∧ w.frozen? ⟨g, 2, none⟩ = false := by
  unfold CAt at h3
  refine ⟨?_, ?_, ?_, ?_, ?_, ?_⟩
  · rw [cell_of_row _ g 0 _ _ (0, 0) h3]; rfl
  · rw [cell_of_row _ g 1 _ _ (0, 0) h3]; rfl
  · rw [cell_of_row _ g 2 _ _ (0, 0) h3]; rfl
  all_goals
    unfold World.frozen?
    rw [h3]
    rfl
theorem CAt.set0 {w : World} {g : Nat} {y m d : Int} (h : CAt w g y m d) (y' : Int) : CAt (w.setCell ⟨g, 0, none⟩ (.int .i64 y')) g y' m d := by
  unfold CAt at *
  rw [heap_setCell_same w g 0 _ _ _ h]
  rfl
theorem CAt.set1 {w : World} {g : Nat} {y m d : Int} (h : CAt w g y m d) (m' : Int) : CAt (w.setCell ⟨g, 1, none⟩ (.int .i64 m')) g y m' d := by
  unfold CAt at *
  rw [heap_setCell_same w g 1 _ _ _ h]
  rfl
theorem CAt.set2 {w : World} {g : Nat} {y m d : Int} (h : CAt w g y m d) (d' : Int) : CAt (w.setCell ⟨g, 2, none⟩ (.int .i64 d')) g y m d' := by
  unfold CAt at *
  rw [heap_setCell_same w g 2 _ _ _ h]
  rfl
theorem CAt.far {w : World} {g : Nat} {y m d : Int} (h : CAt w g y m d) (a : Addr) (v : Value) (hn : g ≠ a.block) : CAt (w.setCell a v) g y m d := by
  unfold CAt at *
  rw [heap_setCell_other w a g v hn, h]
theorem CAt.new (w : World) (y m d : Int) : CAt (w.alloc (.cells #[.int .i64 y, .int .i64 m, .int .i64 d] 23)) w.heap.size y m d := heap_alloc_new _ _
theorem CAt.below {w w' : World} {g : Nat} {y m d : Int} (h : CAt w g y m d) (hb : Below w.heap.size w w') : CAt w' g y m d :=
  (hb.block g (Array.getElem?_eq_some_iff.1 h).1).trans h
theorem alloc_size (w : World) (o : Obj) : (w.alloc o).heap.size = w.heap.size + 1 := World.size_alloc _ _
end Go.Proofs.YtlhmfgbaefaneaaGreatDoor.ref6
namespace Go.Proofs.YtlhmfgbaefaneaaGreatDoor.day
def leaps (n : Int) : Int := n / 4 - n / 100 + n / 400
theorem ylen_leaps (y : Int) : ylen y = 365 + leaps y - leaps (y - 1) := by
  unfold ylen leap leaps
  by_cases h4 : y % 4 = 0 <;> by_cases h1 : y % 100 = 0 <;> by_cases h2 : y % 400 = 0 <;> simp [h4, h1, h2] <;> omega
theorem ydays_closed (k : Nat) : ydays k = 365 * k + leaps (1899 + k) - 460 := by
  induction k with
  | zero => decide
  | succ k ih =>
    rw [ydays_succ, ih, ylen_leaps, show (1900 : Int) + (k : Nat) - 1 = 1899 + k by omega, show (1899 : Int) + ((k + 1 : Nat) : Int) = 1900 + k by omega]
    omega
theorem leaps_lo {k : Nat} : 460 ≤ leaps (1899 + k) := by unfold leaps; omega
theorem leaps_hi {k : Nat} (h : k ≤ 301) : leaps (1899 + k) ≤ 540 := by unfold leaps; omega
theorem year_guess {k : Nat} (hk : k ≤ 299) {n : Int} (h1 : ydays k ≤ n) (h2 : n < ydays (k + 1)) : n / 365 = k ∨ n / 365 = k + 1 := by
  rw [ydays_closed] at h1 h2
  have a1 := leaps_lo (k := k)
  have a2 := leaps_hi (k := k + 1) (by omega)
  generalize leaps (1899 + (k : Nat)) = p at *
  generalize leaps (1899 + ((k + 1 : Nat) : Int)) = q at *
  omega
def wday (n : Int) : Int := (n + 1) % 7
theorem mlen_common (y m : Int) (hl : ¬ (m = 2 ∧ leap y = true)) : mlen y m = mlen 1901 m := by
  unfold mlen
  by_cases h : m = 2
  · subst h
    have : leap y = false := by cases hy : leap y <;> simp_all
    rw [this]
    decide
  · simp [h]
end Go.Proofs.YtlhmfgbaefaneaaGreatDoor.day
namespace Go.Proofs.YtlhmfgbaefaneaaGreatDoor.date
open Go Go.RowKit Go.Proofs.YtlhmfgbaefaneaaGreatDoor.day
open Go.Proofs.YtlhmfgbaefaneaaGreatDoor.ref6 (tmod_zero tmod_ne)
def Lens (w : World) : Prop := ∀ i : Nat, i < 12 → w.cell? ⟨0, i, none⟩ = some (.int .i64 (mlen 1901 ((i : Nat) + 1)))
theorem cell_lt6 {w : World} {a : Addr} {v : Value} (h : w.cell? a = some v) : a.block < w.heap.size := by
  rcases Nat.lt_or_ge a.block w.heap.size with h' | h'
  · exact h'
  · unfold World.cell? at h
    rw [Array.getElem?_eq_none (by omega)] at h
    simp at h
theorem Lens.below {w w' : World} {n : Nat} (h : Lens w) (hb : Below n w w') (hn : n = w.heap.size) : Lens w' := fun i hi => by
  rw [hb.cell (p := ⟨0, i, none⟩) (by have := cell_lt6 (h 0 (by omega)); simp only at this ⊢; omega)]
  exact h i hi
theorem Lens.keep {w w' : World} (h : Lens w) (hb : Below w.heap.size w w') : Lens w' := h.below hb rfl
set_option maxRecDepth 100000 in
set_option maxHeartbeats 4000000 in
theorem Leap_any (y : Int) (w : World) :
    Calls Tryz.prog 31 #[.int .i64 y] w fun e w' => e = .returned (.bool (leap y)) ∧ w = w' := by
  have KEY := Lib.hid (show leap y = (y.tmod 4 == 0 && (y.tmod 100 != 0 || y.tmod 400 == 0)) from by rw [tmod_zero, tmod_ne, tmod_zero]; rfl)
  go_enter Tryz.func31, Tryz.ntmps31
  go_wp2
  all_goals
    go_ret
    refine ⟨?_, rfl⟩
    rw [KEY.out]
    simp [*]
set_option maxRecDepth 100000 in
set_option maxHeartbeats 4000000 in
theorem Length_any (y m : Int) (w : World) (hL : Lens w) :
    Calls Tryz.prog 33 #[.int .i64 y, .int .i64 m] w fun e w' => e = .returned (.int .i64 (mlen y m)) ∧ w = w' := by
  have HL := Lib.hid (fun W => Leap_any y W)
  have H1 : w.cell? ⟨0, 1, none⟩ = some (.int .i64 28) := hL 1 (by omega)
  have HC := Lib.hid (fun h : 1 ≤ m ∧ m ≤ 12 => (show w.cell? ⟨0, m.toNat - 1, none⟩ = some (.int .i64 (mlen 1901 m)) from by
    rw [hL (m.toNat - 1) (by omega), show ((m.toNat - 1 : Nat) : Int) + 1 = m by omega]))
  by_cases hm : 1 ≤ m ∧ m ≤ 12
  · have HK := Lib.hid (mlen_common y m)
    obtain ⟨m1, m2⟩ := hm
    have c := HC.out ⟨m1, m2⟩
    clear HC hL
    cases hl : leap y
    all_goals
      rw [hl] at HL
      by_cases h2 : m = 2
    all_goals
      have HY := Lib.hid hl
      clear hl
    · subst h2
      go_enter Tryz.func33, Tryz.ntmps33
      go_wp2_with (go_at_call 31; (with_reducible refine (HL.out _).mono ?_); rintro e w1 ⟨rfl, rfl⟩; clear HL)
      go_ret
      refine ⟨?_, rfl⟩
      rw [HK.out (by simp [HY.out])]
      rfl
    · have HE := Lib.hid (HK.out (by simp [HY.out]))
      go_enter Tryz.func33, Tryz.ntmps33
      go_wp2_with (go_at_call 31; (with_reducible refine (HL.out _).mono ?_); rintro e w1 ⟨rfl, rfl⟩; clear HL)
      go_ret
      refine ⟨?_, rfl⟩
      rw [HE.out]
      rfl
    · subst h2
      go_enter Tryz.func33, Tryz.ntmps33
      go_wp2_with (go_at_call 31; (with_reducible refine (HL.out _).mono ?_); rintro e w1 ⟨rfl, rfl⟩; clear HL)
      go_ret
      refine ⟨?_, rfl⟩
      simp [mlen, HY.out]
    · have HE := Lib.hid (HK.out (by simp [h2]))
      go_enter Tryz.func33, Tryz.ntmps33
      go_wp2_with (go_at_call 31; (with_reducible refine (HL.out _).mono ?_); rintro e w1 ⟨rfl, rfl⟩; clear HL)
      go_ret
      refine ⟨?_, rfl⟩
      rw [HE.out]
      rfl
  · have HE := Lib.hid (show mlen y m = 0 from by
      have := mlen_nn y m
      by_cases h : 1 ≤ mlen y m
      · exact absurd (mlen_pos h) hm
      · omega)
    clear HC hL HL
    rcases (show m < 1 ∨ (1 ≤ m ∧ 12 < m) by omega) with h | ⟨h, h'⟩
    all_goals
      clear hm
      go_enter Tryz.func33, Tryz.ntmps33
      go_wp2
      go_ret
      refine ⟨?_, rfl⟩
      rw [HE.out]
      rfl
set_option maxRecDepth 100000 in
set_option maxHeartbeats 4000000 in
theorem isDay_any (n : Int) (w : World) : Calls Tryz.prog 70 #[.int .i64 n] w fun e w' => e = .returned (.bool (decide (IsDay n))) ∧ w = w' := by
  rcases (show (n < 0 ∧ ¬ IsDay n) ∨ (0 ≤ n ∧ 109572 < n ∧ ¬ IsDay n) ∨ (0 ≤ n ∧ n ≤ 109572 ∧ IsDay n) by unfold IsDay; omega) with ⟨h1, h⟩ | ⟨h1, h2, h⟩ | ⟨h1, h2, h⟩
  all_goals
    have HE := Lib.hid h
    clear h
    go_enter Tryz.func70, Tryz.ntmps70
    go_wp2
    go_ret
    refine ⟨?_, rfl⟩
    have := HE.out
    simp [this] <;> omega
theorem isDay_yes {n : Int} (h : IsDay n) (w : World) : Calls Tryz.prog 70 #[.int .i64 n] w fun e w' => e = .returned (.bool true) ∧ w = w' := by
  have := isDay_any n w
  rwa [show decide (IsDay n) = true from decide_eq_true h] at this
theorem isDay_not {n : Int} (h : ¬ IsDay n) (w : World) : Calls Tryz.prog 70 #[.int .i64 n] w fun e w' => e = .returned (.bool false) ∧ w = w' := by
  have := isDay_any n w
  rwa [show decide (IsDay n) = false from decide_eq_false h] at this
set_option maxRecDepth 100000 in
set_option maxHeartbeats 4000000 in
theorem leapsAhead_any (y : Int) (h1 : 1 ≤ y) (h2 : y ≤ 1000000) (w : World) :
    Calls Tryz.prog 119 #[.int .i64 y] w fun e w' => e = .returned (.int .i64 (leaps (y - 1))) ∧ w = w' := by
  go_enter Tryz.func119, Tryz.ntmps119
  go_wp2
  go_ret
  exact ⟨rfl, rfl⟩
set_option maxRecDepth 100000 in
set_option maxHeartbeats 4000000 in
theorem newYear_any (K : Nat) (h : K ≤ 301) (w : World) :
    Calls Tryz.prog 73 #[.int .i64 (1900 + (K : Nat))] w fun e w' => e = .returned (.int .i64 (ydays K)) ∧ w = w' := by
  have HE := Lib.hid (ydays_closed K)
  have HA := Lib.hid (fun W => leapsAhead_any (1900 + (K : Nat)) (by omega) (by omega) W)
  have HB := Lib.hid (fun W => leapsAhead_any 1900 (by omega) (by omega) W)
  have a1 := leaps_lo (k := K)
  have a2 := leaps_hi (k := K) h
  rw [show (1900 : Int) + (K : Nat) - 1 = 1899 + (K : Nat) by omega] at HA
  rw [show leaps ((1900 : Int) - 1) = 460 by decide] at HB
  generalize leaps (1899 + (K : Nat)) = p at *
  go_enter Tryz.func73, Tryz.ntmps73
  go_wp2_with (first
    | (go_at_call 119; (with_reducible refine (HA.out _).mono ?_); rintro e w1 ⟨rfl, rfl⟩; clear HA)
    | (go_at_call 119; (with_reducible refine (HB.out _).mono ?_); rintro e w1 ⟨rfl, rfl⟩; clear HB)
    | (fail "no arm"))
  go_ret
  refine ⟨?_, rfl⟩
  rw [HE.out]
  go_num
set_option maxRecDepth 100000 in
set_option maxHeartbeats 4000000 in
theorem yearOf_at (K : Nat) (hK : K ≤ 299) (n : Int) (h1 : ydays K ≤ n) (h2 : n < ydays (K + 1)) (w : World) :
    Calls Tryz.prog 72 #[.int .i64 n] w fun e w' => e = .returned (.int .i64 (1900 + (K : Nat))) ∧ w = w' := by
  have hg := year_guess hK h1 h2
  have h0 := (ref6.ydays_hi (show K ≤ 300 by omega)).1
  have h3 := (ref6.ydays_hi (show K + 1 ≤ 300 by omega)).2
  rcases hg with hg | hg
  · have HA := Lib.hid (fun W => newYear_any K (by omega) W)
    have hd : n.tdiv 365 = K := by rw [Int.tdiv_eq_ediv_of_nonneg (by omega)]; exact hg
    generalize ydays K = y1 at *
    generalize ydays (K + 1) = y2 at *
    go_enter Tryz.func72, Tryz.ntmps72
    go_wp2_with (go_at_call 73; (with_reducible refine (HA.out _).mono ?_); rintro e w1 ⟨rfl, rfl⟩; clear HA)
    go_ret
    exact ⟨rfl, rfl⟩
  · have HA := Lib.hid (fun W => newYear_any (K + 1) (by omega) W)
    rw [show ((K + 1 : Nat) : Int) = (K : Int) + 1 by omega] at HA
    generalize ydays K = y1 at *
    generalize ydays (K + 1) = y2 at *
    go_enter Tryz.func72, Tryz.ntmps72
    go_wp2_with (go_at_call 73; (with_reducible refine (HA.out _).mono ?_); rintro e w1 ⟨rfl, rfl⟩; clear HA)
    go_ret
    exact ⟨by go_num, rfl⟩
end Go.Proofs.YtlhmfgbaefaneaaGreatDoor.date
namespace Go.Proofs.YtlhmfgbaefaneaaGreatDoor.flt
open Go.RowKit Go.Extern.Stop Go.Stop Go.Extern
theorem valueOfPP (t : Addr) (w : World) : (ReflectliteValue.unpack (.iface 173 (.pointer (some t)))).run Tryz.prog w
    = .ok (.agg #[.pointer (some ⟨10, 173, none⟩), .pointer (some ⟨w.heap.size, 0, none⟩), .int .u64 150]) (w.alloc (.cells #[.pointer (some t)] 173)) := by kernel_rfl
theorem typePP (a : Addr) (w : World) : (ReflectliteValue.methodAny (ReflectliteValue.valueError "reflectlite.Value.Type" 0) (fun t _ _ _ => ReflectliteType.toType t) #[.agg #[.pointer (some ⟨10, 173, none⟩), .pointer (some a), .int .u64 150]]).run Tryz.prog w
    = .ok (.iface 258 (.agg #[.pointer (some ⟨10, 173, none⟩)])) w := by kernel_rfl
theorem methodKind (h : Value) (w : World) : (Go.method 433 258 (.agg #[h]) "Kind").run Tryz.prog w = .ok (304, h) w := by kernel_rfl
theorem kindPP (w : World) : ((ReflectliteType.abiMethod fun t => (fun a : Nat => Value.int IntKind.u8 (a : Int)) <$> Rtype.kind t) #[.pointer (some ⟨10, 173, none⟩)]).run Tryz.prog w = .ok (.int .u8 22) w := by kernel_rfl
theorem kindP (w : World) : ((ReflectliteType.abiMethod fun t => (fun a : Nat => Value.int IntKind.u8 (a : Int)) <$> Rtype.kind t) #[.pointer (some ⟨10, 131, none⟩)]).run Tryz.prog w = .ok (.int .u8 22) w := by kernel_rfl
theorem rlm (z : Sem Value) (f : TypeId → Addr → Nat → Nat → Sem Value) (v : Value) :
    ReflectliteValue.method z f #[v] = (do match ← ReflectliteValue.parts v with | none => z | some (t, a, fl) => f t a fl (fl % 32)) := rfl
theorem partsPP (a : Addr) (w : World) : (ReflectliteValue.parts (.agg #[.pointer (some ⟨10, 173, none⟩), .pointer (some a), .int .u64 150])).run Tryz.prog w = .ok (some (173, a, 150)) w := by kernel_rfl
theorem isNilPP (a p : Addr) (W : World) (ha : W.cell? a = some (.pointer (some p))) :
    (ReflectliteValue.method (ReflectliteValue.valueError "reflectlite.Value.IsNil" 0) ReflectliteValue.isNil #[.agg #[.pointer (some ⟨10, 173, none⟩), .pointer (some a), .int .u64 150]]).run Tryz.prog W = .ok (.bool false) W := by
  rw [rlm]
  simp only [Sem.run_bind, partsPP, Result.andThen]
  simp [ReflectliteValue.isNil, loadVar, isAgg, underlying, Tryz.underlying173, ha, Result.andThen]
theorem methodElem (h : Value) (w : World) : (Go.method 433 258 (.agg #[h]) "Elem").run Tryz.prog w = .ok (321, .agg #[h]) w := by kernel_rfl
theorem methodImplements (h : Value) (w : World) : (Go.method 433 258 (.agg #[h]) "Implements").run Tryz.prog w = .ok (322, .agg #[h]) w := by kernel_rfl
theorem methodAssignableTo (h : Value) (w : World) : (Go.method 433 258 (.agg #[h]) "AssignableTo").run Tryz.prog w = .ok (319, .agg #[h]) w := by kernel_rfl
theorem methodComparable (h : Value) (w : World) : (Go.method 433 258 (.agg #[h]) "Comparable").run Tryz.prog w = .ok (320, .agg #[h]) w := by kernel_rfl
theorem elemPP (w : World) : (ReflectliteType.method ReflectliteType.elem #[.agg #[.pointer (some ⟨10, 173, none⟩)]]).run Tryz.prog w = .ok (.iface 258 (.agg #[.pointer (some ⟨10, 131, none⟩)])) w := by kernel_rfl
theorem implementsP (w : World) : (ReflectliteType.relation "Implements" ReflectliteType.implements_ #[.agg #[.pointer (some ⟨10, 131, none⟩)], .iface 258 (.agg #[.pointer (some ⟨10, 28, none⟩)])]).run Tryz.prog w = .ok (.bool true) w := by kernel_rfl
theorem typeOfP (v : Value) (w : World) : (ReflectliteType.typeOf #[.iface 131 v]).run Tryz.prog w = .ok (.iface 258 (.agg #[.pointer (some ⟨10, 131, none⟩)])) w := by kernel_rfl
theorem typeOfL (v : Value) (w : World) : (ReflectliteType.typeOf #[.iface 128 v]).run Tryz.prog w = .ok (.iface 258 (.agg #[.pointer (some ⟨10, 128, none⟩)])) w := by kernel_rfl
theorem typeOfS (v : Value) (w : World) : (ReflectliteType.typeOf #[.iface 302 v]).run Tryz.prog w = .ok (.iface 258 (.agg #[.pointer (some ⟨10, 302, none⟩)])) w := by kernel_rfl
theorem assignP (w : World) : (ReflectliteType.relation "AssignableTo" ReflectliteType.assignableTo #[.agg #[.pointer (some ⟨10, 131, none⟩)], .iface 258 (.agg #[.pointer (some ⟨10, 131, none⟩)])]).run Tryz.prog w = .ok (.bool true) w := by kernel_rfl
theorem assignL (w : World) : (ReflectliteType.relation "AssignableTo" ReflectliteType.assignableTo #[.agg #[.pointer (some ⟨10, 128, none⟩)], .iface 258 (.agg #[.pointer (some ⟨10, 131, none⟩)])]).run Tryz.prog w = .ok (.bool false) w := by kernel_rfl
theorem assignS (w : World) : (ReflectliteType.relation "AssignableTo" ReflectliteType.assignableTo #[.agg #[.pointer (some ⟨10, 302, none⟩)], .iface 258 (.agg #[.pointer (some ⟨10, 131, none⟩)])]).run Tryz.prog w = .ok (.bool false) w := by kernel_rfl
theorem valueOfP (e : Addr) (w : World) : (ReflectliteValue.unpack (.iface 131 (.pointer (some e)))).run Tryz.prog w
    = .ok (.agg #[.pointer (some ⟨10, 131, none⟩), .pointer (some ⟨w.heap.size, 0, none⟩), .int .u64 150]) (w.alloc (.cells #[.pointer (some e)] 131)) := by kernel_rfl
theorem elemOfPP (w : World) : (Rtype.elem? 173).run Tryz.prog w = .ok (some 131) w := by kernel_rfl
theorem mkP (p : Addr) (w : World) : (ReflectliteValue.mk 131 p ReflectliteValue.flagAddr).run Tryz.prog w = .ok (.agg #[.pointer (some ⟨10, 131, none⟩), .pointer (some p), .int .u64 406]) w := by kernel_rfl
theorem elemV (a p : Addr) (W : World) (ha : W.cell? a = some (.pointer (some p))) :
    (ReflectliteValue.method (ReflectliteValue.valueError "reflectlite.Value.Elem" 0) ReflectliteValue.elem #[.agg #[.pointer (some ⟨10, 173, none⟩), .pointer (some a), .int .u64 150]]).run Tryz.prog W
      = .ok (.agg #[.pointer (some ⟨10, 131, none⟩), .pointer (some p), .int .u64 406]) W := by
  rw [rlm]
  simp only [Sem.run_bind, partsPP, Result.andThen]
  simp [ReflectliteValue.elem, loadVar, isAgg, underlying, Tryz.underlying173, ha, Result.andThen, elemOfPP, mkP]
theorem rls (v x : Value) : ReflectliteValue.set #[v, x] = (do
    let (some (dst, a, fl), some (src, b, _)) := (← ReflectliteValue.parts v, ← ReflectliteValue.parts x)
      | unsupported (.noEntry "extern/(internal/reflectlite.Value).Set.zeroValue")
    if fl / ReflectliteValue.flagAddr % 2 == 0 then unsupported (.noEntry "extern/(internal/reflectlite.Value).Set.unaddressable")
    let val ← loadVar src b
    if ← Rtype.directlyAssignable dst src then storeVar dst a val
    else if ← Rtype.implements dst src then
      if (← Rtype.kind src) == 20 then
        match val with
        | .nilIface => unsupported (.noEntry "extern/reflectlite: a nil value of one interface type handed on as a value of another")
        | _ => storeVar dst a val
      else storeVar dst a (.iface src val)
    else panicString ("reflectlite.Set: value of type " ++ (← Rtype.spelt src) ++ " is not assignable to type " ++ (← Rtype.spelt dst))
    pure (.tuple #[])) := rfl
theorem partsPa (a : Addr) (w : World) : (ReflectliteValue.parts (.agg #[.pointer (some ⟨10, 131, none⟩), .pointer (some a), .int .u64 406])).run Tryz.prog w = .ok (some (131, a, 406)) w := by kernel_rfl
theorem partsP (a : Addr) (w : World) : (ReflectliteValue.parts (.agg #[.pointer (some ⟨10, 131, none⟩), .pointer (some a), .int .u64 150])).run Tryz.prog w = .ok (some (131, a, 150)) w := by kernel_rfl
theorem directP (w : World) : (Rtype.directlyAssignable 131 131).run Tryz.prog w = .ok true w := by kernel_rfl
theorem setP (ta b e : Addr) (old : Value) (W : World) (hb : W.cell? b = some (.pointer (some e))) (ht : W.cell? ta = some old) (hf : W.frozen? ta = false) :
    (ReflectliteValue.set #[.agg #[.pointer (some ⟨10, 131, none⟩), .pointer (some ta), .int .u64 406], .agg #[.pointer (some ⟨10, 131, none⟩), .pointer (some b), .int .u64 150]]).run Tryz.prog W
      = .ok (.tuple #[]) (W.setCell ta (.pointer (some e))) := by
  rw [rls]
  simp only [Sem.run_bind, partsPa, partsP, Result.andThen]
  simp [ReflectliteValue.flagAddr, loadVar, isAgg, underlying, Tryz.underlying131, hb, Result.andThen, directP, storeVar, Value.cells, storeCells, Addr.add]
  rw [run_store Tryz.prog W ta _ _ (by rfl)]
  simp [ht, hf]
theorem hasIsP (v : Value) (xT : TypeId) (w : World) : (Instr.typeAssert (.iface 131 v) xT 289 true).run Tryz.prog w = .ok (.tuple #[.iface 131 v, .bool true]) w := run_typeAssert_hasB Tryz.underlying289 (by kernel_rfl) v xT w
theorem noIsL (v : Value) (xT : TypeId) (w : World) : (Instr.typeAssert (.iface 128 v) xT 289 true).run Tryz.prog w = .ok (.tuple #[.nilIface, .bool false]) w := run_typeAssert_lacksB Tryz.underlying289 (by kernel_rfl) (by kernel_rfl) v xT w
theorem noIsS (v : Value) (xT : TypeId) (w : World) : (Instr.typeAssert (.iface 302 v) xT 289 true).run Tryz.prog w = .ok (.tuple #[.nilIface, .bool false]) w := run_typeAssert_lacksB Tryz.underlying289 (by kernel_rfl) (by kernel_rfl) v xT w
theorem hasUnP (v : Value) (xT : TypeId) (w : World) : (Instr.typeAssert (.iface 131 v) xT 266 true).run Tryz.prog w = .ok (.tuple #[.iface 131 v, .bool true]) w := run_typeAssert_hasB Tryz.underlying266 (by kernel_rfl) v xT w
theorem noUnL (v : Value) (xT : TypeId) (w : World) : (Instr.typeAssert (.iface 128 v) xT 266 true).run Tryz.prog w = .ok (.tuple #[.nilIface, .bool false]) w := run_typeAssert_lacksB Tryz.underlying266 (by kernel_rfl) (by kernel_rfl) v xT w
theorem noUnS (v : Value) (xT : TypeId) (w : World) : (Instr.typeAssert (.iface 302 v) xT 266 true).run Tryz.prog w = .ok (.tuple #[.nilIface, .bool false]) w := run_typeAssert_lacksB Tryz.underlying266 (by kernel_rfl) (by kernel_rfl) v xT w
theorem noUnsL (v : Value) (xT : TypeId) (w : World) : (Instr.typeAssert (.iface 128 v) xT 268 true).run Tryz.prog w = .ok (.tuple #[.nilIface, .bool false]) w := run_typeAssert_lacksB Tryz.underlying268 (by kernel_rfl) (by kernel_rfl) v xT w
theorem noUnsS (v : Value) (xT : TypeId) (w : World) : (Instr.typeAssert (.iface 302 v) xT 268 true).run Tryz.prog w = .ok (.tuple #[.nilIface, .bool false]) w := run_typeAssert_lacksB Tryz.underlying268 (by kernel_rfl) (by kernel_rfl) v xT w
theorem hasAsL (v : Value) (xT : TypeId) (w : World) : (Instr.typeAssert (.iface 128 v) xT 263 true).run Tryz.prog w = .ok (.tuple #[.iface 128 v, .bool true]) w := run_typeAssert_hasB Tryz.underlying263 (by kernel_rfl) v xT w
theorem noAsS (v : Value) (xT : TypeId) (w : World) : (Instr.typeAssert (.iface 302 v) xT 263 true).run Tryz.prog w = .ok (.tuple #[.nilIface, .bool false]) w := run_typeAssert_lacksB Tryz.underlying263 (by kernel_rfl) (by kernel_rfl) v xT w
theorem assertPP (v : Value) (w : World) : (Instr.typeAssert (.iface 173 v) 20 173 true).run Tryz.prog w = .ok (.tuple #[v, .bool true]) w := by kernel_rfl
theorem methodIs (v : Value) (w : World) : (Go.method 433 131 v "Is").run Tryz.prog w = .ok (312, v) w := by kernel_rfl
theorem methodUnwrap (v : Value) (w : World) : (Go.method 433 131 v "Unwrap").run Tryz.prog w = .ok (313, v) w := by kernel_rfl
theorem methodError (v : Value) (w : World) : (Go.method 433 131 v "Error").run Tryz.prog w = .ok (311, v) w := by kernel_rfl
theorem methodAs (v : Value) (w : World) : (Go.method 433 128 v "As").run Tryz.prog w = .ok (308, v) w := by kernel_rfl
theorem compP : (Tryz.prog.info? 131).map (·.comparable) = some true := by kernel_rfl
theorem compL : (Tryz.prog.info? 128).map (·.comparable) = some true := by kernel_rfl
theorem sizeF : (Tryz.prog.info? 134).map (·.size) = some 3 := by kernel_rfl
end Go.Proofs.YtlhmfgbaefaneaaGreatDoor.flt
namespace Go.Proofs.YtlhmfgbaefaneaaGreatDoor.flt
open Go.RowKit Go.Extern.Stop Go.Stop Go.Extern
def Handle (w : World) : Prop := w.cell? ⟨1, 0, none⟩ = some (.iface 258 (.agg #[.pointer (some ⟨10, 28, none⟩)]))
theorem cell_lt {w : World} {a : Addr} {v : Value} (h : w.cell? a = some v) : a.block < w.heap.size := by
  rcases Nat.lt_or_ge a.block w.heap.size with h' | h'
  · exact h'
  · simp [World.cell?, Array.getElem?_eq_none h'] at h
theorem Handle.below {w w' : World} {B : Nat} (h : Handle w) (hb : Below B w w') (hB : 1 < B) : Handle w' := by
  unfold Handle at *
  rw [hb.cell (p := ⟨1, 0, none⟩) hB]; exact h
theorem Handle.pos {w : World} (h : Handle w) : 1 < w.heap.size := cell_lt (a := ⟨1, 0, none⟩) h
def SetAt (t : Addr) (v : Value) (w w' : World) : Prop := ∃ w1, Below w.heap.size w w1 ∧ w' = w1.setCell t v
set_option maxRecDepth 100000 in
theorem pAs_any (c : Int) (t : Addr) (old : Value) (w : World) (ht : w.cell? t = some old) (hf : w.frozen? t = false) :
    Calls Tryz.prog 308 #[.int .i64 c, .iface 173 (.pointer (some t))] w fun e w' => e = .returned (.bool true) ∧
      w' = (w.alloc (.cells #[.int .i64 c, .string ⟨#[]⟩, .nilIface] 134)).setCell t (.pointer (some ⟨w.heap.size, 0, none⟩)) := by
  have hlt := cell_lt ht
  have ht' : (w.alloc (.cells #[.int .i64 c, .string ⟨#[]⟩, .nilIface] 134)).cell? t = some old := by rw [World.cell?_alloc_lt _ _ t hlt]; exact ht
  have hf' : (w.alloc (.cells #[.int .i64 c, .string ⟨#[]⟩, .nilIface] 134)).frozen? t = false := by rw [World.frozen?_alloc_old _ _ t (Nat.ne_of_lt hlt)]; exact hf
  have aPP := assertPP
  go_enter Tryz.func308, Tryz.ntmps308
  go_wp2
  go_ret
  exact ⟨rfl, rfl⟩
structure Ext : Prop where
  tyOf : ∀ (args : Array Value) (w : World), (callFunc 250 args).run Tryz.prog w = ((ReflectliteType.typeOf args).run Tryz.prog w).andThen fun v w' => .ok (.value v) w'
  asg : ∀ (args : Array Value) (w : World), (callFunc 319 args).run Tryz.prog w = ((ReflectliteType.relation "AssignableTo" ReflectliteType.assignableTo args).run Tryz.prog w).andThen fun v w' => .ok (.value v) w'
  elm : ∀ (args : Array Value) (w : World), (callFunc 251 args).run Tryz.prog w = ((ReflectliteValue.method (ReflectliteValue.valueError "reflectlite.Value.Elem" 0) ReflectliteValue.elem args).run Tryz.prog w).andThen fun v w' => .ok (.value v) w'
  vOf : ∀ (args : Array Value) (w : World), (callFunc 205 args).run Tryz.prog w = ((ReflectliteValue.unpack (args.getD 0 (.tuple #[]))).run Tryz.prog w).andThen fun v w' => .ok (.value v) w'
  set : ∀ (args : Array Value) (w : World), (callFunc 252 args).run Tryz.prog w = ((ReflectliteValue.set args).run Tryz.prog w).andThen fun v w' => .ok (.value v) w'
  typ : ∀ (args : Array Value) (w : World), (callFunc 206 args).run Tryz.prog w = ((ReflectliteValue.methodAny (ReflectliteValue.valueError "reflectlite.Value.Type" 0) (fun t _ _ _ => ReflectliteType.toType t) args).run Tryz.prog w).andThen fun v w' => .ok (.value v) w'
  nil : ∀ (args : Array Value) (w : World), (callFunc 207 args).run Tryz.prog w = ((ReflectliteValue.method (ReflectliteValue.valueError "reflectlite.Value.IsNil" 0) ReflectliteValue.isNil args).run Tryz.prog w).andThen fun v w' => .ok (.value v) w'
  knd : ∀ (args : Array Value) (w : World), (callFunc 304 args).run Tryz.prog w = (((ReflectliteType.abiMethod fun t => (fun a : Nat => Value.int IntKind.u8 (a : Int)) <$> Rtype.kind t) args).run Tryz.prog w).andThen fun v w' => .ok (.value v) w'
  rel : ∀ (args : Array Value) (w : World), (callFunc 321 args).run Tryz.prog w = ((ReflectliteType.method ReflectliteType.elem args).run Tryz.prog w).andThen fun v w' => .ok (.value v) w'
  imp : ∀ (args : Array Value) (w : World), (callFunc 322 args).run Tryz.prog w = ((ReflectliteType.relation "Implements" ReflectliteType.implements_ args).run Tryz.prog w).andThen fun v w' => .ok (.value v) w'
  cmp : ∀ (args : Array Value) (w : World), (callFunc 320 args).run Tryz.prog w = ((ReflectliteType.method (fun t => do Rtype.noPackHeld "Comparable" t; pure (.bool (← typeInfo t).comparable)) args).run Tryz.prog w).andThen fun v w' => .ok (.value v) w'
theorem ext : Ext where
  tyOf := @run_callFunc_extern Tryz.prog 250 _ ReflectliteType.typeOf Tryz.func250 (by kernel_rfl) (by kernel_rfl) (by kernel_rfl) (by kernel_rfl)
  asg := @run_callFunc_extern Tryz.prog 319 _ (ReflectliteType.relation "AssignableTo" ReflectliteType.assignableTo) Tryz.func319 (by kernel_rfl) (by kernel_rfl) (by kernel_rfl) (by kernel_rfl)
  elm := @run_callFunc_extern Tryz.prog 251 _ (ReflectliteValue.method (ReflectliteValue.valueError "reflectlite.Value.Elem" 0) ReflectliteValue.elem) Tryz.func251 (by kernel_rfl) (by kernel_rfl) (by kernel_rfl) (by kernel_rfl)
  vOf := @run_callFunc_extern Tryz.prog 205 _ (fun args => ReflectliteValue.unpack (args.getD 0 (.tuple #[]))) Tryz.func205 (by kernel_rfl) (by kernel_rfl) (by kernel_rfl) (by kernel_rfl)
  set := @run_callFunc_extern Tryz.prog 252 _ ReflectliteValue.set Tryz.func252 (by kernel_rfl) (by kernel_rfl) (by kernel_rfl) (by kernel_rfl)
  typ := @run_callFunc_extern Tryz.prog 206 _ (ReflectliteValue.methodAny (ReflectliteValue.valueError "reflectlite.Value.Type" 0) (fun t _ _ _ => ReflectliteType.toType t)) Tryz.func206 (by kernel_rfl) (by kernel_rfl) (by kernel_rfl) (by kernel_rfl)
  nil := @run_callFunc_extern Tryz.prog 207 _ (ReflectliteValue.method (ReflectliteValue.valueError "reflectlite.Value.IsNil" 0) ReflectliteValue.isNil) Tryz.func207 (by kernel_rfl) (by kernel_rfl) (by kernel_rfl) (by kernel_rfl)
  knd := @run_callFunc_extern Tryz.prog 304 _ (ReflectliteType.abiMethod fun t => do pure (.int .u8 (← Rtype.kind t))) Tryz.func304 (by kernel_rfl) (by kernel_rfl) (by kernel_rfl) (by kernel_rfl)
  rel := @run_callFunc_extern Tryz.prog 321 _ (ReflectliteType.method ReflectliteType.elem) Tryz.func321 (by kernel_rfl) (by kernel_rfl) (by kernel_rfl) (by kernel_rfl)
  imp := @run_callFunc_extern Tryz.prog 322 _ (ReflectliteType.relation "Implements" ReflectliteType.implements_) Tryz.func322 (by kernel_rfl) (by kernel_rfl) (by kernel_rfl) (by kernel_rfl)
  cmp := @run_callFunc_extern Tryz.prog 320 _ (ReflectliteType.method (fun t => do Rtype.noPackHeld "Comparable" t; pure (.bool (← typeInfo t).comparable))) Tryz.func320 (by kernel_rfl) (by kernel_rfl) (by kernel_rfl) (by kernel_rfl)
set_option maxRecDepth 100000 in
set_option maxHeartbeats 1000000 in
theorem eas_fault (e t a : Addr) (old : Value) (w : World) (ha : w.cell? a = some (.pointer (some t))) (ht : w.cell? t = some old) (hf : w.frozen? t = false) :
    Calls Tryz.prog 208 #[.iface 131 (.pointer (some e)), .iface 173 (.pointer (some t)), .agg #[.pointer (some ⟨10, 173, none⟩), .pointer (some a), .int .u64 150], .iface 258 (.agg #[.pointer (some ⟨10, 131, none⟩)])] w
      fun ev w' => ev = .returned (.bool true) ∧ SetAt t (.pointer (some e)) w w' := by
  obtain ⟨h1, h2, h3, h4, h5, -, -, -, -, -, -⟩ := ext
  have hla := cell_lt ha
  have hlt := cell_lt ht
  have tO := typeOfP
  have mA := methodAssignableTo
  have aP := assignP
  have vP := valueOfP
  have el := elemV a t (w.alloc (.cells #[.pointer (some ⟨10, 173, none⟩), .pointer (some a), .int .u64 150] 208)) (by rw [World.cell?_alloc_lt _ _ a hla]; exact ha)
  have st := setP t ⟨w.heap.size + 1, 0, none⟩ e old ((w.alloc (.cells #[.pointer (some ⟨10, 173, none⟩), .pointer (some a), .int .u64 150] 208)).alloc (.cells #[.pointer (some e)] 131))
    (by rw [World.cell?_alloc_at _ _ _ _ (by simp)]; rfl)
    (by rw [World.cell?_alloc_lt _ _ t (by simp; omega), World.cell?_alloc_lt _ _ t hlt]; exact ht)
    (by rw [World.frozen?_alloc_old _ _ t (by simp; omega), World.frozen?_alloc_old _ _ t (Nat.ne_of_lt hlt)]; exact hf)
  go_enter Tryz.func208, Tryz.ntmps208
  go_wp2
  refine wp_loop_rounds 1 ?_
  rw [rounds_succ]
  go_wp2
  go_ret
  exact ⟨rfl, _, ((Below.refl _ _).alloc (Nat.le_refl _) _).alloc (by simp) _, rfl⟩
set_option maxRecDepth 100000 in
set_option maxHeartbeats 1000000 in
theorem eas_plain (c : Int) (t a : Addr) (old : Value) (w : World) (ht : w.cell? t = some old) (hf : w.frozen? t = false) :
    Calls Tryz.prog 208 #[.iface 128 (.int .i64 c), .iface 173 (.pointer (some t)), .agg #[.pointer (some ⟨10, 173, none⟩), .pointer (some a), .int .u64 150], .iface 258 (.agg #[.pointer (some ⟨10, 131, none⟩)])] w
      fun ev w' => ev = .returned (.bool true) ∧ ∃ b, w.heap.size ≤ b ∧ SetAt t (.pointer (some ⟨b, 0, none⟩)) w w' ∧ w'.heap[b]? = some (.cells #[.int .i64 c, .string ⟨#[]⟩, .nilIface] 134 (0, 0)) := by
  obtain ⟨h1, h2, -, -, -, -, -, -, -, -, -⟩ := ext
  have hlt := cell_lt ht
  have tO := typeOfL
  have mA := methodAssignableTo
  have aL := assignL
  have hA := hasAsL
  have mAs := methodAs
  have hP := pAs_any c t old (w.alloc (.cells #[.pointer (some ⟨10, 173, none⟩), .pointer (some a), .int .u64 150] 208)) (by rw [World.cell?_alloc_lt _ _ t hlt]; exact ht) (by rw [World.frozen?_alloc_old _ _ t (Nat.ne_of_lt hlt)]; exact hf)
  have HP := Lib.hid hP
  clear hP
  go_enter Tryz.func208, Tryz.ntmps208
  go_wp2
  refine wp_loop_rounds 1 ?_
  rw [rounds_succ]
  go_wp2_with (go_at_call 308; refine (HP.out).mono ?_; rintro e w' ⟨rfl, rfl⟩)
  go_ret
  refine ⟨rfl, w.heap.size + 1, by omega, ⟨_, ((Below.refl _ _).alloc (Nat.le_refl _) _).alloc (by simp) _, rfl⟩, ?_⟩
  rw [Below.heap_setCell _ _ _ _ (by omega)]
  show ((w.heap.push _).push _)[w.heap.size + 1]? = _
  rw [Array.getElem?_push, if_pos (by simp)]
set_option maxRecDepth 100000 in
set_option maxHeartbeats 1000000 in
theorem eas_other (x : Value) (t a : Addr) (w : World) :
    Calls Tryz.prog 208 #[.iface 302 x, .iface 173 (.pointer (some t)), .agg #[.pointer (some ⟨10, 173, none⟩), .pointer (some a), .int .u64 150], .iface 258 (.agg #[.pointer (some ⟨10, 131, none⟩)])] w
      fun ev w' => ev = .returned (.bool false) ∧ Below w.heap.size w w' := by
  obtain ⟨h1, h2, -, -, -, -, -, -, -, -, -⟩ := ext
  have tO := typeOfS
  have mA := methodAssignableTo
  have aS := assignS
  have hA := noAsS
  have hU := noUnS
  have hUs := noUnsS
  go_enter Tryz.func208, Tryz.ntmps208
  go_wp2
  refine wp_loop_rounds 1 ?_
  rw [rounds_succ]
  go_wp2
  go_ret
  exact ⟨rfl, (Below.refl _ _).alloc (Nat.le_refl _) _⟩
end Go.Proofs.YtlhmfgbaefaneaaGreatDoor.flt
namespace Go.Proofs.YtlhmfgbaefaneaaGreatDoor.flt
open Go.RowKit Go.Extern.Stop Go.Stop Go.Extern
theorem SetAt.of_below {t : Addr} {v : Value} {w W w' : World} (hb : Below w.heap.size w W) (h : SetAt t v W w') : SetAt t v w w' := by
  obtain ⟨w1, h1, rfl⟩ := h
  exact ⟨w1, hb.trans (h1.mono hb.size), rfl⟩
theorem cell_alloc {w : World} {a : Addr} {v : Value} (o : Obj) (h : w.cell? a = some v) : (w.alloc o).cell? a = some v := by
  rw [World.cell?_alloc_lt _ _ a (cell_lt h)]; exact h
theorem frozen_alloc {w : World} {a : Addr} {v : Value} (o : Obj) (h : w.cell? a = some v) (hf : w.frozen? a = false) : (w.alloc o).frozen? a = false := by
  rw [World.frozen?_alloc_old _ _ a (Nat.ne_of_lt (cell_lt h))]; exact hf
end Go.Proofs.YtlhmfgbaefaneaaGreatDoor.flt
namespace Go.Proofs.YtlhmfgbaefaneaaGreatDoor.flt
open Go.RowKit Go.Extern.Stop Go.Stop Go.Extern
theorem eAs_nil (t : Value) (w : World) : Calls Tryz.prog 162 #[.nilIface, t] w fun e w' => e = .returned (.bool false) ∧ w = w' := by
  go_enter Tryz.func162, Tryz.ntmps162
  go_wp2
  go_ret
  exact ⟨rfl, rfl⟩
def asWorld (t : Addr) (w : World) : World := (w.alloc (.cells #[.pointer (some t)] 173)).alloc (.cells #[.pointer (some ⟨10, 173, none⟩), .pointer (some ⟨w.heap.size, 0, none⟩), .int .u64 150] 208)
theorem asWorld_below (t : Addr) (w : World) : Below w.heap.size w (asWorld t w) := ((Below.refl _ _).alloc (Nat.le_refl _) _).alloc (by simp) _
theorem asWorld_cell (t : Addr) (w : World) : (asWorld t w).cell? ⟨w.heap.size, 0, none⟩ = some (.pointer (some t)) :=
  cell_alloc _ (by rw [World.cell?_alloc_at _ _ _ _ rfl]; rfl)
set_option maxRecDepth 100000 in
set_option maxHeartbeats 1000000 in
theorem eAs_of (u : TypeId) (x : Value) (t : Addr) (b : Bool) (S : World → Prop) (w : World) (hg : Handle w)
    (hsub : Calls Tryz.prog 208 #[.iface u x, .iface 173 (.pointer (some t)), .agg #[.pointer (some ⟨10, 173, none⟩), .pointer (some ⟨w.heap.size, 0, none⟩), .int .u64 150], .iface 258 (.agg #[.pointer (some ⟨10, 131, none⟩)])] (asWorld t w)
      fun ev w' => ev = .returned (.bool b) ∧ S w') :
    Calls Tryz.prog 162 #[.iface u x, .iface 173 (.pointer (some t))] w fun ev w' => ev = .returned (.bool b) ∧ S w' := by
  have HS := Lib.hid hsub
  clear hsub
  unfold asWorld at HS
  obtain ⟨-, -, -, h4, -, h6, h7, h8, h9, h10, -⟩ := ext
  have f6 := valueOfPP
  have f7 := typePP
  have mK := methodKind
  have mE := methodElem
  have mI := methodImplements
  have kPP := kindPP
  have kP := kindP
  have eP := elemPP
  have iP := implementsP
  have n8 := isNilPP ⟨w.heap.size, 0, none⟩ t ((w.alloc (.cells #[.pointer (some t)] 173)).alloc (.cells #[.pointer (some ⟨10, 173, none⟩), .pointer (some ⟨w.heap.size, 0, none⟩), .int .u64 150] 208)) (asWorld_cell t w)
  have hg2 : ((w.alloc (.cells #[.pointer (some t)] 173)).alloc (.cells #[.pointer (some ⟨10, 173, none⟩), .pointer (some ⟨w.heap.size, 0, none⟩), .int .u64 150] 208)).cell? ⟨1, 0, none⟩ = some (.iface 258 (.agg #[.pointer (some ⟨10, 28, none⟩)])) := hg.below (asWorld_below t w) hg.pos
  clear hg
  go_enter Tryz.func162, Tryz.ntmps162
  go_wp2_with (go_at_call 208; refine (HS.out).mono ?_; rintro e' w' ⟨rfl, hs⟩)
  go_ret
  exact ⟨rfl, hs⟩
end Go.Proofs.YtlhmfgbaefaneaaGreatDoor.flt
namespace Go.Proofs.YtlhmfgbaefaneaaGreatDoor.flt
open Go.RowKit Go.Extern.Stop Go.Stop Go.Extern
theorem firstD_idle (p : Addr) (w : World) :
    CallsD Tryz.prog 161 #[.pointer (some p)] .returning w fun e u' w' => e = .returned (.tuple #[]) ∧ u' = .returning ∧ w = w' := by
  refine callsD_of_wpS Tryz.func161 rfl fun c₀ cs hu => ?_
  apply wpS_seq
  apply wpS_region
  simp [wpOpsS, go_sem, recoverD, hu, Tryz.ntmps161, Exit.thenS]
  refine wpS_cond (t := false) (by simp [Act.eval, Array.replicate]) ?_
  simp only [Bool.false_eq_true, if_false]
  refine wpS_of_wp (wp_skip ?_)
  cases c₀
  simp_all [bodyPostS, results, Tryz.results161]
def fWorld (w : World) : World := w.alloc (.cells #[.pointer none] 131)
theorem fWorld_below (w : World) : Below w.heap.size w (fWorld w) := (Below.refl _ _).alloc (Nat.le_refl _) _
theorem fWorld_cell (w : World) : (fWorld w).cell? ⟨w.heap.size, 0, none⟩ = some (.pointer none) := by unfold fWorld; rw [World.cell?_alloc_at _ _ _ _ rfl]; rfl
theorem fWorld_frozen (w : World) : (fWorld w).frozen? ⟨w.heap.size, 0, none⟩ = false := by simp [fWorld]
theorem setCell_cell {w : World} {a : Addr} {u : Value} (v : Value) (h : w.cell? a = some u) : (w.setCell a v).cell? a = some v := World.cell?_setCell_same' _ _ _ (by rw [h]; rfl)
theorem SetAt.cell {t : Addr} {v old : Value} {w w' : World} (h : SetAt t v w w') (ht : w.cell? t = some old) : w'.cell? t = some v := by
  obtain ⟨w1, hb, rfl⟩ := h
  have h1 : w1.cell? t = some old := (hb.cell (cell_lt ht)).trans ht
  exact setCell_cell v h1
theorem SetAt.frozen {t : Addr} {v old : Value} {w w' : World} (h : SetAt t v w w') (ht : w.cell? t = some old) (hf : w.frozen? t = false) : w'.frozen? t = false := by
  obtain ⟨w1, hb, rfl⟩ := h
  rw [World.frozen?_setCell]
  exact (hb.frozen (cell_lt ht)).trans hf
theorem SetAt.below {t : Addr} {v : Value} {w w' : World} {B : Nat} (h : SetAt t v w w') (hB : B ≤ w.heap.size) (ht : B ≤ t.block) : Below B w w' := by
  obtain ⟨w1, hb, rfl⟩ := h
  exact (hb.mono hB).setCell ht _
set_option maxRecDepth 100000 in
theorem first_hit (v : Value) (e : Addr) (w : World)
    (hA : Calls Tryz.prog 162 #[v, .iface 173 (.pointer (some ⟨w.heap.size, 0, none⟩))] (fWorld w) fun ev w' => ev = .returned (.bool true) ∧ SetAt ⟨w.heap.size, 0, none⟩ (.pointer (some e)) (fWorld w) w') :
    Calls Tryz.prog 123 #[v] w fun ev w' => ev = .returned (.pointer (some e)) ∧ Below w.heap.size w w' := by
  have hmf : ∀ (fn : Fn) (first cap : Array Value) (w : World), (Instr.makeFunc fn first cap).run Tryz.prog w = .ok (.func fn first cap) w := fun _ _ _ _ => rfl
  have HA := Lib.hid hA
  clear hA
  have F0 := Lib.hid (fWorld_cell w)
  have F1 := Lib.hid (fWorld_frozen w)
  have F2 := Lib.hid (fWorld_below w)
  unfold fWorld at HA F0 F1 F2
  go_enter_defers Tryz.func123, Tryz.ntmps123
  go_wp2_with (go_at_call 162; refine (HA.out).mono ?_; rintro e' w' ⟨rfl, hs⟩; have c0 := hs.cell F0.out; have z0 := hs.frozen F0.out F1.out; have HS := Lib.hid hs; clear hs)
  refine leaves_cons (f := 161) (args := #[.pointer (some ⟨w.heap.size, 0, none⟩)]) (by simp) (by simp [go_sem]) ?_
  refine (firstD_idle ⟨w.heap.size, 0, none⟩ _).mono ?_
  rintro e' u' w'' ⟨rfl, rfl, rfl⟩
  have c1 := setCell_cell (.pointer (some e)) c0
  have B1 : Below w.heap.size w (w'.setCell ⟨w.heap.size, 0, none⟩ (.pointer (some e))) := (F2.out.trans (SetAt.below HS.out (by simp) (Nat.le_refl _))).setCell (Nat.le_refl _) _
  simp [Leaves, settle, results, Tryz.results123, go_sem, c1, B1]
set_option maxRecDepth 100000 in
theorem first_newly (v : Value) (c : Int) (w : World)
    (hA : Calls Tryz.prog 162 #[v, .iface 173 (.pointer (some ⟨w.heap.size, 0, none⟩))] (fWorld w) fun ev w' => ev = .returned (.bool true) ∧ ∃ b, (fWorld w).heap.size ≤ b ∧ SetAt ⟨w.heap.size, 0, none⟩ (.pointer (some ⟨b, 0, none⟩)) (fWorld w) w' ∧ w'.heap[b]? = some (.cells #[.int .i64 c, .string ⟨#[]⟩, .nilIface] 134 (0, 0))) :
    Calls Tryz.prog 123 #[v] w fun ev w' => ∃ b, ev = .returned (.pointer (some ⟨b, 0, none⟩)) ∧ w.heap.size ≤ b ∧ Below w.heap.size w w' ∧ w'.heap[b]? = some (.cells #[.int .i64 c, .string ⟨#[]⟩, .nilIface] 134 (0, 0)) := by
  have hmf : ∀ (fn : Fn) (first cap : Array Value) (w : World), (Instr.makeFunc fn first cap).run Tryz.prog w = .ok (.func fn first cap) w := fun _ _ _ _ => rfl
  have HA := Lib.hid hA
  clear hA
  have F0 := Lib.hid (fWorld_cell w)
  have F1 := Lib.hid (fWorld_frozen w)
  have F2 := Lib.hid (fWorld_below w)
  unfold fWorld at HA F0 F1 F2
  go_enter_defers Tryz.func123, Tryz.ntmps123
  go_wp2_with (go_at_call 162; refine (HA.out).mono ?_; rintro e' w' ⟨rfl, b, hb, hs, hk⟩; have HK := Lib.hid hk; have HL := Lib.hid hb; clear hk hb; have c0 := hs.cell F0.out; have z0 := hs.frozen F0.out F1.out; have HS := Lib.hid hs; clear hs)
  refine leaves_cons (f := 161) (args := #[.pointer (some ⟨w.heap.size, 0, none⟩)]) (by simp) (by simp [go_sem]) ?_
  refine (firstD_idle ⟨w.heap.size, 0, none⟩ _).mono ?_
  rintro e' u' w'' ⟨rfl, rfl, rfl⟩
  have c1 := setCell_cell (.pointer (some ⟨b, 0, none⟩)) c0
  have B1 : Below w.heap.size w (w'.setCell ⟨w.heap.size, 0, none⟩ (.pointer (some ⟨b, 0, none⟩))) := (F2.out.trans (SetAt.below HS.out (by simp) (Nat.le_refl _))).setCell (Nat.le_refl _) _
  have hl : w.heap.size < b := by have := HL.out; simp at this; omega
  have K1 : (w'.setCell ⟨w.heap.size, 0, none⟩ (.pointer (some ⟨b, 0, none⟩))).heap[b]? = some (.cells #[.int .i64 c, .string ⟨#[]⟩, .nilIface] 134 (0, 0)) := by
    rw [Below.heap_setCell _ _ _ _ (by simp; omega)]; exact HK.out
  have hle : w.heap.size ≤ b := by omega
  simp [Leaves, settle, results, Tryz.results123, go_sem, c1, B1, K1, hle]
set_option maxRecDepth 100000 in
theorem first_miss (v : Value) (w : World)
    (hA : Calls Tryz.prog 162 #[v, .iface 173 (.pointer (some ⟨w.heap.size, 0, none⟩))] (fWorld w) fun ev w' => ev = .returned (.bool false) ∧ Below (fWorld w).heap.size (fWorld w) w') :
    Calls Tryz.prog 123 #[v] w fun ev w' => ev = .returned (.pointer none) ∧ Below w.heap.size w w' := by
  have hmf : ∀ (fn : Fn) (first cap : Array Value) (w : World), (Instr.makeFunc fn first cap).run Tryz.prog w = .ok (.func fn first cap) w := fun _ _ _ _ => rfl
  have HA := Lib.hid hA
  clear hA
  have F0 := Lib.hid (fWorld_cell w)
  have F1 := Lib.hid (fWorld_frozen w)
  have F2 := Lib.hid (fWorld_below w)
  unfold fWorld at HA F0 F1 F2
  go_enter_defers Tryz.func123, Tryz.ntmps123
  go_wp2_with (go_at_call 162; refine (HA.out).mono ?_; rintro e' w' ⟨rfl, hs⟩; have c0 := (hs.cell (cell_lt F0.out)).trans F0.out; have z0 := (hs.frozen (cell_lt F0.out)).trans F1.out; have HS := Lib.hid hs; clear hs)
  refine leaves_cons (f := 161) (args := #[.pointer (some ⟨w.heap.size, 0, none⟩)]) (by simp) (by simp [go_sem]) ?_
  refine (firstD_idle ⟨w.heap.size, 0, none⟩ _).mono ?_
  rintro e' u' w'' ⟨rfl, rfl, rfl⟩
  have c1 := setCell_cell (.pointer none) c0
  have B1 : Below w.heap.size w (w'.setCell ⟨w.heap.size, 0, none⟩ (.pointer none)) := (F2.out.trans (HS.out.mono (by simp))).setCell (Nat.le_refl _) _
  simp [Leaves, settle, results, Tryz.results123, go_sem, c1, B1]
theorem asWorld_tgt (w : World) : (asWorld ⟨w.heap.size, 0, none⟩ (fWorld w)).cell? ⟨w.heap.size, 0, none⟩ = some (.pointer none) := cell_alloc _ (cell_alloc _ (fWorld_cell w))
theorem asWorld_tgtf (w : World) : (asWorld ⟨w.heap.size, 0, none⟩ (fWorld w)).frozen? ⟨w.heap.size, 0, none⟩ = false := frozen_alloc _ (cell_alloc _ (fWorld_cell w)) (frozen_alloc _ (fWorld_cell w) (fWorld_frozen w))
theorem first_nil (w : World) : Calls Tryz.prog 123 #[.nilIface] w fun ev w' => ev = .returned (.pointer none) ∧ Below w.heap.size w w' :=
  first_miss _ _ ((eAs_nil _ _).mono fun _ _ ⟨he, hw⟩ => ⟨he, hw ▸ Below.refl _ _⟩)
theorem first_fault (e : Addr) (w : World) (hg : Handle w) : Calls Tryz.prog 123 #[.iface 131 (.pointer (some e))] w fun ev w' => ev = .returned (.pointer (some e)) ∧ Below w.heap.size w w' :=
  first_hit _ _ _ ((eAs_of _ _ _ true _ _ (hg.below (fWorld_below w) hg.pos) (eas_fault e _ _ _ _ (asWorld_cell _ _) (asWorld_tgt w) (asWorld_tgtf w))).mono fun _ _ ⟨he, hs⟩ => ⟨he, hs.of_below (asWorld_below _ _)⟩)
theorem first_plain (c : Int) (w : World) (hg : Handle w) : Calls Tryz.prog 123 #[.iface 128 (.int .i64 c)] w fun ev w' => ∃ b, ev = .returned (.pointer (some ⟨b, 0, none⟩)) ∧ w.heap.size ≤ b ∧ Below w.heap.size w w' ∧ w'.heap[b]? = some (.cells #[.int .i64 c, .string ⟨#[]⟩, .nilIface] 134 (0, 0)) :=
  first_newly _ c _ ((eAs_of _ _ _ true _ _ (hg.below (fWorld_below w) hg.pos) (eas_plain c _ _ _ _ (asWorld_tgt w) (asWorld_tgtf w))).mono fun _ _ ⟨he, b, hb, hs, hk⟩ => ⟨he, b, Nat.le_trans (asWorld_below _ _).size hb, hs.of_below (asWorld_below _ _), hk⟩)
theorem first_other (x : Value) (w : World) (hg : Handle w) : Calls Tryz.prog 123 #[.iface 302 x] w fun ev w' => ev = .returned (.pointer none) ∧ Below w.heap.size w w' :=
  first_miss _ _ ((eAs_of _ _ _ false _ _ (hg.below (fWorld_below w) hg.pos) (eas_other x _ _ _)).mono fun _ _ ⟨he, hs⟩ => ⟨he, (asWorld_below _ _).trans (hs.mono (asWorld_below _ _).size)⟩)
end Go.Proofs.YtlhmfgbaefaneaaGreatDoor.flt
namespace Go.Proofs.YtlhmfgbaefaneaaGreatDoor.flt
open Go.RowKit Go.Extern.Stop Go.Stop Go.Extern
def FaultAt (w : World) (b : Nat) (c : Int) (s : ByteArray) (e : Value) : Prop := w.heap[b]? = some (.cells #[.int .i64 c, .string s, e] 134 (0, 0))
inductive Chain (w : World) : Value → Nat → List (Nat × Int × ByteArray) → Prop
  | none (B : Nat) : Chain w .nilIface B []
  | other (a : Addr) (B : Nat) : a.block < B → Chain w (.iface 302 (.pointer (some a))) B []
  | plain (c : Int) (B : Nat) : Chain w (.iface 128 (.int .i64 c)) B []
  | link (b : Nat) (c : Int) (s : ByteArray) (e : Value) (B : Nat) (l : List (Nat × Int × ByteArray)) : FaultAt w b c s e → b < B → Chain w e b l → Chain w (.iface 131 (.pointer (some ⟨b, 0, none⟩))) B ((b, c, s) :: l)
theorem FaultAt.below {w w' : World} {B b : Nat} {c : Int} {s : ByteArray} {e : Value} (h : FaultAt w b c s e) (hb : Below B w w') (hB : b < B) : FaultAt w' b c s e := (hb.block b hB).trans h
theorem FaultAt.lt {w : World} {b : Nat} {c : Int} {s : ByteArray} {e : Value} (h : FaultAt w b c s e) : b < w.heap.size := by
  rcases Nat.lt_or_ge b w.heap.size with h' | h'
  · exact h'
  · simp [FaultAt, Array.getElem?_eq_none h'] at h
theorem FaultAt.cell0 {w : World} {b : Nat} {c : Int} {s : ByteArray} {e : Value} (h : FaultAt w b c s e) : w.cell? ⟨b, 0, none⟩ = some (.int .i64 c) := by simp [World.cell?, FaultAt] at *; simp [h]
theorem FaultAt.cell1 {w : World} {b : Nat} {c : Int} {s : ByteArray} {e : Value} (h : FaultAt w b c s e) : w.cell? ⟨b, 1, none⟩ = some (.string s) := by simp [World.cell?, FaultAt] at *; simp [h]
theorem FaultAt.cell2 {w : World} {b : Nat} {c : Int} {s : ByteArray} {e : Value} (h : FaultAt w b c s e) : w.cell? ⟨b, 2, none⟩ = some e := by simp [World.cell?, FaultAt] at *; simp [h]
theorem Chain.keep {w w' : World} {v : Value} {B B' : Nat} {l : List (Nat × Int × ByteArray)} (h : Chain w v B l) (hb : Below B' w w') (hB : B ≤ B') : Chain w' v B l := by
  induction h with
  | none B => exact .none B
  | other a B h => exact .other a B h
  | plain c B => exact .plain c B
  | link b c s e B l hf hlt _ ih => exact .link b c s e B l (hf.below hb (by omega)) hlt (ih (by omega))
theorem Chain.mono {w : World} {v : Value} {B B' : Nat} {l : List (Nat × Int × ByteArray)} (h : Chain w v B l) (hB : B ≤ B') : Chain w v B' l := by
  cases h with
  | none => exact .none _
  | other a _ h => exact .other a _ (by omega)
  | plain c => exact .plain c _
  | link b c s e _ l hf hlt hc => exact .link b c s e _ l hf (by omega) hc
theorem Of_some (c : Int) (w : World) (hc : (c == 0) = false) : Calls Tryz.prog 71 #[.int .i64 c] w fun e w' => e = .returned (.iface 128 (.int .i64 c)) ∧ w = w' := by
  go_enter Tryz.func71, Tryz.ntmps71
  go_wp2
  go_ret
  exact ⟨rfl, rfl⟩
theorem Of_none (w : World) : Calls Tryz.prog 71 #[.int .i64 0] w fun e w' => e = .returned .nilIface ∧ w = w' := by
  go_enter Tryz.func71, Tryz.ntmps71
  go_wp2
  go_ret
  exact ⟨rfl, rfl⟩
theorem New_some (c : Int) (s : ByteArray) (w : World) (hc : (c == 0) = false) : Calls Tryz.prog 234 #[.int .i64 c, .string s] w fun e w' => e = .returned (.iface 131 (.pointer (some ⟨w.heap.size, 0, none⟩))) ∧ w' = w.alloc (.cells #[.int .i64 c, .string s, .nilIface] 134) := by
  go_enter Tryz.func234, Tryz.ntmps234
  go_wp2
  go_ret
  exact ⟨rfl, rfl⟩
theorem Unwrap_some (b : Nat) (e : Value) (w : World) (h : w.cell? ⟨b, 2, none⟩ = some e) : Calls Tryz.prog 313 #[.pointer (some ⟨b, 0, none⟩)] w fun ev w' => ev = .returned e ∧ w = w' := by
  go_enter Tryz.func313, Tryz.ntmps313
  go_wp2
  go_ret
  exact ⟨rfl, rfl⟩
inductive Inner (w : World) : Value → Value → Prop
  | none : Inner w .nilIface .nilIface
  | other (x : Value) : Inner w (.iface 302 x) .nilIface
  | plain (x : Value) : Inner w (.iface 128 x) .nilIface
  | link (b : Nat) (e : Value) : w.cell? ⟨b, 2, none⟩ = some e → Inner w (.iface 131 (.pointer (some ⟨b, 0, none⟩))) e
theorem assertNil (xT : TypeId) (w : World) : (Instr.typeAssert .nilIface xT 266 true).run Tryz.prog w = .ok (.tuple #[.nilIface, .bool false]) w := by kernel_rfl
theorem eUnwrap_any (v e : Value) (w : World) (h : Inner w v e) : Calls Tryz.prog 279 #[v] w fun ev w' => ev = .returned e ∧ w = w' := by
  have aN := assertNil
  have aS := noUnS
  have aL := noUnL
  have aP := hasUnP
  have mU := methodUnwrap
  cases h
  case link b hc =>
    go_enter Tryz.func279, Tryz.ntmps279
    go_wp2
    go_ret
    exact ⟨rfl, rfl⟩
  all_goals
    go_enter Tryz.func279, Tryz.ntmps279
    go_wp2
    go_ret
    exact ⟨rfl, rfl⟩
theorem nextD_idle (p : Addr) (w : World) :
    CallsD Tryz.prog 278 #[.pointer (some p)] .returning w fun e u' w' => e = .returned (.tuple #[]) ∧ u' = .returning ∧ w = w' := by
  refine callsD_of_wpS Tryz.func278 rfl fun c₀ cs hu => ?_
  apply wpS_seq
  apply wpS_region
  simp [wpOpsS, go_sem, recoverD, hu, Tryz.ntmps278, Exit.thenS]
  refine wpS_cond (t := false) (by simp [Act.eval, Array.replicate]) ?_
  simp only [Bool.false_eq_true, if_false]
  refine wpS_of_wp (wp_skip ?_)
  cases c₀
  simp_all [bodyPostS, results, Tryz.results278]
theorem Inner.keep {w w' : World} {v e : Value} (h : Inner w v e) (hb : Below w.heap.size w w') : Inner w' v e := by
  cases h with
  | none => exact .none
  | other x => exact .other x
  | plain x => exact .plain x
  | link b e hc => exact .link b e ((hb.cell (cell_lt hc)).trans hc)
set_option maxRecDepth 100000 in
theorem next_any (v e : Value) (w : World) (h : Inner w v e) (he : e = .nilIface ∨ ∃ u x, e = .iface u x) : Calls Tryz.prog 265 #[v] w fun ev w' => ev = .returned e ∧ Below w.heap.size w w' := by
  have hmf : ∀ (fn : Fn) (first cap : Array Value) (w : World), (Instr.makeFunc fn first cap).run Tryz.prog w = .ok (.func fn first cap) w := fun _ _ _ _ => rfl
  have HU := Lib.hid (eUnwrap_any v e (w.alloc (.cells #[.nilIface] 28)) (h.keep ((Below.refl _ _).alloc (Nat.le_refl _) _)))
  clear h
  rcases he with rfl | ⟨u, x, rfl⟩
  · go_enter_defers Tryz.func265, Tryz.ntmps265
    go_wp2_with (go_at_call 279; refine (HU.out).mono ?_; rintro e' w' ⟨rfl, rfl⟩)
    refine leaves_cons (f := 278) (args := #[.pointer (some ⟨w.heap.size, 0, none⟩)]) (by simp) (by simp [go_sem]) ?_
    refine (nextD_idle ⟨w.heap.size, 0, none⟩ _).mono ?_
    rintro e' u' w'' ⟨rfl, rfl, rfl⟩
    simp [Leaves, settle, results, Tryz.results265, go_sem]
    exact (Below.refl _ _).alloc (Nat.le_refl _) _
  · go_enter_defers Tryz.func265, Tryz.ntmps265
    go_wp2_with (go_at_call 279; refine (HU.out).mono ?_; rintro e' w' ⟨rfl, rfl⟩)
    refine leaves_cons (f := 278) (args := #[.pointer (some ⟨w.heap.size, 0, none⟩)]) (by simp) (by simp [go_sem]) ?_
    refine (nextD_idle ⟨w.heap.size, 0, none⟩ _).mono ?_
    rintro e' u' w'' ⟨rfl, rfl, rfl⟩
    simp [Leaves, settle, results, Tryz.results265, go_sem]
    exact (Below.refl _ _).alloc (Nat.le_refl _) _
end Go.Proofs.YtlhmfgbaefaneaaGreatDoor.flt
