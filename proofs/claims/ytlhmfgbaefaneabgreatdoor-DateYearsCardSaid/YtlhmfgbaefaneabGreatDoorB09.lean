/-
  The steps of the walks, part 9: CalW, CalA, CalB, CalC.
-/
import Derived.Laws.Bits64b
import Derived.StillTailTactics
import Derived.BigRegion
import Derived.BigQuiet
import Derived.Deep.QuietTactic
import Derived.Test.YtlhmfgbaefaneabGreatDoorB06
import Derived.Test.YtlhmfgbaefaneabGreatDoorB08
namespace Go.Proofs.YtlhmfgbaefaneabGreatDoor.cal
open Go Go.RowKit Go.Proofs.YtlhmfgbaefaneabGreatDoor.day Go.Proofs.YtlhmfgbaefaneabGreatDoor.date Go.Proofs.YtlhmfgbaefaneabGreatDoor.law6
open Go.Proofs.YtlhmfgbaefaneabGreatDoor.ref6 (May holiday rawDay shiftDay nthDay daysW ruleDay Rule CalT openB isOpen calOpen)
def wd (L : List Nat) (k : Nat) : Nat := L.getD k 0
def bitN (L : List Nat) (D : Nat) : Bool := (wd L (D / 64)).testBit (D % 64)
def setBit (L : List Nat) (D : Nat) : List Nat := L.set (D / 64) (wd L (D / 64) ||| 2 ^ (D % 64))
theorem wd_set {L : List Nat} {k v : Nat} (hk : k < L.length) (j : Nat) : wd (L.set k v) j = if j = k then v else wd L j := by
  unfold wd
  rw [List.getD_eq_getElem?_getD, List.getD_eq_getElem?_getD, List.getElem?_set]
  by_cases h : k = j
  · subst h; rw [if_pos rfl, if_pos rfl, if_pos hk]; rfl
  · rw [if_neg h, if_neg (fun e => h e.symm)]
theorem bit_set {L : List Nat} {D : Nat} (hD : D / 64 < L.length) (E : Nat) : bitN (setBit L D) E = (bitN L E || decide (E = D)) := by
  unfold bitN setBit
  rw [wd_set hD]
  by_cases h : E / 64 = D / 64
  · rw [if_pos h, Nat.testBit_or, Nat.testBit_two_pow, h]
    congr 1
    by_cases e : D % 64 = E % 64
    · rw [decide_eq_true e, decide_eq_true (by omega)]
    · rw [decide_eq_false e, decide_eq_false (by omega)]
  · rw [if_neg h, decide_eq_false (show ¬ E = D by intro e; exact h (by rw [e])), Bool.or_false]
theorem two64 : (18446744073709551616 : Nat) = 2 ^ 64 := by decide
theorem pow_lt (D : Nat) : 2 ^ (D % 64) < 18446744073709551616 := by
  rw [two64]
  exact Nat.pow_lt_pow_right (by decide) (Nat.mod_lt _ (by decide))
theorem or_lt {x y : Nat} (hx : x < 18446744073709551616) (hy : y < 18446744073709551616) : x ||| y < 18446744073709551616 := by
  rw [two64] at *
  exact Nat.or_lt_two_pow hx hy
theorem and_bit (x k : Nat) : (x &&& 2 ^ k = 0) ↔ x.testBit k = false := by
  constructor
  · intro h
    have := congrArg (fun z => z.testBit k) h
    simpa [Nat.testBit_and, Nat.testBit_two_pow] using this
  · intro h
    apply Nat.eq_of_testBit_eq
    intro i
    rw [Nat.testBit_and, Nat.testBit_two_pow, Nat.zero_testBit]
    by_cases e : k = i
    · subst e; rw [h]; rfl
    · rw [decide_eq_false e, Bool.and_false]
theorem wd_lt {L : List Nat} (h : ∀ x ∈ L, x < 18446744073709551616) (k : Nat) : wd L k < 18446744073709551616 := by
  unfold wd
  rw [List.getD_eq_getElem?_getD]
  cases hk : L[k]? with
  | none => simp
  | some v => exact h v (List.mem_of_getElem? hk)
theorem all_set {L : List Nat} (h : ∀ x ∈ L, x < 18446744073709551616) {k v : Nat} (hv : v < 18446744073709551616) : ∀ x ∈ L.set k v, x < 18446744073709551616 := fun x hx => by
  rcases List.mem_or_eq_of_mem_set hx with h1 | h1
  · exact h x h1
  · rw [h1]; exact hv
theorem bit_zero (n D : Nat) : bitN (List.replicate n 0) D = false := by
  unfold bitN wd
  rw [List.getD_eq_getElem?_getD, List.getElem?_replicate]
  split <;> simp
def orW (A B : List Nat) (n : Nat) : List Nat := (List.range A.length).map fun k => if k < n then wd A k ||| wd B k else wd A k
theorem orW_len (A B : List Nat) (n : Nat) : (orW A B n).length = A.length := by simp [orW]
theorem orW_wd (A B : List Nat) (n k : Nat) (hk : k < A.length) : wd (orW A B n) k = if k < n then wd A k ||| wd B k else wd A k := by
  unfold wd orW
  rw [List.getD_eq_getElem?_getD, List.getElem?_map, List.getElem?_range hk]
  rfl
theorem ext_wd {A B : List Nat} (hl : A.length = B.length) (h : ∀ k, k < A.length → wd A k = wd B k) : A = B := by
  apply List.ext_getElem hl
  intro k h1 h2
  have := h k h1
  unfold wd at this
  rwa [List.getD_eq_getElem?_getD, List.getD_eq_getElem?_getD, List.getElem?_eq_getElem h1, List.getElem?_eq_getElem h2] at this
theorem orW_zero (A B : List Nat) : orW A B 0 = A := ext_wd (orW_len _ _ _) fun k hk => by
  rw [orW_len] at hk
  rw [orW_wd _ _ _ _ hk, if_neg (by omega)]
theorem orW_next (A B : List Nat) (n : Nat) (hn : n < A.length) : orW A B (n + 1) = (orW A B n).set n (wd A n ||| wd B n) := by
  refine ext_wd (by rw [List.length_set, orW_len, orW_len]) fun k hk => ?_
  rw [orW_len] at hk
  rw [orW_wd _ _ _ _ hk, wd_set (by rw [orW_len]; exact hn), orW_wd _ _ _ _ hk]
  by_cases h : k = n
  · subst h; rw [if_pos (by omega), if_pos rfl]
  · rw [if_neg h]
    by_cases h2 : k < n
    · rw [if_pos (by omega), if_pos h2]
    · rw [if_neg (by omega), if_neg h2]
theorem orW_bit (A B : List Nat) (D : Nat) (hD : D / 64 < A.length) : bitN (orW A B A.length) D = (bitN A D || bitN B D) := by
  unfold bitN
  rw [orW_wd _ _ _ _ hD, if_pos hD, Nat.testBit_or]
theorem daysW_mem (y mo w : Int) : ∀ (k : Nat) (z : Int), z ∈ daysW y mo w k → ∃ j : Nat, j < k ∧ z = dayOf y mo ((j : Nat) + 1)
  | 0, z, h => by simp [daysW] at h
  | k + 1, z, h => by
    simp only [daysW] at h
    rcases List.mem_append.1 h with h | h
    · obtain ⟨j, h1, h2⟩ := daysW_mem y mo w k z h
      exact ⟨j, by omega, h2⟩
    · split at h
      · simp only [List.mem_singleton] at h
        exact ⟨k, by omega, h⟩
      · cases h
theorem raw_near {k mo d n w : Int} {sh : Bool} {y z : Int} (hm : May ⟨k, mo, d, n, w, sh⟩) (y1 : 1900 ≤ y) (y2 : y ≤ 2199) (h : rawDay k mo d n w sh y = some z) :
    ydays (y - 1900).toNat - 100 ≤ z ∧ z < ydays ((y - 1900).toNat + 1) + 100 := by
  unfold rawDay at h
  split at h
  · split at h
    · rename_i hc
      cases h
      have := dayOf_year hc
      unfold shiftDay
      split
      · omega
      · split <;> omega
    · cases h
  · split at h
    · rename_i h3
      cases h
      have e : easterDay y = dayOf y (easterN y / 31) (easterN y % 31 + 1) := rfl
      have := dayOf_year (easter_civil y1 y2)
      rw [← e] at this
      have hn : -100 ≤ n ∧ n ≤ 100 := by
        rcases hm with h | h | h
        · have := h.1; simp only at this; omega
        · have := h.1; simp only at this; omega
        · exact ⟨h.2.1, h.2.2.1⟩
      omega
    · obtain ⟨j, hj, rfl⟩ : ∃ j : Nat, j < (mlen y mo).toNat ∧ z = dayOf y mo ((j : Nat) + 1) := by
        refine daysW_mem y mo w _ z ?_
        unfold nthDay at h
        split at h
        · cases h
        · split at h <;> exact List.mem_of_getElem? h
      have := dayOf_year (y := y) (m := mo) (d := (j : Nat) + 1) ⟨y1, y2, by omega, by omega⟩
      omega
theorem hol_parts {k mo d n w : Int} {sh : Bool} {y z : Int} (h : holiday k mo d n w sh y = some z) : May ⟨k, mo, d, n, w, sh⟩ ∧ (1900 ≤ y ∧ y ≤ 2199) ∧ rawDay k mo d n w sh y = some z ∧ IsDay z := by
  unfold holiday at h
  split at h
  · rename_i hm
    refine ⟨hm.1, hm.2, ?_⟩
    cases hr : rawDay k mo d n w sh y with
    | none => rw [hr] at h; cases h
    | some x =>
      rw [hr] at h
      simp only [Option.bind_some] at h
      split at h
      · rename_i hd; cases h; exact ⟨rfl, hd⟩
      · cases h
  · cases h
theorem hol_near {k mo d n w : Int} {sh : Bool} {y m a y' : Int} (hc : IsCivil y m a) (h : holiday k mo d n w sh y' = some (dayOf y m a)) : y' - 1 ≤ y ∧ y ≤ y' + 1 := by
  obtain ⟨hm, ⟨h1, h2⟩, hr, -⟩ := hol_parts h
  have hn := raw_near hm h1 h2 hr
  have hy := dayOf_year hc
  have c1 := hc.1
  refine ⟨?_, ?_⟩
  · by_cases g : y' - 1 ≤ y
    · exact g
    · exfalso
      have := ydays_mono (show (y - 1900).toNat + 1 ≤ (y' - 1900).toNat by omega)
      by_cases g2 : (y - 1900).toNat + 2 ≤ (y' - 1900).toNat
      · have := ydays_mono g2
        have := ydays_mono (show (y - 1900).toNat + 1 ≤ (y - 1900).toNat + 2 by omega)
        omega
      · omega
  · by_cases g : y ≤ y' + 1
    · exact g
    · exfalso
      have := ydays_mono (show (y' - 1900).toNat + 1 ≤ (y' - 1900).toNat + 2 by omega)
      have := ydays_mono (show (y' - 1900).toNat + 2 ≤ (y - 1900).toNat by omega)
      omega
theorem rule_any {k mo d n w : Int} {sh : Bool} {y m a : Int} (hc : IsCivil y m a) : ruleDay k mo d n w sh y (dayOf y m a) ↔ ∃ y', holiday k mo d n w sh y' = some (dayOf y m a) := by
  constructor
  · rintro (h | h | h) <;> exact ⟨_, h⟩
  · rintro ⟨y', h⟩
    have := hol_near hc h
    rcases (show y' = y - 1 ∨ y' = y ∨ y' = y + 1 by omega) with rfl | rfl | rfl
    · exact Or.inl h
    · exact Or.inr (Or.inl h)
    · exact Or.inr (Or.inr h)
def ruleShut (r : Rule) (y : Int) (D : Int) : Prop := ∃ y', y' < y ∧ holiday r.kind r.month r.day r.n r.wd r.shift y' = some D
def rulesShut (rs : List Rule) (D : Int) : Prop := ∃ r ∈ rs, ruleShut r 2200 D
def shut (cs : List CalT) (D : Int) : Prop := ∃ c ∈ cs, rulesShut c.rules D ∨ D ∈ c.more
theorem ruleShut_all {r : Rule} {D : Int} : ruleShut r 2200 D ↔ ∃ y', holiday r.kind r.month r.day r.n r.wd r.shift y' = some D := by
  constructor
  · rintro ⟨y', -, h⟩; exact ⟨y', h⟩
  · rintro ⟨y', h⟩
    have := (hol_parts h).2.1
    exact ⟨y', by omega, h⟩
theorem ruleShut_none {r : Rule} {D : Int} : ¬ ruleShut r 1900 D := by
  rintro ⟨y', h1, h⟩
  have := (hol_parts h).2.1
  omega
theorem ruleShut_next {r : Rule} {y D : Int} : ruleShut r (y + 1) D ↔ ruleShut r y D ∨ holiday r.kind r.month r.day r.n r.wd r.shift y = some D := by
  constructor
  · rintro ⟨y', h1, h⟩
    rcases (show y' < y ∨ y' = y by omega) with h2 | rfl
    · exact Or.inl ⟨y', h2, h⟩
    · exact Or.inr h
  · rintro (⟨y', h1, h⟩ | h)
    · exact ⟨y', by omega, h⟩
    · exact ⟨y, by omega, h⟩
theorem open_iff (cs : List CalT) (D : Int) : openB cs D = true ↔ IsDay D ∧ (D + 1) % 7 ≠ 0 ∧ (D + 1) % 7 ≠ 6 ∧ ¬ shut cs D := by
  constructor
  · intro h
    have hd := ref6.openB_day h
    refine ⟨hd, ?_⟩
    obtain ⟨y, m, a, hc, rfl⟩ := hd.civil
    obtain ⟨h1, h2, h3⟩ := (ref6.openB_at hc).1 h
    refine ⟨h1, h2, ?_⟩
    rintro ⟨c, hc1, ⟨r, hr, hs⟩ | hs⟩
    · exact (h3 c hc1).1 r hr ((rule_any hc).2 (ruleShut_all.1 hs))
    · exact (h3 c hc1).2 _ hs rfl
  · rintro ⟨hd, h1, h2, h3⟩
    obtain ⟨y, m, a, hc, rfl⟩ := hd.civil
    refine (ref6.openB_at hc).2 ⟨h1, h2, fun c hc1 => ⟨fun r hr hs => h3 ⟨c, hc1, Or.inl ⟨r, hr, ruleShut_all.2 ((rule_any hc).1 hs)⟩⟩, fun z hz e => h3 ⟨c, hc1, Or.inr (e ▸ hz)⟩⟩⟩
end Go.Proofs.YtlhmfgbaefaneabGreatDoor.cal
namespace Go.Proofs.YtlhmfgbaefaneabGreatDoor.cal
open Go Go.RowKit Go.Proofs.YtlhmfgbaefaneabGreatDoor.day Go.Proofs.YtlhmfgbaefaneabGreatDoor.date Go.Proofs.YtlhmfgbaefaneabGreatDoor.law6
open Go.Proofs.YtlhmfgbaefaneabGreatDoor.ref6 (CalT openB quiet_same drewN_below6)
def CRow (w : World) (g : Nat) (L : List Nat) : Prop :=
  L.length = 1713 ∧ (∀ x ∈ L, x < 18446744073709551616) ∧ w.heap[g]? = some (.cells (L.map fun d => Value.int .u64 (d : Nat)).toArray 83 (0, 0))
theorem CRow.lt {w : World} {g : Nat} {L : List Nat} (h : CRow w g L) : g < w.heap.size := (Array.getElem?_eq_some_iff.1 h.2.2).1
theorem CRow.cell {w : World} {g : Nat} {L : List Nat} (h : CRow w g L) (k : Nat) (hk : k < 1713) : w.cell? ⟨g, k, none⟩ = some (.int .u64 (wd L k : Nat)) := by
  obtain ⟨hl, -, h⟩ := h
  simp only [World.cell?, h, Option.isSome_none, Bool.false_eq_true, if_false]
  rw [List.getElem?_toArray, List.getElem?_map]
  unfold wd
  rw [List.getD_eq_getElem?_getD, List.getElem?_eq_getElem (by omega)]
  rfl
theorem CRow.free {w : World} {g : Nat} {L : List Nat} (h : CRow w g L) (k : Nat) : w.frozen? ⟨g, k, none⟩ = false := by
  simp [World.frozen?, h.2.2]
theorem CRow.set {w : World} {g : Nat} {L : List Nat} (h : CRow w g L) (k : Nat) {v : Nat} (hv : v < 18446744073709551616) {u : Int} (hu : u = (v : Nat)) : CRow (w.setCell ⟨g, k, none⟩ (.int .u64 u)) g (L.set k v) := by
  obtain ⟨hl, ha, h⟩ := h
  refine ⟨by rw [List.length_set, hl], all_set ha hv, ?_⟩
  rw [heap_setCell_same w g k _ _ _ h, hu]
  congr 2
  rw [List.setIfInBounds_toArray, List.map_set]
theorem CRow.below {w w' : World} {B g : Nat} {L : List Nat} (h : CRow w g L) (hb : Below B w w') (hg : g < B) : CRow w' g L := ⟨h.1, h.2.1, (hb.block g hg).trans h.2.2⟩
theorem CRow.keep {w w' : World} {g : Nat} {L : List Nat} (h : CRow w g L) (hb : Below w.heap.size w w') : CRow w' g L := h.below hb h.lt
def CalIs (w : World) (v : Value) (cs : List CalT) : Prop :=
  (v = .pointer none ∧ ∀ D, IsDay D → ¬ shut cs D) ∨ ∃ g L, v = .pointer (some ⟨g, 0, none⟩) ∧ CRow w g L ∧ ∀ D : Nat, D ≤ 109572 → (bitN L D = true ↔ shut cs (D : Nat))
theorem CalIs.keep {w w' : World} {v : Value} {cs : List CalT} (h : CalIs w v cs) (hb : Below w.heap.size w w') : CalIs w' v cs :=
  h.imp id fun ⟨g, L, e, hr, hD⟩ => ⟨g, L, e, hr.keep hb, hD⟩
set_option maxRecDepth 100000 in
set_option maxHeartbeats 4000000 in
theorem bitOf_at (n : Nat) (hn : n ≤ 109572) (w : World) : Calls Tryz.prog 62 #[.int .i64 (n : Int)] w fun e w' => e = .returned (.int .u64 ((2 ^ (n % 64) : Nat) : Int)) ∧ w = w' := by
  have hp := pow_lt n
  have h1 : ((n : Int)).tmod 64 = ((n % 64 : Nat) : Int) := by rw [Int.tmod_eq_emod_of_nonneg (by omega)]; omega
  have h2 : (((n % 64 : Nat) : Int)).toNat = n % 64 := by omega
  have h3 : n % 64 < 64 := Nat.mod_lt _ (by decide)
  have HG := Lib.hid (show IntKind.u64.wrap (2 ^ (n % 64)) = ((2 ^ (n % 64) : Nat) : Int) from by
    have e : (2 : Int) ^ (n % 64) = ((2 ^ (n % 64) : Nat) : Int) := (Int.natCast_pow 2 _).symm
    rw [e, IntKind.wrap_u64]
    clear e
    revert hp
    generalize 2 ^ (n % 64) = P
    intro hp
    omega)
  generalize n % 64 = k at *
  clear hp
  go_enter Tryz.func62, Tryz.ntmps62
  go_wp2
  go_ret
  exact ⟨congrArg (fun z => Ending.returned (Value.int .u64 z)) HG.out, rfl⟩
theorem isDay_any (D : Int) (w : World) : Calls Tryz.prog 50 #[.int .i64 D] w fun e w' => e = .returned (.bool (decide (IsDay D))) ∧ w = w' := by
  by_cases h : IsDay D
  · have HW := Lib.hid (fun W => Weekday_day D h W)
    have hb : ¬ (wday D = -1) := by unfold wday; omega
    rw [decide_eq_true h]
    clear h
    generalize wday D = d at *
    go_enter Tryz.func50, Tryz.ntmps50
    go_wp2_with (first
      | (go_at_call 34; (with_reducible refine (HW.out _).mono ?_); rintro e w1 ⟨rfl, rfl⟩)
      | (fail "no arm"))
    go_ret
    exact ⟨by simp [hb], rfl⟩
  · have HW := Lib.hid (fun W => Weekday_none D h W)
    rw [decide_eq_false h]
    clear h
    go_enter Tryz.func50, Tryz.ntmps50
    go_wp2_with (first
      | (go_at_call 34; (with_reducible refine (HW.out _).mono ?_); rintro e w1 ⟨rfl, rfl⟩)
      | (fail "no arm"))
    go_ret
    exact ⟨rfl, rfl⟩
end Go.Proofs.YtlhmfgbaefaneabGreatDoor.cal
namespace Go.Proofs.YtlhmfgbaefaneabGreatDoor.cal
open Go Go.RowKit Go.Proofs.YtlhmfgbaefaneabGreatDoor.day Go.Proofs.YtlhmfgbaefaneabGreatDoor.date Go.Proofs.YtlhmfgbaefaneabGreatDoor.law6
open Go.Proofs.YtlhmfgbaefaneabGreatDoor.ref6 (CalT openB quiet_same drewN_below6)
set_option maxRecDepth 100000 in
set_option maxHeartbeats 4000000 in
theorem closeOn_at (g : Nat) (L : List Nat) (n : Nat) (hn : n ≤ 109572) (w : World) (hr : CRow w g L) :
    Calls Tryz.prog 82 #[.pointer (some ⟨g, 0, none⟩), .int .i64 (n : Int)] w fun e w' => e = .returned (.tuple #[]) ∧ CRow w' g (setBit L n) ∧ w.grownBy w' (some g) := by
  have HB := Lib.hid (fun W => (bitOf_at n hn W).mono fun _ _ h => (⟨h.1, h.2.symm⟩ : _ ∧ _ = W))
  obtain ⟨k, hk⟩ : ∃ k, k = n / 64 := ⟨_, rfl⟩
  have hk2 : k < 1713 := by omega
  have hq : ((n : Int)).tdiv 64 = (k : Int) := by rw [Int.tdiv_eq_ediv_of_nonneg (by omega)]; omega
  have hwk : IntKind.i64.wrap (k : Int) = (k : Int) := by rw [IntKind.wrap_i64]; omega
  have hk3 : (k : Int) < 1713 := by omega
  have hkn : ((k : Int)).toNat = k := by omega
  have hk4 : 0 ≤ (k : Int) := by omega
  have hp := pow_lt n
  have hx := wd_lt hr.2.1 k
  have c1 := hr.cell k hk2
  have f1 := hr.free k
  have HO := Lib.hid (show bits .or .u64 (wd L k : Nat) ((2 ^ (n % 64) : Nat) : Int) = ((wd L k ||| 2 ^ (n % 64) : Nat) : Int) from bits_or_u64_nat _ _ hx hp)
  have HS := Lib.hid (fun (W : World) (u : Int) (h : CRow W g L) (hu : u = ((wd L k ||| 2 ^ (n % 64) : Nat) : Int)) => (show CRow (W.setCell ⟨g, k, none⟩ (.int .u64 u)) g (setBit L n) from by unfold setBit; rw [← hk]; exact h.set k (or_lt hx hp) hu))
  have HR := Lib.hid hr
  generalize 2 ^ (n % 64) = P at *
  generalize wd L k = x at *
  clear hr hp hx hk hn
  go_enter Tryz.func82, Tryz.ntmps82
  go_wp2
  refine wp_region_still_tail 13 (by kernel_rfl) (by kernel_rfl) ?_
  simp only [List.take_succ_cons, List.take_zero, List.drop_succ_cons, List.drop_zero]
  repeat still_step
  still_call (HB.out _)
  repeat still_step
  refine wpStill_nil ?_
  change wpList _ _ _ _ _ w.drew
  have c2 : w.drew.cell? ⟨g, k, none⟩ = some (.int .u64 x) := c1
  have f2 : w.drew.frozen? ⟨g, k, none⟩ = false := f1
  have hg := Lib.hid (show w.grownBy w.drew (some g) from ⟨rfl, rfl, rfl, Nat.le_refl _, fun _ _ _ => rfl⟩)
  have HR2 := Lib.hid (HR.out.keep (Below.refl _ _).drew)
  clear c1 f1 HR
  generalize w.drew = w2 at *
  go_wp2
  go_end0
  exact ⟨rfl, HS.out w2 _ HR2.out HO.out, nat.grown_trans hg.out (nat.grown_set _ _ _ _)⟩
end Go.Proofs.YtlhmfgbaefaneabGreatDoor.cal
namespace Go.Proofs.YtlhmfgbaefaneabGreatDoor.cal
open Go Go.RowKit Go.Proofs.YtlhmfgbaefaneabGreatDoor.day Go.Proofs.YtlhmfgbaefaneabGreatDoor.date Go.Proofs.YtlhmfgbaefaneabGreatDoor.law6
open Go.Proofs.YtlhmfgbaefaneabGreatDoor.ref6 (CalT openB quiet_same drewN_below6)
set_option maxRecDepth 100000 in
set_option maxHeartbeats 4000000 in
theorem Open_off (v : Value) (D : Int) (d : Int) (hd : d = -1 ∨ d = 6 ∨ d = 0) (w : World) (HW : ∀ W, Calls Tryz.prog 34 #[.int .i64 D] W fun e w' => e = .returned (.int .i64 d) ∧ W = w') :
    Calls Tryz.prog 21 #[v, .int .i64 D] w fun e w' => e = .returned (.bool false) ∧ Below w.heap.size w w' := by
  have HW := Lib.hid HW
  rcases hd with rfl | rfl | rfl
  all_goals
    go_enter Tryz.func21, Tryz.ntmps21
    go_wp2_with (first
      | (go_at_call 34; (with_reducible refine (HW.out _).mono ?_); rintro e w1 ⟨rfl, rfl⟩)
      | (fail "no arm"))
    go_ret
    exact ⟨rfl, Below.refl _ _⟩
set_option maxRecDepth 100000 in
set_option maxHeartbeats 4000000 in
theorem Open_nil (D : Int) (d : Int) (h1 : (d == -1) = false) (h2 : (d == 6) = false) (h3 : (d == 0) = false) (w : World) (HW : ∀ W, Calls Tryz.prog 34 #[.int .i64 D] W fun e w' => e = .returned (.int .i64 d) ∧ W = w') :
    Calls Tryz.prog 21 #[.pointer none, .int .i64 D] w fun e w' => e = .returned (.bool true) ∧ Below w.heap.size w w' := by
  have HW := Lib.hid HW
  go_enter Tryz.func21, Tryz.ntmps21
  go_wp2_with (first
    | (go_at_call 34; (with_reducible refine (HW.out _).mono ?_); rintro e w1 ⟨rfl, rfl⟩)
    | (fail "no arm"))
  go_quiet (fail)
  go_wp2
  go_ret
  exact ⟨rfl, drewN_below6 (Below.refl _ _) nq⟩
set_option maxRecDepth 100000 in
set_option maxHeartbeats 4000000 in
theorem Open_row (g : Nat) (L : List Nat) (n : Nat) (hn : n ≤ 109572) (d : Int) (h1 : (d == -1) = false) (h2 : (d == 6) = false) (h3 : (d == 0) = false) (w : World) (hr : CRow w g L) (HW : ∀ W, Calls Tryz.prog 34 #[.int .i64 (n : Int)] W fun e w' => e = .returned (.int .i64 d) ∧ W = w') :
    Calls Tryz.prog 21 #[.pointer (some ⟨g, 0, none⟩), .int .i64 (n : Int)] w fun e w' => e = .returned (.bool (!bitN L n)) ∧ Below w.heap.size w w' := by
  have HW := Lib.hid HW
  have HB := Lib.hid (fun W => bitOf_at n hn W)
  obtain ⟨k, hk⟩ : ∃ k, k = n / 64 := ⟨_, rfl⟩
  have hk2 : k < 1713 := by omega
  have hq : ((n : Int)).tdiv 64 = (k : Int) := by rw [Int.tdiv_eq_ediv_of_nonneg (by omega)]; omega
  have hwk : IntKind.i64.wrap (k : Int) = (k : Int) := by rw [IntKind.wrap_i64]; omega
  have hk3 : (k : Int) < 1713 := by omega
  have hkn : ((k : Int)).toNat = k := by omega
  have hk4 : 0 ≤ (k : Int) := by omega
  have hp := pow_lt n
  have hx := wd_lt hr.2.1 k
  have c1 := hr.cell k hk2
  have HO := bits_and_u64_nat _ _ hx hp
  have HE := Lib.hid (show ((((wd L k &&& 2 ^ (n % 64) : Nat) : Int)) == 0) = !bitN L n from by
    unfold bitN
    rw [← hk]
    have := and_bit (wd L k) (n % 64)
    cases hb : (wd L k).testBit (n % 64)
    · rw [this.2 hb]; rfl
    · have h0 : ¬ (wd L k &&& 2 ^ (n % 64)) = 0 := fun e => by rw [this.1 e] at hb; cases hb
      generalize wd L k &&& 2 ^ (n % 64) = Z at *
      simp only [Bool.not_true, beq_eq_false_iff_ne]
      omega)
  generalize (wd L k &&& 2 ^ (n % 64)) = Z at *
  generalize 2 ^ (n % 64) = P at *
  generalize wd L k = x at *
  generalize bitN L n = b at *
  clear hr hp hx hk hn
  go_enter Tryz.func21, Tryz.ntmps21
  go_wp2_with (first
    | (go_at_call 34; (with_reducible refine (HW.out _).mono ?_); rintro e w1 ⟨rfl, rfl⟩)
    | (fail "no arm"))
  go_quiet (first | (go_at_call 62; with_reducible exact quiet_same (HB.out _)))
  go_wp2
  go_ret
  exact ⟨congrArg (fun z => Ending.returned (Value.bool z)) HE.out, drewN_below6 (Below.refl _ _) nq⟩
theorem Open_any (v : Value) (cs : List CalT) (D : Int) (w : World) (hc : CalIs w v cs) :
    Calls Tryz.prog 21 #[v, .int .i64 D] w fun e w' => e = .returned (.bool (openB cs D)) ∧ Below w.heap.size w w' := by
  by_cases hD : IsDay D
  · by_cases h : wday D = 6 ∨ wday D = 0
    · have hf : openB cs D = false := by
        cases ho : openB cs D
        · rfl
        · have := (open_iff cs D).1 ho
          unfold wday at h
          omega
      rw [hf]
      exact Open_off v D (wday D) (Or.inr h) w (fun W => Weekday_day D hD W)
    · have h1 : (wday D == -1) = false := by simp only [beq_eq_false_iff_ne]; unfold wday; omega
      have h2 : (wday D == 6) = false := by simp only [beq_eq_false_iff_ne]; omega
      have h3 : (wday D == 0) = false := by simp only [beq_eq_false_iff_ne]; omega
      have hw := fun W => Weekday_day D hD W
      rcases hc with ⟨rfl, hs⟩ | ⟨g, L, rfl, hr, hs⟩
      · rw [(open_iff cs D).2 ⟨hD, by unfold wday at h; omega, by unfold wday at h; omega, hs D hD⟩]
        exact Open_nil D _ h1 h2 h3 w hw
      · obtain ⟨n, rfl⟩ : ∃ n : Nat, D = n := ⟨D.toNat, by have := hD.1; omega⟩
        have hn : n ≤ 109572 := by have := hD.2; omega
        have e : openB cs (n : Int) = !bitN L n := by
          have hi := open_iff cs (n : Int)
          have hb := hs n hn
          cases hbb : bitN L n
          · rw [hi.2 ⟨hD, by unfold wday at h; omega, by unfold wday at h; omega, fun hh => by rw [hb.2 hh] at hbb; cases hbb⟩]; rfl
          · cases ho : openB cs (n : Int)
            · rfl
            · exact absurd (hb.1 hbb) (hi.1 ho).2.2.2
        rw [e]
        exact Open_row g L n hn _ h1 h2 h3 w hr hw
  · have hf : openB cs D = false := by
      cases ho : openB cs D
      · rfl
      · exact absurd (ref6.openB_day ho) hD
    rw [hf]
    exact Open_off v D (-1) (Or.inl rfl) w (fun W => Weekday_none D hD W)
end Go.Proofs.YtlhmfgbaefaneabGreatDoor.cal
