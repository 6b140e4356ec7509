/-
  The steps of the walks, part 5: CalW, CalA, CalB, CalC, CalD, CalE, CalF.
-/
import Derived.Laws.Bits64b
import Derived.StillTailTactics
import Derived.BigRegion
import Derived.BigQuiet
import Derived.Deep.QuietTactic
import Derived.Test.YtlhmfgbaefaneaaGreatDoorB03
import Derived.Test.YtlhmfgbaefaneaaGreatDoorB04
namespace Go.Proofs.YtlhmfgbaefaneaaGreatDoor.cal
open Go Go.RowKit Go.Proofs.YtlhmfgbaefaneaaGreatDoor.day Go.Proofs.YtlhmfgbaefaneaaGreatDoor.date Go.Proofs.YtlhmfgbaefaneaaGreatDoor.law6
open Go.Proofs.YtlhmfgbaefaneaaGreatDoor.ref6 (May holiday rawDay shiftDay nthDay daysW ruleDay Rule CalT openB isOpen calOpen)
def wd (L : List Nat) (k : Nat) : Nat := L.getD k 0
def bitN (L : List Nat) (D : Nat) : Bool := (wd L (D / 64)).testBit (D % 64)
def setBit (L : List Nat) (D : Nat) : List Nat := L.set (D / 64) (wd L (D / 64) ||| 2 ^ (D % 64))
theorem wd_set {L : List Nat} {k v : Nat} (hk : k < L.length) (j : Nat) : wd (L.set k v) j = if j = k then v else wd L j := by
  unfold wd
  rw [List.getD_eq_getElem?_getD, List.getD_eq_getElem?_getD, List.getElem?_set]
  by_cases h : k = j
  · subst h; rw [if_pos rfl, if_pos rfl, if_pos hk]; rfl
  · rw [if_neg h, if_neg (fun e => h e.symm)]
theorem bit_set {L : List Nat} {D : Nat} (hD : D / 64 < L.length) (E : Nat) : bitN (setBit L D) E = (bitN L E || decide (E = D)) := by
  unfold bitN setBit
  rw [wd_set hD]
  by_cases h : E / 64 = D / 64
  · rw [if_pos h, Nat.testBit_or, Nat.testBit_two_pow, h]
    congr 1
    by_cases e : D % 64 = E % 64
    · rw [decide_eq_true e, decide_eq_true (by omega)]
    · rw [decide_eq_false e, decide_eq_false (by omega)]
  · rw [if_neg h, decide_eq_false (show ¬ E = D by intro e; exact h (by rw [e])), Bool.or_false]
theorem two64 : (18446744073709551616 : Nat) = 2 ^ 64 := by decide
theorem pow_lt (D : Nat) : 2 ^ (D % 64) < 18446744073709551616 := by
  rw [two64]
  exact Nat.pow_lt_pow_right (by decide) (Nat.mod_lt _ (by decide))
theorem or_lt {x y : Nat} (hx : x < 18446744073709551616) (hy : y < 18446744073709551616) : x ||| y < 18446744073709551616 := by
  rw [two64] at *
  exact Nat.or_lt_two_pow hx hy
theorem and_bit (x k : Nat) : (x &&& 2 ^ k = 0) ↔ x.testBit k = false := by
  constructor
  · intro h
    have := congrArg (fun z => z.testBit k) h
    simpa [Nat.testBit_and, Nat.testBit_two_pow] using this
  · intro h
    apply Nat.eq_of_testBit_eq
    intro i
    rw [Nat.testBit_and, Nat.testBit_two_pow, Nat.zero_testBit]
    by_cases e : k = i
    · subst e; rw [h]; rfl
    · rw [decide_eq_false e, Bool.and_false]
theorem wd_lt {L : List Nat} (h : ∀ x ∈ L, x < 18446744073709551616) (k : Nat) : wd L k < 18446744073709551616 := by
  unfold wd
  rw [List.getD_eq_getElem?_getD]
  cases hk : L[k]? with
  | none => simp
  | some v => exact h v (List.mem_of_getElem? hk)
theorem all_set {L : List Nat} (h : ∀ x ∈ L, x < 18446744073709551616) {k v : Nat} (hv : v < 18446744073709551616) : ∀ x ∈ L.set k v, x < 18446744073709551616 := fun x hx => by
  rcases List.mem_or_eq_of_mem_set hx with h1 | h1
  · exact h x h1
  · rw [h1]; exact hv
theorem bit_zero (n D : Nat) : bitN (List.replicate n 0) D = false := by
  unfold bitN wd
  rw [List.getD_eq_getElem?_getD, List.getElem?_replicate]
  split <;> simp
def orW (A B : List Nat) (n : Nat) : List Nat := (List.range A.length).map fun k => if k < n then wd A k ||| wd B k else wd A k
theorem orW_len (A B : List Nat) (n : Nat) : (orW A B n).length = A.length := by simp [orW]
theorem orW_wd (A B : List Nat) (n k : Nat) (hk : k < A.length) : wd (orW A B n) k = if k < n then wd A k ||| wd B k else wd A k := by
  unfold wd orW
  rw [List.getD_eq_getElem?_getD, List.getElem?_map, List.getElem?_range hk]
  rfl
theorem ext_wd {A B : List Nat} (hl : A.length = B.length) (h : ∀ k, k < A.length → wd A k = wd B k) : A = B := by
  apply List.ext_getElem hl
  intro k h1 h2
  have := h k h1
  unfold wd at this
  rwa [List.getD_eq_getElem?_getD, List.getD_eq_getElem?_getD, List.getElem?_eq_getElem h1, List.getElem?_eq_getElem h2] at this
theorem orW_zero (A B : List Nat) : orW A B 0 = A := ext_wd (orW_len _ _ _) fun k hk => by
  rw [orW_len] at hk
  rw [orW_wd _ _ _ _ hk, if_neg (by omega)]
theorem orW_next (A B : List Nat) (n : Nat) (hn : n < A.length) : orW A B (n + 1) = (orW A B n).set n (wd A n ||| wd B n) := by
  refine ext_wd (by rw [List.length_set, orW_len, orW_len]) fun k hk => ?_
  rw [orW_len] at hk
  rw [orW_wd _ _ _ _ hk, wd_set (by rw [orW_len]; exact hn), orW_wd _ _ _ _ hk]
  by_cases h : k = n
  · subst h; rw [if_pos (by omega), if_pos rfl]
  · rw [if_neg h]
    by_cases h2 : k < n
    · rw [if_pos (by omega), if_pos h2]
    · rw [if_neg (by omega), if_neg h2]
theorem orW_bit (A B : List Nat) (D : Nat) (hD : D / 64 < A.length) : bitN (orW A B A.length) D = (bitN A D || bitN B D) := by
  unfold bitN
  rw [orW_wd _ _ _ _ hD, if_pos hD, Nat.testBit_or]
theorem daysW_mem (y mo w : Int) : ∀ (k : Nat) (z : Int), z ∈ daysW y mo w k → ∃ j : Nat, j < k ∧ z = dayOf y mo ((j : Nat) + 1)
  | 0, z, h => by simp [daysW] at h
  | k + 1, z, h => by
    simp only [daysW] at h
    rcases List.mem_append.1 h with h | h
    · obtain ⟨j, h1, h2⟩ := daysW_mem y mo w k z h
      exact ⟨j, by omega, h2⟩
    · split at h
      · simp only [List.mem_singleton] at h
        exact ⟨k, by omega, h⟩
      · cases h
theorem raw_near {k mo d n w : Int} {sh : Bool} {y z : Int} (hm : May ⟨k, mo, d, n, w, sh⟩) (y1 : 1900 ≤ y) (y2 : y ≤ 2199) (h : rawDay k mo d n w sh y = some z) :
    ydays (y - 1900).toNat - 100 ≤ z ∧ z < ydays ((y - 1900).toNat + 1) + 100 := by
  unfold rawDay at h
  split at h
  · split at h
    · rename_i hc
      cases h
      have := dayOf_year hc
      unfold shiftDay
      split
      · omega
      · split <;> omega
    · cases h
  · split at h
    · rename_i h3
      cases h
      have e : easterDay y = dayOf y (easterN y / 31) (easterN y % 31 + 1) := rfl
      have := dayOf_year (easter_civil y1 y2)
      rw [← e] at this
      have hn : -100 ≤ n ∧ n ≤ 100 := by
        rcases hm with h | h | h
        · have := h.1; simp only at this; omega
        · have := h.1; simp only at this; omega
        · exact ⟨h.2.1, h.2.2.1⟩
      omega
    · obtain ⟨j, hj, rfl⟩ : ∃ j : Nat, j < (mlen y mo).toNat ∧ z = dayOf y mo ((j : Nat) + 1) := by
        refine daysW_mem y mo w _ z ?_
        unfold nthDay at h
        split at h
        · cases h
        · split at h <;> exact List.mem_of_getElem? h
      have := dayOf_year (y := y) (m := mo) (d := (j : Nat) + 1) ⟨y1, y2, by omega, by omega⟩
      omega
theorem hol_parts {k mo d n w : Int} {sh : Bool} {y z : Int} (h : holiday k mo d n w sh y = some z) : May ⟨k, mo, d, n, w, sh⟩ ∧ (1900 ≤ y ∧ y ≤ 2199) ∧ rawDay k mo d n w sh y = some z ∧ IsDay z := by
  unfold holiday at h
  split at h
  · rename_i hm
    refine ⟨hm.1, hm.2, ?_⟩
    cases hr : rawDay k mo d n w sh y with
    | none => rw [hr] at h; cases h
    | some x =>
      rw [hr] at h
      simp only [Option.bind_some] at h
      split at h
      · rename_i hd; cases h; exact ⟨rfl, hd⟩
      · cases h
  · cases h
theorem hol_near {k mo d n w : Int} {sh : Bool} {y m a y' : Int} (hc : IsCivil y m a) (h : holiday k mo d n w sh y' = some (dayOf y m a)) : y' - 1 ≤ y ∧ y ≤ y' + 1 := by
  obtain ⟨hm, ⟨h1, h2⟩, hr, -⟩ := hol_parts h
  have hn := raw_near hm h1 h2 hr
  have hy := dayOf_year hc
  have c1 := hc.1
  refine ⟨?_, ?_⟩
  · by_cases g : y' - 1 ≤ y
    · exact g
    · exfalso
      have := ydays_mono (show (y - 1900).toNat + 1 ≤ (y' - 1900).toNat by omega)
      by_cases g2 : (y - 1900).toNat + 2 ≤ (y' - 1900).toNat
      · have := ydays_mono g2
        have := ydays_mono (show (y - 1900).toNat + 1 ≤ (y - 1900).toNat + 2 by omega)
        omega
      · omega
  · by_cases g : y ≤ y' + 1
    · exact g
    · exfalso
      have := ydays_mono (show (y' - 1900).toNat + 1 ≤ (y' - 1900).toNat + 2 by omega)
      have := ydays_mono (show (y' - 1900).toNat + 2 ≤ (y - 1900).toNat by omega)
      omega
theorem rule_any {k mo d n w : Int} {sh : Bool} {y m a : Int} (hc : IsCivil y m a) : ruleDay k mo d n w sh y (dayOf y m a) ↔ ∃ y', holiday k mo d n w sh y' = some (dayOf y m a) := by
  constructor
  · rintro (h | h | h) <;> exact ⟨_, h⟩
  · rintro ⟨y', h⟩
    have := hol_near hc h
    rcases (show y' = y - 1 ∨ y' = y ∨ y' = y + 1 by omega) with rfl | rfl | rfl
    · exact Or.inl h
    · exact Or.inr (Or.inl h)
    · exact Or.inr (Or.inr h)
def ruleShut (r : Rule) (y : Int) (D : Int) : Prop := ∃ y', y' < y ∧ holiday r.kind r.month r.day r.n r.wd r.shift y' = some D
def rulesShut (rs : List Rule) (D : Int) : Prop := ∃ r ∈ rs, ruleShut r 2200 D
def shut (cs : List CalT) (D : Int) : Prop := ∃ c ∈ cs, rulesShut c.rules D ∨ D ∈ c.more
theorem ruleShut_all {r : Rule} {D : Int} : ruleShut r 2200 D ↔ ∃ y', holiday r.kind r.month r.day r.n r.wd r.shift y' = some D := by
  constructor
  · rintro ⟨y', -, h⟩; exact ⟨y', h⟩
  · rintro ⟨y', h⟩
    have := (hol_parts h).2.1
    exact ⟨y', by omega, h⟩
theorem ruleShut_none {r : Rule} {D : Int} : ¬ ruleShut r 1900 D := by
  rintro ⟨y', h1, h⟩
  have := (hol_parts h).2.1
  omega
theorem ruleShut_next {r : Rule} {y D : Int} : ruleShut r (y + 1) D ↔ ruleShut r y D ∨ holiday r.kind r.month r.day r.n r.wd r.shift y = some D := by
  constructor
  · rintro ⟨y', h1, h⟩
    rcases (show y' < y ∨ y' = y by omega) with h2 | rfl
    · exact Or.inl ⟨y', h2, h⟩
    · exact Or.inr h
  · rintro (⟨y', h1, h⟩ | h)
    · exact ⟨y', by omega, h⟩
    · exact ⟨y, by omega, h⟩
theorem open_iff (cs : List CalT) (D : Int) : openB cs D = true ↔ IsDay D ∧ (D + 1) % 7 ≠ 0 ∧ (D + 1) % 7 ≠ 6 ∧ ¬ shut cs D := by
  constructor
  · intro h
    have hd := ref6.openB_day h
    refine ⟨hd, ?_⟩
    obtain ⟨y, m, a, hc, rfl⟩ := hd.civil
    obtain ⟨h1, h2, h3⟩ := (ref6.openB_at hc).1 h
    refine ⟨h1, h2, ?_⟩
    rintro ⟨c, hc1, ⟨r, hr, hs⟩ | hs⟩
    · exact (h3 c hc1).1 r hr ((rule_any hc).2 (ruleShut_all.1 hs))
    · exact (h3 c hc1).2 _ hs rfl
  · rintro ⟨hd, h1, h2, h3⟩
    obtain ⟨y, m, a, hc, rfl⟩ := hd.civil
    refine (ref6.openB_at hc).2 ⟨h1, h2, fun c hc1 => ⟨fun r hr hs => h3 ⟨c, hc1, Or.inl ⟨r, hr, ruleShut_all.2 ((rule_any hc).1 hs)⟩⟩, fun z hz e => h3 ⟨c, hc1, Or.inr (e ▸ hz)⟩⟩⟩
end Go.Proofs.YtlhmfgbaefaneaaGreatDoor.cal
namespace Go.Proofs.YtlhmfgbaefaneaaGreatDoor.cal
open Go Go.RowKit Go.Proofs.YtlhmfgbaefaneaaGreatDoor.day Go.Proofs.YtlhmfgbaefaneaaGreatDoor.date Go.Proofs.YtlhmfgbaefaneaaGreatDoor.law6
open Go.Proofs.YtlhmfgbaefaneaaGreatDoor.ref6 (CalT openB quiet_same drewN_below6)
def CRow (w : World) (g : Nat) (L : List Nat) : Prop :=
  L.length = 1713 ∧ (∀ x ∈ L, x < 18446744073709551616) ∧ w.heap[g]? = some (.cells (L.map fun d => Value.int .u64 (d : Nat)).toArray 107 (0, 0))
theorem CRow.lt {w : World} {g : Nat} {L : List Nat} (h : CRow w g L) : g < w.heap.size := (Array.getElem?_eq_some_iff.1 h.2.2).1
theorem CRow.cell {w : World} {g : Nat} {L : List Nat} (h : CRow w g L) (k : Nat) (hk : k < 1713) : w.cell? ⟨g, k, none⟩ = some (.int .u64 (wd L k : Nat)) := by
  obtain ⟨hl, -, h⟩ := h
  simp only [World.cell?, h, Option.isSome_none, Bool.false_eq_true, if_false]
  rw [List.getElem?_toArray, List.getElem?_map]
  unfold wd
  rw [List.getD_eq_getElem?_getD, List.getElem?_eq_getElem (by omega)]
  rfl
theorem CRow.free {w : World} {g : Nat} {L : List Nat} (h : CRow w g L) (k : Nat) : w.frozen? ⟨g, k, none⟩ = false := by
  simp [World.frozen?, h.2.2]
theorem CRow.set {w : World} {g : Nat} {L : List Nat} (h : CRow w g L) (k : Nat) {v : Nat} (hv : v < 18446744073709551616) {u : Int} (hu : u = (v : Nat)) : CRow (w.setCell ⟨g, k, none⟩ (.int .u64 u)) g (L.set k v) := by
  obtain ⟨hl, ha, h⟩ := h
  refine ⟨by rw [List.length_set, hl], all_set ha hv, ?_⟩
  rw [heap_setCell_same w g k _ _ _ h, hu]
  congr 2
  rw [List.setIfInBounds_toArray, List.map_set]
theorem CRow.below {w w' : World} {B g : Nat} {L : List Nat} (h : CRow w g L) (hb : Below B w w') (hg : g < B) : CRow w' g L := ⟨h.1, h.2.1, (hb.block g hg).trans h.2.2⟩
theorem CRow.keep {w w' : World} {g : Nat} {L : List Nat} (h : CRow w g L) (hb : Below w.heap.size w w') : CRow w' g L := h.below hb h.lt
def CalIs (w : World) (v : Value) (cs : List CalT) : Prop :=
  (v = .pointer none ∧ ∀ D, IsDay D → ¬ shut cs D) ∨ ∃ g L, v = .pointer (some ⟨g, 0, none⟩) ∧ CRow w g L ∧ ∀ D : Nat, D ≤ 109572 → (bitN L D = true ↔ shut cs (D : Nat))
theorem CalIs.keep {w w' : World} {v : Value} {cs : List CalT} (h : CalIs w v cs) (hb : Below w.heap.size w w') : CalIs w' v cs :=
  h.imp id fun ⟨g, L, e, hr, hD⟩ => ⟨g, L, e, hr.keep hb, hD⟩
set_option maxRecDepth 100000 in
set_option maxHeartbeats 4000000 in
theorem bitOf_at (n : Nat) (hn : n ≤ 109572) (w : World) : Calls Tryz.prog 91 #[.int .i64 (n : Int)] w fun e w' => e = .returned (.int .u64 ((2 ^ (n % 64) : Nat) : Int)) ∧ w = w' := by
  have hp := pow_lt n
  have h1 : ((n : Int)).tmod 64 = ((n % 64 : Nat) : Int) := by rw [Int.tmod_eq_emod_of_nonneg (by omega)]; omega
  have h2 : (((n % 64 : Nat) : Int)).toNat = n % 64 := by omega
  have h3 : n % 64 < 64 := Nat.mod_lt _ (by decide)
  have HG := Lib.hid (show IntKind.u64.wrap (2 ^ (n % 64)) = ((2 ^ (n % 64) : Nat) : Int) from by
    have e : (2 : Int) ^ (n % 64) = ((2 ^ (n % 64) : Nat) : Int) := (Int.natCast_pow 2 _).symm
    rw [e, IntKind.wrap_u64]
    clear e
    revert hp
    generalize 2 ^ (n % 64) = P
    intro hp
    omega)
  generalize n % 64 = k at *
  clear hp
  go_enter Tryz.func91, Tryz.ntmps91
  go_wp2
  go_ret
  exact ⟨congrArg (fun z => Ending.returned (Value.int .u64 z)) HG.out, rfl⟩
theorem isDay_any (D : Int) (w : World) : Calls Tryz.prog 89 #[.int .i64 D] w fun e w' => e = .returned (.bool (decide (IsDay D))) ∧ w = w' := by
  by_cases h : IsDay D
  · have HW := Lib.hid (fun W => Weekday_day D h W)
    have hb : ¬ (wday D = -1) := by unfold wday; omega
    rw [decide_eq_true h]
    clear h
    generalize wday D = d at *
    go_enter Tryz.func89, Tryz.ntmps89
    go_wp2_with (first
      | (go_at_call 26; (with_reducible refine (HW.out _).mono ?_); rintro e w1 ⟨rfl, rfl⟩)
      | (fail "no arm"))
    go_ret
    exact ⟨by simp [hb], rfl⟩
  · have HW := Lib.hid (fun W => Weekday_none D h W)
    rw [decide_eq_false h]
    clear h
    go_enter Tryz.func89, Tryz.ntmps89
    go_wp2_with (first
      | (go_at_call 26; (with_reducible refine (HW.out _).mono ?_); rintro e w1 ⟨rfl, rfl⟩)
      | (fail "no arm"))
    go_ret
    exact ⟨rfl, rfl⟩
end Go.Proofs.YtlhmfgbaefaneaaGreatDoor.cal
namespace Go.Proofs.YtlhmfgbaefaneaaGreatDoor.cal
open Go Go.RowKit Go.Proofs.YtlhmfgbaefaneaaGreatDoor.day Go.Proofs.YtlhmfgbaefaneaaGreatDoor.date Go.Proofs.YtlhmfgbaefaneaaGreatDoor.law6
open Go.Proofs.YtlhmfgbaefaneaaGreatDoor.ref6 (CalT openB quiet_same drewN_below6)
set_option maxRecDepth 100000 in
set_option maxHeartbeats 4000000 in
theorem closeOn_at (g : Nat) (L : List Nat) (n : Nat) (hn : n ≤ 109572) (w : World) (hr : CRow w g L) :
    Calls Tryz.prog 90 #[.pointer (some ⟨g, 0, none⟩), .int .i64 (n : Int)] w fun e w' => e = .returned (.tuple #[]) ∧ CRow w' g (setBit L n) ∧ w.grownBy w' (some g) := by
  have HB := Lib.hid (fun W => (bitOf_at n hn W).mono fun _ _ h => (⟨h.1, h.2.symm⟩ : _ ∧ _ = W))
  obtain ⟨k, hk⟩ : ∃ k, k = n / 64 := ⟨_, rfl⟩
  have hk2 : k < 1713 := by omega
  have hq : ((n : Int)).tdiv 64 = (k : Int) := by rw [Int.tdiv_eq_ediv_of_nonneg (by omega)]; omega
  have hwk : IntKind.i64.wrap (k : Int) = (k : Int) := by rw [IntKind.wrap_i64]; omega
  have hk3 : (k : Int) < 1713 := by omega
  have hkn : ((k : Int)).toNat = k := by omega
  have hk4 : 0 ≤ (k : Int) := by omega
  have hp := pow_lt n
  have hx := wd_lt hr.2.1 k
  have c1 := hr.cell k hk2
  have f1 := hr.free k
  have HO := Lib.hid (show bits .or .u64 (wd L k : Nat) ((2 ^ (n % 64) : Nat) : Int) = ((wd L k ||| 2 ^ (n % 64) : Nat) : Int) from bits_or_u64_nat _ _ hx hp)
  have HS := Lib.hid (fun (W : World) (u : Int) (h : CRow W g L) (hu : u = ((wd L k ||| 2 ^ (n % 64) : Nat) : Int)) => (show CRow (W.setCell ⟨g, k, none⟩ (.int .u64 u)) g (setBit L n) from by unfold setBit; rw [← hk]; exact h.set k (or_lt hx hp) hu))
  have HR := Lib.hid hr
  generalize 2 ^ (n % 64) = P at *
  generalize wd L k = x at *
  clear hr hp hx hk hn
  go_enter Tryz.func90, Tryz.ntmps90
  go_wp2
  refine wp_region_still_tail 13 (by kernel_rfl) (by kernel_rfl) ?_
  simp only [List.take_succ_cons, List.take_zero, List.drop_succ_cons, List.drop_zero]
  repeat still_step
  still_call (HB.out _)
  repeat still_step
  refine wpStill_nil ?_
  change wpList _ _ _ _ _ w.drew
  have c2 : w.drew.cell? ⟨g, k, none⟩ = some (.int .u64 x) := c1
  have f2 : w.drew.frozen? ⟨g, k, none⟩ = false := f1
  have hg := Lib.hid (show w.grownBy w.drew (some g) from ⟨rfl, rfl, rfl, Nat.le_refl _, fun _ _ _ => rfl⟩)
  have HR2 := Lib.hid (HR.out.keep (Below.refl _ _).drew)
  clear c1 f1 HR
  generalize w.drew = w2 at *
  go_wp2
  go_end0
  exact ⟨rfl, HS.out w2 _ HR2.out HO.out, nat.grown_trans hg.out (nat.grown_set _ _ _ _)⟩
end Go.Proofs.YtlhmfgbaefaneaaGreatDoor.cal
namespace Go.Proofs.YtlhmfgbaefaneaaGreatDoor.cal
open Go Go.RowKit Go.Proofs.YtlhmfgbaefaneaaGreatDoor.day Go.Proofs.YtlhmfgbaefaneaaGreatDoor.date Go.Proofs.YtlhmfgbaefaneaaGreatDoor.law6
open Go.Proofs.YtlhmfgbaefaneaaGreatDoor.ref6 (CalT openB quiet_same drewN_below6)
set_option maxRecDepth 100000 in
set_option maxHeartbeats 4000000 in
theorem Open_off (v : Value) (D : Int) (d : Int) (hd : d = -1 ∨ d = 6 ∨ d = 0) (w : World) (HW : ∀ W, Calls Tryz.prog 26 #[.int .i64 D] W fun e w' => e = .returned (.int .i64 d) ∧ W = w') :
    Calls Tryz.prog 50 #[v, .int .i64 D] w fun e w' => e = .returned (.bool false) ∧ Below w.heap.size w w' := by
  have HW := Lib.hid HW
  rcases hd with rfl | rfl | rfl
  all_goals
    go_enter Tryz.func50, Tryz.ntmps50
    go_wp2_with (first
      | (go_at_call 26; (with_reducible refine (HW.out _).mono ?_); rintro e w1 ⟨rfl, rfl⟩)
      | (fail "no arm"))
    go_ret
    exact ⟨rfl, Below.refl _ _⟩
set_option maxRecDepth 100000 in
set_option maxHeartbeats 4000000 in
theorem Open_nil (D : Int) (d : Int) (h1 : (d == -1) = false) (h2 : (d == 6) = false) (h3 : (d == 0) = false) (w : World) (HW : ∀ W, Calls Tryz.prog 26 #[.int .i64 D] W fun e w' => e = .returned (.int .i64 d) ∧ W = w') :
    Calls Tryz.prog 50 #[.pointer none, .int .i64 D] w fun e w' => e = .returned (.bool true) ∧ Below w.heap.size w w' := by
  have HW := Lib.hid HW
  go_enter Tryz.func50, Tryz.ntmps50
  go_wp2_with (first
    | (go_at_call 26; (with_reducible refine (HW.out _).mono ?_); rintro e w1 ⟨rfl, rfl⟩)
    | (fail "no arm"))
  go_quiet (fail)
  go_wp2
  go_ret
  exact ⟨rfl, drewN_below6 (Below.refl _ _) nq⟩
set_option maxRecDepth 100000 in
set_option maxHeartbeats 4000000 in
theorem Open_row (g : Nat) (L : List Nat) (n : Nat) (hn : n ≤ 109572) (d : Int) (h1 : (d == -1) = false) (h2 : (d == 6) = false) (h3 : (d == 0) = false) (w : World) (hr : CRow w g L) (HW : ∀ W, Calls Tryz.prog 26 #[.int .i64 (n : Int)] W fun e w' => e = .returned (.int .i64 d) ∧ W = w') :
    Calls Tryz.prog 50 #[.pointer (some ⟨g, 0, none⟩), .int .i64 (n : Int)] w fun e w' => e = .returned (.bool (!bitN L n)) ∧ Below w.heap.size w w' := by
  have HW := Lib.hid HW
  have HB := Lib.hid (fun W => bitOf_at n hn W)
  obtain ⟨k, hk⟩ : ∃ k, k = n / 64 := ⟨_, rfl⟩
  have hk2 : k < 1713 := by omega
  have hq : ((n : Int)).tdiv 64 = (k : Int) := by rw [Int.tdiv_eq_ediv_of_nonneg (by omega)]; omega
  have hwk : IntKind.i64.wrap (k : Int) = (k : Int) := by rw [IntKind.wrap_i64]; omega
  have hk3 : (k : Int) < 1713 := by omega
  have hkn : ((k : Int)).toNat = k := by omega
  have hk4 : 0 ≤ (k : Int) := by omega
  have hp := pow_lt n
  have hx := wd_lt hr.2.1 k
  have c1 := hr.cell k hk2
  have HO := bits_and_u64_nat _ _ hx hp
  have HE := Lib.hid (show ((((wd L k &&& 2 ^ (n % 64) : Nat) : Int)) == 0) = !bitN L n from by
    unfold bitN
    rw [← hk]
    have := and_bit (wd L k) (n % 64)
    cases hb : (wd L k).testBit (n % 64)
    · rw [this.2 hb]; rfl
    · have h0 : ¬ (wd L k &&& 2 ^ (n % 64)) = 0 := fun e => by rw [this.1 e] at hb; cases hb
      generalize wd L k &&& 2 ^ (n % 64) = Z at *
      simp only [Bool.not_true, beq_eq_false_iff_ne]
      omega)
  generalize (wd L k &&& 2 ^ (n % 64)) = Z at *
  generalize 2 ^ (n % 64) = P at *
  generalize wd L k = x at *
  generalize bitN L n = b at *
  clear hr hp hx hk hn
  go_enter Tryz.func50, Tryz.ntmps50
  go_wp2_with (first
    | (go_at_call 26; (with_reducible refine (HW.out _).mono ?_); rintro e w1 ⟨rfl, rfl⟩)
    | (fail "no arm"))
  go_quiet (first | (go_at_call 91; with_reducible exact quiet_same (HB.out _)))
  go_wp2
  go_ret
  exact ⟨congrArg (fun z => Ending.returned (Value.bool z)) HE.out, drewN_below6 (Below.refl _ _) nq⟩
theorem Open_any (v : Value) (cs : List CalT) (D : Int) (w : World) (hc : CalIs w v cs) :
    Calls Tryz.prog 50 #[v, .int .i64 D] w fun e w' => e = .returned (.bool (openB cs D)) ∧ Below w.heap.size w w' := by
  by_cases hD : IsDay D
  · by_cases h : wday D = 6 ∨ wday D = 0
    · have hf : openB cs D = false := by
        cases ho : openB cs D
        · rfl
        · have := (open_iff cs D).1 ho
          unfold wday at h
          omega
      rw [hf]
      exact Open_off v D (wday D) (Or.inr h) w (fun W => Weekday_day D hD W)
    · have h1 : (wday D == -1) = false := by simp only [beq_eq_false_iff_ne]; unfold wday; omega
      have h2 : (wday D == 6) = false := by simp only [beq_eq_false_iff_ne]; omega
      have h3 : (wday D == 0) = false := by simp only [beq_eq_false_iff_ne]; omega
      have hw := fun W => Weekday_day D hD W
      rcases hc with ⟨rfl, hs⟩ | ⟨g, L, rfl, hr, hs⟩
      · rw [(open_iff cs D).2 ⟨hD, by unfold wday at h; omega, by unfold wday at h; omega, hs D hD⟩]
        exact Open_nil D _ h1 h2 h3 w hw
      · obtain ⟨n, rfl⟩ : ∃ n : Nat, D = n := ⟨D.toNat, by have := hD.1; omega⟩
        have hn : n ≤ 109572 := by have := hD.2; omega
        have e : openB cs (n : Int) = !bitN L n := by
          have hi := open_iff cs (n : Int)
          have hb := hs n hn
          cases hbb : bitN L n
          · rw [hi.2 ⟨hD, by unfold wday at h; omega, by unfold wday at h; omega, fun hh => by rw [hb.2 hh] at hbb; cases hbb⟩]; rfl
          · cases ho : openB cs (n : Int)
            · rfl
            · exact absurd (hb.1 hbb) (hi.1 ho).2.2.2
        rw [e]
        exact Open_row g L n hn _ h1 h2 h3 w hr hw
  · have hf : openB cs D = false := by
      cases ho : openB cs D
      · rfl
      · exact absurd (ref6.openB_day ho) hD
    rw [hf]
    exact Open_off v D (-1) (Or.inl rfl) w (fun W => Weekday_none D hD W)
end Go.Proofs.YtlhmfgbaefaneaaGreatDoor.cal
namespace Go.Proofs.YtlhmfgbaefaneaaGreatDoor.cal
open Go Go.RowKit Go.Proofs.YtlhmfgbaefaneaaGreatDoor.day Go.Proofs.YtlhmfgbaefaneaaGreatDoor.date Go.Proofs.YtlhmfgbaefaneaaGreatDoor.law6
open Go.Proofs.YtlhmfgbaefaneaaGreatDoor.ref6 (CalT openB nextD addN cntO cntN quiet_same drewN_below6)
theorem next_here {cs : List CalT} {s x : Int} (hs : s = 1 ∨ s = -1) (h : openB cs x = true) : nextD cs s x = some x := by
  have hd := ref6.openB_day h
  rcases hs with rfl | rfl
  · exact ref6.next_up_is hd (Int.le_refl _) h fun y h1 h2 => by omega
  · exact ref6.next_down_is hd (Int.le_refl _) h fun y h1 h2 => by omega
theorem next_step {cs : List CalT} {s x : Int} (hs : s = 1 ∨ s = -1) (hx : IsDay x) (h : openB cs x = false) : nextD cs s x = nextD cs s (x + s) := by
  rcases hs with rfl | rfl
  · cases h2 : nextD cs 1 (x + 1) with
    | some t =>
      obtain ⟨a, b, c⟩ := ref6.next_up h2
      refine ref6.next_up_is hx (by omega) b fun y h1 h3 => ?_
      by_cases e : y = x
      · rw [e]; exact h
      · exact c y (by omega) h3
    | none =>
      cases h3 : nextD cs 1 x with
      | none => rfl
      | some t =>
        obtain ⟨a, b, c⟩ := ref6.next_up h3
        by_cases e : t = x
        · rw [e, h] at b; cases b
        · have ht := ref6.openB_day b
          have := ref6.next_up_none (D := x + 1) ⟨by have := hx.1; omega, by have := ht.2; omega⟩ h2 t (by omega)
          rw [this] at b; cases b
  · cases h2 : nextD cs (-1) (x + -1) with
    | some t =>
      obtain ⟨a, b, c⟩ := ref6.next_down h2
      refine ref6.next_down_is hx (by omega) b fun y h1 h3 => ?_
      by_cases e : y = x
      · rw [e]; exact h
      · exact c y h1 (by omega)
    | none =>
      cases h3 : nextD cs (-1) x with
      | none => rfl
      | some t =>
        obtain ⟨a, b, c⟩ := ref6.next_down h3
        by_cases e : t = x
        · rw [e, h] at b; cases b
        · have ht := ref6.openB_day b
          have := ref6.next_down_none (D := x + -1) ⟨by have := ht.1; omega, by have := hx.2; omega⟩ h2 t (by omega)
          rw [this] at b; cases b
theorem add_open {cs : List CalT} {s d : Int} (hs : s = 1 ∨ s = -1) (m : Nat) (h : openB cs (d + s) = true) : addN cs s (m + 1) d = addN cs s m (d + s) := by
  rw [addN, next_here hs h]
theorem add_shut {cs : List CalT} {s d : Int} (hs : s = 1 ∨ s = -1) (m : Nat) (hx : IsDay (d + s)) (h : openB cs (d + s) = false) : addN cs s (m + 1) d = addN cs s (m + 1) (d + s) := by
  rw [addN, next_step hs hx h, ← addN]
theorem add_off {cs : List CalT} {s d : Int} (m : Nat) (hx : ¬ IsDay (d + s)) : addN cs s (m + 1) d = none := by
  rw [addN, ref6.next_off hx]
def AddEnd (o : Option Int) (w : World) (e : Ending) (w' : World) : Prop :=
  (∀ t, o = some t → e = .returned (.tuple #[.int .i64 t, .nilIface])) ∧ (o = none → e = .returned (.tuple #[.int .i64 0, .iface 128 (.int .i64 4)])) ∧ Below w.heap.size w w'
def ADRel (cs : List CalT) (s : Int) (o : Option Int) (w : World) (dv nv : Value) (wr : World) : Prop :=
  ∃ (d : Int) (m : Nat), dv = .int .i64 d ∧ nv = .int .i64 (m : Nat) ∧ m ≤ 1000 ∧ (IsDay d ∧ addN cs s m d = o ∨ ¬ IsDay d ∧ o = none) ∧ Below w.heap.size w wr
set_option maxRecDepth 100000 in
set_option maxHeartbeats 4000000 in
theorem Add_up (v : Value) (cs : List CalT) (D : Int) (K : Nat) (o : Option Int) (hD : IsDay D ∧ addN cs 1 K D = o ∨ ¬ IsDay D ∧ o = none) (hK : K ≤ 1000)  (w : World) (hc : CalIs w v cs) :
    Calls Tryz.prog 52 #[v, .int .i64 D, .int .i64 (K : Nat)] w fun e w' => AddEnd o w e w' := by
  have HI := Lib.hid (fun (x : Int) W => isDay_any x W)
  have HO := Lib.hid (fun (x : Int) W (hb : Below w.heap.size w W) => Open_any v cs x W (hc.keep hb))
  have HE := Lib.hid (fun W => OfE 4 rfl W)
  have HS := Lib.hid (show ADRel cs 1 o w (.int .i64 D) (.int .i64 (K : Nat)) w from ⟨D, K, rfl, rfl, hK, hD, Below.refl _ _⟩)
  have k1 : decide ((1000 : Int) < (K : Int)) = false := by simp only [decide_eq_false_iff_not]; omega
  have k2 : decide ((K : Int) < 0) = false := by simp only [decide_eq_false_iff_not]; omega
  have k4 : decide ((1000 : Int) < -(K : Int)) = false := by simp only [decide_eq_false_iff_not]; omega
  have k3 : decide ((K : Int) < -1000) = false := by simp only [decide_eq_false_iff_not]; omega
  clear hD hc
  go_enter Tryz.func52, Tryz.ntmps52
  go_wp2
  go_loopw [1, 2] (fun dv nv wr => ADRel cs 1 o w dv nv wr) (fun dv _ _ => (109573 - intOf dv).toNat)
  case atStart => exact HS.out
  case round =>
    obtain ⟨d, m, rfl, rfl, hm, hr, hb⟩ := hrel
    have HB := Lib.hid hb
    clear hb HS
    have HR := Lib.hid hr
    clear hr
    by_cases hd : IsDay d
    · have HId := HI.out d
      rw [decide_eq_true hd] at HId
      have HId := Lib.hid HId
      cases m with
      | zero =>
        have HF := Lib.hid (show o = some d from by
          rcases HR.out with ⟨-, h⟩ | ⟨h, -⟩
          · exact h.symm
          · exact absurd hd h)
        clear HR hd HI
        go_wp2_with (first
          | (go_at_call 89; (with_reducible refine (HId.out _).mono ?_); rintro e w1 ⟨rfl, rfl⟩)
          | (fail "no arm"))
        go_ret2
        exact ⟨fun t ht => (by rw [HF.out] at ht; cases ht; rfl), fun h => (by rw [HF.out] at h; cases h), HB.out⟩
      | succ m =>
        have HD := Lib.hid hd
        have HOd := HO.out (d + 1)
        have HN := Lib.hid (show ∀ (m' : Nat) (x z : Int), x = d + 1 → z = (m' : Nat) → (m' = m ∧ openB cs (d + 1) = true ∨ m' = m + 1 ∧ openB cs (d + 1) = false) → ∀ W, Below w.heap.size w W → ADRel cs 1 o w (.int .i64 x) (.int .i64 z) W from by
          rintro m' x z rfl rfl hm' W hW
          refine ⟨_, m', rfl, rfl, by omega, ?_, hW⟩
          have ho : addN cs 1 (m + 1) d = o := by
            rcases HR.out with ⟨-, h⟩ | ⟨h, -⟩
            · exact h
            · exact absurd hd h
          rcases hm' with ⟨rfl, h⟩ | ⟨rfl, h⟩
          · exact Or.inl ⟨ref6.openB_day h, by rw [← ho, add_open (by omega) _ h]⟩
          · by_cases hx : IsDay (d + 1)
            · exact Or.inl ⟨hx, by rw [← ho, add_shut (by omega) _ hx h]⟩
            · exact Or.inr ⟨hx, by rw [← ho, add_off _ hx]⟩)
        have q1 : decide ((0 : Int) < ((m + 1 : Nat) : Int)) = true := by simp only [decide_eq_true_eq]; omega
        have hdd : 0 ≤ d ∧ d ≤ 109572 := hd
        cases hob : openB cs (d + 1)
        · rw [hob] at HOd HN
          have HOd := Lib.hid HOd
          clear HO HR hd hob HI
          go_wp2_with (first
            | (go_at_call 89; (with_reducible refine (HId.out _).mono ?_); rintro e w1 ⟨rfl, rfl⟩)
            | (go_at_call 50; (with_reducible refine (HOd.out _ HB.out).mono ?_); rintro e w2 ⟨rfl, hb2⟩
               have HB2 := Lib.hid (HB.out.trans (hb2.mono HB.out.size)); clear hb2)
            | (fail "no arm"))
          go_roundw
          case rel => refine HN.out (m + 1) _ _ ?_ ?_ (Or.inr ⟨rfl, by trivial⟩) _ HB2.out <;> omega
          case measure => simp [intOf]; omega
        · rw [hob] at HOd HN
          have HOd := Lib.hid HOd
          clear HO HR hd hob HI
          go_wp2_with (first
            | (go_at_call 89; (with_reducible refine (HId.out _).mono ?_); rintro e w1 ⟨rfl, rfl⟩)
            | (go_at_call 50; (with_reducible refine (HOd.out _ HB.out).mono ?_); rintro e w2 ⟨rfl, hb2⟩
               have HB2 := Lib.hid (HB.out.trans (hb2.mono HB.out.size)); clear hb2)
            | (fail "no arm"))
          go_roundw
          case rel => refine HN.out m _ _ ?_ ?_ (Or.inl ⟨rfl, by trivial⟩) _ HB2.out <;> omega
          case measure => simp [intOf]; omega
    · have HId := HI.out d
      rw [decide_eq_false hd] at HId
      have HId := Lib.hid HId
      have HF := Lib.hid (show o = none from by
        rcases HR.out with ⟨h, -⟩ | ⟨-, h⟩
        · exact absurd h hd
        · exact h)
      clear HR hd HI
      cases m with
      | zero =>
        go_wp2_with (first
          | (go_at_call 89; (with_reducible refine (HId.out _).mono ?_); rintro e w1 ⟨rfl, rfl⟩)
          | (go_at_call 71; (with_reducible refine (HE.out _).mono ?_); rintro e w9 ⟨rfl, rfl⟩)
          | (fail "no arm"))
        go_ret2
        exact ⟨fun t ht => (by rw [HF.out] at ht; cases ht), fun h => rfl, HB.out⟩
      | succ m =>
        go_wp2_with (first
          | (go_at_call 89; (with_reducible refine (HId.out _).mono ?_); rintro e w1 ⟨rfl, rfl⟩)
          | (go_at_call 71; (with_reducible refine (HE.out _).mono ?_); rintro e w9 ⟨rfl, rfl⟩)
          | (fail "no arm"))
        go_ret2
        exact ⟨fun t ht => (by rw [HF.out] at ht; cases ht), fun h => rfl, HB.out⟩
set_option maxRecDepth 100000 in
set_option maxHeartbeats 4000000 in
theorem Add_down (v : Value) (cs : List CalT) (D : Int) (K : Nat) (o : Option Int) (hD : IsDay D ∧ addN cs (-1) K D = o ∨ ¬ IsDay D ∧ o = none) (hK : K ≤ 1000) (hK0 : 1 ≤ K) (w : World) (hc : CalIs w v cs) :
    Calls Tryz.prog 52 #[v, .int .i64 D, .int .i64 (-(K : Nat))] w fun e w' => AddEnd o w e w' := by
  have HI := Lib.hid (fun (x : Int) W => isDay_any x W)
  have HO := Lib.hid (fun (x : Int) W (hb : Below w.heap.size w W) => Open_any v cs x W (hc.keep hb))
  have HE := Lib.hid (fun W => OfE 4 rfl W)
  have HS := Lib.hid (show ADRel cs (-1) o w (.int .i64 D) (.int .i64 (K : Nat)) w from ⟨D, K, rfl, rfl, hK, hD, Below.refl _ _⟩)
  have k1 : decide ((1000 : Int) < (K : Int)) = false := by simp only [decide_eq_false_iff_not]; omega
  have k2 : decide ((K : Int) < 0) = false := by simp only [decide_eq_false_iff_not]; omega
  have k4 : decide ((1000 : Int) < -(K : Int)) = false := by simp only [decide_eq_false_iff_not]; omega
  have k3 : decide (0 < K) = true := decide_eq_true (by omega)
  clear hD hc
  go_enter Tryz.func52, Tryz.ntmps52
  go_wp2
  go_loopw [1, 2] (fun dv nv wr => ADRel cs (-1) o w dv nv wr) (fun dv _ _ => (intOf dv + 1).toNat)
  case atStart => exact HS.out
  case round =>
    obtain ⟨d, m, rfl, rfl, hm, hr, hb⟩ := hrel
    have HB := Lib.hid hb
    clear hb HS
    have HR := Lib.hid hr
    clear hr
    by_cases hd : IsDay d
    · have HId := HI.out d
      rw [decide_eq_true hd] at HId
      have HId := Lib.hid HId
      cases m with
      | zero =>
        have HF := Lib.hid (show o = some d from by
          rcases HR.out with ⟨-, h⟩ | ⟨h, -⟩
          · exact h.symm
          · exact absurd hd h)
        clear HR hd HI
        go_wp2_with (first
          | (go_at_call 89; (with_reducible refine (HId.out _).mono ?_); rintro e w1 ⟨rfl, rfl⟩)
          | (fail "no arm"))
        go_ret2
        exact ⟨fun t ht => (by rw [HF.out] at ht; cases ht; rfl), fun h => (by rw [HF.out] at h; cases h), HB.out⟩
      | succ m =>
        have HD := Lib.hid hd
        have HOd := HO.out (d + (-1))
        have HN := Lib.hid (show ∀ (m' : Nat) (x z : Int), x = d + (-1) → z = (m' : Nat) → (m' = m ∧ openB cs (d + (-1)) = true ∨ m' = m + 1 ∧ openB cs (d + (-1)) = false) → ∀ W, Below w.heap.size w W → ADRel cs (-1) o w (.int .i64 x) (.int .i64 z) W from by
          rintro m' x z rfl rfl hm' W hW
          refine ⟨_, m', rfl, rfl, by omega, ?_, hW⟩
          have ho : addN cs (-1) (m + 1) d = o := by
            rcases HR.out with ⟨-, h⟩ | ⟨h, -⟩
            · exact h
            · exact absurd hd h
          rcases hm' with ⟨rfl, h⟩ | ⟨rfl, h⟩
          · exact Or.inl ⟨ref6.openB_day h, by rw [← ho, add_open (by omega) _ h]⟩
          · by_cases hx : IsDay (d + (-1))
            · exact Or.inl ⟨hx, by rw [← ho, add_shut (by omega) _ hx h]⟩
            · exact Or.inr ⟨hx, by rw [← ho, add_off _ hx]⟩)
        have q1 : decide ((0 : Int) < ((m + 1 : Nat) : Int)) = true := by simp only [decide_eq_true_eq]; omega
        have hdd : 0 ≤ d ∧ d ≤ 109572 := hd
        cases hob : openB cs (d + (-1))
        · rw [hob] at HOd HN
          have HOd := Lib.hid HOd
          clear HO HR hd hob HI
          go_wp2_with (first
            | (go_at_call 89; (with_reducible refine (HId.out _).mono ?_); rintro e w1 ⟨rfl, rfl⟩)
            | (go_at_call 50; (with_reducible refine (HOd.out _ HB.out).mono ?_); rintro e w2 ⟨rfl, hb2⟩
               have HB2 := Lib.hid (HB.out.trans (hb2.mono HB.out.size)); clear hb2)
            | (fail "no arm"))
          go_roundw
          case rel => refine HN.out (m + 1) _ _ ?_ ?_ (Or.inr ⟨rfl, by trivial⟩) _ HB2.out <;> omega
          case measure => simp [intOf]; omega
        · rw [hob] at HOd HN
          have HOd := Lib.hid HOd
          clear HO HR hd hob HI
          go_wp2_with (first
            | (go_at_call 89; (with_reducible refine (HId.out _).mono ?_); rintro e w1 ⟨rfl, rfl⟩)
            | (go_at_call 50; (with_reducible refine (HOd.out _ HB.out).mono ?_); rintro e w2 ⟨rfl, hb2⟩
               have HB2 := Lib.hid (HB.out.trans (hb2.mono HB.out.size)); clear hb2)
            | (fail "no arm"))
          go_roundw
          case rel => refine HN.out m _ _ ?_ ?_ (Or.inl ⟨rfl, by trivial⟩) _ HB2.out <;> omega
          case measure => simp [intOf]; omega
    · have HId := HI.out d
      rw [decide_eq_false hd] at HId
      have HId := Lib.hid HId
      have HF := Lib.hid (show o = none from by
        rcases HR.out with ⟨h, -⟩ | ⟨-, h⟩
        · exact absurd h hd
        · exact h)
      clear HR hd HI
      cases m with
      | zero =>
        go_wp2_with (first
          | (go_at_call 89; (with_reducible refine (HId.out _).mono ?_); rintro e w1 ⟨rfl, rfl⟩)
          | (go_at_call 71; (with_reducible refine (HE.out _).mono ?_); rintro e w9 ⟨rfl, rfl⟩)
          | (fail "no arm"))
        go_ret2
        exact ⟨fun t ht => (by rw [HF.out] at ht; cases ht), fun h => rfl, HB.out⟩
      | succ m =>
        go_wp2_with (first
          | (go_at_call 89; (with_reducible refine (HId.out _).mono ?_); rintro e w1 ⟨rfl, rfl⟩)
          | (go_at_call 71; (with_reducible refine (HE.out _).mono ?_); rintro e w9 ⟨rfl, rfl⟩)
          | (fail "no arm"))
        go_ret2
        exact ⟨fun t ht => (by rw [HF.out] at ht; cases ht), fun h => rfl, HB.out⟩
set_option maxRecDepth 100000 in
set_option maxHeartbeats 4000000 in
theorem Add_far (v : Value) (D k : Int) (hk : decide (k < -1000) = true ∨ decide (k < -1000) = false ∧ decide (1000 < k) = true) (w : World) :
    Calls Tryz.prog 52 #[v, .int .i64 D, .int .i64 k] w fun e w' => e = .returned (.tuple #[.int .i64 0, .iface 128 (.int .i64 2)]) ∧ Below w.heap.size w w' := by
  have HE := Lib.hid (fun W => OfE 2 rfl W)
  rcases hk with h | ⟨h, h2⟩
  · go_enter Tryz.func52, Tryz.ntmps52
    go_wp2_with (first
      | (go_at_call 71; (with_reducible refine (HE.out _).mono ?_); rintro e w9 ⟨rfl, rfl⟩)
      | (fail "no arm"))
    go_ret2
    exact ⟨rfl, Below.refl _ _⟩
  · go_enter Tryz.func52, Tryz.ntmps52
    go_wp2_with (first
      | (go_at_call 71; (with_reducible refine (HE.out _).mono ?_); rintro e w9 ⟨rfl, rfl⟩)
      | (fail "no arm"))
    go_ret2
    exact ⟨rfl, Below.refl _ _⟩
theorem cnt_clip (cs : List CalT) (a b : Int) : cntO cs (max a 0) (min b 109573) = cntO cs a b := by
  have off : ∀ x, x < 0 ∨ 109573 ≤ x → openB cs x = false := fun x hx => by
    cases ho : openB cs x
    · rfl
    · have := ref6.openB_day ho
      obtain ⟨h1, h2⟩ := this
      omega
  by_cases h : min b 109573 ≤ max a 0
  · rw [ref6.cnt_empty cs h]
    exact (ref6.cnt_zero cs fun x h1 h2 => off x (by omega)).symm
  · rw [ref6.cnt_split cs (show a ≤ max a 0 by omega) (show max a 0 ≤ b by omega), ref6.cnt_split cs (show max a 0 ≤ min b 109573 by omega) (show min b 109573 ≤ b by omega),
      ref6.cnt_zero cs (a := a) (b := max a 0) (fun x h1 h2 => off x (by omega)), ref6.cnt_zero cs (a := min b 109573) (b := b) (fun x h1 h2 => off x (by omega))]
    omega
def CTRel (cs : List CalT) (M N : Int) (w : World) (nv dv : Value) (wr : World) : Prop :=
  ∃ d n : Int, dv = .int .i64 d ∧ nv = .int .i64 n ∧ (n = cntO cs M d ∧ 0 ≤ n ∧ n ≤ d - M) ∧ M ≤ d ∧ (d ≤ N ∨ d = M) ∧ Below w.heap.size w wr
set_option maxRecDepth 100000 in
set_option maxHeartbeats 4000000 in
theorem Count_any (v : Value) (cs : List CalT) (a b : Int) (a1 : -1000000000 ≤ a) (a2 : a ≤ 1000000000) (b1 : -1000000000 ≤ b) (b2 : b ≤ 1000000000) (w : World) (hc : CalIs w v cs) :
    Calls Tryz.prog 54 #[v, .int .i64 a, .int .i64 b] w fun e w' => e = .returned (.int .i64 (cntO cs a b)) ∧ Below w.heap.size w w' := by
  have HO := Lib.hid (fun (x : Int) W (hb : Below w.heap.size w W) => Open_any v cs x W (hc.keep hb))
  have HC := Lib.hid (cnt_clip cs a b)
  obtain ⟨M, hM⟩ : ∃ M, max a 0 = M := ⟨_, rfl⟩
  obtain ⟨N, hN⟩ : ∃ N, min b 109573 = N := ⟨_, rfl⟩
  rw [hM, hN] at HC
  have M1 : 0 ≤ M ∧ M ≤ 1000000000 := by omega
  have N1 : -1000000000 ≤ N ∧ N ≤ 109573 := by omega
  obtain ⟨M1, M2⟩ := M1
  obtain ⟨N1, N2⟩ := N1
  have wM : IntKind.i64.wrap M = M := by rw [IntKind.wrap_i64]; omega
  have wN : IntKind.i64.wrap N = N := by rw [IntKind.wrap_i64]; omega
  have HS := Lib.hid (show CTRel cs M N w (.int .i64 0) (.int .i64 M) w from ⟨M, 0, rfl, rfl, ⟨(ref6.cnt_empty cs (Int.le_refl _)).symm, Int.le_refl _, by omega⟩, Int.le_refl _, Or.inr rfl, Below.refl _ _⟩)
  generalize cntO cs a b = C at *
  clear hc
  go_enter Tryz.func54, Tryz.ntmps54
  go_wp2
  go_loopw [7, 8] (fun nv dv wr => CTRel cs M N w nv dv wr) (fun _ dv _ => (N - intOf dv).toNat)
  case atStart => exact HS.out
  case round =>
    obtain ⟨d, n, rfl, rfl, ⟨hn, n0, n1⟩, hd, hdn, hb⟩ := hrel
    have HB := Lib.hid hb
    have HNn := Lib.hid hn
    clear hb HS hn
    by_cases hlt : d < N
    · have HOd := HO.out d
      have HL := Lib.hid (ref6.cnt_last cs hd)
      have hd5 : d ≤ 109572 := by omega
      have hd6 : 0 ≤ d := by omega
      have hn6 : n ≤ 109572 := by omega
      cases hob : openB cs d
      · rw [hob] at HOd HL
        have HOd := Lib.hid HOd
        clear HO hob
        go_wp2_with (first
          | (go_at_call 50; (with_reducible refine (HOd.out _ HB.out).mono ?_); rintro e w2 ⟨rfl, hb2⟩
             have HB2 := Lib.hid (HB.out.trans (hb2.mono HB.out.size)); clear hb2)
          | (fail "no arm"))
        go_roundw
        case rel => exact ⟨d + 1, n, rfl, rfl, ⟨by rw [HL.out, HNn.out]; simp, n0, by omega⟩, by omega, Or.inl (by omega), HB2.out⟩
        case measure => simp [intOf]; omega
      · rw [hob] at HOd HL
        have HOd := Lib.hid HOd
        clear HO hob
        go_wp2_with (first
          | (go_at_call 50; (with_reducible refine (HOd.out _ HB.out).mono ?_); rintro e w2 ⟨rfl, hb2⟩
             have HB2 := Lib.hid (HB.out.trans (hb2.mono HB.out.size)); clear hb2)
          | (fail "no arm"))
        go_roundw
        case rel => exact ⟨d + 1, n + 1, rfl, rfl, ⟨by rw [HL.out, HNn.out]; simp, by omega, by omega⟩, by omega, Or.inl (by omega), HB2.out⟩
        case measure => simp [intOf]; omega
    · have HF := Lib.hid (show n = C from by
        rw [← HC.out, HNn.out]
        rcases hdn with h | h
        · rw [show d = N by omega]
        · rw [ref6.cnt_empty cs (show N ≤ M by omega), ref6.cnt_empty cs (show d ≤ M by omega)])
      clear HO HNn
      go_wp2
      go_ret
      exact ⟨congrArg (fun z => Ending.returned (Value.int .i64 z)) HF.out, HB.out⟩
end Go.Proofs.YtlhmfgbaefaneaaGreatDoor.cal
namespace Go.Proofs.YtlhmfgbaefaneaaGreatDoor.cal
open Go Go.RowKit Go.Proofs.YtlhmfgbaefaneaaGreatDoor.day Go.Proofs.YtlhmfgbaefaneaaGreatDoor.date Go.Proofs.YtlhmfgbaefaneaaGreatDoor.law6
open Go.Proofs.YtlhmfgbaefaneaaGreatDoor.ref6 (CalT openB Rule May holiday RAt quiet_same drewN_below6)
def Bits (L L' : List Nat) (p : Int → Prop) : Prop := ∀ D : Nat, D ≤ 109572 → (bitN L' D = true ↔ bitN L D = true ∨ p (D : Int))
theorem Bits.none {L : List Nat} {p : Int → Prop} (h : ∀ D, ¬ p D) : Bits L L p := fun _ _ => ⟨Or.inl, fun h' => h'.elim id fun h2 => absurd h2 (h _)⟩
theorem Bits.same {L L' : List Nat} {p q : Int → Prop} (h : Bits L L' p) (e : ∀ D, q D ↔ p D) : Bits L L' q := fun D hD => by rw [h D hD, e]
theorem Bits.add {L L' : List Nat} {p q : Int → Prop} {n : Nat} (h : Bits L L' p) (hl : L'.length = 1713) (hn : n ≤ 109572) (e : ∀ D, q D ↔ p D ∨ D = (n : Int)) : Bits L (setBit L' n) q := fun D hD => by
  rw [bit_set (by omega), Bool.or_eq_true, h D hD, e, decide_eq_true_eq, or_assoc]
  have : D = n ↔ (D : Int) = (n : Int) := by omega
  rw [this]
theorem Bits.trans {L L1 L2 : List Nat} {p q : Int → Prop} (h : Bits L L1 p) (k : Bits L1 L2 q) : Bits L L2 (fun D => p D ∨ q D) := fun D hD => by rw [k D hD, h D hD, or_assoc]
def YRel (g : Nat) (L : List Nat) (r : Rule) (w : World) (yv : Value) (wr : World) : Prop :=
  ∃ (y : Int) (L' : List Nat), yv = .int .i64 y ∧ (1900 ≤ y ∧ y ≤ 2200) ∧ CRow wr g L' ∧ Bits L L' (ruleShut r y) ∧ RAt wr w.heap.size r.kind r.month r.day r.n r.wd r.shift ∧ w.grownBy wr (some g)
set_option maxRecDepth 100000 in
set_option maxHeartbeats 4000000 in
theorem closeBy_at (g : Nat) (L : List Nat) (r : Rule) (w0 w : World) (hw0 : Wd w0) (hb0 : Below w0.heap.size w0 w) (hg : w0.heap.size ≤ g) (hr : CRow w g L) :
    Calls Tryz.prog 88 #[.pointer (some ⟨g, 0, none⟩), .agg #[.int .i64 r.kind, .int .i64 r.month, .int .i64 r.day, .int .i64 r.n, .int .i64 r.wd, .bool r.shift]] w fun e w' =>
      e = .returned (.tuple #[]) ∧ (∃ L', CRow w' g L' ∧ Bits L L' (ruleShut r 2200)) ∧ w.grownBy w' (some g) := by
  have HD := Lib.hid (fun (y : Int) W (hb : Below w0.heap.size w0 W) => holi.Day_any r.kind r.month r.day r.n r.wd r.shift y W (hw0.keep hb))
  have HC := Lib.hid (fun (n : Nat) (hn : n ≤ 109572) W L (h : CRow W g L) => closeOn_at g L n hn W h)
  have HG := Lib.hid (fun W (h : w.grownBy W (some g)) => nat.below_grown hb0 h hb0.size hg)
  have hlt := Lib.hid hr.lt
  have HS := Lib.hid (show YRel g L r w (.int .i64 1900) (w.alloc (.cells #[.int .i64 r.kind, .int .i64 r.month, .int .i64 r.day, .int .i64 r.n, .int .i64 r.wd, .bool r.shift] 60)) from
    ⟨1900, L, rfl, by omega, hr.keep ((Below.refl _ _).alloc (Nat.le_refl _) _), Bits.none fun D => ruleShut_none, RAt.new _ _ _ _ _ _ _, nat.grown_of_below ((Below.refl _ _).alloc (Nat.le_refl _) _) _⟩)
  clear hr hw0 hb0
  go_enter Tryz.func88, Tryz.ntmps88
  go_wp2
  go_loopw [4] (fun yv wr => YRel g L r w yv wr) (fun yv _ => (2200 - intOf yv).toNat)
  case atStart => exact HS.out
  case round =>
    obtain ⟨y, L', rfl, ⟨y1, y2⟩, hc, hbits, hra, hgr⟩ := hrel
    have HR := Lib.hid hc
    have HBt := Lib.hid hbits
    have HGr := Lib.hid hgr
    have HRA := Lib.hid hra
    clear hc hbits hgr HS
    by_cases hy : y ≤ 2199
    · obtain ⟨c0, c1, c2, c3, c4, c5⟩ := hra.at
      clear hra
      have HDy := Lib.hid (HD.out y wr (HG.out _ HGr.out))
      clear HD
      obtain ⟨o, ho⟩ : ∃ o, holiday r.kind r.month r.day r.n r.wd r.shift y = o := ⟨_, rfl⟩
      have HN := Lib.hid (fun D => ruleShut_next (r := r) (y := y) (D := D))
      rw [ho] at HDy HN
      rcases o with _ | z
      · go_wp2_with (first
          | (go_at_call 118; (with_reducible refine (HDy.out).mono ?_); rintro e w1 ⟨-, he, hb⟩
             obtain rfl := he rfl
             have HB1 := Lib.hid hb
             clear hb he c0 c1 c2 c3 c4 c5)
          | (fail "no arm"))
        go_roundw
        case rel => exact ⟨y + 1, L', rfl, ⟨by omega, by omega⟩, HR.out.keep HB1.out, HBt.out.same (fun D => by rw [HN.out]; simp), HRA.out.below HB1.out, nat.grown_trans HGr.out (nat.grown_of_below HB1.out _)⟩
        case measure => simp [intOf]; omega
      · obtain ⟨hz1, hz2⟩ := (hol_parts ho).2.2.2
        clear ho
        obtain ⟨n, rfl⟩ : ∃ n : Nat, z = (n : Nat) := ⟨z.toNat, by omega⟩
        have HCn := Lib.hid (HC.out n (by omega))
        have hn := Lib.hid (show n ≤ 109572 by omega)
        clear HC hz1 hz2
        go_wp2_with (first
          | (go_at_call 118; (with_reducible refine (HDy.out).mono ?_); rintro e w1 ⟨he, -, hb⟩
             obtain rfl := he _ rfl
             have HB1 := Lib.hid hb
             have HR1 := Lib.hid (HR.out.keep hb)
             clear hb he c0 c1 c2 c3 c4 c5)
          | (go_at_call 90; (with_reducible refine (HCn.out _ _ HR1.out).mono ?_); rintro e w2 ⟨rfl, hr2, hg2⟩
             have HR2 := Lib.hid hr2
             have HG2 := Lib.hid hg2
             clear hr2 hg2)
          | (fail "no arm"))
        go_roundw
        case rel => exact ⟨y + 1, setBit L' n, rfl, ⟨by omega, by omega⟩, HR2.out, HBt.out.add HR.out.1 hn.out (fun D => by rw [HN.out]; simp [eq_comm]), (HRA.out.below HB1.out).grown HG2.out (by have := hlt.out; simp; omega), nat.grown_trans (nat.grown_trans HGr.out (nat.grown_of_below HB1.out _)) HG2.out⟩
        case measure => simp [intOf]; omega
    · have hy3 : y = 2200 := by omega
      subst hy3
      go_wp2
      go_end0
      exact ⟨rfl, ⟨L', HR.out, HBt.out⟩, HGr.out⟩
end Go.Proofs.YtlhmfgbaefaneaaGreatDoor.cal
namespace Go.Proofs.YtlhmfgbaefaneaaGreatDoor.cal
open Go Go.RowKit Go.Proofs.YtlhmfgbaefaneaaGreatDoor.day Go.Proofs.YtlhmfgbaefaneaaGreatDoor.date Go.Proofs.YtlhmfgbaefaneaaGreatDoor.law6
open Go.Proofs.YtlhmfgbaefaneaaGreatDoor.ref6 (CalT openB Rule May holiday RAt quiet_same drewN_below6)
def zeros : List Nat := List.replicate 1713 0
theorem zero_cells : Tryz.zeroCells107 = (zeros.map fun d => Value.int .u64 (d : Nat)).toArray := by kernel_rfl
theorem zero_row (w : World) : CRow (w.alloc (.cells Tryz.zeroCells107 107)) w.heap.size zeros := by
  refine ⟨by unfold zeros; rw [List.length_replicate], fun x hx => ?_, ?_⟩
  · unfold zeros at hx
    rw [(List.mem_replicate.1 hx).2]
    decide
  · rw [← zero_cells]
    exact heap_alloc_new _ _
theorem zero_bit (D : Nat) : bitN zeros D = false := bit_zero _ _
def rulesTo (rs : List Rule) (k : Nat) (D : Int) : Prop := ∃ (j : Nat) (r : Rule), j < k ∧ rs[j]? = some r ∧ ruleShut r 2200 D
def moreTo (ms : List Int) (k : Nat) (D : Int) : Prop := ∃ j : Nat, j < k ∧ ms[j]? = some D
theorem rulesTo_next {rs : List Rule} {k : Nat} {r : Rule} (h : rs[k]? = some r) (D : Int) : rulesTo rs (k + 1) D ↔ rulesTo rs k D ∨ ruleShut r 2200 D := by
  constructor
  · rintro ⟨j, q, hj, hq, hs⟩
    rcases (show j < k ∨ j = k by omega) with h1 | rfl
    · exact Or.inl ⟨j, q, h1, hq, hs⟩
    · rw [h] at hq; cases hq; exact Or.inr hs
  · rintro (⟨j, q, hj, hq, hs⟩ | hs)
    · exact ⟨j, q, by omega, hq, hs⟩
    · exact ⟨k, r, by omega, h, hs⟩
theorem moreTo_next {ms : List Int} {k : Nat} {z : Int} (h : ms[k]? = some z) (D : Int) : moreTo ms (k + 1) D ↔ moreTo ms k D ∨ D = z := by
  constructor
  · rintro ⟨j, hj, hq⟩
    rcases (show j < k ∨ j = k by omega) with h1 | rfl
    · exact Or.inl ⟨j, h1, hq⟩
    · rw [h] at hq; cases hq; exact Or.inr rfl
  · rintro (⟨j, hj, hq⟩ | rfl)
    · exact ⟨j, by omega, hq⟩
    · exact ⟨k, by omega, h⟩
theorem shut_one (rs : List Rule) (ms : List Int) (D : Int) : shut [⟨rs, ms⟩] D ↔ rulesTo rs rs.length D ∨ moreTo ms ms.length D := by
  unfold shut rulesShut rulesTo moreTo
  constructor
  · rintro ⟨c, hc, h⟩
    simp only [List.mem_singleton] at hc
    subst hc
    rcases h with ⟨r, hr, hs⟩ | h
    · obtain ⟨j, hj⟩ := List.mem_iff_getElem?.1 hr
      exact Or.inl ⟨j, r, (List.getElem?_eq_some_iff.1 hj).1, hj, hs⟩
    · obtain ⟨j, hj⟩ := List.mem_iff_getElem?.1 h
      exact Or.inr ⟨j, (List.getElem?_eq_some_iff.1 hj).1, hj⟩
  · rintro (⟨j, r, -, hj, hs⟩ | ⟨j, -, hj⟩)
    · exact ⟨_, List.mem_singleton.2 rfl, Or.inl ⟨r, List.mem_of_getElem? hj, hs⟩⟩
    · exact ⟨_, List.mem_singleton.2 rfl, Or.inr (List.mem_of_getElem? hj)⟩
theorem code_far {rs : List Rule} {ms : List Int} (h : 20 < rs.length ∨ 100 < ms.length) : newCode rs ms = 2 := if_pos h
theorem code_rule {rs : List Rule} {ms : List Int} (h1 : ¬ (20 < rs.length ∨ 100 < ms.length)) {k : Nat} {r : Rule} (h : rs[k]? = some r) (hm : ¬ May r) : newCode rs ms = 1 := by
  unfold newCode
  rw [if_neg h1, if_pos]
  rw [List.all_eq_false]
  exact ⟨r, List.mem_of_getElem? h, by simpa using hm⟩
theorem code_day {rs : List Rule} {ms : List Int} (h1 : ¬ (20 < rs.length ∨ 100 < ms.length)) (hr : ∀ (j : Nat) (r : Rule), rs[j]? = some r → May r) {k : Nat} {z : Int} (h : ms[k]? = some z) (hm : ¬ IsDay z) : newCode rs ms = 4 := by
  unfold newCode
  rw [if_neg h1, if_neg, if_pos]
  · rw [List.all_eq_false]
    exact ⟨z, List.mem_of_getElem? h, by simpa using hm⟩
  · rw [Bool.not_eq_false, List.all_eq_true]
    intro r hr'
    obtain ⟨j, hj⟩ := List.mem_iff_getElem?.1 hr'
    exact decide_eq_true (hr j r hj)
theorem code_ok {rs : List Rule} {ms : List Int} (h1 : ¬ (20 < rs.length ∨ 100 < ms.length)) (hr : ∀ (j : Nat) (r : Rule), rs[j]? = some r → May r) (hd : ∀ (j : Nat) (z : Int), ms[j]? = some z → IsDay z) : newCode rs ms = 0 := by
  unfold newCode
  rw [if_neg h1, if_neg, if_neg]
  · rw [Bool.not_eq_false, List.all_eq_true]
    intro z hz
    obtain ⟨j, hj⟩ := List.mem_iff_getElem?.1 hz
    exact decide_eq_true (hd j z hj)
  · rw [Bool.not_eq_false, List.all_eq_true]
    intro r hr'
    obtain ⟨j, hj⟩ := List.mem_iff_getElem?.1 hr'
    exact decide_eq_true (hr j r hj)
def NewEnd (rs : List Rule) (ms : List Int) (w : World) (e : Ending) (w' : World) : Prop :=
  (newCode rs ms = 0 → ∃ ad, e = .returned (.tuple #[.pointer (some ad), .nilIface]) ∧ CalIs w' (.pointer (some ad)) [⟨rs, ms⟩]) ∧
  (newCode rs ms ≠ 0 → e = .returned (.tuple #[.pointer none, errOf (newCode rs ms)])) ∧ Below w.heap.size w w'
theorem NewEnd.bad {rs : List Rule} {ms : List Int} {w w' : World} {c : Int} (h : newCode rs ms = c) (hc : c ≠ 0) (hb : Below w.heap.size w w') : NewEnd rs ms w (.returned (.tuple #[.pointer none, .iface 128 (.int .i64 c)])) w' :=
  ⟨fun h0 => absurd (h.symm.trans h0) hc, fun _ => by rw [h]; rfl, hb⟩
theorem NewEnd.ok {rs : List Rule} {ms : List Int} {w w' : World} {L : List Nat} (h : newCode rs ms = 0) (hr : CRow w' w.heap.size L) (hL : Bits zeros L (fun D => rulesTo rs rs.length D ∨ moreTo ms ms.length D)) (hb : Below w.heap.size w w') : NewEnd rs ms w (.returned (.tuple #[.pointer (some ⟨w.heap.size, 0, none⟩), .nilIface])) w' :=
  ⟨fun _ => ⟨_, rfl, Or.inr ⟨_, L, rfl, hr, fun D hD => by rw [hL D hD, zero_bit, shut_one]; simp⟩⟩, fun h0 => absurd h h0, hb⟩
def NRel (rs : List Rule) (w : World) (kv : Value) (wr : World) : Prop :=
  ∃ (k : Nat) (L : List Nat), kv = .int .i64 (k : Nat) ∧ k ≤ rs.length ∧ CRow wr w.heap.size L ∧ Bits zeros L (rulesTo rs k) ∧ (∀ (j : Nat) (r : Rule), j < k → rs[j]? = some r → May r) ∧ Below w.heap.size w wr
def NRel2 (rs : List Rule) (ms : List Int) (w : World) (kv : Value) (wr : World) : Prop :=
  ∃ (k : Nat) (L : List Nat), kv = .int .i64 (k : Nat) ∧ k ≤ ms.length ∧ CRow wr w.heap.size L ∧ Bits zeros L (fun D => rulesTo rs rs.length D ∨ moreTo ms k D) ∧ (∀ (j : Nat) (z : Int), j < k → ms[j]? = some z → IsDay z) ∧ Below w.heap.size w wr
set_option maxRecDepth 100000 in
set_option maxHeartbeats 4000000 in
theorem New_far (rv mv : Value) (rs : List Rule) (ms : List Int) (w : World) (hR : RulesO w rv rs) (hM : IntsO w mv ms) (h : 20 < rs.length ∨ 100 < ms.length) :
    Calls Tryz.prog 44 #[rv, mv] w fun e w' => NewEnd rs ms w e w' := by
  have HE := Lib.hid (fun W => OfE 2 rfl W)
  have HX := Lib.hid (fun W => NewEnd.bad (w := w) (w' := W) (code_far h) (by decide))
  obtain ⟨ra, rc, rfl, hl1, -⟩ := hR
  obtain ⟨ma, mc, rfl, hl2, -⟩ := hM
  generalize rs.length = N at *
  generalize ms.length = M at *
  rcases (show decide ((20 : Int) < (N : Int)) = true ∨ decide ((20 : Int) < (N : Int)) = false ∧ decide ((100 : Int) < (M : Int)) = true by simp only [decide_eq_true_eq, decide_eq_false_iff_not]; omega) with h1 | ⟨h1, h2⟩
  all_goals
    clear h
    go_enter Tryz.func44, Tryz.ntmps44
    go_wp2_with (first
      | (go_at_call 71; (with_reducible refine (HE.out _).mono ?_); rintro e w9 ⟨rfl, rfl⟩)
      | (fail "no arm"))
    go_ret2
    exact HX.out _ (Below.refl _ _)
set_option maxRecDepth 100000 in
set_option maxHeartbeats 4000000 in
theorem New_near (rv mv : Value) (rs : List Rule) (ms : List Int) (w : World) (hw : Wd w) (hR : RulesO w rv rs) (hM : IntsO w mv ms) (h : ¬ (20 < rs.length ∨ 100 < ms.length)) :
    Calls Tryz.prog 44 #[rv, mv] w fun e w' => NewEnd rs ms w e w' := by
  have HE1 := Lib.hid (fun W => OfE 1 rfl W)
  have HE4 := Lib.hid (fun W => OfE 4 rfl W)
  have HRI := Lib.hid (fun W (hb : Below w.heap.size w W) => hR.below hb)
  have HMI := Lib.hid (fun W (hb : Below w.heap.size w W) => hM.below hb)
  have HX1 := Lib.hid (fun (k : Nat) (r : Rule) (hk : rs[k]? = some r) (hm : ¬ May r) W => NewEnd.bad (w := w) (w' := W) (code_rule h hk hm) (by decide))
  have HX4 := Lib.hid (fun (hr : ∀ (j : Nat) (r : Rule), rs[j]? = some r → May r) (k : Nat) (z : Int) (hk : ms[k]? = some z) (hm : ¬ IsDay z) W => NewEnd.bad (w := w) (w' := W) (code_day h hr hk hm) (by decide))
  have HX0 := Lib.hid (fun (hr : ∀ (j : Nat) (r : Rule), rs[j]? = some r → May r) (hd : ∀ (j : Nat) (z : Int), ms[j]? = some z → IsDay z) W L => NewEnd.ok (w := w) (w' := W) (L := L) (code_ok h hr hd))
  have HMay := Lib.hid (fun (r : Rule) W (hb : Below w.heap.size w W) => holi.May_any r.kind r.month r.day r.n r.wd r.shift W (hw.keep hb))
  have HBy := Lib.hid (fun (r : Rule) W L (hb : Below w.heap.size w W) (hr : CRow W w.heap.size L) => closeBy_at w.heap.size L r w W hw hb (Nat.le_refl _) hr)
  have HOn := Lib.hid (fun (n : Nat) (hn : n ≤ 109572) W L (h : CRow W w.heap.size L) => closeOn_at w.heap.size L n hn W h)
  have HIs := Lib.hid (fun (x : Int) W => isDay_any x W)
  obtain ⟨ra, rc, rfl, hl1, -⟩ := hR
  obtain ⟨ma, mc, rfl, hl2, -⟩ := hM
  obtain ⟨N, hN⟩ : ∃ N, rs.length = N := ⟨_, rfl⟩
  obtain ⟨M, hM⟩ : ∃ M, ms.length = M := ⟨_, rfl⟩
  have HN := Lib.hid hN
  have HM := Lib.hid hM
  rw [hN] at h hl1 ⊢
  rw [hM] at h hl2 ⊢
  have h1 : decide ((20 : Int) < (N : Int)) = false := by simp only [decide_eq_false_iff_not]; omega
  have h2 : decide ((100 : Int) < (M : Int)) = false := by simp only [decide_eq_false_iff_not]; omega
  have hN20 : N ≤ 20 := by omega
  have hM100 : M ≤ 100 := by omega
  have HS := Lib.hid (show NRel rs w (.int .i64 0) (w.alloc (.cells Tryz.zeroCells107 107)) from ⟨0, zeros, rfl, Nat.zero_le _, zero_row w, Bits.none fun D => by rintro ⟨j, r, hj, -⟩; omega, fun j r hj => by omega, (Below.refl _ _).alloc (Nat.le_refl _) _⟩)
  have HB0 := Lib.hid (show Below w.heap.size w w from Below.refl _ _)
  clear h hN hM hw
  go_enter Tryz.func44, Tryz.ntmps44
  go_wp2
  go_loopw [23] (fun kv wr => NRel rs w kv wr) (fun kv _ => (20 - intOf kv).toNat)
  case atStart => exact HS.out
  case round =>
    obtain ⟨k, L, rfl, hk, hc, hbits, hmay, hb⟩ := hrel
    rw [HN.out] at hk
    have HR := Lib.hid hc
    have HBt := Lib.hid hbits
    have HMy := Lib.hid hmay
    have HB := Lib.hid hb
    clear hc hbits hmay hb HS
    by_cases hlt : k < N
    · obtain ⟨r, hget⟩ : ∃ z, rs[k]? = some z := ⟨rs[k]'(by rw [HN.out]; exact hlt), List.getElem?_eq_getElem _⟩
      obtain ⟨ao', cap', he, -, hz⟩ := HRI.out wr HB.out
      obtain ⟨g, o, hao, hc0, hc1, hc2, hc3, hc4, hc5⟩ := hz k r hget
      obtain ⟨rfl, rfl⟩ : ra = ao' ∧ rc = cap' := by injection he with h1 h2 h3; exact ⟨h1, h3⟩
      subst hao
      have HNx := Lib.hid (fun D => rulesTo_next hget D)
      have HGet := Lib.hid hget
      have HMr := HMay.out r
      have HByr := HBy.out r
      clear he hz hget HBy HMay
      by_cases hm : May r
      · have HmR := Lib.hid hm
        rw [show decide (May ⟨r.kind, r.month, r.day, r.n, r.wd, r.shift⟩) = true from decide_eq_true hm] at HMr
        have HMr := Lib.hid HMr
        have HByr := Lib.hid HByr
        obtain ⟨kd, mo, d, n, wd, sh⟩ := r
        simp only at hc0 hc1 hc2 hc3 hc4 hc5 HMr HByr
        have HRB := Lib.hid (RAt.new wr kd mo d n wd sh)
        obtain ⟨e0, e1, e2, e3, e4, e5⟩ := HRB.out.at
        have HBa := Lib.hid ((HB.out).alloc HB.out.size (.cells #[.int .i64 kd, .int .i64 mo, .int .i64 d, .int .i64 n, .int .i64 wd, .bool sh] 60))
        have HRa := Lib.hid (HR.out.keep ((Below.refl _ _).alloc (Nat.le_refl _) (.cells #[.int .i64 kd, .int .i64 mo, .int .i64 d, .int .i64 n, .int .i64 wd, .bool sh] 60)))
        clear hm
        go_wp2_with (first
          | (go_at_call 87; (with_reducible refine (HMr.out _ HBa.out).mono ?_); rintro e w4 ⟨rfl, hb4⟩
             have HB4 := Lib.hid (HBa.out.trans (hb4.mono HBa.out.size))
             have HR4 := Lib.hid (HRa.out.keep hb4)
             obtain ⟨d0, d1, d2, d3, d4, d5⟩ := (HRB.out.below hb4).at
             clear hb4 HMr e0 e1 e2 e3 e4 e5)
          | (go_at_call 88; (with_reducible refine (HByr.out _ _ HB4.out HR4.out).mono ?_); rintro e w5 ⟨rfl, ⟨L5, hr5, hbt5⟩, hg5⟩
             have HR5 := Lib.hid hr5
             have HBt5 := Lib.hid hbt5
             have HB5 := Lib.hid (nat.below_grown HB4.out hg5 HB4.out.size (Nat.le_refl _))
             clear hr5 hbt5 hg5 HByr)
          | (fail "no arm"))
        go_roundw
        case rel => exact ⟨k + 1, L5, by go_num, by rw [HN.out]; omega, HR5.out, (HBt.out.trans HBt5.out).same (fun D => by rw [HNx.out]), fun j q hj hq => by
          rcases (show j < k ∨ j = k by omega) with h | rfl
          · exact HMy.out j q h hq
          · rw [HGet.out] at hq; cases hq; exact HmR.out, HB5.out⟩
        case measure => simp [intOf]; omega
      · have HX := Lib.hid (HX1.out k r HGet.out hm)
        rw [show decide (May ⟨r.kind, r.month, r.day, r.n, r.wd, r.shift⟩) = false from decide_eq_false hm] at HMr
        have HMr := Lib.hid HMr
        clear HByr HGet HNx
        obtain ⟨kd, mo, d, n, wd, sh⟩ := r
        simp only at hc0 hc1 hc2 hc3 hc4 hc5 HMr
        have HRB := Lib.hid (RAt.new wr kd mo d n wd sh)
        obtain ⟨e0, e1, e2, e3, e4, e5⟩ := HRB.out.at
        have HBa := Lib.hid ((HB.out).alloc HB.out.size (.cells #[.int .i64 kd, .int .i64 mo, .int .i64 d, .int .i64 n, .int .i64 wd, .bool sh] 60))
        clear hm
        go_wp2_with (first
          | (go_at_call 87; (with_reducible refine (HMr.out _ HBa.out).mono ?_); rintro e w4 ⟨rfl, hb4⟩
             have HB4 := Lib.hid (HBa.out.trans (hb4.mono HBa.out.size))
             clear hb4 HMr e0 e1 e2 e3 e4 e5)
          | (go_at_call 71; (with_reducible refine (HE1.out _).mono ?_); rintro e w9 ⟨rfl, rfl⟩)
          | (fail "no arm"))
        go_ret2
        exact HX.out _ HB4.out
    · have hkN : k = N := by omega
      subst hkN
      have HAll := Lib.hid (fun (j : Nat) (r : Rule) (hj : rs[j]? = some r) => HMy.out j r (by have := (List.getElem?_eq_some_iff.1 hj).1; rw [HN.out] at this; exact this) hj)
      have HX4 := Lib.hid (HX4.out HAll.out)
      have HX0 := Lib.hid (HX0.out HAll.out)
      have HS := Lib.hid (show NRel2 rs ms w (.int .i64 0) wr from ⟨0, L, rfl, Nat.zero_le _, HR.out, HBt.out.same (fun D => by rw [HN.out]; exact ⟨fun h => h.elim id (fun ⟨j, hj, _⟩ => absurd hj (Nat.not_lt_zero _)), Or.inl⟩), fun j r hj => by omega, HB.out⟩)
      clear HX1 HMay HBy HR HBt HB HMy HRI hlt hk
      go_wp2
      go_loopw [37] (fun kv wr => NRel2 rs ms w kv wr) (fun kv _ => (100 - intOf kv).toNat)
      case atStart => exact HS.out
      case round =>
        obtain ⟨k2, L2, rfl, hk, hc, hbits, hday, hb⟩ := hrel
        rw [HM.out] at hk
        have HR := Lib.hid hc
        have HBt := Lib.hid hbits
        have HDy := Lib.hid hday
        have HB := Lib.hid hb
        clear hc hbits hday hb HS
        by_cases hlt : k2 < M
        · obtain ⟨z, hget⟩ : ∃ z, ms[k2]? = some z := ⟨ms[k2]'(by rw [HM.out]; exact hlt), List.getElem?_eq_getElem _⟩
          obtain ⟨ao', cap', he, -, hz⟩ := HMI.out _ HB.out
          obtain ⟨z0, z1, g, o, hao, hc0⟩ := hz k2 z hget
          obtain ⟨rfl, rfl⟩ : ma = ao' ∧ mc = cap' := by injection he with h1 h2 h3; exact ⟨h1, h3⟩
          subst hao
          have HGet := Lib.hid hget
          have HIz := HIs.out z
          clear he hz
          by_cases hd : IsDay z
          · rw [decide_eq_true hd] at HIz
            have HIz := Lib.hid HIz
            obtain ⟨n, rfl⟩ : ∃ n : Nat, z = (n : Nat) := ⟨z.toNat, by have := hd.1; omega⟩
            have HNx := Lib.hid (fun D => moreTo_next hget D)
            have hn := Lib.hid (show n ≤ 109572 by have := hd.2; omega)
            have HOnn := Lib.hid (HOn.out n hn.out)
            have HdD := Lib.hid hd
            clear HOn hd hget HIs
            go_wp2_with (first
              | (go_at_call 89; (with_reducible refine (HIz.out _).mono ?_); rintro e w1 ⟨rfl, rfl⟩)
              | (go_at_call 90; (with_reducible refine (HOnn.out _ _ HR.out).mono ?_); rintro e w5 ⟨rfl, hr5, hg5⟩
                 have HR5 := Lib.hid hr5
                 have HB5 := Lib.hid (nat.below_grown HB.out hg5 HB.out.size (Nat.le_refl _))
                 clear hr5 hg5 HOnn)
              | (fail "no arm"))
            go_roundw
            case rel => exact ⟨k2 + 1, setBit L2 n, by go_num, by rw [HM.out]; omega, HR5.out, HBt.out.add HR.out.1 hn.out (fun D => by rw [HNx.out, or_assoc]), fun j q hj hq => by
              rcases (show j < k2 ∨ j = k2 by omega) with h | rfl
              · exact HDy.out j q h hq
              · rw [HGet.out] at hq; cases hq; exact HdD.out, HB5.out⟩
            case measure => simp [intOf]; omega
          · rw [decide_eq_false hd] at HIz
            have HIz := Lib.hid HIz
            have HX := Lib.hid (HX4.out k2 z hget hd)
            clear hd hget HIs HGet HX4 HX0
            go_wp2_with (first
              | (go_at_call 89; (with_reducible refine (HIz.out _).mono ?_); rintro e w1 ⟨rfl, rfl⟩)
              | (go_at_call 71; (with_reducible refine (HE4.out _).mono ?_); rintro e w9 ⟨rfl, rfl⟩)
              | (fail "no arm"))
            go_ret2
            exact HX.out _ HB.out
        · have hkM : k2 = M := by omega
          subst hkM
          have HX := Lib.hid (HX0.out (fun (j : Nat) (r : Int) (hj : ms[j]? = some r) => HDy.out j r (by have := (List.getElem?_eq_some_iff.1 hj).1; rw [HM.out] at this; exact this) hj))
          clear HX0 HX4 HDy hlt hk HIs HOn HMI
          go_wp2
          go_ret2
          exact HX.out _ L2 HR.out (by rw [HM.out]; exact HBt.out) HB.out
theorem New_any (rv mv : Value) (rs : List Rule) (ms : List Int) (w : World) (hw : Wd w) (hR : RulesO w rv rs) (hM : IntsO w mv ms) :
    Calls Tryz.prog 44 #[rv, mv] w fun e w' => NewEnd rs ms w e w' := by
  by_cases h : 20 < rs.length ∨ 100 < ms.length
  · exact New_far rv mv rs ms w hR hM h
  · exact New_near rv mv rs ms w hw hR hM h
end Go.Proofs.YtlhmfgbaefaneaaGreatDoor.cal
