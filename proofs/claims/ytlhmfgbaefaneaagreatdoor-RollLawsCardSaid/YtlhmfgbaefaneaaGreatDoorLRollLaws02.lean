/-
  The steps of the walks, part 2: RollM.
-/
import Derived.Test.YtlhmfgbaefaneaaGreatDoorB01
import Derived.Test.YtlhmfgbaefaneaaGreatDoorB02
import Derived.Test.YtlhmfgbaefaneaaGreatDoorB03
import Derived.Test.YtlhmfgbaefaneaaGreatDoorB04
import Derived.Test.YtlhmfgbaefaneaaGreatDoorB05
import Derived.Test.YtlhmfgbaefaneaaGreatDoorB06
import Derived.Test.YtlhmfgbaefaneaaGreatDoorB07
import Derived.Test.YtlhmfgbaefaneaaGreatDoorB08
import Derived.Test.YtlhmfgbaefaneaaGreatDoorB09
import Derived.Test.YtlhmfgbaefaneaaGreatDoorB10
import Derived.Test.YtlhmfgbaefaneaaGreatDoorB11
import Derived.Test.YtlhmfgbaefaneaaGreatDoorB12
import Derived.Test.YtlhmfgbaefaneaaGreatDoorB13
import Derived.Test.YtlhmfgbaefaneaaGreatDoorB14
import Derived.Test.YtlhmfgbaefaneaaGreatDoorB15
import Derived.Test.YtlhmfgbaefaneaaGreatDoorB16
import Derived.Test.YtlhmfgbaefaneaaGreatDoorB17
import Derived.Test.YtlhmfgbaefaneaaGreatDoorB18
import Derived.Test.YtlhmfgbaefaneaaGreatDoorB19
import Derived.Test.YtlhmfgbaefaneaaGreatDoorB20
import Derived.Test.YtlhmfgbaefaneaaGreatDoorB21
import Derived.Test.YtlhmfgbaefaneaaGreatDoorB22
import Derived.Test.YtlhmfgbaefaneaaGreatDoorLRollLaws01
namespace Go.Proofs.YtlhmfgbaefaneaaGreatDoor.ref6
open Go.Proofs.YtlhmfgbaefaneaaGreatDoor.day Go.Proofs.YtlhmfgbaefaneaaGreatDoor.law6
theorem hole : ∀ (k : Nat) (a : Int) (L : List Int), (∀ j : Nat, j < k → a + 7 * j ∈ L) → k ≤ L.length
  | 0, _, _, _ => Nat.zero_le _
  | k + 1, a, L, h => by
    have hm := h k (Nat.lt_succ_self k)
    have ih := hole k a (L.erase (a + 7 * k)) (fun j hj => (List.mem_erase_of_ne (by omega)).2 (h j (by omega)))
    rw [List.length_erase_of_mem hm] at ih
    have := List.length_pos_of_mem hm
    omega
def ruleDays (y : Int) (r : Rule) : List Int := [y - 1, y, y + 1, y + 2].filterMap (fun Y => holiday r.kind r.month r.day r.n r.wd r.shift Y)
theorem ruleDays_len (y : Int) (r : Rule) : (ruleDays y r).length ≤ 4 := List.length_filterMap_le _ _
theorem flat_le {α : Type} (f : α → List Int) (n : Nat) (h : ∀ x, (f x).length ≤ n) : ∀ l : List α, (l.flatMap f).length ≤ n * l.length
  | [] => by simp
  | x :: l => by
    have ih := flat_le f n h l
    have h1 := h x
    rw [List.flatMap_cons, List.length_append, List.length_cons, Nat.mul_succ]
    omega
theorem ruleDay_mem {r : Rule} {y y0 D : Int} (h : ruleDay r.kind r.month r.day r.n r.wd r.shift y D) (h1 : y0 ≤ y) (h2 : y ≤ y0 + 1) : D ∈ ruleDays y0 r := by
  unfold ruleDays
  rw [List.mem_filterMap]
  rcases (show y = y0 ∨ y = y0 + 1 by omega) with rfl | rfl
  · rcases h with h | h | h
    · exact ⟨y - 1, by simp, h⟩
    · exact ⟨y, by simp, h⟩
    · exact ⟨y + 1, by simp, h⟩
  · rcases h with h | h | h
    · exact ⟨y0, by simp, by rwa [show y0 + 1 - 1 = y0 by omega] at h⟩
    · exact ⟨y0 + 1, by simp, h⟩
    · exact ⟨y0 + 2, by simp, by rwa [show y0 + 1 + 1 = y0 + 2 by omega] at h⟩
theorem year_near {y m a y' m' a' : Int} (h : IsCivil y m a) (h' : IsCivil y' m' a') (h1 : dayOf y m a ≤ dayOf y' m' a') (h2 : dayOf y' m' a' < dayOf y m a + 365) : y ≤ y' ∧ y' ≤ y + 1 := by
  have e := dayOf_year h
  have e' := dayOf_year h'
  have c := h.1
  have c' := h'.1
  constructor
  · rcases Int.lt_or_le y' y with hlt | hle
    · have := ydays_mono (show (y' - 1900).toNat + 1 ≤ (y - 1900).toNat by omega)
      omega
    · exact hle
  · rcases Int.lt_or_le (y + 1) y' with hlt | hle
    · have := ydays_mono (show (y - 1900).toNat + 1 ≤ (y' - 1900).toNat by omega)
      have := ydays_mono (show (y - 1900).toNat + 2 ≤ (y' - 1900).toNat by omega)
      have l := ylen_lo (1900 + ((y - 1900).toNat + 1 : Nat))
      have s := ydays_succ ((y - 1900).toNat + 1)
      omega
    · exact hle
theorem near_of {l : List Rule} {ms : List Int} (hl : l.length ≤ 8) (hm : ms.length ≤ 8) : Near [⟨l, ms⟩] := by
  intro a h1 h2
  rcases Classical.em (∃ x, a ≤ x ∧ x < a + 300 ∧ openB [⟨l, ms⟩] x = true) with h | h
  · exact h
  · exfalso
    obtain ⟨a1, a2⟩ := h1
    obtain ⟨b1, b2⟩ := h2
    obtain ⟨c, c0, c6, c7⟩ : ∃ c, a ≤ c ∧ c ≤ a + 6 ∧ (c + 1) % 7 = 2 := ⟨a + (2 - (a + 1)) % 7, by omega, by omega, by omega⟩
    obtain ⟨y, m, d, hc, hce⟩ := (show IsDay c from ⟨by omega, by omega⟩).civil
    have hk := hole 41 c (l.flatMap (ruleDays y) ++ ms) (fun j hj => by
      have hd : IsDay (c + 7 * j) := ⟨by omega, by omega⟩
      obtain ⟨y', m', d', hc', he⟩ := hd.civil
      have hno : ¬ openB [⟨l, ms⟩] (c + 7 * j) = true := fun ho => h ⟨_, by omega, by omega, ho⟩
      rw [← he, openB_at hc', he] at hno
      obtain ⟨y1, y2⟩ := year_near hc hc' (by omega) (by omega)
      rw [List.mem_append, List.mem_flatMap]
      rcases Classical.em (∃ r ∈ l, c + 7 * j ∈ ruleDays y r) with hr | hr
      · exact Or.inl hr
      · rcases Classical.em (c + 7 * (j : Int) ∈ ms) with hz | hz
        · exact Or.inr hz
        · refine absurd ?_ hno
          refine ⟨by omega, by omega, fun k hk => ?_⟩
          obtain rfl := List.mem_singleton.1 hk
          exact ⟨fun r hr' hrd => hr ⟨r, hr', ruleDay_mem hrd y1 y2⟩, fun z hz' e => hz (e ▸ hz')⟩)
    have := flat_le (ruleDays y) 4 (ruleDays_len y) l
    rw [List.length_append] at hk
    omega
theorem month_days {y m d x : Int} (h : IsCivil y m d) (h1 : dayOf y m 1 ≤ x) (h2 : x ≤ dayOf y m (mlen y m)) : ∃ d', IsCivil y m d' ∧ dayOf y m d' = x := by
  refine ⟨x - dayOf y m 1 + 1, ⟨h.1, h.2.1, by omega, ?_⟩, ?_⟩
  · have e : dayOf y m (mlen y m) = dayOf y m 1 + (mlen y m - 1) := by unfold dayOf; omega
    omega
  · unfold dayOf; omega
theorem of_le {y m d : Int} (h : IsCivil y m d) : dayOf y m 1 ≤ dayOf y m d ∧ dayOf y m d ≤ dayOf y m (mlen y m) := by
  have := h.2.2
  unfold dayOf
  omega
theorem mod_stays {l : List Rule} (hl : l.length ≤ 8) {y m d A r x : Int} (h : IsCivil y m d) (hr : r = 2 ∨ r = 4) (ha : rollD [⟨l, []⟩] (dayOf y m d) r = some A)
    (x1 : dayOf y m 1 ≤ x) (x2 : x ≤ dayOf y m (mlen y m)) (ho : openB [⟨l, []⟩] x = true) : ∃ d', IsCivil y m d' ∧ dayOf y m d' = A := by
  have hD := dayOf_isDay h
  obtain ⟨o1, o2⟩ := of_le h
  have hmon := monthOf_at h
  have key : ∀ t, openB [⟨l, []⟩] t = true → monthOf t = m → (dayOf y m d ≤ t ∧ (∀ z, dayOf y m d ≤ z → z < t → openB [⟨l, []⟩] z = false) ∨ t ≤ dayOf y m d ∧ (∀ z, t < z → z ≤ dayOf y m d → openB [⟨l, []⟩] z = false)) → ∃ d', IsCivil y m d' ∧ dayOf y m d' = t := by
    intro t ht hm hz
    obtain ⟨y', m', d', hc, rfl⟩ := (openB_day ht).civil
    rw [monthOf_at hc] at hm
    subst hm
    rcases Int.lt_trichotomy y y' with hy | rfl | hy
    · obtain ⟨z, z1, z2, z3⟩ := no_far (near_of (ms := []) hl (Nat.zero_le _)) h hc hy
      rcases hz with ⟨-, hz⟩ | ⟨hle, -⟩
      · rw [hz z (by omega) z2] at z3; cases z3
      · omega
    · exact ⟨d', hc, rfl⟩
    · obtain ⟨z, z1, z2, z3⟩ := no_far (near_of (ms := []) hl (Nat.zero_le _)) hc h hy
      rcases hz with ⟨hle, -⟩ | ⟨-, hz⟩
      · omega
      · rw [hz z z1 (by omega)] at z3; cases z3
  have up : ∀ t, nextD [⟨l, []⟩] 1 (dayOf y m d) = some t → dayOf y m d ≤ x → ∃ d', IsCivil y m d' ∧ dayOf y m d' = t := fun t ht hx => by
    obtain ⟨t1, t2, t3⟩ := next_up ht
    have : t ≤ x := by
      rcases Int.lt_or_le x t with hlt | hle
      · rw [t3 x hx hlt] at ho; cases ho
      · exact hle
    exact month_days h (by omega) (by omega)
  have down : ∀ t, nextD [⟨l, []⟩] (-1) (dayOf y m d) = some t → x ≤ dayOf y m d → ∃ d', IsCivil y m d' ∧ dayOf y m d' = t := fun t ht hx => by
    obtain ⟨t1, t2, t3⟩ := next_down ht
    have : x ≤ t := by
      rcases Int.lt_or_le t x with hlt | hle
      · rw [t3 x hlt hx] at ho; cases ho
      · exact hle
    exact month_days h (by omega) (by omega)
  have mon : ∀ t, (∃ d', IsCivil y m d' ∧ dayOf y m d' = t) → monthOf t = monthOf (dayOf y m d) := by
    rintro t ⟨d', hc, rfl⟩
    rw [monthOf_at hc, hmon]
  rcases hr with rfl | rfl
  · rw [roll_2] at ha
    cases hu : nextD [⟨l, []⟩] 1 (dayOf y m d) with
    | none =>
      rw [hu] at ha
      refine down A ha ?_
      rcases Int.lt_or_le (dayOf y m d) x with hlt | hle
      · rw [next_up_none hD hu x (by omega)] at ho; cases ho
      · exact hle
    | some t =>
      rw [hu] at ha
      simp only [ne_eq, ite_not] at ha
      split at ha
      · rename_i hm
        cases ha
        obtain ⟨t1, t2, t3⟩ := next_up hu
        exact key _ t2 (hm.trans hmon) (Or.inl ⟨t1, t3⟩)
      · rename_i hm
        refine down A ha ?_
        rcases Int.lt_or_le (dayOf y m d) x with hlt | hle
        · exact absurd (mon t (up t hu (by omega))) hm
        · exact hle
  · rw [roll_4] at ha
    cases hu : nextD [⟨l, []⟩] (-1) (dayOf y m d) with
    | none =>
      rw [hu] at ha
      refine up A ha ?_
      rcases Int.lt_or_le x (dayOf y m d) with hlt | hle
      · rw [next_down_none hD hu x (by omega)] at ho; cases ho
      · exact hle
    | some t =>
      rw [hu] at ha
      simp only [ne_eq, ite_not] at ha
      split at ha
      · rename_i hm
        cases ha
        obtain ⟨t1, t2, t3⟩ := next_down hu
        exact key _ t2 (hm.trans hmon) (Or.inr ⟨t1, t3⟩)
      · rename_i hm
        refine up A ha ?_
        rcases Int.lt_or_le x (dayOf y m d) with hlt | hle
        · exact absurd (mon t (down t hu (by omega))) hm
        · exact hle
theorem roll_open {cs : List CalT} {D A r : Int} (h0 : 0 ≤ r) (h4 : r ≤ 4) (hr : r ≠ 0) (ha : rollD cs D r = some A) : openB cs A = true := by
  have n1 : ∀ t, nextD cs 1 D = some t → openB cs t = true := fun t ht => (next_up ht).2.1
  have n2 : ∀ t, nextD cs (-1) D = some t → openB cs t = true := fun t ht => (next_down ht).2.1
  rcases (show r = 1 ∨ r = 2 ∨ r = 3 ∨ r = 4 by omega) with rfl | rfl | rfl | rfl
  · exact n1 A (by rwa [roll_1] at ha)
  · rw [roll_2] at ha
    cases hu : nextD cs 1 D with
    | none => rw [hu] at ha; exact n2 A ha
    | some t =>
      rw [hu] at ha
      simp only at ha
      split at ha
      · exact n2 A ha
      · cases ha; exact n1 _ hu
  · exact n2 A (by rwa [roll_3] at ha)
  · rw [roll_4] at ha
    cases hu : nextD cs (-1) D with
    | none => rw [hu] at ha; exact n1 A ha
    | some t =>
      rw [hu] at ha
      simp only at ha
      split at ha
      · exact n1 A ha
      · cases ha; exact n2 _ hu
theorem roll_stays {cs : List CalT} {A r : Int} (h0 : 0 ≤ r) (h4 : r ≤ 4) (ho : openB cs A = true) : rollD cs A r = some A := by
  have hA := openB_day ho
  have n1 : nextD cs 1 A = some A := next_up_is hA (Int.le_refl _) ho (fun x h1 h2 => by omega)
  have n2 : nextD cs (-1) A = some A := next_down_is hA (Int.le_refl _) ho (fun x h1 h2 => by omega)
  rcases (show r = 0 ∨ r = 1 ∨ r = 2 ∨ r = 3 ∨ r = 4 by omega) with rfl | rfl | rfl | rfl | rfl
  · rfl
  · rw [roll_1, n1]
  · rw [roll_2, n1]; simp
  · rw [roll_3, n2]
  · rw [roll_4, n2]; simp
end Go.Proofs.YtlhmfgbaefaneaaGreatDoor.ref6
