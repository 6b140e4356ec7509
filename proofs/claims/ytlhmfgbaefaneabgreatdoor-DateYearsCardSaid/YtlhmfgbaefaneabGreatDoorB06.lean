/-
  The steps of the walks, part 6: CalM, Cel, Law6Cal, Law6Eas, Law6Hol, Law6Mon, Month.
-/
import Derived.Deep.RegionHeld3
import Derived.BigQuiet
import Derived.Deep.QuietTactic
import Derived.Test.YtlhmfgbaefaneabGreatDoorB05
import Derived.Test.YtlhmfgbaefaneabGreatDoorB01
namespace Go.Proofs.YtlhmfgbaefaneabGreatDoor.ref6
open Go.Proofs.YtlhmfgbaefaneabGreatDoor.day
theorem next_some {cs : List CalT} {s t : Int} : ∀ (f : Nat) (D : Int), nextN cs s f D = some t → ∃ k : Nat, t = D + s * k ∧ openB cs t = true ∧ ∀ j : Nat, j < k → openB cs (D + s * j) = false
  | 0, _, h => by simp [nextN] at h
  | f + 1, D, h => by
    simp only [nextN] at h
    split at h
    · split at h
      · rename_i ho
        cases h
        exact ⟨0, by simp, ho, fun j hj => absurd hj (Nat.not_lt_zero _)⟩
      · rename_i ho
        obtain ⟨k, e, h1, h2⟩ := next_some f (D + s) h
        refine ⟨k + 1, by rw [e]; push_cast; grind, h1, fun j hj => ?_⟩
        cases j
        · simpa using ho
        · rename_i j
          have := h2 j (by omega)
          rwa [show D + s + s * (j : Int) = D + s * ((j + 1 : Nat) : Int) by push_cast; grind] at this
    · cases h
theorem next_is {cs : List CalT} {s : Int} : ∀ (k f : Nat) (D : Int), k < f → (∀ j : Nat, j ≤ k → IsDay (D + s * j)) → openB cs (D + s * k) = true → (∀ j : Nat, j < k → openB cs (D + s * j) = false) → nextN cs s f D = some (D + s * k)
  | 0, f + 1, D, _, hd, ho, _ => by
    simp only [nextN]
    have := hd 0 (Nat.le_refl _)
    simp only [Int.natCast_zero, Int.mul_zero, Int.add_zero] at this ho ⊢
    rw [if_pos this, if_pos ho]
  | k + 1, f + 1, D, hf, hd, ho, hn => by
    simp only [nextN]
    have h0 := hd 0 (Nat.zero_le _)
    have n0 := hn 0 (Nat.succ_pos _)
    simp only [Int.natCast_zero, Int.mul_zero, Int.add_zero] at h0 n0
    rw [if_pos h0, if_neg (by rw [n0]; decide)]
    have sh : ∀ j : Nat, D + s + s * (j : Int) = D + s * ((j + 1 : Nat) : Int) := fun j => by push_cast; grind
    rw [next_is k f (D + s) (by omega) (fun j hj => by rw [sh]; exact hd (j + 1) (by omega)) (by rw [sh]; exact ho) (fun j hj => by rw [sh]; exact hn (j + 1) (by omega)), sh]
theorem next_up {cs : List CalT} {D t : Int} (h : nextD cs 1 D = some t) : D ≤ t ∧ openB cs t = true ∧ ∀ x, D ≤ x → x < t → openB cs x = false := by
  obtain ⟨k, e, h1, h2⟩ := next_some _ _ h
  refine ⟨by omega, h1, fun x hx hx2 => ?_⟩
  have := h2 (x - D).toNat (by omega)
  rwa [show D + 1 * ((x - D).toNat : Int) = x by omega] at this
theorem next_down {cs : List CalT} {D t : Int} (h : nextD cs (-1) D = some t) : t ≤ D ∧ openB cs t = true ∧ ∀ x, t < x → x ≤ D → openB cs x = false := by
  obtain ⟨k, e, h1, h2⟩ := next_some _ _ h
  refine ⟨by omega, h1, fun x hx hx2 => ?_⟩
  have := h2 (D - x).toNat (by omega)
  rwa [show D + -1 * ((D - x).toNat : Int) = x by omega] at this
theorem next_up_is {cs : List CalT} {D t : Int} (hD : IsDay D) (h : D ≤ t) (ho : openB cs t = true) (hn : ∀ x, D ≤ x → x < t → openB cs x = false) : nextD cs 1 D = some t := by
  have ht := openB_day ho
  obtain ⟨d1, d2⟩ := hD
  obtain ⟨t1, t2⟩ := ht
  have := next_is (cs := cs) (s := 1) (t - D).toNat 109573 D (by omega) (fun j hj => ⟨by omega, by omega⟩) (by rwa [show D + 1 * ((t - D).toNat : Int) = t by omega]) (fun j hj => hn _ (by omega) (by omega))
  rwa [show D + 1 * ((t - D).toNat : Int) = t by omega] at this
theorem next_down_is {cs : List CalT} {D t : Int} (hD : IsDay D) (h : t ≤ D) (ho : openB cs t = true) (hn : ∀ x, t < x → x ≤ D → openB cs x = false) : nextD cs (-1) D = some t := by
  have ht := openB_day ho
  obtain ⟨d1, d2⟩ := hD
  obtain ⟨t1, t2⟩ := ht
  have := next_is (cs := cs) (s := -1) (D - t).toNat 109573 D (by omega) (fun j hj => ⟨by omega, by omega⟩) (by rwa [show D + -1 * ((D - t).toNat : Int) = t by omega]) (fun j hj => hn _ (by omega) (by omega))
  rwa [show D + -1 * ((D - t).toNat : Int) = t by omega] at this
theorem least_up {p : Int → Bool} : ∀ (n : Nat) (D : Int), p (D + n) = true → ∃ t, D ≤ t ∧ t ≤ D + n ∧ p t = true ∧ ∀ x, D ≤ x → x < t → p x = false
  | 0, D, h => ⟨D, by omega, by omega, by simpa using h, fun x h1 h2 => by omega⟩
  | n + 1, D, h => by
    cases h0 : p D
    · obtain ⟨t, h1, h2, h3, h4⟩ := least_up (p := p) n (D + 1) (by rwa [show D + 1 + (n : Int) = D + ((n + 1 : Nat) : Int) by omega])
      refine ⟨t, by omega, by omega, h3, fun x hx hx2 => ?_⟩
      by_cases e : x = D
      · rw [e]; exact h0
      · exact h4 x (by omega) hx2
    · exact ⟨D, by omega, by omega, h0, fun x h1 h2 => by omega⟩
theorem least_down {p : Int → Bool} : ∀ (n : Nat) (D : Int), p (D - n) = true → ∃ t, t ≤ D ∧ D - n ≤ t ∧ p t = true ∧ ∀ x, t < x → x ≤ D → p x = false
  | 0, D, h => ⟨D, by omega, by omega, by simpa using h, fun x h1 h2 => by omega⟩
  | n + 1, D, h => by
    cases h0 : p D
    · obtain ⟨t, h1, h2, h3, h4⟩ := least_down (p := p) n (D - 1) (by rwa [show D - 1 - (n : Int) = D - ((n + 1 : Nat) : Int) by omega])
      refine ⟨t, by omega, by omega, h3, fun x hx hx2 => ?_⟩
      by_cases e : x = D
      · rw [e]; exact h0
      · exact h4 x hx (by omega)
    · exact ⟨D, by omega, by omega, h0, fun x h1 h2 => by omega⟩
theorem next_up_none {cs : List CalT} {D : Int} (hD : IsDay D) (h : nextD cs 1 D = none) (x : Int) (hx : D ≤ x) : openB cs x = false := by
  cases ho : openB cs x
  · rfl
  · obtain ⟨t, h1, -, h3, h4⟩ := least_up (p := openB cs) (x - D).toNat D (by rwa [show D + ((x - D).toNat : Int) = x by omega])
    rw [next_up_is hD h1 h3 h4] at h
    cases h
theorem next_down_none {cs : List CalT} {D : Int} (hD : IsDay D) (h : nextD cs (-1) D = none) (x : Int) (hx : x ≤ D) : openB cs x = false := by
  cases ho : openB cs x
  · rfl
  · obtain ⟨t, h1, -, h3, h4⟩ := least_down (p := openB cs) (D - x).toNat D (by rwa [show D - ((D - x).toNat : Int) = x by omega])
    rw [next_down_is hD h1 h3 h4] at h
    cases h
theorem next_off {cs : List CalT} {s D : Int} (hD : ¬ IsDay D) : nextD cs s D = none := by
  obtain ⟨n, hn⟩ : ∃ n, 109573 = n + 1 := ⟨109572, rfl⟩
  unfold nextD
  rw [hn]
  simp only [nextN]
  rw [if_neg hD]
def Near (cs : List CalT) : Prop := ∀ a, IsDay a → IsDay (a + 300) → ∃ x, a ≤ x ∧ x < a + 300 ∧ openB cs x = true
def cntN (p : Int → Bool) : Nat → Int → Int
  | 0, _ => 0
  | k + 1, a => cntN p k a + (if p (a + (k : Nat)) = true then 1 else 0)
noncomputable def cntO (cs : List CalT) (a b : Int) : Int := cntN (openB cs) (b - a).toNat a
theorem cntN_add (p : Int → Bool) (a : Int) (k : Nat) : ∀ j, cntN p (k + j) a = cntN p k a + cntN p j (a + (k : Nat))
  | 0 => by simp [cntN]
  | j + 1 => by
    rw [show k + (j + 1) = (k + j) + 1 by omega]
    simp only [cntN]
    rw [cntN_add p a k j, show a + ((k + j : Nat) : Int) = a + (k : Int) + (j : Int) by omega]
    omega
theorem cntN_zero (p : Int → Bool) (a : Int) : ∀ k : Nat, (∀ j : Nat, j < k → p (a + j) = false) → cntN p k a = 0
  | 0, _ => rfl
  | k + 1, h => by
    simp only [cntN]
    rw [cntN_zero p a k (fun j hj => h j (by omega)), h k (by omega)]
    rfl
theorem cnt_split (cs : List CalT) {a b c : Int} (h1 : a ≤ b) (h2 : b ≤ c) : cntO cs a c = cntO cs a b + cntO cs b c := by
  unfold cntO
  rw [show (c - a).toNat = (b - a).toNat + (c - b).toNat by omega, cntN_add, show a + ((b - a).toNat : Int) = b by omega]
theorem cnt_empty (cs : List CalT) {a b : Int} (h : b ≤ a) : cntO cs a b = 0 := by unfold cntO; rw [show (b - a).toNat = 0 by omega]; rfl
theorem cnt_one (cs : List CalT) (a : Int) : cntO cs a (a + 1) = if openB cs a = true then 1 else 0 := by
  unfold cntO
  rw [show (a + 1 - a).toNat = 1 by omega]
  simp [cntN]
theorem cnt_zero (cs : List CalT) {a b : Int} (h : ∀ x, a ≤ x → x < b → openB cs x = false) : cntO cs a b = 0 :=
  cntN_zero _ _ _ fun j hj => h _ (by omega) (by omega)
theorem cnt_last (cs : List CalT) {a b : Int} (h : a ≤ b) : cntO cs a (b + 1) = cntO cs a b + if openB cs b = true then 1 else 0 := by
  rw [cnt_split cs h (show b ≤ b + 1 by omega), cnt_one]
noncomputable def addN (cs : List CalT) (s : Int) : Nat → Int → Option Int
  | 0, D => some D
  | k + 1, D => match nextD cs s (D + s) with
    | some t => addN cs s k t
    | none => none
theorem roll_1 (cs : List CalT) (D : Int) : rollD cs D 1 = nextD cs 1 D := by unfold rollD; simp
theorem roll_3 (cs : List CalT) (D : Int) : rollD cs D 3 = nextD cs (-1) D := by unfold rollD; simp
theorem roll_2 (cs : List CalT) (D : Int) : rollD cs D 2 = match nextD cs 1 D with
    | some t => if monthOf t ≠ monthOf D then nextD cs (-1) D else some t
    | none => nextD cs (-1) D := by unfold rollD; simp <;> (cases nextD cs 1 D <;> rfl)
theorem roll_4 (cs : List CalT) (D : Int) : rollD cs D 4 = match nextD cs (-1) D with
    | some t => if monthOf t ≠ monthOf D then nextD cs 1 D else some t
    | none => nextD cs 1 D := by unfold rollD; simp <;> (cases nextD cs (-1) D <;> rfl)
end Go.Proofs.YtlhmfgbaefaneabGreatDoor.ref6
namespace Go.Proofs.YtlhmfgbaefaneabGreatDoor.law6
open Go Go.RowKit
def CelAt (w : World) (g : Nat) (u v : Value) : Prop := w.cell? ⟨g, 0, none⟩ = some u ∧ w.cell? ⟨g, 1, none⟩ = some v
theorem CelAt.below {w w' : World} {g : Nat} {u v : Value} (h : CelAt w g u v) (hb : Below w.heap.size w w') : CelAt w' g u v := ⟨ref6.cell_below h.1 hb, ref6.cell_below h.2 hb⟩
end Go.Proofs.YtlhmfgbaefaneabGreatDoor.law6
namespace Go.Proofs.YtlhmfgbaefaneabGreatDoor.law6
open Go Go.RowKit Go.Proofs.YtlhmfgbaefaneabGreatDoor.day Go.Proofs.YtlhmfgbaefaneabGreatDoor.date
open Go.Proofs.YtlhmfgbaefaneabGreatDoor.ref6 (IntsAt RulesAt CalsAt CalT Rule May openB nextD addN cntO rollD Near)
def newCode (rs : List Rule) (ms : List Int) : Int :=
  if 20 < rs.length ∨ 100 < ms.length then 2 else if (rs.all fun r => decide (May r)) = false then 1 else if (ms.all fun z => decide (IsDay z)) = false then 4 else 0
def CalPtrs (IsC : World → Value → List CalT → Prop) (w : World) (v : Value) (us : List (Option Addr × List CalT)) : Prop :=
  ∃ ao cap, v = .slice ao us.length cap ∧ us.length ≤ 1000 ∧ ∀ k u, us[k]? = some u → ∃ g, ao = some ⟨g, 0, none⟩ ∧ w.cell? ⟨g, k, none⟩ = some (.pointer u.1) ∧ IsC w (.pointer u.1) u.2
structure CalC (IsC : World → Value → List CalT → Prop) : Prop where
  keep : ∀ w w' v cs, IsC w v cs → Below w.heap.size w w' → IsC w' v cs
  none_ : ∀ w, IsC w (.pointer none) []
  new : ∀ rv rs mv ms w, Wd w → RulesO w rv rs → IntsO w mv ms → newCode rs ms = 0 → Calls Tryz.prog 42 #[rv, mv] w fun e w' => ∃ ad, e = .returned (.tuple #[.pointer (some ad), .nilIface]) ∧ IsC w' (.pointer (some ad)) [⟨rs, ms⟩] ∧ Below w.heap.size w w'
  newNo : ∀ rv rs mv ms w, Wd w → RulesO w rv rs → IntsO w mv ms → newCode rs ms ≠ 0 → Calls Tryz.prog 42 #[rv, mv] w fun e w' => e = .returned (.tuple #[.pointer none, errOf (newCode rs ms)]) ∧ Below w.heap.size w w'
  join : ∀ jv us w, Wd w → CalPtrs IsC w jv us → Calls Tryz.prog 45 #[jv] w fun e w' => ∃ ad, e = .returned (.pointer ad) ∧ IsC w' (.pointer ad) (us.flatMap (·.2)) ∧ Below w.heap.size w w'
  isOpen : ∀ v cs D w, Wd w → IsC w v cs → -9223372036854775808 ≤ D → D ≤ 9223372036854775807 → Calls Tryz.prog 21 #[v, .int .i64 D] w fun e w' => e = .returned (.bool (openB cs D)) ∧ Below w.heap.size w w'
  add : ∀ v cs D k t w, Wd w → IsC w v cs → IsDay D → -1000 ≤ k → k ≤ 1000 → addN cs (if k < 0 then -1 else 1) k.natAbs D = some t → Calls Tryz.prog 17 #[v, .int .i64 D, .int .i64 k] w fun e w' => e = .returned (.tuple #[.int .i64 t, .nilIface]) ∧ Below w.heap.size w w'
  addNo : ∀ v cs D k w, Wd w → IsC w v cs → IsDay D → -1000 ≤ k → k ≤ 1000 → addN cs (if k < 0 then -1 else 1) k.natAbs D = none → Calls Tryz.prog 17 #[v, .int .i64 D, .int .i64 k] w fun e w' => e = .returned (.tuple #[.int .i64 0, errOf 4]) ∧ Below w.heap.size w w'
  addDay : ∀ v cs D k w, Wd w → IsC w v cs → ¬ IsDay D → -1000 ≤ k → k ≤ 1000 → Calls Tryz.prog 17 #[v, .int .i64 D, .int .i64 k] w fun e w' => e = .returned (.tuple #[.int .i64 0, errOf 4]) ∧ Below w.heap.size w w'
  addFar : ∀ v cs D k w, Wd w → IsC w v cs → IsDay D → (k < -1000 ∨ 1000 < k) → -9223372036854775808 ≤ k → k ≤ 9223372036854775807 → Calls Tryz.prog 17 #[v, .int .i64 D, .int .i64 k] w fun e w' => e = .returned (.tuple #[.int .i64 0, errOf 2]) ∧ Below w.heap.size w w'
  count : ∀ v cs a b w, Wd w → IsC w v cs → -1000000000 ≤ a → a ≤ 1000000000 → -1000000000 ≤ b → b ≤ 1000000000 → Calls Tryz.prog 22 #[v, .int .i64 a, .int .i64 b] w fun e w' => e = .returned (.int .i64 (cntO cs a b)) ∧ Below w.heap.size w w'
structure RolC (IsC : World → Value → List CalT → Prop) : Prop where
  yes : ∀ v cs D r t w, Wd w → IsC w v cs → (r = 2 ∨ r = 4 → Near cs) → IsDay D → 0 ≤ r → r ≤ 4 → rollD cs D r = some t → Calls Tryz.prog 18 #[v, .int .i64 D, .int .i64 r] w fun e w' => e = .returned (.tuple #[.int .i64 t, .nilIface]) ∧ Below w.heap.size w w'
  no : ∀ v cs D r w, Wd w → IsC w v cs → (r = 2 ∨ r = 4 → Near cs) → IsDay D → 0 ≤ r → r ≤ 4 → rollD cs D r = none → Calls Tryz.prog 18 #[v, .int .i64 D, .int .i64 r] w fun e w' => e = .returned (.tuple #[.int .i64 0, errOf 4]) ∧ Below w.heap.size w w'
  day : ∀ v cs D r w, Wd w → IsC w v cs → ¬ IsDay D → 0 ≤ r → r ≤ 4 → Calls Tryz.prog 18 #[v, .int .i64 D, .int .i64 r] w fun e w' => e = .returned (.tuple #[.int .i64 0, errOf 4]) ∧ Below w.heap.size w w'
  form : ∀ v cs D r w, Wd w → IsC w v cs → r < 0 ∨ 4 < r → Calls Tryz.prog 18 #[v, .int .i64 D, .int .i64 r] w fun e w' => e = .returned (.tuple #[.int .i64 0, errOf 1]) ∧ Below w.heap.size w w'
theorem intsO_nil (w : World) : IntsO w (.slice none 0 0) [] := ⟨none, 0, rfl, by simp, fun k z hk => by simp at hk⟩
def CalV {IsC : World → Value → List CalT → Prop} (_ : CalC IsC) (w : World) (v : Value) (cs : List CalT) : Prop := IsC w v cs
theorem CalV.below {IsC : World → Value → List CalT → Prop} {H : CalC IsC} {w w' : World} {v : Value} {cs : List CalT} (h : CalV H w v cs) (hb : Below w.heap.size w w') : CalV H w' v cs := H.keep _ _ _ _ h hb
def CalP {IsC : World → Value → List CalT → Prop} (_ : CalC IsC) (w : World) (v : Value) (cs : List CalT) : Prop := ∃ us, CalPtrs IsC w v us ∧ us.flatMap (·.2) = cs
theorem CalP.below {IsC : World → Value → List CalT → Prop} {H : CalC IsC} {w w' : World} {v : Value} {cs : List CalT} (h : CalP H w v cs) (hb : Below w.heap.size w w') : CalP H w' v cs := by
  obtain ⟨us, ⟨ao, cap, e, hl, hk⟩, hc⟩ := h
  refine ⟨us, ⟨ao, cap, e, hl, fun k u hu => ?_⟩, hc⟩
  obtain ⟨g, e1, e2, e3⟩ := hk k u hu
  exact ⟨g, e1, ref6.cell_below e2 hb, H.keep _ _ _ _ e3 hb⟩
end Go.Proofs.YtlhmfgbaefaneabGreatDoor.law6
namespace Go.Proofs.YtlhmfgbaefaneabGreatDoor.law6
open Go Go.RowKit Go.Proofs.YtlhmfgbaefaneabGreatDoor.day Go.Proofs.YtlhmfgbaefaneabGreatDoor.date
structure EasC : Prop where
  yes : ∀ (y : Int), 1900 ≤ y → y ≤ 2199 → ∀ w, Wd w → Calls Tryz.prog 38 #[.int .i64 y] w fun e w' => e = .returned (.tuple #[.int .i64 (easterDay y), .nilIface]) ∧ Below w.heap.size w w'
  no : ∀ (y : Int), ¬ (1900 ≤ y ∧ y ≤ 2199) → ∀ w, Wd w → Calls Tryz.prog 38 #[.int .i64 y] w fun e w' => e = .returned (.tuple #[.int .i64 0, errOf 4]) ∧ Below w.heap.size w w'
end Go.Proofs.YtlhmfgbaefaneabGreatDoor.law6
namespace Go.Proofs.YtlhmfgbaefaneabGreatDoor.law6
open Go Go.RowKit Go.Proofs.YtlhmfgbaefaneabGreatDoor.day Go.Proofs.YtlhmfgbaefaneabGreatDoor.date
open Go.Proofs.YtlhmfgbaefaneabGreatDoor.ref6 (Rule May holiday ruleDay rawDay shiftDay nthDay daysW)
structure HolC : Prop where
  may : ∀ (k mo d n wd : Int) (sh : Bool) (w : World), Wd w → Calls Tryz.prog 24 #[.agg #[.int .i64 k, .int .i64 mo, .int .i64 d, .int .i64 n, .int .i64 wd, .bool sh]] w fun e w' => e = .returned (.bool (decide (May ⟨k, mo, d, n, wd, sh⟩))) ∧ Below w.heap.size w w'
  dayYes : ∀ (k mo d n wd : Int) (sh : Bool) (y z : Int), holiday k mo d n wd sh y = some z → ∀ w, Wd w → Calls Tryz.prog 39 #[.agg #[.int .i64 k, .int .i64 mo, .int .i64 d, .int .i64 n, .int .i64 wd, .bool sh], .int .i64 y] w fun e w' => e = .returned (.tuple #[.int .i64 z, .bool true]) ∧ Below w.heap.size w w'
  dayNo : ∀ (k mo d n wd : Int) (sh : Bool) (y : Int), holiday k mo d n wd sh y = none → ∀ w, Wd w → Calls Tryz.prog 39 #[.agg #[.int .i64 k, .int .i64 mo, .int .i64 d, .int .i64 n, .int .i64 wd, .bool sh], .int .i64 y] w fun e w' => e = .returned (.tuple #[.int .i64 0, .bool false]) ∧ Below w.heap.size w w'
  is : ∀ (k mo d n wd : Int) (sh : Bool) (y m a : Int), IsCivil y m a → ∀ w, Wd w → Calls Tryz.prog 40 #[.agg #[.int .i64 k, .int .i64 mo, .int .i64 d, .int .i64 n, .int .i64 wd, .bool sh], .int .i64 (dayOf y m a)] w fun e w' => e = .returned (.bool (decide (ruleDay k mo d n wd sh y (dayOf y m a)))) ∧ Below w.heap.size w w'
  isNo : ∀ (k mo d n wd : Int) (sh : Bool) (D : Int), ¬ IsDay D → ∀ w, Wd w → Calls Tryz.prog 40 #[.agg #[.int .i64 k, .int .i64 mo, .int .i64 d, .int .i64 n, .int .i64 wd, .bool sh], .int .i64 D] w fun e w' => e = .returned (.bool false) ∧ Below w.heap.size w w'
end Go.Proofs.YtlhmfgbaefaneabGreatDoor.law6
namespace Go.Proofs.YtlhmfgbaefaneabGreatDoor.day
open Go.Proofs.YtlhmfgbaefaneabGreatDoor.ref6 (clip)
def mY (y m k : Int) : Int := (12 * y + (m - 1) + k) / 12
def mM (y m k : Int) : Int := (12 * y + (m - 1) + k) % 12 + 1
theorem mM_in (y m k : Int) : 1 ≤ mM y m k ∧ mM y m k ≤ 12 := by unfold mM; omega
theorem clip_in {fin : Bool} {y m d Y M : Int} (hd : 1 ≤ d) (h1 : 1 ≤ M) (h2 : M ≤ 12) : 1 ≤ clip fin y m d Y M ∧ clip fin y m d Y M ≤ mlen Y M := by
  have := mlen_lo (y := Y) h1 h2
  unfold clip
  split <;> omega
theorem clip_civil {fin : Bool} {y m d Y M : Int} (hd : 1 ≤ d) (h1 : 1 ≤ M) (h2 : M ≤ 12) : IsCivil Y M (clip fin y m d Y M) ↔ 1900 ≤ Y ∧ Y ≤ 2199 := by
  have := clip_in (fin := fin) (y := y) (m := m) (d := d) (Y := Y) (M := M) hd h1 h2
  unfold IsCivil
  omega
end Go.Proofs.YtlhmfgbaefaneabGreatDoor.day
namespace Go.Proofs.YtlhmfgbaefaneabGreatDoor.law6
open Go Go.RowKit Go.Proofs.YtlhmfgbaefaneabGreatDoor.day Go.Proofs.YtlhmfgbaefaneabGreatDoor.date
open Go.Proofs.YtlhmfgbaefaneabGreatDoor.ref6 (clip)
def AddYesC : Prop := ∀ (y m d k : Int) (fin : Bool), IsCivil y m d → -3600 ≤ k → k ≤ 3600 → 1900 ≤ mY y m k → mY y m k ≤ 2199 → ∀ w, Wd w →
  Calls Tryz.prog 35 #[.int .i64 (dayOf y m d), .int .i64 k, .bool fin] w fun e w' => e = .returned (.tuple #[.int .i64 (dayOf (mY y m k) (mM y m k) (clip fin y m d (mY y m k) (mM y m k))), .nilIface]) ∧ Below w.heap.size w w'
def AddNoC : Prop := ∀ (y m d k : Int) (fin : Bool), -9223372036854775808 ≤ k → k ≤ 9223372036854775807 → IsCivil y m d → ¬ (-3600 ≤ k ∧ k ≤ 3600 ∧ 1900 ≤ mY y m k ∧ mY y m k ≤ 2199) → ∀ w, Wd w →
  Calls Tryz.prog 35 #[.int .i64 (dayOf y m d), .int .i64 k, .bool fin] w fun e w' => e = .returned (.tuple #[.int .i64 0, errOf 4]) ∧ Below w.heap.size w w'
def LastC : Prop := ∀ (y m d : Int), IsCivil y m d → ∀ w, Wd w → Calls Tryz.prog 26 #[.int .i64 (dayOf y m d)] w fun e w' => e = .returned (.bool (decide (d = mlen y m))) ∧ Below w.heap.size w w'
def EndYesC : Prop := ∀ (y m : Int), 1900 ≤ y → y ≤ 2199 → 1 ≤ m → m ≤ 12 → ∀ w, Wd w → Calls Tryz.prog 37 #[.int .i64 y, .int .i64 m] w fun e w' => e = .returned (.tuple #[.int .i64 (dayOf y m (mlen y m)), .nilIface]) ∧ Below w.heap.size w w'
def EndNoC : Prop := ∀ (y m : Int), ¬ (1900 ≤ y ∧ y ≤ 2199 ∧ 1 ≤ m ∧ m ≤ 12) → ∀ w, Wd w → Calls Tryz.prog 37 #[.int .i64 y, .int .i64 m] w fun e w' => e = .returned (.tuple #[.int .i64 0, errOf 4]) ∧ Below w.heap.size w w'
def BetweenC : Prop := ∀ (y m d y' m' d' : Int), IsCivil y m d → IsCivil y' m' d' → ∀ w, Wd w → Calls Tryz.prog 25 #[.int .i64 (dayOf y m d), .int .i64 (dayOf y' m' d')] w fun e w' => e = .returned (.int .i64 (12 * (y' - y) + (m' - m))) ∧ Below w.heap.size w w'
def BetweenNoC : Prop := ∀ (a b : Int), ¬ (IsDay a ∧ IsDay b) → ∀ w, Wd w → Calls Tryz.prog 25 #[.int .i64 a, .int .i64 b] w fun e w' => e = .returned (.int .i64 0) ∧ Below w.heap.size w w'
structure MonC : Prop where
  addYes : AddYesC
  addNo : AddNoC
  last : LastC
  endYes : EndYesC
  endNo : EndNoC
  between : BetweenC
  betweenNo : BetweenNoC
end Go.Proofs.YtlhmfgbaefaneabGreatDoor.law6
namespace Go.Proofs.YtlhmfgbaefaneabGreatDoor.month
open Go Go.RowKit Go.Proofs.YtlhmfgbaefaneabGreatDoor.day Go.Proofs.YtlhmfgbaefaneabGreatDoor.date Go.Proofs.YtlhmfgbaefaneabGreatDoor.law6
open Go.Proofs.YtlhmfgbaefaneabGreatDoor.ref6 (CAt quiet_same drewN_below6 clip)
set_option maxRecDepth 100000 in
theorem inMonths_any (y m d : Int) (h0 : 1000 ≤ y) (h1 : y ≤ 3000) (m0 : 1 ≤ m) (m1 : m ≤ 12) (w : World) :
    Calls Tryz.prog 65 #[.agg #[.int .i64 y, .int .i64 m, .int .i64 d]] w fun e w' => e = .returned (.int .i64 (12 * y + m - 1)) ∧ Below w.heap.size w w' := by
  obtain ⟨c0, c1, -⟩ := (CAt.new w y m d).cells
  have HB := Lib.hid ((Below.refl w.heap.size w).alloc (Nat.le_refl _) (.cells #[.int .i64 y, .int .i64 m, .int .i64 d] 48))
  go_enter Tryz.func65, Tryz.ntmps65
  go_wp2
  go_ret
  exact ⟨rfl, HB.out⟩
set_option maxRecDepth 100000 in
theorem fromMonths_any (t : Int) (h0 : 0 ≤ t) (h1 : t ≤ 1000000) (w : World) :
    Calls Tryz.prog 74 #[.int .i64 t] w fun e w' => e = .returned (.agg #[.int .i64 (t / 12), .int .i64 (t % 12 + 1), .int .i64 0]) ∧ Below w.heap.size w w' := by
  have HB := Lib.hid ((Below.refl w.heap.size w).alloc (Nat.le_refl _) (.cells #[.int .i64 (t / 12), .int .i64 (t % 12 + 1), .int .i64 0] 48))
  obtain ⟨c0, c1, c2, -⟩ := (CAt.new w (t / 12) (t % 12 + 1) 0).cells
  go_enter Tryz.func74, Tryz.ntmps74
  go_wp2
  refine bodyPost_ret (v := .agg #[.int .i64 (t / 12), .int .i64 (t % 12 + 1), .int .i64 0]) ?_ rfl ⟨rfl, HB.out⟩
  simp [results, Tryz.results74, go_sem, c0, c1, c2]
set_option maxRecDepth 100000 in
set_option maxHeartbeats 4000000 in
theorem isLast_any (y m d : Int) (w : World) (hL : Lens w) :
    Calls Tryz.prog 66 #[.agg #[.int .i64 y, .int .i64 m, .int .i64 d]] w fun e w' => e = .returned (.bool (decide (d = mlen y m))) ∧ Below w.heap.size w w' := by
  have HL := Lib.hid (fun (n : Nat) (o : Obj) => Length_any y m ((w.alloc o).drewN n) ((hL.alloc o).drewN n))
  obtain ⟨c0, c1, c2, -⟩ := (CAt.new w y m d).cells
  generalize mlen y m = L at *
  clear hL
  go_enter Tryz.func66, Tryz.ntmps66
  go_wp2
  go_quiet (first | (go_at_call 32; with_reducible exact quiet_same (HL.out _ _)))
  go_wp2
  go_ret
  refine ⟨by congr 2, drewN_below6 ((Below.refl _ _).alloc (Nat.le_refl _) _) nq⟩
set_option maxRecDepth 100000 in
set_option maxHeartbeats 4000000 in
theorem Last_at (y m d : Int) (h : IsCivil y m d) (w : World) (hw : Wd w) :
    Calls Tryz.prog 26 #[.int .i64 (dayOf y m d)] w fun e w' => e = .returned (.bool (decide (d = mlen y m))) ∧ Below w.heap.size w w' := by
  have HC := Lib.hid (Civil_at y m d h w hw.lens)
  have HL := Lib.hid (fun W (hb : Below w.heap.size w W) => isLast_any y m d W (hw.keep hb).lens)
  generalize dayOf y m d = n at *
  generalize decide (d = mlen y m) = L at *
  clear h hw
  go_enter Tryz.func26, Tryz.ntmps26
  go_wp2_with (first
    | (go_at_call 36; (with_reducible refine (HC.out).mono ?_); rintro e w1 ⟨rfl, hb⟩
       obtain ⟨c0, c1, c2, -⟩ := (CAt.new w1 y m d).cells
       have HB := Lib.hid (hb.alloc hb.size (.cells #[.int .i64 y, .int .i64 m, .int .i64 d] 48)); clear hb HC)
    | (go_at_call 66; (with_reducible refine (HL.out _ HB.out).mono ?_); rintro e w2 ⟨rfl, hb⟩
       have HB2 := Lib.hid (HB.out.trans (hb.mono HB.out.size)); clear hb HL)
    | (fail "no arm"))
  go_ret
  exact ⟨rfl, HB2.out⟩
set_option maxRecDepth 100000 in
set_option maxHeartbeats 4000000 in
theorem End_yes (y m : Int) (h0 : 1900 ≤ y) (h1 : y ≤ 2199) (m0 : 1 ≤ m) (m1 : m ≤ 12) (w : World) (hw : Wd w) :
    Calls Tryz.prog 37 #[.int .i64 y, .int .i64 m] w fun e w' => e = .returned (.tuple #[.int .i64 (dayOf y m (mlen y m)), .nilIface]) ∧ Below w.heap.size w w' := by
  have hm := mlen_lo (y := y) m0 m1
  have HL := Lib.hid (Length_any y m w hw.lens)
  have HO := Lib.hid (Of_yes y m (mlen y m) ⟨h0, h1, by omega, by omega⟩ w hw.lens)
  generalize mlen y m = L at *
  go_enter Tryz.func37, Tryz.ntmps37
  go_wp2_with (first
    | (go_at_call 32; (with_reducible refine (HL.out).mono ?_); rintro e w1 ⟨rfl, rfl⟩; clear HL)
    | (go_at_call 31; (with_reducible refine (HO.out).mono ?_); rintro e w2 ⟨rfl, hb⟩; have HB := Lib.hid hb; clear HO hb)
    | (fail "no arm"))
  go_ret2
  exact ⟨rfl, HB.out⟩
set_option maxRecDepth 100000 in
set_option maxHeartbeats 4000000 in
theorem End_no (y m : Int) (h : ¬ (1900 ≤ y ∧ y ≤ 2199 ∧ 1 ≤ m ∧ m ≤ 12)) (w : World) (hw : Wd w) :
    Calls Tryz.prog 37 #[.int .i64 y, .int .i64 m] w fun e w' => e = .returned (.tuple #[.int .i64 0, errOf 4]) ∧ Below w.heap.size w w' := by
  have HL := Lib.hid (Length_any y m w hw.lens)
  have HO := Lib.hid (Of_no y m (mlen y m) (fun hc => h (by have := hc.month; exact ⟨hc.1, hc.2.1, this.1, this.2⟩)) w hw.lens)
  unfold errOf at *
  generalize mlen y m = L at *
  clear h
  go_enter Tryz.func37, Tryz.ntmps37
  go_wp2_with (first
    | (go_at_call 32; (with_reducible refine (HL.out).mono ?_); rintro e w1 ⟨rfl, rfl⟩; clear HL)
    | (go_at_call 31; (with_reducible refine (HO.out).mono ?_); rintro e w2 ⟨rfl, hb⟩; have HB := Lib.hid hb; clear HO hb)
    | (fail "no arm"))
  go_ret2
  exact ⟨rfl, HB.out⟩
end Go.Proofs.YtlhmfgbaefaneabGreatDoor.month
