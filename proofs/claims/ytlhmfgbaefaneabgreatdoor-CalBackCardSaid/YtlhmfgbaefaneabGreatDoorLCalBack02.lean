/-
  The steps of the walks, part 2: CalM, Law6Cal.
-/
import Derived.Test.YtlhmfgbaefaneabGreatDoorB01
import Derived.Test.YtlhmfgbaefaneabGreatDoorB02
import Derived.Test.YtlhmfgbaefaneabGreatDoorB03
import Derived.Test.YtlhmfgbaefaneabGreatDoorB04
import Derived.Test.YtlhmfgbaefaneabGreatDoorB05
import Derived.Test.YtlhmfgbaefaneabGreatDoorB06
import Derived.Test.YtlhmfgbaefaneabGreatDoorB07
import Derived.Test.YtlhmfgbaefaneabGreatDoorB08
import Derived.Test.YtlhmfgbaefaneabGreatDoorB09
import Derived.Test.YtlhmfgbaefaneabGreatDoorB10
import Derived.Test.YtlhmfgbaefaneabGreatDoorB11
import Derived.Test.YtlhmfgbaefaneabGreatDoorB12
import Derived.Test.YtlhmfgbaefaneabGreatDoorB13
import Derived.Test.YtlhmfgbaefaneabGreatDoorB14
import Derived.Test.YtlhmfgbaefaneabGreatDoorB15
import Derived.Test.YtlhmfgbaefaneabGreatDoorB16
import Derived.Test.YtlhmfgbaefaneabGreatDoorB17
import Derived.Test.YtlhmfgbaefaneabGreatDoorB18
import Derived.Test.YtlhmfgbaefaneabGreatDoorB19
import Derived.Test.YtlhmfgbaefaneabGreatDoorB20
import Derived.Test.YtlhmfgbaefaneabGreatDoorB21
import Derived.Test.YtlhmfgbaefaneabGreatDoorB22
import Derived.Test.YtlhmfgbaefaneabGreatDoorB23
import Derived.Test.YtlhmfgbaefaneabGreatDoorB24
import Derived.Test.YtlhmfgbaefaneabGreatDoorB25
import Derived.Test.YtlhmfgbaefaneabGreatDoorB26
import Derived.Test.YtlhmfgbaefaneabGreatDoorB27
import Derived.Test.YtlhmfgbaefaneabGreatDoorB28
import Derived.Test.YtlhmfgbaefaneabGreatDoorB29
import Derived.Test.YtlhmfgbaefaneabGreatDoorB30
import Derived.Test.YtlhmfgbaefaneabGreatDoorB31
import Derived.Test.YtlhmfgbaefaneabGreatDoorB32
import Derived.Test.YtlhmfgbaefaneabGreatDoorB33
import Derived.Test.YtlhmfgbaefaneabGreatDoorB34
import Derived.Test.YtlhmfgbaefaneabGreatDoorB35
import Derived.Test.YtlhmfgbaefaneabGreatDoorB36
import Derived.Test.YtlhmfgbaefaneabGreatDoorB37
import Derived.Test.YtlhmfgbaefaneabGreatDoorB38
import Derived.Test.YtlhmfgbaefaneabGreatDoorB39
import Derived.Test.YtlhmfgbaefaneabGreatDoorB40
import Derived.Test.YtlhmfgbaefaneabGreatDoorLCalBack01
namespace Go.Proofs.YtlhmfgbaefaneabGreatDoor.ref6
open Go.Proofs.YtlhmfgbaefaneabGreatDoor.day
theorem cntN_nn (p : Int → Bool) (a : Int) : ∀ k, 0 ≤ cntN p k a
  | 0 => Int.le_refl _
  | k + 1 => by have := cntN_nn p a k; simp only [cntN]; split <;> omega
theorem cnt_nn (cs : List CalT) (a b : Int) : 0 ≤ cntO cs a b := cntN_nn _ _ _
theorem add_up {cs : List CalT} : ∀ (k : Nat) (D t : Int), addN cs 1 (k + 1) D = some t → openB cs t = true ∧ D < t ∧ cntO cs (D + 1) t = k := by
  intro k
  induction k with
  | zero =>
    intro D t h
    simp only [addN] at h
    split at h
    · rename_i u hu
      cases h
      obtain ⟨h1, h2, h3⟩ := next_up hu
      exact ⟨h2, by omega, cnt_zero cs h3⟩
    · cases h
  | succ k ih =>
    intro D t h
    rw [addN] at h
    split at h
    · rename_i u hu
      obtain ⟨h1, h2, h3⟩ := next_up hu
      obtain ⟨i1, i2, i3⟩ := ih u t h
      refine ⟨i1, by omega, ?_⟩
      rw [cnt_split cs h1 (show u ≤ t by omega), cnt_zero cs h3, cnt_split cs (show u ≤ u + 1 by omega) (show u + 1 ≤ t by omega), cnt_one, if_pos h2, i3]
      omega
    · cases h
theorem add_down {cs : List CalT} : ∀ (k : Nat) (D t : Int), addN cs (-1) (k + 1) D = some t → openB cs t = true ∧ t < D ∧ cntO cs (t + 1) D = k := by
  intro k
  induction k with
  | zero =>
    intro D t h
    simp only [addN] at h
    split at h
    · rename_i u hu
      cases h
      obtain ⟨h1, h2, h3⟩ := next_down hu
      exact ⟨h2, by omega, cnt_zero cs (fun x hx hx2 => h3 x (by omega) (by omega))⟩
    · cases h
  | succ k ih =>
    intro D t h
    rw [addN] at h
    split at h
    · rename_i u hu
      obtain ⟨h1, h2, h3⟩ := next_down hu
      obtain ⟨i1, i2, i3⟩ := ih u t h
      refine ⟨i1, by omega, ?_⟩
      rw [cnt_split cs (show t + 1 ≤ u by omega) (show u ≤ D by omega), i3, cnt_split cs (show u ≤ u + 1 by omega) (show u + 1 ≤ D by omega), cnt_one, if_pos h2, cnt_zero cs (a := u + 1) (b := D) (fun x hx hx2 => h3 x (by omega) (by omega))]
      omega
    · cases h
theorem add_down_none {cs : List CalT} : ∀ (k : Nat) (D : Int), IsDay D → addN cs (-1) k D = none → cntO cs 0 D < k := by
  intro k
  induction k with
  | zero => intro D _ h; cases h
  | succ k ih =>
    intro D hD h
    rw [addN] at h
    split at h
    · rename_i u hu
      obtain ⟨h1, h2, h3⟩ := next_down hu
      have hu := openB_day h2
      have := ih u hu h
      have u0 := hu.1
      rw [cnt_split cs u0 (show u ≤ D by omega), cnt_split cs (show u ≤ u + 1 by omega) (show u + 1 ≤ D by omega), cnt_one, if_pos h2, cnt_zero cs (a := u + 1) (b := D) (fun x hx hx2 => h3 x (by omega) (by omega))]
      omega
    · rename_i hu
      by_cases h0 : IsDay (D + -1)
      · rw [cnt_zero cs (fun x _ hx => next_down_none h0 hu x (by omega))]
        omega
      · obtain ⟨d1, d2⟩ := hD
        rw [cnt_empty cs (by unfold IsDay at h0; omega)]
        omega
theorem add_back {cs : List CalT} {k : Nat} {D t : Int} (hD : IsDay D) (h : addN cs 1 k D = some t) :
    (openB cs D = true → addN cs (-1) k t = some D) ∧ (∀ b, addN cs (-1) k t = some b → b ≤ D) := by
  cases k with
  | zero => cases h; exact ⟨fun _ => rfl, fun b hb => by cases hb; omega⟩
  | succ k =>
    obtain ⟨a1, a2, a3⟩ := add_up k D t h
    refine ⟨fun ho => ?_, fun b hb => ?_⟩
    · have hc : cntO cs D t = (k + 1 : Nat) := by
        rw [cnt_split cs (show D ≤ D + 1 by omega) (show D + 1 ≤ t by omega), cnt_one, if_pos ho, a3]
        omega
      cases hb : addN cs (-1) (k + 1) t with
      | none =>
        have := add_down_none (k + 1) t (openB_day a1) hb
        rw [cnt_split cs hD.1 (show D ≤ t by omega), hc] at this
        have := cnt_nn cs 0 D
        omega
      | some b =>
        obtain ⟨b1, b2, b3⟩ := add_down k t b hb
        congr 1
        rcases Int.lt_trichotomy b D with h1 | h1 | h1
        · rw [cnt_split cs (show b + 1 ≤ D by omega) (show D ≤ t by omega), hc] at b3
          have := cnt_nn cs (b + 1) D
          omega
        · exact h1
        · rw [cnt_split cs (show D + 1 ≤ b by omega) (show b ≤ t by omega), cnt_split cs (show b ≤ b + 1 by omega) (show b + 1 ≤ t by omega), cnt_one, if_pos b1, b3] at a3
          have := cnt_nn cs (D + 1) b
          omega
    · obtain ⟨b1, b2, b3⟩ := add_down k t b hb
      rcases Int.le_total b D with h1 | h1
      · exact h1
      · rcases Int.lt_or_eq_of_le h1 with h1 | h1
        · rw [cnt_split cs (show D + 1 ≤ b by omega) (show b ≤ t by omega), cnt_split cs (show b ≤ b + 1 by omega) (show b + 1 ≤ t by omega), cnt_one, if_pos b1, b3] at a3
          have := cnt_nn cs (D + 1) b
          omega
        · omega
theorem add_day {cs : List CalT} {s : Int} : ∀ {k : Nat} {D t : Int}, IsDay D → addN cs s k D = some t → IsDay t
  | 0, _, _, hD, h => by cases h; exact hD
  | k + 1, D, t, _, h => by
    rw [addN] at h
    split at h
    · rename_i u hu
      exact add_day (openB_day (nextN_day _ _ _ _ _ hu)) h
    · cases h
end Go.Proofs.YtlhmfgbaefaneabGreatDoor.ref6
namespace Go.Proofs.YtlhmfgbaefaneabGreatDoor.law6
open Go Go.RowKit Go.Proofs.YtlhmfgbaefaneabGreatDoor.day Go.Proofs.YtlhmfgbaefaneabGreatDoor.date
open Go.Proofs.YtlhmfgbaefaneabGreatDoor.ref6 (IntsAt RulesAt CalsAt CalT Rule May openB nextD addN cntO rollD Near)
theorem rulesO_of {w : World} {v : Value} {l : List Rule} (h : RulesAt w v l) : RulesO w v l := by
  obtain ⟨ao, cap, rfl, h1, h2⟩ := h
  refine ⟨ao, cap, rfl, by omega, fun k r hk => ?_⟩
  obtain ⟨g, e, c0, c1, c2, c3, c4, c5⟩ := h2 k r hk
  refine ⟨g, 0, e, ?_, ?_, ?_, ?_, ?_, ?_⟩ <;> rw [Nat.zero_add] <;> assumption
theorem newCode_ok (l : List Rule) (m : List Int) (hm : m.length ≤ 100) (hd : ∀ z ∈ m, IsDay z) : newCode (rules8 l 8) m = 0 := by
  have h1 := rules8_len l 8
  unfold newCode
  rw [if_neg (by omega), if_neg (by
    rw [Bool.not_eq_false, List.all_eq_true]
    intro r hr
    exact (List.mem_filter.1 hr).2), if_neg (by
    rw [Bool.not_eq_false, List.all_eq_true]
    intro z hz
    exact decide_eq_true (hd z hz))]
theorem newCode80 (l : List Rule) : newCode (rules8 l 8) [] = 0 := newCode_ok l _ (by simp) (fun z hz => by cases hz)
theorem New_drawn0 {IsC : World → Value → List CalT → Prop} (H : CalC IsC) (rv : Value) (l : List Rule) (w : World) (hw : Wd w) (hr : RulesAt w rv (rules8 l 8)) :
    Calls Tryz.prog 42 #[rv, .slice none 0 0] w fun e w' => ∃ ad, e = .returned (.tuple #[.pointer (some ad), .nilIface]) ∧ CalV H w' (.pointer (some ad)) [⟨rules8 l 8, []⟩] ∧ Below w.heap.size w w' :=
  H.new rv _ _ _ w hw (rulesO_of hr) (intsO_nil w) (newCode80 l)
end Go.Proofs.YtlhmfgbaefaneabGreatDoor.law6
