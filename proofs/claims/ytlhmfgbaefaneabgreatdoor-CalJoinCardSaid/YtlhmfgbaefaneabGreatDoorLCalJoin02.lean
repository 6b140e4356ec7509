/-
  The steps of the walks, part 2: CalM, Law6Cal.
-/
import Derived.Test.YtlhmfgbaefaneabGreatDoorB01
import Derived.Test.YtlhmfgbaefaneabGreatDoorB02
import Derived.Test.YtlhmfgbaefaneabGreatDoorB03
import Derived.Test.YtlhmfgbaefaneabGreatDoorB04
import Derived.Test.YtlhmfgbaefaneabGreatDoorB05
import Derived.Test.YtlhmfgbaefaneabGreatDoorB06
import Derived.Test.YtlhmfgbaefaneabGreatDoorB07
import Derived.Test.YtlhmfgbaefaneabGreatDoorB08
import Derived.Test.YtlhmfgbaefaneabGreatDoorB09
import Derived.Test.YtlhmfgbaefaneabGreatDoorB10
import Derived.Test.YtlhmfgbaefaneabGreatDoorB11
import Derived.Test.YtlhmfgbaefaneabGreatDoorB12
import Derived.Test.YtlhmfgbaefaneabGreatDoorB13
import Derived.Test.YtlhmfgbaefaneabGreatDoorB14
import Derived.Test.YtlhmfgbaefaneabGreatDoorB15
import Derived.Test.YtlhmfgbaefaneabGreatDoorB16
import Derived.Test.YtlhmfgbaefaneabGreatDoorB17
import Derived.Test.YtlhmfgbaefaneabGreatDoorB18
import Derived.Test.YtlhmfgbaefaneabGreatDoorB19
import Derived.Test.YtlhmfgbaefaneabGreatDoorB20
import Derived.Test.YtlhmfgbaefaneabGreatDoorB21
import Derived.Test.YtlhmfgbaefaneabGreatDoorB22
import Derived.Test.YtlhmfgbaefaneabGreatDoorB23
import Derived.Test.YtlhmfgbaefaneabGreatDoorB24
import Derived.Test.YtlhmfgbaefaneabGreatDoorB25
import Derived.Test.YtlhmfgbaefaneabGreatDoorB26
import Derived.Test.YtlhmfgbaefaneabGreatDoorB27
import Derived.Test.YtlhmfgbaefaneabGreatDoorB28
import Derived.Test.YtlhmfgbaefaneabGreatDoorB29
import Derived.Test.YtlhmfgbaefaneabGreatDoorB30
import Derived.Test.YtlhmfgbaefaneabGreatDoorB31
import Derived.Test.YtlhmfgbaefaneabGreatDoorB32
import Derived.Test.YtlhmfgbaefaneabGreatDoorB33
import Derived.Test.YtlhmfgbaefaneabGreatDoorB34
import Derived.Test.YtlhmfgbaefaneabGreatDoorB35
import Derived.Test.YtlhmfgbaefaneabGreatDoorB36
import Derived.Test.YtlhmfgbaefaneabGreatDoorB37
import Derived.Test.YtlhmfgbaefaneabGreatDoorB38
import Derived.Test.YtlhmfgbaefaneabGreatDoorB39
import Derived.Test.YtlhmfgbaefaneabGreatDoorB40
import Derived.Test.YtlhmfgbaefaneabGreatDoorLCalJoin01
namespace Go.Proofs.YtlhmfgbaefaneabGreatDoor.ref6
open Go.Proofs.YtlhmfgbaefaneabGreatDoor.day
theorem openB_mem {cs cs' : List CalT} (h : ∀ c, c ∈ cs ↔ c ∈ cs') (D : Int) : openB cs D = openB cs' D := by
  rw [Bool.eq_iff_iff, openB_iff, openB_iff]
  constructor
  · rintro ⟨y, m, a, hc, e, h1, h2, h3⟩
    exact ⟨y, m, a, hc, e, h1, h2, fun c hm => h3 c ((h c).2 hm)⟩
  · rintro ⟨y, m, a, hc, e, h1, h2, h3⟩
    exact ⟨y, m, a, hc, e, h1, h2, fun c hm => h3 c ((h c).1 hm)⟩
theorem openB_append (cs cs' : List CalT) (D : Int) : openB (cs ++ cs') D = (openB cs D && openB cs' D) := by
  rw [Bool.eq_iff_iff, Bool.and_eq_true, openB_iff, openB_iff, openB_iff]
  constructor
  · rintro ⟨y, m, a, hc, e, h1, h2, h3⟩
    exact ⟨⟨y, m, a, hc, e, h1, h2, fun c hm => h3 c (List.mem_append.2 (Or.inl hm))⟩, ⟨y, m, a, hc, e, h1, h2, fun c hm => h3 c (List.mem_append.2 (Or.inr hm))⟩⟩
  · rintro ⟨⟨y, m, a, hc, e, h1, h2, h3⟩, ⟨y', m', a', hc', e', h1', h2', h3'⟩⟩
    obtain ⟨rfl, -, -⟩ := dayOf_inj hc hc' (e.symm.trans e')
    exact ⟨y, m, a, hc, e, h1, h2, fun c hm => (List.mem_append.1 hm).elim (h3 c) (h3' c)⟩
theorem openB_more {rs : List Rule} {ms : List Int} {D : Int} (h : D ∈ ms) : openB [⟨rs, ms⟩] D = false := by
  cases ho : openB [⟨rs, ms⟩] D
  · rfl
  · obtain ⟨y, m, a, hc, e, -, -, h3⟩ := (openB_iff _ _).1 ho
    exact absurd rfl ((h3 _ (List.mem_singleton.2 rfl)).2 D h)
end Go.Proofs.YtlhmfgbaefaneabGreatDoor.ref6
namespace Go.Proofs.YtlhmfgbaefaneabGreatDoor.law6
open Go Go.RowKit Go.Proofs.YtlhmfgbaefaneabGreatDoor.day Go.Proofs.YtlhmfgbaefaneabGreatDoor.date
open Go.Proofs.YtlhmfgbaefaneabGreatDoor.ref6 (IntsAt RulesAt CalsAt CalT Rule May openB nextD addN cntO rollD Near)
theorem rulesO_of {w : World} {v : Value} {l : List Rule} (h : RulesAt w v l) : RulesO w v l := by
  obtain ⟨ao, cap, rfl, h1, h2⟩ := h
  refine ⟨ao, cap, rfl, by omega, fun k r hk => ?_⟩
  obtain ⟨g, e, c0, c1, c2, c3, c4, c5⟩ := h2 k r hk
  refine ⟨g, 0, e, ?_, ?_, ?_, ?_, ?_, ?_⟩ <;> rw [Nat.zero_add] <;> assumption
theorem intsO_of {w : World} {v : Value} {l : List Int} (h : IntsAt w v l) (hb : ∀ z ∈ l, -9223372036854775808 ≤ z ∧ z ≤ 9223372036854775807) : IntsO w v l := by
  obtain ⟨ao, cap, rfl, h1, h2⟩ := h
  refine ⟨ao, cap, rfl, by omega, fun k z hk => ?_⟩
  obtain ⟨g, e, c⟩ := h2 k z hk
  have hz := hb z (List.mem_of_getElem? hk)
  exact ⟨hz.1, hz.2, g, 0, e, by rw [Nat.zero_add]; exact c⟩
theorem days8_day (l : List Int) (k : Nat) : ∀ z ∈ days8 l k, IsDay z := by
  intro z hz
  unfold days8 at hz
  obtain ⟨x, -, rfl⟩ := List.mem_map.1 hz
  exact Day_isDay x
theorem days8_O {w : World} {v : Value} {l : List Int} (h : IntsAt w v (days8 l 8)) : IntsO w v (days8 l 8) :=
  intsO_of h fun z hz => by obtain ⟨h1, h2⟩ := days8_day l 8 z hz; omega
theorem newCode_ok (l : List Rule) (m : List Int) (hm : m.length ≤ 100) (hd : ∀ z ∈ m, IsDay z) : newCode (rules8 l 8) m = 0 := by
  have h1 := rules8_len l 8
  unfold newCode
  rw [if_neg (by omega), if_neg (by
    rw [Bool.not_eq_false, List.all_eq_true]
    intro r hr
    exact (List.mem_filter.1 hr).2), if_neg (by
    rw [Bool.not_eq_false, List.all_eq_true]
    intro z hz
    exact decide_eq_true (hd z hz))]
theorem newCode8 (l : List Rule) (m : List Int) : newCode (rules8 l 8) (days8 m 8) = 0 :=
  newCode_ok l _ (by unfold days8; simp; omega) (days8_day m 8)
theorem newCode80 (l : List Rule) : newCode (rules8 l 8) [] = 0 := newCode_ok l _ (by simp) (fun z hz => by cases hz)
theorem New_drawn {IsC : World → Value → List CalT → Prop} (H : CalC IsC) (rv mv : Value) (l : List Rule) (m : List Int) (w : World) (hw : Wd w) (hr : RulesAt w rv (rules8 l 8)) (hm : IntsAt w mv (days8 m 8)) :
    Calls Tryz.prog 42 #[rv, mv] w fun e w' => ∃ ad, e = .returned (.tuple #[.pointer (some ad), .nilIface]) ∧ CalV H w' (.pointer (some ad)) [⟨rules8 l 8, days8 m 8⟩] ∧ Below w.heap.size w w' :=
  H.new rv _ mv _ w hw (rulesO_of hr) (days8_O hm) (newCode8 l m)
theorem New_drawn0 {IsC : World → Value → List CalT → Prop} (H : CalC IsC) (rv : Value) (l : List Rule) (w : World) (hw : Wd w) (hr : RulesAt w rv (rules8 l 8)) :
    Calls Tryz.prog 42 #[rv, .slice none 0 0] w fun e w' => ∃ ad, e = .returned (.tuple #[.pointer (some ad), .nilIface]) ∧ CalV H w' (.pointer (some ad)) [⟨rules8 l 8, []⟩] ∧ Below w.heap.size w w' :=
  H.new rv _ _ _ w hw (rulesO_of hr) (intsO_nil w) (newCode80 l)
theorem CalP_new {IsC : World → Value → List CalT → Prop} {H : CalC IsC} (w : World) (us : List (Option Addr × List CalT)) (hl : us.length ≤ 1000) (h : ∀ u ∈ us, CalV H w (.pointer u.1) u.2) :
    CalP H (w.alloc (.cells (us.map fun u => Value.pointer u.1).toArray 22)) (.slice (some ⟨w.heap.size, 0, none⟩) us.length us.length) (us.flatMap (·.2)) := by
  refine ⟨us, ⟨_, _, rfl, hl, fun k u hu => ⟨w.heap.size, rfl, ?_, ?_⟩⟩, rfl⟩
  · rw [cell_of_row _ w.heap.size _ _ _ (0, 0) (heap_alloc_new _ _)]
    simp [hu]
  · exact H.keep _ _ _ _ (h u (List.mem_of_getElem? hu)) ((Below.refl _ _).alloc (Nat.le_refl _) _)
theorem CalP_two {IsC : World → Value → List CalT → Prop} {H : CalC IsC} {w : World} {p1 p2 : Option Addr} {c1 c2 : List CalT} (h1 : CalV H w (.pointer p1) c1) (h2 : CalV H w (.pointer p2) c2) :
    CalP H (w.alloc (.cells #[.pointer p1, .pointer p2] 22)) (.slice (some ⟨w.heap.size, 0, none⟩) 2 2) (c1 ++ c2) := by
  have h := CalP_new (H := H) w [(p1, c1), (p2, c2)] (by simp) (fun u hu => by
    simp only [List.mem_cons, List.not_mem_nil, or_false] at hu
    rcases hu with rfl | rfl
    · exact h1
    · exact h2)
  simpa using h
theorem CalP_three {IsC : World → Value → List CalT → Prop} {H : CalC IsC} {w : World} {p1 p2 p3 : Option Addr} {c1 c2 c3 : List CalT} (h1 : CalV H w (.pointer p1) c1) (h2 : CalV H w (.pointer p2) c2) (h3 : CalV H w (.pointer p3) c3) :
    CalP H (w.alloc (.cells #[.pointer p1, .pointer p2, .pointer p3] 22)) (.slice (some ⟨w.heap.size, 0, none⟩) 3 3) (c1 ++ (c2 ++ c3)) := by
  have h := CalP_new (H := H) w [(p1, c1), (p2, c2), (p3, c3)] (by simp) (fun u hu => by
    simp only [List.mem_cons, List.not_mem_nil, or_false] at hu
    rcases hu with rfl | rfl | rfl
    · exact h1
    · exact h2
    · exact h3)
  simpa using h
theorem Join_any {IsC : World → Value → List CalT → Prop} (H : CalC IsC) (jv : Value) (cs : List CalT) (w : World) (hw : Wd w) (h : CalP H w jv cs) :
    Calls Tryz.prog 45 #[jv] w fun e w' => ∃ ad, e = .returned (.pointer ad) ∧ CalV H w' (.pointer ad) cs ∧ Below w.heap.size w w' := by
  obtain ⟨us, h, rfl⟩ := h
  exact H.join jv us w hw h
theorem rulesO_nil (w : World) : RulesO w (.slice none 0 0) [] := ⟨none, 0, rfl, by simp, fun k z hk => by simp at hk⟩
theorem intsO_one (w : World) {D : Int} (hD : IsDay D) : IntsO (w.alloc (.cells #[.int .i64 D] 3)) (.slice (some ⟨w.heap.size, 0, none⟩) 1 1) [D] := by
  refine ⟨_, _, rfl, by simp, fun k z hk => ?_⟩
  obtain ⟨rfl, rfl⟩ : k = 0 ∧ z = D := by
    cases k
    · exact ⟨rfl, by simpa using hk.symm⟩
    · simp at hk
  obtain ⟨h1, h2⟩ := hD
  refine ⟨by omega, by omega, w.heap.size, 0, rfl, ?_⟩
  rw [cell_of_row _ w.heap.size _ _ _ (0, 0) (heap_alloc_new _ _)]
  rfl
theorem New_one {IsC : World → Value → List CalT → Prop} (H : CalC IsC) (mv : Value) (D : Int) (hD : IsDay D) (w : World) (hw : Wd w) (hm : IntsO w mv [D]) :
    Calls Tryz.prog 42 #[.slice none 0 0, mv] w fun e w' => ∃ ad, e = .returned (.tuple #[.pointer (some ad), .nilIface]) ∧ CalV H w' (.pointer (some ad)) [⟨[], [D]⟩] ∧ Below w.heap.size w w' :=
  H.new _ _ mv _ w hw (rulesO_nil w) hm (by unfold newCode; rw [if_neg (by simp), if_neg (by simp), if_neg (by simpa using hD)])
end Go.Proofs.YtlhmfgbaefaneabGreatDoor.law6
