/-
  The steps of the walks, part 2: RefGet6, DateG.
-/
import Derived.Laws.IdiomStrings
import Derived.BigRegion
import Derived.Deep.RegionHeld3
import Derived.Test.YtlhmfgbaefaneaaGreatDoorB01
import Derived.Test.YtlhmfgbaefaneaaGreatDoorB02
import Derived.Test.YtlhmfgbaefaneaaGreatDoorB03
import Derived.Test.YtlhmfgbaefaneaaGreatDoorB04
import Derived.Test.YtlhmfgbaefaneaaGreatDoorB05
import Derived.Test.YtlhmfgbaefaneaaGreatDoorB06
import Derived.Test.YtlhmfgbaefaneaaGreatDoorB07
import Derived.Test.YtlhmfgbaefaneaaGreatDoorB08
import Derived.Test.YtlhmfgbaefaneaaGreatDoorB09
import Derived.Test.YtlhmfgbaefaneaaGreatDoorB10
import Derived.Test.YtlhmfgbaefaneaaGreatDoorB11
import Derived.Test.YtlhmfgbaefaneaaGreatDoorB12
import Derived.Test.YtlhmfgbaefaneaaGreatDoorB13
import Derived.Test.YtlhmfgbaefaneaaGreatDoorB14
import Derived.Test.YtlhmfgbaefaneaaGreatDoorB15
import Derived.Test.YtlhmfgbaefaneaaGreatDoorB16
import Derived.Test.YtlhmfgbaefaneaaGreatDoorB17
import Derived.Test.YtlhmfgbaefaneaaGreatDoorB18
import Derived.Test.YtlhmfgbaefaneaaGreatDoorB19
import Derived.Test.YtlhmfgbaefaneaaGreatDoorB20
import Derived.Test.YtlhmfgbaefaneaaGreatDoorB21
import Derived.Test.YtlhmfgbaefaneaaGreatDoorB22
import Derived.Test.YtlhmfgbaefaneaaGreatDoorLDateAll01
namespace Go.Proofs.YtlhmfgbaefaneaaGreatDoor.ref6
open Go Go.RowKit Go.Proofs.YtlhmfgbaefaneaaGreatDoor.day
open Go.Proofs.YtlhmfgbaefaneaaGreatDoor.ref (str str_size ch seg IsDig)
theorem ref_ch_lt (l : List UInt8) (i : Nat) : ch l i < 256 := by unfold ch; exact UInt8.toNat_lt _
def GRel (w : World) (l : List UInt8) (iv : Value) (wr : World) : Prop :=
  ∃ i : Nat, i ≤ 10 ∧ iv = .int .i64 (i : Nat) ∧ (∀ j, j < i → j ≠ 4 → j ≠ 7 → IsDig l j) ∧ N3 wr w.heap.size (seg l 0 (min i 4)) (seg l 5 (min (i - 5) 2)) (seg l 8 (i - 8)) ∧ Below w.heap.size w wr
theorem seg_lt6 {l : List UInt8} (st m : Nat) (hm : m ≤ 4) (h : ∀ i, st ≤ i → i < st + m → IsDig l i) : seg l st m < 10000 :=
  Nat.lt_of_lt_of_le (ref.seg_lt h) (Nat.pow_le_pow_right (by omega) hm)
set_option maxRecDepth 100000 in
set_option maxHeartbeats 4000000 in
theorem Get_any (l : List UInt8) (hl : l.length ≤ 4611686018427387904) (w : World) :
    Calls Tryz.prog 30 #[.string (str l)] w fun e w' => GetEnd6 l w e w' := by
  have hz : (str l).size = l.length := str_size l
  have HG := Lib.hid (fun i (h : i < (str l).size) => ref_ch_get (l := l) h)
  obtain ⟨N, hN⟩ : ∃ N, l.length = N := ⟨_, rfl⟩
  rw [hN] at hz hl
  have HN := Lib.hid hN
  have HForm := Lib.hid (fun (h : ¬ DayForm l) (w' : World) (hb : Below w.heap.size w w') => GetEnd6.form h hb)
  clear hN
  generalize str l = s at *
  by_cases h10 : N = 10
  · subst h10
    have g4 : ∀ h : 4 < s.size, (s[4]'h).toNat = ch l 4 := fun h => HG.out _ h
    have g7 : ∀ h : 7 < s.size, (s[7]'h).toNat = ch l 7 := fun h => HG.out _ h
    by_cases h4 : ch l 4 = 45
    · have b4 : (((ch l 4 : Nat) : Int) != 45) = false := by rw [h4]; rfl
      by_cases h7 : ch l 7 = 45
      · have b7 : (((ch l 7 : Nat) : Int) != 45) = false := by rw [h7]; rfl
        have H4 := Lib.hid h4
        have H7 := Lib.hid h7
        clear h4 h7
        generalize ch l 4 = c4 at g4 b4
        generalize ch l 7 = c7 at g7 b7
        go_enter Tryz.func30, Tryz.ntmps30
        go_wp2
        go_loopw [5] (fun iv wr => GRel w l iv wr) (fun iv _ => 10 - (intOf iv).toNat)
        case atStart => exact ⟨0, by omega, rfl, fun j hj => absurd hj (Nat.not_lt_zero _), heap_alloc_new _ _, (Below.refl _ _).alloc (Nat.le_refl _) _⟩
        case round =>
          obtain ⟨i, hi, rfl, hdg, h3, hb⟩ := hrel
          have HD := Lib.hid hdg
          have H3 := Lib.hid h3
          have HB := Lib.hid hb
          clear hdg h3 hb
          rcases (show i = 0 ∨ i = 1 ∨ i = 2 ∨ i = 3 ∨ i = 4 ∨ i = 5 ∨ i = 6 ∨ i = 7 ∨ i = 8 ∨ i = 9 ∨ i = 10 by omega) with rfl | rfl | rfl | rfl | rfl | rfl | rfl | rfl | rfl | rfl | rfl
          · obtain ⟨q0, q1, q2, f0, f1, f2⟩ := H3.out.cells
            have gi : ∀ h : 0 < s.size, (s[0]'h).toNat = ch l 0 := fun h => HG.out _ h
            have hc256 := ref_ch_lt l 0
            simp only [show min 0 4 = 0 from rfl, show min (0 - 5) 2 = 0 from rfl, show 0 - 8 = 0 from rfl] at q0 q1 q2
            by_cases hd : IsDig l 0
            · obtain ⟨d1, d2⟩ := id hd
              have HDi := Lib.hid hd
              have hsl : seg l 0 0 < 10000 := seg_lt6 0 0 (by omega) (fun j h1 h2 => HD.out j (by omega) (by omega) (by omega))
              have HSg := Lib.hid (show seg l 0 1 = seg l 0 0 * 10 + (ch l 0 - 48) from rfl)
              clear hd
              obtain ⟨S0, hS0⟩ : ∃ S, S = seg l 0 0 := ⟨_, rfl⟩
              obtain ⟨c, hcc⟩ : ∃ c, c = ch l 0 := ⟨_, rfl⟩
              rw [← hS0] at q0 hsl
              rw [← hcc] at gi hc256 d1 d2
              have he : (S0 : Int) * 10 + ((c : Int) - 48) = ((seg l 0 1 : Nat) : Int) := by rw [HSg.out, ← hS0, ← hcc]; omega
              have HE := Lib.hid he
              clear he hS0 hcc
              go_wp2
              go_region
              go_wp2
              rw [HE.out]
              refine ⟨⟨1, by omega, by go_num, fun j hj h4 h7 => ?_, (show N3 _ w.heap.size (seg l 0 (min 1 4)) (seg l 5 (min (1 - 5) 2)) (seg l 8 (1 - 8)) from H3.out.set0 (seg l 0 1)), (HB.out.setCell (Nat.le_refl _) _).drew⟩, by simp [intOf]⟩
              by_cases e : j = 0
              · rw [e]; exact HDi.out
              · exact HD.out j (by omega) h4 h7
            · have HEnd := Lib.hid (HForm.out (fun hf => hd (hf.2.2.2 0 (by omega) (by omega) (by omega))))
              have hdd : ch l 0 < 48 ∨ 57 < ch l 0 := by unfold IsDig at hd; omega
              clear hd
              generalize ch l 0 = c at gi hc256 hdd
              rcases hdd with hdd | hdd
              all_goals
                go_wp2
                go_ret2
                exact HEnd.out _ HB.out
          · obtain ⟨q0, q1, q2, f0, f1, f2⟩ := H3.out.cells
            have gi : ∀ h : 1 < s.size, (s[1]'h).toNat = ch l 1 := fun h => HG.out _ h
            have hc256 := ref_ch_lt l 1
            simp only [show min 1 4 = 1 from rfl, show min (1 - 5) 2 = 0 from rfl, show 1 - 8 = 0 from rfl] at q0 q1 q2
            by_cases hd : IsDig l 1
            · obtain ⟨d1, d2⟩ := id hd
              have HDi := Lib.hid hd
              have hsl : seg l 0 1 < 10000 := seg_lt6 0 1 (by omega) (fun j h1 h2 => HD.out j (by omega) (by omega) (by omega))
              have HSg := Lib.hid (show seg l 0 2 = seg l 0 1 * 10 + (ch l 1 - 48) from rfl)
              clear hd
              obtain ⟨S0, hS0⟩ : ∃ S, S = seg l 0 1 := ⟨_, rfl⟩
              obtain ⟨c, hcc⟩ : ∃ c, c = ch l 1 := ⟨_, rfl⟩
              rw [← hS0] at q0 hsl
              rw [← hcc] at gi hc256 d1 d2
              have he : (S0 : Int) * 10 + ((c : Int) - 48) = ((seg l 0 2 : Nat) : Int) := by rw [HSg.out, ← hS0, ← hcc]; omega
              have HE := Lib.hid he
              clear he hS0 hcc
              go_wp2
              go_region
              go_wp2
              rw [HE.out]
              refine ⟨⟨2, by omega, by go_num, fun j hj h4 h7 => ?_, (show N3 _ w.heap.size (seg l 0 (min 2 4)) (seg l 5 (min (2 - 5) 2)) (seg l 8 (2 - 8)) from H3.out.set0 (seg l 0 2)), (HB.out.setCell (Nat.le_refl _) _).drew⟩, by simp [intOf]⟩
              by_cases e : j = 1
              · rw [e]; exact HDi.out
              · exact HD.out j (by omega) h4 h7
            · have HEnd := Lib.hid (HForm.out (fun hf => hd (hf.2.2.2 1 (by omega) (by omega) (by omega))))
              have hdd : ch l 1 < 48 ∨ 57 < ch l 1 := by unfold IsDig at hd; omega
              clear hd
              generalize ch l 1 = c at gi hc256 hdd
              rcases hdd with hdd | hdd
              all_goals
                go_wp2
                go_ret2
                exact HEnd.out _ HB.out
          · obtain ⟨q0, q1, q2, f0, f1, f2⟩ := H3.out.cells
            have gi : ∀ h : 2 < s.size, (s[2]'h).toNat = ch l 2 := fun h => HG.out _ h
            have hc256 := ref_ch_lt l 2
            simp only [show min 2 4 = 2 from rfl, show min (2 - 5) 2 = 0 from rfl, show 2 - 8 = 0 from rfl] at q0 q1 q2
            by_cases hd : IsDig l 2
            · obtain ⟨d1, d2⟩ := id hd
              have HDi := Lib.hid hd
              have hsl : seg l 0 2 < 10000 := seg_lt6 0 2 (by omega) (fun j h1 h2 => HD.out j (by omega) (by omega) (by omega))
              have HSg := Lib.hid (show seg l 0 3 = seg l 0 2 * 10 + (ch l 2 - 48) from rfl)
              clear hd
              obtain ⟨S0, hS0⟩ : ∃ S, S = seg l 0 2 := ⟨_, rfl⟩
              obtain ⟨c, hcc⟩ : ∃ c, c = ch l 2 := ⟨_, rfl⟩
              rw [← hS0] at q0 hsl
              rw [← hcc] at gi hc256 d1 d2
              have he : (S0 : Int) * 10 + ((c : Int) - 48) = ((seg l 0 3 : Nat) : Int) := by rw [HSg.out, ← hS0, ← hcc]; omega
              have HE := Lib.hid he
              clear he hS0 hcc
              go_wp2
              go_region
              go_wp2
              rw [HE.out]
              refine ⟨⟨3, by omega, by go_num, fun j hj h4 h7 => ?_, (show N3 _ w.heap.size (seg l 0 (min 3 4)) (seg l 5 (min (3 - 5) 2)) (seg l 8 (3 - 8)) from H3.out.set0 (seg l 0 3)), (HB.out.setCell (Nat.le_refl _) _).drew⟩, by simp [intOf]⟩
              by_cases e : j = 2
              · rw [e]; exact HDi.out
              · exact HD.out j (by omega) h4 h7
            · have HEnd := Lib.hid (HForm.out (fun hf => hd (hf.2.2.2 2 (by omega) (by omega) (by omega))))
              have hdd : ch l 2 < 48 ∨ 57 < ch l 2 := by unfold IsDig at hd; omega
              clear hd
              generalize ch l 2 = c at gi hc256 hdd
              rcases hdd with hdd | hdd
              all_goals
                go_wp2
                go_ret2
                exact HEnd.out _ HB.out
          · obtain ⟨q0, q1, q2, f0, f1, f2⟩ := H3.out.cells
            have gi : ∀ h : 3 < s.size, (s[3]'h).toNat = ch l 3 := fun h => HG.out _ h
            have hc256 := ref_ch_lt l 3
            simp only [show min 3 4 = 3 from rfl, show min (3 - 5) 2 = 0 from rfl, show 3 - 8 = 0 from rfl] at q0 q1 q2
            by_cases hd : IsDig l 3
            · obtain ⟨d1, d2⟩ := id hd
              have HDi := Lib.hid hd
              have hsl : seg l 0 3 < 10000 := seg_lt6 0 3 (by omega) (fun j h1 h2 => HD.out j (by omega) (by omega) (by omega))
              have HSg := Lib.hid (show seg l 0 4 = seg l 0 3 * 10 + (ch l 3 - 48) from rfl)
              clear hd
              obtain ⟨S0, hS0⟩ : ∃ S, S = seg l 0 3 := ⟨_, rfl⟩
              obtain ⟨c, hcc⟩ : ∃ c, c = ch l 3 := ⟨_, rfl⟩
              rw [← hS0] at q0 hsl
              rw [← hcc] at gi hc256 d1 d2
              have he : (S0 : Int) * 10 + ((c : Int) - 48) = ((seg l 0 4 : Nat) : Int) := by rw [HSg.out, ← hS0, ← hcc]; omega
              have HE := Lib.hid he
              clear he hS0 hcc
              go_wp2
              go_region
              go_wp2
              rw [HE.out]
              refine ⟨⟨4, by omega, by go_num, fun j hj h4 h7 => ?_, (show N3 _ w.heap.size (seg l 0 (min 4 4)) (seg l 5 (min (4 - 5) 2)) (seg l 8 (4 - 8)) from H3.out.set0 (seg l 0 4)), (HB.out.setCell (Nat.le_refl _) _).drew⟩, by simp [intOf]⟩
              by_cases e : j = 3
              · rw [e]; exact HDi.out
              · exact HD.out j (by omega) h4 h7
            · have HEnd := Lib.hid (HForm.out (fun hf => hd (hf.2.2.2 3 (by omega) (by omega) (by omega))))
              have hdd : ch l 3 < 48 ∨ 57 < ch l 3 := by unfold IsDig at hd; omega
              clear hd
              generalize ch l 3 = c at gi hc256 hdd
              rcases hdd with hdd | hdd
              all_goals
                go_wp2
                go_ret2
                exact HEnd.out _ HB.out
          · go_wp2
            go_roundw
            case rel => exact ⟨5, by omega, by go_num, fun j hj h4 h7 => HD.out j (by omega) h4 h7, H3.out, HB.out⟩
            case measure => simp [intOf]
          · obtain ⟨q0, q1, q2, f0, f1, f2⟩ := H3.out.cells
            have gi : ∀ h : 5 < s.size, (s[5]'h).toNat = ch l 5 := fun h => HG.out _ h
            have hc256 := ref_ch_lt l 5
            simp only [show min 5 4 = 4 from rfl, show min (5 - 5) 2 = 0 from rfl, show 5 - 8 = 0 from rfl] at q0 q1 q2
            by_cases hd : IsDig l 5
            · obtain ⟨d1, d2⟩ := id hd
              have HDi := Lib.hid hd
              have hsl : seg l 5 0 < 10000 := seg_lt6 5 0 (by omega) (fun j h1 h2 => HD.out j (by omega) (by omega) (by omega))
              have HSg := Lib.hid (show seg l 5 1 = seg l 5 0 * 10 + (ch l 5 - 48) from rfl)
              clear hd
              obtain ⟨S0, hS0⟩ : ∃ S, S = seg l 5 0 := ⟨_, rfl⟩
              obtain ⟨c, hcc⟩ : ∃ c, c = ch l 5 := ⟨_, rfl⟩
              rw [← hS0] at q1 hsl
              rw [← hcc] at gi hc256 d1 d2
              have he : (S0 : Int) * 10 + ((c : Int) - 48) = ((seg l 5 1 : Nat) : Int) := by rw [HSg.out, ← hS0, ← hcc]; omega
              have HE := Lib.hid he
              clear he hS0 hcc
              go_wp2
              go_region
              go_wp2
              rw [HE.out]
              refine ⟨⟨6, by omega, by go_num, fun j hj h4 h7 => ?_, (show N3 _ w.heap.size (seg l 0 (min 6 4)) (seg l 5 (min (6 - 5) 2)) (seg l 8 (6 - 8)) from H3.out.set1 (seg l 5 1)), (HB.out.setCell (Nat.le_refl _) _).drew⟩, by simp [intOf]⟩
              by_cases e : j = 5
              · rw [e]; exact HDi.out
              · exact HD.out j (by omega) h4 h7
            · have HEnd := Lib.hid (HForm.out (fun hf => hd (hf.2.2.2 5 (by omega) (by omega) (by omega))))
              have hdd : ch l 5 < 48 ∨ 57 < ch l 5 := by unfold IsDig at hd; omega
              clear hd
              generalize ch l 5 = c at gi hc256 hdd
              rcases hdd with hdd | hdd
              all_goals
                go_wp2
                go_ret2
                exact HEnd.out _ HB.out
          · obtain ⟨q0, q1, q2, f0, f1, f2⟩ := H3.out.cells
            have gi : ∀ h : 6 < s.size, (s[6]'h).toNat = ch l 6 := fun h => HG.out _ h
            have hc256 := ref_ch_lt l 6
            simp only [show min 6 4 = 4 from rfl, show min (6 - 5) 2 = 1 from rfl, show 6 - 8 = 0 from rfl] at q0 q1 q2
            by_cases hd : IsDig l 6
            · obtain ⟨d1, d2⟩ := id hd
              have HDi := Lib.hid hd
              have hsl : seg l 5 1 < 10000 := seg_lt6 5 1 (by omega) (fun j h1 h2 => HD.out j (by omega) (by omega) (by omega))
              have HSg := Lib.hid (show seg l 5 2 = seg l 5 1 * 10 + (ch l 6 - 48) from rfl)
              clear hd
              obtain ⟨S0, hS0⟩ : ∃ S, S = seg l 5 1 := ⟨_, rfl⟩
              obtain ⟨c, hcc⟩ : ∃ c, c = ch l 6 := ⟨_, rfl⟩
              rw [← hS0] at q1 hsl
              rw [← hcc] at gi hc256 d1 d2
              have he : (S0 : Int) * 10 + ((c : Int) - 48) = ((seg l 5 2 : Nat) : Int) := by rw [HSg.out, ← hS0, ← hcc]; omega
              have HE := Lib.hid he
              clear he hS0 hcc
              go_wp2
              go_region
              go_wp2
              rw [HE.out]
              refine ⟨⟨7, by omega, by go_num, fun j hj h4 h7 => ?_, (show N3 _ w.heap.size (seg l 0 (min 7 4)) (seg l 5 (min (7 - 5) 2)) (seg l 8 (7 - 8)) from H3.out.set1 (seg l 5 2)), (HB.out.setCell (Nat.le_refl _) _).drew⟩, by simp [intOf]⟩
              by_cases e : j = 6
              · rw [e]; exact HDi.out
              · exact HD.out j (by omega) h4 h7
            · have HEnd := Lib.hid (HForm.out (fun hf => hd (hf.2.2.2 6 (by omega) (by omega) (by omega))))
              have hdd : ch l 6 < 48 ∨ 57 < ch l 6 := by unfold IsDig at hd; omega
              clear hd
              generalize ch l 6 = c at gi hc256 hdd
              rcases hdd with hdd | hdd
              all_goals
                go_wp2
                go_ret2
                exact HEnd.out _ HB.out
          · go_wp2
            go_roundw
            case rel => exact ⟨8, by omega, by go_num, fun j hj h4 h7 => HD.out j (by omega) h4 h7, H3.out, HB.out⟩
            case measure => simp [intOf]
          · obtain ⟨q0, q1, q2, f0, f1, f2⟩ := H3.out.cells
            have gi : ∀ h : 8 < s.size, (s[8]'h).toNat = ch l 8 := fun h => HG.out _ h
            have hc256 := ref_ch_lt l 8
            simp only [show min 8 4 = 4 from rfl, show min (8 - 5) 2 = 2 from rfl, show 8 - 8 = 0 from rfl] at q0 q1 q2
            by_cases hd : IsDig l 8
            · obtain ⟨d1, d2⟩ := id hd
              have HDi := Lib.hid hd
              have hsl : seg l 8 0 < 10000 := seg_lt6 8 0 (by omega) (fun j h1 h2 => HD.out j (by omega) (by omega) (by omega))
              have HSg := Lib.hid (show seg l 8 1 = seg l 8 0 * 10 + (ch l 8 - 48) from rfl)
              clear hd
              obtain ⟨S0, hS0⟩ : ∃ S, S = seg l 8 0 := ⟨_, rfl⟩
              obtain ⟨c, hcc⟩ : ∃ c, c = ch l 8 := ⟨_, rfl⟩
              rw [← hS0] at q2 hsl
              rw [← hcc] at gi hc256 d1 d2
              have he : (S0 : Int) * 10 + ((c : Int) - 48) = ((seg l 8 1 : Nat) : Int) := by rw [HSg.out, ← hS0, ← hcc]; omega
              have HE := Lib.hid he
              clear he hS0 hcc
              go_wp2
              go_region
              go_wp2
              rw [HE.out]
              refine ⟨⟨9, by omega, by go_num, fun j hj h4 h7 => ?_, (show N3 _ w.heap.size (seg l 0 (min 9 4)) (seg l 5 (min (9 - 5) 2)) (seg l 8 (9 - 8)) from H3.out.set2 (seg l 8 1)), (HB.out.setCell (Nat.le_refl _) _).drew⟩, by simp [intOf]⟩
              by_cases e : j = 8
              · rw [e]; exact HDi.out
              · exact HD.out j (by omega) h4 h7
            · have HEnd := Lib.hid (HForm.out (fun hf => hd (hf.2.2.2 8 (by omega) (by omega) (by omega))))
              have hdd : ch l 8 < 48 ∨ 57 < ch l 8 := by unfold IsDig at hd; omega
              clear hd
              generalize ch l 8 = c at gi hc256 hdd
              rcases hdd with hdd | hdd
              all_goals
                go_wp2
                go_ret2
                exact HEnd.out _ HB.out
          · obtain ⟨q0, q1, q2, f0, f1, f2⟩ := H3.out.cells
            have gi : ∀ h : 9 < s.size, (s[9]'h).toNat = ch l 9 := fun h => HG.out _ h
            have hc256 := ref_ch_lt l 9
            simp only [show min 9 4 = 4 from rfl, show min (9 - 5) 2 = 2 from rfl, show 9 - 8 = 1 from rfl] at q0 q1 q2
            by_cases hd : IsDig l 9
            · obtain ⟨d1, d2⟩ := id hd
              have HDi := Lib.hid hd
              have hsl : seg l 8 1 < 10000 := seg_lt6 8 1 (by omega) (fun j h1 h2 => HD.out j (by omega) (by omega) (by omega))
              have HSg := Lib.hid (show seg l 8 2 = seg l 8 1 * 10 + (ch l 9 - 48) from rfl)
              clear hd
              obtain ⟨S0, hS0⟩ : ∃ S, S = seg l 8 1 := ⟨_, rfl⟩
              obtain ⟨c, hcc⟩ : ∃ c, c = ch l 9 := ⟨_, rfl⟩
              rw [← hS0] at q2 hsl
              rw [← hcc] at gi hc256 d1 d2
              have he : (S0 : Int) * 10 + ((c : Int) - 48) = ((seg l 8 2 : Nat) : Int) := by rw [HSg.out, ← hS0, ← hcc]; omega
              have HE := Lib.hid he
              clear he hS0 hcc
              go_wp2
              go_region
              go_wp2
              rw [HE.out]
              refine ⟨⟨10, by omega, by go_num, fun j hj h4 h7 => ?_, (show N3 _ w.heap.size (seg l 0 (min 10 4)) (seg l 5 (min (10 - 5) 2)) (seg l 8 (10 - 8)) from H3.out.set2 (seg l 8 2)), (HB.out.setCell (Nat.le_refl _) _).drew⟩, by simp [intOf]⟩
              by_cases e : j = 9
              · rw [e]; exact HDi.out
              · exact HD.out j (by omega) h4 h7
            · have HEnd := Lib.hid (HForm.out (fun hf => hd (hf.2.2.2 9 (by omega) (by omega) (by omega))))
              have hdd : ch l 9 < 48 ∨ 57 < ch l 9 := by unfold IsDig at hd; omega
              clear hd
              generalize ch l 9 = c at gi hc256 hdd
              rcases hdd with hdd | hdd
              all_goals
                go_wp2
                go_ret2
                exact HEnd.out _ HB.out
          · have HFm := Lib.hid (show DayForm l from ⟨HN.out, H4.out, H7.out, HD.out⟩)
            obtain ⟨q0, q1, q2, -⟩ := H3.out.cells
            simp only [show min 10 4 = 4 from rfl, show min (10 - 5) 2 = 2 from rfl, show 10 - 8 = 2 from rfl] at q0 q1 q2
            by_cases hc : IsCivil (seg l 0 4 : Nat) (seg l 5 2 : Nat) (seg l 8 2 : Nat)
            · have HO := Lib.hid (fun W => Of_yes _ _ _ hc W)
              have HE := Lib.hid (fun (w' : World) (hb : Below w.heap.size w w') => (show GetEnd6 l w (.returned (.tuple #[.int .i64 (dayOf (seg l 0 4 : Nat) (seg l 5 2 : Nat) (seg l 8 2 : Nat)), .int .i64 0])) w' from ⟨fun h => absurd HFm.out h, fun _ _ => rfl, fun _ h => absurd hc h, hb⟩))
              clear hc
              generalize dayOf (seg l 0 4 : Nat) (seg l 5 2 : Nat) (seg l 8 2 : Nat) = Dy at *
              go_wp2_with (first
                | (go_at_call 28; (with_reducible refine (HO.out _).mono ?_); rintro e w4 ⟨rfl, hb⟩
                   have HB4 := Lib.hid (HB.out.trans (hb.mono HB.out.size))
                   clear hb)
                | (fail "no arm"))
              go_ret2
              exact HE.out _ HB4.out
            · have HO := Lib.hid (fun W => Of_no _ _ _ hc W)
              have HE := Lib.hid (fun (w' : World) (hb : Below w.heap.size w w') => (show GetEnd6 l w (.returned (.tuple #[.int .i64 0, .int .i64 4])) w' from ⟨fun h => absurd HFm.out h, fun _ h => absurd h hc, fun _ _ => rfl, hb⟩))
              clear hc
              go_wp2_with (first
                | (go_at_call 28; (with_reducible refine (HO.out _).mono ?_); rintro e w4 ⟨rfl, hb⟩
                   have HB4 := Lib.hid (HB.out.trans (hb.mono HB.out.size))
                   clear hb)
                | (fail "no arm"))
              go_ret2
              exact HE.out _ HB4.out
      · have b7 : (((ch l 7 : Nat) : Int) != 45) = true := by simp; omega
        have HE := Lib.hid (HForm.out (fun hf => h7 hf.2.2.1))
        clear h4 h7
        generalize ch l 4 = c4 at g4 b4
        generalize ch l 7 = c7 at g7 b7
        go_enter Tryz.func30, Tryz.ntmps30
        go_wp2
        go_ret2
        exact HE.out _ (Below.refl _ _)
    · have b4 : (((ch l 4 : Nat) : Int) != 45) = true := by simp; omega
      have HE := Lib.hid (HForm.out (fun hf => h4 hf.2.1))
      clear h4
      generalize ch l 4 = c4 at g4 b4
      go_enter Tryz.func30, Tryz.ntmps30
      go_wp2
      go_ret2
      exact HE.out _ (Below.refl _ _)
  · have HE := Lib.hid (HForm.out (fun hf => h10 (HN.out.symm.trans hf.1)))
    have b10 : (((N : Nat) : Int) != 10) = true := by simp; omega
    clear h10
    go_enter Tryz.func30, Tryz.ntmps30
    go_wp2
    go_ret2
    exact HE.out _ (Below.refl _ _)
end Go.Proofs.YtlhmfgbaefaneaaGreatDoor.ref6
namespace Go.Proofs.YtlhmfgbaefaneaaGreatDoor.date
open Go Go.RowKit Go.Proofs.YtlhmfgbaefaneaaGreatDoor.day
open Go.Proofs.YtlhmfgbaefaneaaGreatDoor.ref (str str_size ch seg IsDig seg_lt)
open Go.Proofs.YtlhmfgbaefaneaaGreatDoor.ref6 (DayForm ref_ch_get ref_ch_lt drewN_below6)
set_option maxRecDepth 100000 in
theorem isDigit_yes (c : Nat) (h1 : 48 ≤ c) (h2 : c ≤ 57) (w : World) :
    Calls Tryz.prog 122 #[.int .u8 (c : Nat)] w fun e w' => e = .returned (.bool true) ∧ w = w' := by
  go_enter Tryz.func122, Tryz.ntmps122
  go_wp2
  go_ret
  refine ⟨?_, rfl⟩
  simp
  omega
set_option maxRecDepth 100000 in
theorem isDigit_no (c : Nat) (h : c < 48 ∨ 57 < c) (w : World) :
    Calls Tryz.prog 122 #[.int .u8 (c : Nat)] w fun e w' => e = .returned (.bool false) ∧ w = w' := by
  rcases (show c < 48 ∨ (48 ≤ c ∧ 57 < c) by omega) with h | ⟨h1, h⟩
  all_goals
    go_enter Tryz.func122, Tryz.ntmps122
    go_wp2
    go_ret
    refine ⟨?_, rfl⟩
    first | rfl | (simp; omega)
theorem FormTo.dash {l : List UInt8} {i : Nat} (h : FormTo l i) (hi : i = 4 ∨ i = 7) (hc : ch l i = 45) : FormTo l (i + 1) := by
  refine ⟨fun h4 => ?_, fun h7 => ?_, fun j hj h4 h7 => h.2.2 j (by omega) h4 h7⟩
  · rcases hi with rfl | rfl
    · exact hc
    · exact h.1 (by omega)
  · rcases hi with rfl | rfl
    · omega
    · exact hc
theorem FormTo.digit {l : List UInt8} {i : Nat} (h : FormTo l i) (h4 : i ≠ 4) (h7 : i ≠ 7) (hc : IsDig l i) : FormTo l (i + 1) := by
  refine ⟨fun h4 => h.1 (by omega), fun h7 => h.2.1 (by omega), fun j hj h4 h7 => ?_⟩
  rcases (show j < i ∨ j = i by omega) with hj | rfl
  · exact h.2.2 j hj h4 h7
  · exact hc
theorem pat_at (i : Nat) (h : i < (⟨#[48, 48, 48, 48, 45, 48, 48, 45, 48, 48]⟩ : ByteArray).size) :
    ((⟨#[48, 48, 48, 48, 45, 48, 48, 45, 48, 48]⟩ : ByteArray)[i]'h).toNat = if i = 4 ∨ i = 7 then 45 else 48 := by
  have h' : i < 10 := h
  rcases (show i = 0 ∨ i = 1 ∨ i = 2 ∨ i = 3 ∨ i = 4 ∨ i = 5 ∨ i = 6 ∨ i = 7 ∨ i = 8 ∨ i = 9 by omega) with rfl | rfl | rfl | rfl | rfl | rfl | rfl | rfl | rfl | rfl <;> rfl
set_option maxRecDepth 100000 in
set_option maxHeartbeats 4000000 in
theorem hasForm_any (l : List UInt8) (b : Bool) (hb : b = true ↔ DayForm l) (w : World) :
    Calls Tryz.prog 77 #[.string (str l)] w fun e w' => e = .returned (.bool b) ∧ w = w' := by
  have hz : (str l).size = l.length := str_size l
  have HG := Lib.hid (fun i (h : i < (str l).size) => ref_ch_get (l := l) h)
  have HB := Lib.hid hb
  have HF := Lib.hid (fun h : ¬ DayForm l => (show b = false from by cases b with | false => rfl | true => exact absurd (hb.1 rfl) h))
  have HT := Lib.hid (fun h : DayForm l => hb.2 h)
  have HP := Lib.hid (fun i h => pat_at i h)
  have kp : (⟨#[48, 48, 48, 48, 45, 48, 48, 45, 48, 48]⟩ : ByteArray).size = 10 := rfl
  have HLT := Lib.hid (ref_ch_lt l)
  clear hb
  generalize str l = s at *
  by_cases hn : l.length = 10
  · have HN := Lib.hid hn
    rw [hn] at hz
    clear hn
    go_enter Tryz.func77, Tryz.ntmps77
    go_wp2
    go_loopw [7] (fun iv wr => w = wr ∧ ∃ i : Nat, i ≤ 10 ∧ iv = .int .i64 i ∧ Hid (FormTo l i)) (fun iv _ => 10 - (intOf iv).toNat)
    case atStart => exact ⟨rfl, 0, Nat.zero_le _, rfl, Lib.hid ⟨fun h => by omega, fun h => by omega, fun j hj => by omega⟩⟩
    case round =>
      obtain ⟨rfl, i, hi, rfl, HFT⟩ := hrel
      by_cases hlt : i < 10
      · have hgk : ∀ h : i < s.size, (s[i]'h).toNat = ch l i := fun h => HG.out _ h
        have hgp := HP.out i
        have HDG := Lib.hid (show IsDig l i ↔ 48 ≤ ch l i ∧ ch l i ≤ 57 from Iff.rfl)
        have hc256 := HLT.out i
        have HC := Lib.hid (show ch l i = ch l i from rfl)
        by_cases hd : i = 4 ∨ i = 7
        · rw [if_pos hd] at hgp
          have HD := Lib.hid hd
          by_cases h45 : ch l i = 45
          · have HNX := Lib.hid (HFT.out.dash hd h45)
            clear hd
            generalize ch l i = c at *
            subst h45
            go_wp2
            refine ⟨?_, ?_⟩
            · exact ⟨trivial, i + 1, by omega, by go_num, HNX⟩
            · simp [intOf]; omega
          · have hbf := HF.out fun h => (by
              rcases hd with rfl | rfl
              · exact h45 h.2.1
              · exact h45 h.2.2.1)
            subst hbf
            clear hd
            generalize ch l i = c at *
            go_wp2
            go_ret
            exact ⟨rfl, rfl⟩
        · rw [if_neg hd] at hgp
          by_cases hdg : 48 ≤ ch l i ∧ ch l i ≤ 57
          · have HNX := Lib.hid (HFT.out.digit (by omega) (by omega) (HDG.out.2 hdg))
            have HI := Lib.hid (fun W => isDigit_yes (ch l i) hdg.1 hdg.2 W)
            clear hd hdg
            generalize ch l i = c at *
            go_wp2_with (first
              | (go_at_call 122; (with_reducible refine (HI.out _).mono ?_); rintro e w1 ⟨rfl, rfl⟩)
              | (fail "no arm"))
            refine ⟨?_, ?_⟩
            · exact ⟨trivial, i + 1, by omega, by go_num, HNX⟩
            · simp [intOf]; omega
          · have hbf := HF.out fun h => hdg (h.2.2.2 i hlt (by omega) (by omega))
            subst hbf
            have HI := Lib.hid (fun W => isDigit_no (ch l i) (by omega) W)
            clear hd hdg
            generalize ch l i = c at *
            go_wp2_with (first
              | (go_at_call 122; (with_reducible refine (HI.out _).mono ?_); rintro e w1 ⟨rfl, rfl⟩)
              | (fail "no arm"))
            go_ret
            exact ⟨rfl, rfl⟩
      · obtain rfl : i = 10 := by omega
        have hbt := HT.out (HFT.out.all HN.out)
        subst hbt
        go_wp2
        go_ret
        exact ⟨rfl, rfl⟩
  · have hbf := HF.out fun h => hn h.1
    subst hbf
    generalize l.length = n at *
    go_enter Tryz.func77, Tryz.ntmps77
    go_wp2
    go_ret
    exact ⟨rfl, rfl⟩
theorem ext_seg (l : List UInt8) (a b : Nat) (h : b ≤ l.length) (hab : a ≤ b) : (str l).extract a b = str ((l.drop a).take (b - a)) ∧ ((l.drop a).take (b - a)).length = b - a := by
  refine ⟨by apply ByteArray.ext; simp [str], by simp; omega⟩
theorem ch_seg (l : List UInt8) (a n i : Nat) (hi : i < n) : ch ((l.drop a).take n) i = ch l (a + i) := by
  unfold ch
  simp [List.getD_eq_getElem?_getD, hi, List.getElem?_drop]
theorem seg_seg (l : List UInt8) (a n : Nat) : ∀ m, m ≤ n → seg ((l.drop a).take n) 0 m = seg l a m
  | 0, _ => rfl
  | m + 1, hm => by
    have ih := seg_seg l a n m (by omega)
    simp only [seg, Nat.zero_add]
    rw [ih, ch_seg l a n m (by omega)]
theorem number_seg (l : List UInt8) (a b : Nat) (hl : l.length = 10) (hb : b ≤ 10) (hab : a ≤ b) (hd : ∀ i, a ≤ i → i < b → IsDig l i) (hn : b - a ≤ 9) (w : World) :
    Calls Tryz.prog 78 #[.string ((str l).extract a b)] w fun e w' => e = .returned (.int .i64 (seg l a (b - a) : Nat)) ∧ w = w' := by
  obtain ⟨e1, e2⟩ := ext_seg l a b (by omega) hab
  rw [e1]
  have h := number_any ((l.drop a).take (b - a)) w (by rw [e2]; omega) (fun i hi => by
    rw [e2] at hi
    unfold IsDig
    rw [ch_seg l a (b - a) i hi]
    exact hd (a + i) (by omega) (by omega))
  rw [e2, seg_seg l a (b - a) (b - a) (Nat.le_refl _)] at h
  exact h
def GetE (l : List UInt8) (e : Ending) : Prop :=
  (¬ DayForm l → e = .returned (.tuple #[.int .i64 0, errOf 1])) ∧
  (DayForm l → IsCivil (seg l 0 4 : Nat) (seg l 5 2 : Nat) (seg l 8 2 : Nat) → e = .returned (.tuple #[.int .i64 (dayOf (seg l 0 4 : Nat) (seg l 5 2 : Nat) (seg l 8 2 : Nat)), .nilIface])) ∧
  (DayForm l → ¬ IsCivil (seg l 0 4 : Nat) (seg l 5 2 : Nat) (seg l 8 2 : Nat) → e = .returned (.tuple #[.int .i64 0, errOf 4]))
set_option maxRecDepth 100000 in
set_option maxHeartbeats 4000000 in
theorem Get_bad (l : List UInt8) (h : ¬ DayForm l) (w : World) :
    Calls Tryz.prog 24 #[.string (str l)] w fun e w' => e = .returned (.tuple #[.int .i64 0, errOf 1]) ∧ w = w' := by
  unfold errOf
  have HF := Lib.hid (fun W => hasForm_any l false (by simp [h]) W)
  have HO := Lib.hid (fun W => OfE 1 rfl W)
  clear h
  generalize str l = s at *
  go_enter Tryz.func24, Tryz.ntmps24
  go_wp2_with (first
    | (go_at_call 77; (with_reducible refine (HF.out _).mono ?_); rintro e w1 ⟨rfl, rfl⟩)
    | (go_at_call 71; (with_reducible refine (HO.out _).mono ?_); rintro e w9 ⟨rfl, rfl⟩)
    | (fail "no arm"))
  go_ret2
  exact ⟨rfl, rfl⟩
set_option maxRecDepth 100000 in
set_option maxHeartbeats 4000000 in
theorem Get_form (l : List UInt8) (h : DayForm l) (v : Int) (er : Value) (w : World)
    (hO : ∀ W, Below w.heap.size w W → Calls Tryz.prog 22 #[.agg #[.int .i64 (seg l 0 4 : Nat), .int .i64 (seg l 5 2 : Nat), .int .i64 (seg l 8 2 : Nat)]] W fun e w' => e = .returned (.tuple #[.int .i64 v, er]) ∧ Below W.heap.size W w') :
    Calls Tryz.prog 24 #[.string (str l)] w fun e w' => e = .returned (.tuple #[.int .i64 v, er]) ∧ Below w.heap.size w w' := by
  have HF := Lib.hid (fun W => hasForm_any l true (by simp [h]) W)
  obtain ⟨hl, -, -, hd⟩ := h
  have HN1 := Lib.hid (fun W => number_seg l 0 4 hl (by omega) (by omega) (fun i h1 h2 => hd i (by omega) (by omega) (by omega)) (by omega) W)
  have HN2 := Lib.hid (fun W => number_seg l 5 7 hl (by omega) (by omega) (fun i h1 h2 => hd i (by omega) (by omega) (by omega)) (by omega) W)
  have HN3 := Lib.hid (fun W => number_seg l 8 10 hl (by omega) (by omega) (fun i h1 h2 => hd i (by omega) (by omega) (by omega)) (by omega) W)
  have hz : (str l).size = 10 := by rw [str_size]; exact hl
  have HOO := Lib.hid hO
  clear hO hl hd
  simp only [show 4 - 0 = 4 from rfl, show 7 - 5 = 2 from rfl] at HN1 HN2 HN3
  generalize seg l 0 4 = n1 at *
  generalize seg l 5 2 = n2 at *
  generalize seg l 8 2 = n3 at *
  generalize str l = s at *
  go_enter Tryz.func24, Tryz.ntmps24
  go_wp2_with (first
    | (go_at_call 77; (with_reducible refine (HF.out _).mono ?_); rintro e w1 ⟨rfl, rfl⟩)
    | (fail "no arm"))
  go_region_held3 (fun w' => Below w.heap.size w w')
    (first
      | exact (Below.refl _ _).drew
      | exact HR4.out
      | exact HR3.out
      | exact HR2.out
      | exact HR1.out)
    (first
      | (go_at_call 78; (with_reducible refine (HN1.out _).mono ?_); rintro e w1 ⟨rfl, rfl⟩
         have HR1 := Lib.hid (Below.refl w.heap.size w).drew
         clear HN1)
      | (go_at_call 78; (with_reducible refine (HN2.out _).mono ?_); rintro e w1 ⟨rfl, rfl⟩
         have HR2 := Lib.hid HR1.out
         clear HN2)
      | (go_at_call 78; (with_reducible refine (HN3.out _).mono ?_); rintro e w1 ⟨rfl, rfl⟩
         have HR3 := Lib.hid HR2.out
         clear HN3)
      | (go_at_call 22; (with_reducible refine (HOO.out _ HR3.out).mono ?_); rintro e w4 ⟨rfl, hb⟩
         have HR4 := Lib.hid (HR3.out.trans (hb.mono HR3.out.size))
         clear hb HOO)
      | (fail "no arm"))
  go_wp2
  go_ret2
  exact ⟨rfl, HR4.out⟩
theorem Get_any (l : List UInt8) (w : World) (hL : Lens w) :
    Calls Tryz.prog 24 #[.string (str l)] w fun e w' => GetE l e ∧ Below w.heap.size w w' := by
  by_cases h : DayForm l
  · by_cases hc : IsCivil (seg l 0 4 : Nat) (seg l 5 2 : Nat) (seg l 8 2 : Nat)
    · refine (Get_form l h _ _ w fun W hW => Of_yes _ _ _ hc W (hL.keep hW)).mono ?_
      rintro e w' ⟨rfl, hb⟩
      exact ⟨⟨fun h' => absurd h h', fun _ _ => rfl, fun _ h' => absurd hc h'⟩, hb⟩
    · refine (Get_form l h _ _ w fun W hW => Of_no _ _ _ hc W (hL.keep hW)).mono ?_
      rintro e w' ⟨rfl, hb⟩
      exact ⟨⟨fun h' => absurd h h', fun _ h' => absurd h' hc, fun _ _ => rfl⟩, hb⟩
  · refine (Get_bad l h w).mono ?_
    rintro e w' ⟨rfl, rfl⟩
    exact ⟨⟨fun _ => rfl, fun h' => absurd h' h, fun h' => absurd h' h⟩, Below.refl _ _⟩
end Go.Proofs.YtlhmfgbaefaneaaGreatDoor.date
