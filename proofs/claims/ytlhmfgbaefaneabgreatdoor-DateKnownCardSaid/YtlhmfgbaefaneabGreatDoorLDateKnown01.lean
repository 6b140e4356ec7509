/-
  The steps of the walks, part 1: RefGet6, DateG, Code.
-/
import Derived.Laws.IdiomStrings
import Derived.BigRegion
import Derived.Deep.RegionHeld3
import Derived.Test.YtlhmfgbaefaneabGreatDoorB01
import Derived.Test.YtlhmfgbaefaneabGreatDoorB02
import Derived.Test.YtlhmfgbaefaneabGreatDoorB03
import Derived.Test.YtlhmfgbaefaneabGreatDoorB04
import Derived.Test.YtlhmfgbaefaneabGreatDoorB05
import Derived.Test.YtlhmfgbaefaneabGreatDoorB06
import Derived.Test.YtlhmfgbaefaneabGreatDoorB07
import Derived.Test.YtlhmfgbaefaneabGreatDoorB08
import Derived.Test.YtlhmfgbaefaneabGreatDoorB09
import Derived.Test.YtlhmfgbaefaneabGreatDoorB10
import Derived.Test.YtlhmfgbaefaneabGreatDoorB11
import Derived.Test.YtlhmfgbaefaneabGreatDoorB12
import Derived.Test.YtlhmfgbaefaneabGreatDoorB13
import Derived.Test.YtlhmfgbaefaneabGreatDoorB14
import Derived.Test.YtlhmfgbaefaneabGreatDoorB15
import Derived.Test.YtlhmfgbaefaneabGreatDoorB16
import Derived.Test.YtlhmfgbaefaneabGreatDoorB17
import Derived.Test.YtlhmfgbaefaneabGreatDoorB18
import Derived.Test.YtlhmfgbaefaneabGreatDoorB19
import Derived.Test.YtlhmfgbaefaneabGreatDoorB20
import Derived.Test.YtlhmfgbaefaneabGreatDoorB21
import Derived.Test.YtlhmfgbaefaneabGreatDoorB22
import Derived.Test.YtlhmfgbaefaneabGreatDoorB23
import Derived.Test.YtlhmfgbaefaneabGreatDoorB24
import Derived.Test.YtlhmfgbaefaneabGreatDoorB25
import Derived.Test.YtlhmfgbaefaneabGreatDoorB26
import Derived.Test.YtlhmfgbaefaneabGreatDoorB27
import Derived.Test.YtlhmfgbaefaneabGreatDoorB28
import Derived.Test.YtlhmfgbaefaneabGreatDoorB29
import Derived.Test.YtlhmfgbaefaneabGreatDoorB30
import Derived.Test.YtlhmfgbaefaneabGreatDoorB31
import Derived.Test.YtlhmfgbaefaneabGreatDoorB32
import Derived.Test.YtlhmfgbaefaneabGreatDoorB33
import Derived.Test.YtlhmfgbaefaneabGreatDoorB34
import Derived.Test.YtlhmfgbaefaneabGreatDoorB35
import Derived.Test.YtlhmfgbaefaneabGreatDoorB36
import Derived.Test.YtlhmfgbaefaneabGreatDoorB37
import Derived.Test.YtlhmfgbaefaneabGreatDoorB38
import Derived.Test.YtlhmfgbaefaneabGreatDoorB39
import Derived.Test.YtlhmfgbaefaneabGreatDoorB40
namespace Go.Proofs.YtlhmfgbaefaneabGreatDoor.ref6
open Go Go.RowKit Go.Proofs.YtlhmfgbaefaneabGreatDoor.day
open Go.Proofs.YtlhmfgbaefaneabGreatDoor.ref (str str_size ch seg IsDig)
theorem ref_ch_lt (l : List UInt8) (i : Nat) : ch l i < 256 := by unfold ch; exact UInt8.toNat_lt _
end Go.Proofs.YtlhmfgbaefaneabGreatDoor.ref6
namespace Go.Proofs.YtlhmfgbaefaneabGreatDoor.date
open Go Go.RowKit Go.Proofs.YtlhmfgbaefaneabGreatDoor.day
open Go.Proofs.YtlhmfgbaefaneabGreatDoor.ref (str str_size ch seg IsDig seg_lt)
open Go.Proofs.YtlhmfgbaefaneabGreatDoor.ref6 (DayForm ref_ch_get ref_ch_lt drewN_below6)
set_option maxRecDepth 100000 in
theorem isDigit_yes (c : Nat) (h1 : 48 ≤ c) (h2 : c ≤ 57) (w : World) :
    Calls Tryz.prog 102 #[.int .u8 (c : Nat)] w fun e w' => e = .returned (.bool true) ∧ w = w' := by
  go_enter Tryz.func102, Tryz.ntmps102
  go_wp2
  go_ret
  refine ⟨?_, rfl⟩
  simp
  omega
set_option maxRecDepth 100000 in
theorem isDigit_no (c : Nat) (h : c < 48 ∨ 57 < c) (w : World) :
    Calls Tryz.prog 102 #[.int .u8 (c : Nat)] w fun e w' => e = .returned (.bool false) ∧ w = w' := by
  rcases (show c < 48 ∨ (48 ≤ c ∧ 57 < c) by omega) with h | ⟨h1, h⟩
  all_goals
    go_enter Tryz.func102, Tryz.ntmps102
    go_wp2
    go_ret
    refine ⟨?_, rfl⟩
    first | rfl | (simp; omega)
theorem FormTo.dash {l : List UInt8} {i : Nat} (h : FormTo l i) (hi : i = 4 ∨ i = 7) (hc : ch l i = 45) : FormTo l (i + 1) := by
  refine ⟨fun h4 => ?_, fun h7 => ?_, fun j hj h4 h7 => h.2.2 j (by omega) h4 h7⟩
  · rcases hi with rfl | rfl
    · exact hc
    · exact h.1 (by omega)
  · rcases hi with rfl | rfl
    · omega
    · exact hc
theorem FormTo.digit {l : List UInt8} {i : Nat} (h : FormTo l i) (h4 : i ≠ 4) (h7 : i ≠ 7) (hc : IsDig l i) : FormTo l (i + 1) := by
  refine ⟨fun h4 => h.1 (by omega), fun h7 => h.2.1 (by omega), fun j hj h4 h7 => ?_⟩
  rcases (show j < i ∨ j = i by omega) with hj | rfl
  · exact h.2.2 j hj h4 h7
  · exact hc
theorem pat_at (i : Nat) (h : i < (⟨#[48, 48, 48, 48, 45, 48, 48, 45, 48, 48]⟩ : ByteArray).size) :
    ((⟨#[48, 48, 48, 48, 45, 48, 48, 45, 48, 48]⟩ : ByteArray)[i]'h).toNat = if i = 4 ∨ i = 7 then 45 else 48 := by
  have h' : i < 10 := h
  rcases (show i = 0 ∨ i = 1 ∨ i = 2 ∨ i = 3 ∨ i = 4 ∨ i = 5 ∨ i = 6 ∨ i = 7 ∨ i = 8 ∨ i = 9 by omega) with rfl | rfl | rfl | rfl | rfl | rfl | rfl | rfl | rfl | rfl <;> rfl
set_option maxRecDepth 100000 in
set_option maxHeartbeats 4000000 in
theorem hasForm_any (l : List UInt8) (b : Bool) (hb : b = true ↔ DayForm l) (w : World) :
    Calls Tryz.prog 68 #[.string (str l)] w fun e w' => e = .returned (.bool b) ∧ w = w' := by
  have hz : (str l).size = l.length := str_size l
  have HG := Lib.hid (fun i (h : i < (str l).size) => ref_ch_get (l := l) h)
  have HB := Lib.hid hb
  have HF := Lib.hid (fun h : ¬ DayForm l => (show b = false from by cases b with | false => rfl | true => exact absurd (hb.1 rfl) h))
  have HT := Lib.hid (fun h : DayForm l => hb.2 h)
  have HP := Lib.hid (fun i h => pat_at i h)
  have kp : (⟨#[48, 48, 48, 48, 45, 48, 48, 45, 48, 48]⟩ : ByteArray).size = 10 := rfl
  have HLT := Lib.hid (ref_ch_lt l)
  clear hb
  generalize str l = s at *
  by_cases hn : l.length = 10
  · have HN := Lib.hid hn
    rw [hn] at hz
    clear hn
    go_enter Tryz.func68, Tryz.ntmps68
    go_wp2
    go_loopw [7] (fun iv wr => w = wr ∧ ∃ i : Nat, i ≤ 10 ∧ iv = .int .i64 i ∧ Hid (FormTo l i)) (fun iv _ => 10 - (intOf iv).toNat)
    case atStart => exact ⟨rfl, 0, Nat.zero_le _, rfl, Lib.hid ⟨fun h => by omega, fun h => by omega, fun j hj => by omega⟩⟩
    case round =>
      obtain ⟨rfl, i, hi, rfl, HFT⟩ := hrel
      by_cases hlt : i < 10
      · have hgk : ∀ h : i < s.size, (s[i]'h).toNat = ch l i := fun h => HG.out _ h
        have hgp := HP.out i
        have HDG := Lib.hid (show IsDig l i ↔ 48 ≤ ch l i ∧ ch l i ≤ 57 from Iff.rfl)
        have hc256 := HLT.out i
        have HC := Lib.hid (show ch l i = ch l i from rfl)
        by_cases hd : i = 4 ∨ i = 7
        · rw [if_pos hd] at hgp
          have HD := Lib.hid hd
          by_cases h45 : ch l i = 45
          · have HNX := Lib.hid (HFT.out.dash hd h45)
            clear hd
            generalize ch l i = c at *
            subst h45
            go_wp2
            refine ⟨?_, ?_⟩
            · exact ⟨trivial, i + 1, by omega, by go_num, HNX⟩
            · simp [intOf]; omega
          · have hbf := HF.out fun h => (by
              rcases hd with rfl | rfl
              · exact h45 h.2.1
              · exact h45 h.2.2.1)
            subst hbf
            clear hd
            generalize ch l i = c at *
            go_wp2
            go_ret
            exact ⟨rfl, rfl⟩
        · rw [if_neg hd] at hgp
          by_cases hdg : 48 ≤ ch l i ∧ ch l i ≤ 57
          · have HNX := Lib.hid (HFT.out.digit (by omega) (by omega) (HDG.out.2 hdg))
            have HI := Lib.hid (fun W => isDigit_yes (ch l i) hdg.1 hdg.2 W)
            clear hd hdg
            generalize ch l i = c at *
            go_wp2_with (first
              | (go_at_call 102; (with_reducible refine (HI.out _).mono ?_); rintro e w1 ⟨rfl, rfl⟩)
              | (fail "no arm"))
            refine ⟨?_, ?_⟩
            · exact ⟨trivial, i + 1, by omega, by go_num, HNX⟩
            · simp [intOf]; omega
          · have hbf := HF.out fun h => hdg (h.2.2.2 i hlt (by omega) (by omega))
            subst hbf
            have HI := Lib.hid (fun W => isDigit_no (ch l i) (by omega) W)
            clear hd hdg
            generalize ch l i = c at *
            go_wp2_with (first
              | (go_at_call 102; (with_reducible refine (HI.out _).mono ?_); rintro e w1 ⟨rfl, rfl⟩)
              | (fail "no arm"))
            go_ret
            exact ⟨rfl, rfl⟩
      · obtain rfl : i = 10 := by omega
        have hbt := HT.out (HFT.out.all HN.out)
        subst hbt
        go_wp2
        go_ret
        exact ⟨rfl, rfl⟩
  · have hbf := HF.out fun h => hn h.1
    subst hbf
    generalize l.length = n at *
    go_enter Tryz.func68, Tryz.ntmps68
    go_wp2
    go_ret
    exact ⟨rfl, rfl⟩
theorem ext_seg (l : List UInt8) (a b : Nat) (h : b ≤ l.length) (hab : a ≤ b) : (str l).extract a b = str ((l.drop a).take (b - a)) ∧ ((l.drop a).take (b - a)).length = b - a := by
  refine ⟨by apply ByteArray.ext; simp [str], by simp; omega⟩
theorem ch_seg (l : List UInt8) (a n i : Nat) (hi : i < n) : ch ((l.drop a).take n) i = ch l (a + i) := by
  unfold ch
  simp [List.getD_eq_getElem?_getD, hi, List.getElem?_drop]
theorem seg_seg (l : List UInt8) (a n : Nat) : ∀ m, m ≤ n → seg ((l.drop a).take n) 0 m = seg l a m
  | 0, _ => rfl
  | m + 1, hm => by
    have ih := seg_seg l a n m (by omega)
    simp only [seg, Nat.zero_add]
    rw [ih, ch_seg l a n m (by omega)]
theorem number_seg (l : List UInt8) (a b : Nat) (hl : l.length = 10) (hb : b ≤ 10) (hab : a ≤ b) (hd : ∀ i, a ≤ i → i < b → IsDig l i) (hn : b - a ≤ 9) (w : World) :
    Calls Tryz.prog 69 #[.string ((str l).extract a b)] w fun e w' => e = .returned (.int .i64 (seg l a (b - a) : Nat)) ∧ w = w' := by
  obtain ⟨e1, e2⟩ := ext_seg l a b (by omega) hab
  rw [e1]
  have h := number_any ((l.drop a).take (b - a)) w (by rw [e2]; omega) (fun i hi => by
    rw [e2] at hi
    unfold IsDig
    rw [ch_seg l a (b - a) i hi]
    exact hd (a + i) (by omega) (by omega))
  rw [e2, seg_seg l a (b - a) (b - a) (Nat.le_refl _)] at h
  exact h
def GetE (l : List UInt8) (e : Ending) : Prop :=
  (¬ DayForm l → e = .returned (.tuple #[.int .i64 0, errOf 1])) ∧
  (DayForm l → IsCivil (seg l 0 4 : Nat) (seg l 5 2 : Nat) (seg l 8 2 : Nat) → e = .returned (.tuple #[.int .i64 (dayOf (seg l 0 4 : Nat) (seg l 5 2 : Nat) (seg l 8 2 : Nat)), .nilIface])) ∧
  (DayForm l → ¬ IsCivil (seg l 0 4 : Nat) (seg l 5 2 : Nat) (seg l 8 2 : Nat) → e = .returned (.tuple #[.int .i64 0, errOf 4]))
set_option maxRecDepth 100000 in
set_option maxHeartbeats 4000000 in
theorem Get_bad (l : List UInt8) (h : ¬ DayForm l) (w : World) :
    Calls Tryz.prog 29 #[.string (str l)] w fun e w' => e = .returned (.tuple #[.int .i64 0, errOf 1]) ∧ w = w' := by
  unfold errOf
  have HF := Lib.hid (fun W => hasForm_any l false (by simp [h]) W)
  have HO := Lib.hid (fun W => OfE 1 rfl W)
  clear h
  generalize str l = s at *
  go_enter Tryz.func29, Tryz.ntmps29
  go_wp2_with (first
    | (go_at_call 68; (with_reducible refine (HF.out _).mono ?_); rintro e w1 ⟨rfl, rfl⟩)
    | (go_at_call 49; (with_reducible refine (HO.out _).mono ?_); rintro e w9 ⟨rfl, rfl⟩)
    | (fail "no arm"))
  go_ret2
  exact ⟨rfl, rfl⟩
set_option maxRecDepth 100000 in
set_option maxHeartbeats 4000000 in
theorem Get_form (l : List UInt8) (h : DayForm l) (v : Int) (er : Value) (w : World)
    (hO : ∀ W, Below w.heap.size w W → Calls Tryz.prog 31 #[.agg #[.int .i64 (seg l 0 4 : Nat), .int .i64 (seg l 5 2 : Nat), .int .i64 (seg l 8 2 : Nat)]] W fun e w' => e = .returned (.tuple #[.int .i64 v, er]) ∧ Below W.heap.size W w') :
    Calls Tryz.prog 29 #[.string (str l)] w fun e w' => e = .returned (.tuple #[.int .i64 v, er]) ∧ Below w.heap.size w w' := by
  have HF := Lib.hid (fun W => hasForm_any l true (by simp [h]) W)
  obtain ⟨hl, -, -, hd⟩ := h
  have HN1 := Lib.hid (fun W => number_seg l 0 4 hl (by omega) (by omega) (fun i h1 h2 => hd i (by omega) (by omega) (by omega)) (by omega) W)
  have HN2 := Lib.hid (fun W => number_seg l 5 7 hl (by omega) (by omega) (fun i h1 h2 => hd i (by omega) (by omega) (by omega)) (by omega) W)
  have HN3 := Lib.hid (fun W => number_seg l 8 10 hl (by omega) (by omega) (fun i h1 h2 => hd i (by omega) (by omega) (by omega)) (by omega) W)
  have hz : (str l).size = 10 := by rw [str_size]; exact hl
  have HOO := Lib.hid hO
  clear hO hl hd
  simp only [show 4 - 0 = 4 from rfl, show 7 - 5 = 2 from rfl] at HN1 HN2 HN3
  generalize seg l 0 4 = n1 at *
  generalize seg l 5 2 = n2 at *
  generalize seg l 8 2 = n3 at *
  generalize str l = s at *
  go_enter Tryz.func29, Tryz.ntmps29
  go_wp2_with (first
    | (go_at_call 68; (with_reducible refine (HF.out _).mono ?_); rintro e w1 ⟨rfl, rfl⟩)
    | (fail "no arm"))
  go_region_held3 (fun w' => Below w.heap.size w w')
    (first
      | exact (Below.refl _ _).drew
      | exact HR4.out
      | exact HR3.out
      | exact HR2.out
      | exact HR1.out)
    (first
      | (go_at_call 69; (with_reducible refine (HN1.out _).mono ?_); rintro e w1 ⟨rfl, rfl⟩
         have HR1 := Lib.hid (Below.refl w.heap.size w).drew
         clear HN1)
      | (go_at_call 69; (with_reducible refine (HN2.out _).mono ?_); rintro e w1 ⟨rfl, rfl⟩
         have HR2 := Lib.hid HR1.out
         clear HN2)
      | (go_at_call 69; (with_reducible refine (HN3.out _).mono ?_); rintro e w1 ⟨rfl, rfl⟩
         have HR3 := Lib.hid HR2.out
         clear HN3)
      | (go_at_call 31; (with_reducible refine (HOO.out _ HR3.out).mono ?_); rintro e w4 ⟨rfl, hb⟩
         have HR4 := Lib.hid (HR3.out.trans (hb.mono HR3.out.size))
         clear hb HOO)
      | (fail "no arm"))
  go_wp2
  go_ret2
  exact ⟨rfl, HR4.out⟩
theorem Get_any (l : List UInt8) (w : World) (hL : Lens w) :
    Calls Tryz.prog 29 #[.string (str l)] w fun e w' => GetE l e ∧ Below w.heap.size w w' := by
  by_cases h : DayForm l
  · by_cases hc : IsCivil (seg l 0 4 : Nat) (seg l 5 2 : Nat) (seg l 8 2 : Nat)
    · refine (Get_form l h _ _ w fun W hW => Of_yes _ _ _ hc W (hL.keep hW)).mono ?_
      rintro e w' ⟨rfl, hb⟩
      exact ⟨⟨fun h' => absurd h h', fun _ _ => rfl, fun _ h' => absurd hc h'⟩, hb⟩
    · refine (Get_form l h _ _ w fun W hW => Of_no _ _ _ hc W (hL.keep hW)).mono ?_
      rintro e w' ⟨rfl, hb⟩
      exact ⟨⟨fun h' => absurd h h', fun _ h' => absurd h' hc, fun _ _ => rfl⟩, hb⟩
  · refine (Get_bad l h w).mono ?_
    rintro e w' ⟨rfl, rfl⟩
    exact ⟨⟨fun _ => rfl, fun h' => absurd h' h, fun h' => absurd h' h⟩, Below.refl _ _⟩
end Go.Proofs.YtlhmfgbaefaneabGreatDoor.date
namespace Go.Proofs.YtlhmfgbaefaneabGreatDoor.flt
open Go.RowKit Go.Extern.Stop Go.Stop Go.Extern
theorem Code_plain (c : Int) (w : World) (hg : Handle w) :
    Calls Tryz.prog 63 #[.iface 100 (.int .i64 c)] w fun ev w' => ev = .returned (.int .i64 c) ∧ Below w.heap.size w w' :=
  Code_hit _ _ c w ((first_plain c w hg).mono fun _ _ ⟨b, he, _, hb, hk⟩ => ⟨b, he, hb, by simp [World.cell?, hk]⟩)
end Go.Proofs.YtlhmfgbaefaneabGreatDoor.flt
