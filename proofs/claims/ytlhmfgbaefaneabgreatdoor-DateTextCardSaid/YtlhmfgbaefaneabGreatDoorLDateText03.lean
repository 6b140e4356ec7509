/-
  The steps of the walks, part 3: DateG, Code, Law6Kit, DayOrd, PRow.
-/
import Derived.Deep.RegionHeld3
import Derived.Laws.BitsLemmas
import Derived.Laws.Cover1
import Derived.Laws.IdiomStrings
import Derived.Test.YtlhmfgbaefaneabGreatDoorB01
import Derived.Test.YtlhmfgbaefaneabGreatDoorB02
import Derived.Test.YtlhmfgbaefaneabGreatDoorB03
import Derived.Test.YtlhmfgbaefaneabGreatDoorB04
import Derived.Test.YtlhmfgbaefaneabGreatDoorB05
import Derived.Test.YtlhmfgbaefaneabGreatDoorB06
import Derived.Test.YtlhmfgbaefaneabGreatDoorB07
import Derived.Test.YtlhmfgbaefaneabGreatDoorB08
import Derived.Test.YtlhmfgbaefaneabGreatDoorB09
import Derived.Test.YtlhmfgbaefaneabGreatDoorB10
import Derived.Test.YtlhmfgbaefaneabGreatDoorB11
import Derived.Test.YtlhmfgbaefaneabGreatDoorB12
import Derived.Test.YtlhmfgbaefaneabGreatDoorB13
import Derived.Test.YtlhmfgbaefaneabGreatDoorB14
import Derived.Test.YtlhmfgbaefaneabGreatDoorB15
import Derived.Test.YtlhmfgbaefaneabGreatDoorB16
import Derived.Test.YtlhmfgbaefaneabGreatDoorB17
import Derived.Test.YtlhmfgbaefaneabGreatDoorB18
import Derived.Test.YtlhmfgbaefaneabGreatDoorB19
import Derived.Test.YtlhmfgbaefaneabGreatDoorB20
import Derived.Test.YtlhmfgbaefaneabGreatDoorB21
import Derived.Test.YtlhmfgbaefaneabGreatDoorB22
import Derived.Test.YtlhmfgbaefaneabGreatDoorB23
import Derived.Test.YtlhmfgbaefaneabGreatDoorB24
import Derived.Test.YtlhmfgbaefaneabGreatDoorB25
import Derived.Test.YtlhmfgbaefaneabGreatDoorB26
import Derived.Test.YtlhmfgbaefaneabGreatDoorB27
import Derived.Test.YtlhmfgbaefaneabGreatDoorB28
import Derived.Test.YtlhmfgbaefaneabGreatDoorB29
import Derived.Test.YtlhmfgbaefaneabGreatDoorB30
import Derived.Test.YtlhmfgbaefaneabGreatDoorB31
import Derived.Test.YtlhmfgbaefaneabGreatDoorB32
import Derived.Test.YtlhmfgbaefaneabGreatDoorB33
import Derived.Test.YtlhmfgbaefaneabGreatDoorB34
import Derived.Test.YtlhmfgbaefaneabGreatDoorB35
import Derived.Test.YtlhmfgbaefaneabGreatDoorB36
import Derived.Test.YtlhmfgbaefaneabGreatDoorB37
import Derived.Test.YtlhmfgbaefaneabGreatDoorB38
import Derived.Test.YtlhmfgbaefaneabGreatDoorB39
import Derived.Test.YtlhmfgbaefaneabGreatDoorB40
import Derived.Test.YtlhmfgbaefaneabGreatDoorLDateText01
import Derived.Test.YtlhmfgbaefaneabGreatDoorLDateText02
namespace Go.Proofs.YtlhmfgbaefaneabGreatDoor.date
open Go Go.RowKit Go.Proofs.YtlhmfgbaefaneabGreatDoor.day
open Go.Proofs.YtlhmfgbaefaneabGreatDoor.ref (str str_size ch seg IsDig seg_lt)
open Go.Proofs.YtlhmfgbaefaneabGreatDoor.ref6 (DayForm ref_ch_get ref_ch_lt drewN_below6)
set_option maxRecDepth 100000 in
theorem isDigit_yes (c : Nat) (h1 : 48 ≤ c) (h2 : c ≤ 57) (w : World) :
    Calls Tryz.prog 102 #[.int .u8 (c : Nat)] w fun e w' => e = .returned (.bool true) ∧ w = w' := by
  go_enter Tryz.func102, Tryz.ntmps102
  go_wp2
  go_ret
  refine ⟨?_, rfl⟩
  simp
  omega
set_option maxRecDepth 100000 in
theorem isDigit_no (c : Nat) (h : c < 48 ∨ 57 < c) (w : World) :
    Calls Tryz.prog 102 #[.int .u8 (c : Nat)] w fun e w' => e = .returned (.bool false) ∧ w = w' := by
  rcases (show c < 48 ∨ (48 ≤ c ∧ 57 < c) by omega) with h | ⟨h1, h⟩
  all_goals
    go_enter Tryz.func102, Tryz.ntmps102
    go_wp2
    go_ret
    refine ⟨?_, rfl⟩
    first | rfl | (simp; omega)
theorem FormTo.dash {l : List UInt8} {i : Nat} (h : FormTo l i) (hi : i = 4 ∨ i = 7) (hc : ch l i = 45) : FormTo l (i + 1) := by
  refine ⟨fun h4 => ?_, fun h7 => ?_, fun j hj h4 h7 => h.2.2 j (by omega) h4 h7⟩
  · rcases hi with rfl | rfl
    · exact hc
    · exact h.1 (by omega)
  · rcases hi with rfl | rfl
    · omega
    · exact hc
theorem FormTo.digit {l : List UInt8} {i : Nat} (h : FormTo l i) (h4 : i ≠ 4) (h7 : i ≠ 7) (hc : IsDig l i) : FormTo l (i + 1) := by
  refine ⟨fun h4 => h.1 (by omega), fun h7 => h.2.1 (by omega), fun j hj h4 h7 => ?_⟩
  rcases (show j < i ∨ j = i by omega) with hj | rfl
  · exact h.2.2 j hj h4 h7
  · exact hc
theorem pat_at (i : Nat) (h : i < (⟨#[48, 48, 48, 48, 45, 48, 48, 45, 48, 48]⟩ : ByteArray).size) :
    ((⟨#[48, 48, 48, 48, 45, 48, 48, 45, 48, 48]⟩ : ByteArray)[i]'h).toNat = if i = 4 ∨ i = 7 then 45 else 48 := by
  have h' : i < 10 := h
  rcases (show i = 0 ∨ i = 1 ∨ i = 2 ∨ i = 3 ∨ i = 4 ∨ i = 5 ∨ i = 6 ∨ i = 7 ∨ i = 8 ∨ i = 9 by omega) with rfl | rfl | rfl | rfl | rfl | rfl | rfl | rfl | rfl | rfl <;> rfl
set_option maxRecDepth 100000 in
set_option maxHeartbeats 4000000 in
theorem hasForm_any (l : List UInt8) (b : Bool) (hb : b = true ↔ DayForm l) (w : World) :
    Calls Tryz.prog 68 #[.string (str l)] w fun e w' => e = .returned (.bool b) ∧ w = w' := by
  have hz : (str l).size = l.length := str_size l
  have HG := Lib.hid (fun i (h : i < (str l).size) => ref_ch_get (l := l) h)
  have HB := Lib.hid hb
  have HF := Lib.hid (fun h : ¬ DayForm l => (show b = false from by cases b with | false => rfl | true => exact absurd (hb.1 rfl) h))
  have HT := Lib.hid (fun h : DayForm l => hb.2 h)
  have HP := Lib.hid (fun i h => pat_at i h)
  have kp : (⟨#[48, 48, 48, 48, 45, 48, 48, 45, 48, 48]⟩ : ByteArray).size = 10 := rfl
  have HLT := Lib.hid (ref_ch_lt l)
  clear hb
  generalize str l = s at *
  by_cases hn : l.length = 10
  · have HN := Lib.hid hn
    rw [hn] at hz
    clear hn
    go_enter Tryz.func68, Tryz.ntmps68
    go_wp2
    go_loopw [7] (fun iv wr => w = wr ∧ ∃ i : Nat, i ≤ 10 ∧ iv = .int .i64 i ∧ Hid (FormTo l i)) (fun iv _ => 10 - (intOf iv).toNat)
    case atStart => exact ⟨rfl, 0, Nat.zero_le _, rfl, Lib.hid ⟨fun h => by omega, fun h => by omega, fun j hj => by omega⟩⟩
    case round =>
      obtain ⟨rfl, i, hi, rfl, HFT⟩ := hrel
      by_cases hlt : i < 10
      · have hgk : ∀ h : i < s.size, (s[i]'h).toNat = ch l i := fun h => HG.out _ h
        have hgp := HP.out i
        have HDG := Lib.hid (show IsDig l i ↔ 48 ≤ ch l i ∧ ch l i ≤ 57 from Iff.rfl)
        have hc256 := HLT.out i
        have HC := Lib.hid (show ch l i = ch l i from rfl)
        by_cases hd : i = 4 ∨ i = 7
        · rw [if_pos hd] at hgp
          have HD := Lib.hid hd
          by_cases h45 : ch l i = 45
          · have HNX := Lib.hid (HFT.out.dash hd h45)
            clear hd
            generalize ch l i = c at *
            subst h45
            go_wp2
            refine ⟨?_, ?_⟩
            · exact ⟨trivial, i + 1, by omega, by go_num, HNX⟩
            · simp [intOf]; omega
          · have hbf := HF.out fun h => (by
              rcases hd with rfl | rfl
              · exact h45 h.2.1
              · exact h45 h.2.2.1)
            subst hbf
            clear hd
            generalize ch l i = c at *
            go_wp2
            go_ret
            exact ⟨rfl, rfl⟩
        · rw [if_neg hd] at hgp
          by_cases hdg : 48 ≤ ch l i ∧ ch l i ≤ 57
          · have HNX := Lib.hid (HFT.out.digit (by omega) (by omega) (HDG.out.2 hdg))
            have HI := Lib.hid (fun W => isDigit_yes (ch l i) hdg.1 hdg.2 W)
            clear hd hdg
            generalize ch l i = c at *
            go_wp2_with (first
              | (go_at_call 102; (with_reducible refine (HI.out _).mono ?_); rintro e w1 ⟨rfl, rfl⟩)
              | (fail "no arm"))
            refine ⟨?_, ?_⟩
            · exact ⟨trivial, i + 1, by omega, by go_num, HNX⟩
            · simp [intOf]; omega
          · have hbf := HF.out fun h => hdg (h.2.2.2 i hlt (by omega) (by omega))
            subst hbf
            have HI := Lib.hid (fun W => isDigit_no (ch l i) (by omega) W)
            clear hd hdg
            generalize ch l i = c at *
            go_wp2_with (first
              | (go_at_call 102; (with_reducible refine (HI.out _).mono ?_); rintro e w1 ⟨rfl, rfl⟩)
              | (fail "no arm"))
            go_ret
            exact ⟨rfl, rfl⟩
      · obtain rfl : i = 10 := by omega
        have hbt := HT.out (HFT.out.all HN.out)
        subst hbt
        go_wp2
        go_ret
        exact ⟨rfl, rfl⟩
  · have hbf := HF.out fun h => hn h.1
    subst hbf
    generalize l.length = n at *
    go_enter Tryz.func68, Tryz.ntmps68
    go_wp2
    go_ret
    exact ⟨rfl, rfl⟩
theorem ext_seg (l : List UInt8) (a b : Nat) (h : b ≤ l.length) (hab : a ≤ b) : (str l).extract a b = str ((l.drop a).take (b - a)) ∧ ((l.drop a).take (b - a)).length = b - a := by
  refine ⟨by apply ByteArray.ext; simp [str], by simp; omega⟩
theorem ch_seg (l : List UInt8) (a n i : Nat) (hi : i < n) : ch ((l.drop a).take n) i = ch l (a + i) := by
  unfold ch
  simp [List.getD_eq_getElem?_getD, hi, List.getElem?_drop]
theorem seg_seg (l : List UInt8) (a n : Nat) : ∀ m, m ≤ n → seg ((l.drop a).take n) 0 m = seg l a m
  | 0, _ => rfl
  | m + 1, hm => by
    have ih := seg_seg l a n m (by omega)
    simp only [seg, Nat.zero_add]
    rw [ih, ch_seg l a n m (by omega)]
theorem number_seg (l : List UInt8) (a b : Nat) (hl : l.length = 10) (hb : b ≤ 10) (hab : a ≤ b) (hd : ∀ i, a ≤ i → i < b → IsDig l i) (hn : b - a ≤ 9) (w : World) :
    Calls Tryz.prog 69 #[.string ((str l).extract a b)] w fun e w' => e = .returned (.int .i64 (seg l a (b - a) : Nat)) ∧ w = w' := by
  obtain ⟨e1, e2⟩ := ext_seg l a b (by omega) hab
  rw [e1]
  have h := number_any ((l.drop a).take (b - a)) w (by rw [e2]; omega) (fun i hi => by
    rw [e2] at hi
    unfold IsDig
    rw [ch_seg l a (b - a) i hi]
    exact hd (a + i) (by omega) (by omega))
  rw [e2, seg_seg l a (b - a) (b - a) (Nat.le_refl _)] at h
  exact h
def GetE (l : List UInt8) (e : Ending) : Prop :=
  (¬ DayForm l → e = .returned (.tuple #[.int .i64 0, errOf 1])) ∧
  (DayForm l → IsCivil (seg l 0 4 : Nat) (seg l 5 2 : Nat) (seg l 8 2 : Nat) → e = .returned (.tuple #[.int .i64 (dayOf (seg l 0 4 : Nat) (seg l 5 2 : Nat) (seg l 8 2 : Nat)), .nilIface])) ∧
  (DayForm l → ¬ IsCivil (seg l 0 4 : Nat) (seg l 5 2 : Nat) (seg l 8 2 : Nat) → e = .returned (.tuple #[.int .i64 0, errOf 4]))
set_option maxRecDepth 100000 in
set_option maxHeartbeats 4000000 in
theorem Get_bad (l : List UInt8) (h : ¬ DayForm l) (w : World) :
    Calls Tryz.prog 29 #[.string (str l)] w fun e w' => e = .returned (.tuple #[.int .i64 0, errOf 1]) ∧ w = w' := by
  unfold errOf
  have HF := Lib.hid (fun W => hasForm_any l false (by simp [h]) W)
  have HO := Lib.hid (fun W => OfE 1 rfl W)
  clear h
  generalize str l = s at *
  go_enter Tryz.func29, Tryz.ntmps29
  go_wp2_with (first
    | (go_at_call 68; (with_reducible refine (HF.out _).mono ?_); rintro e w1 ⟨rfl, rfl⟩)
    | (go_at_call 49; (with_reducible refine (HO.out _).mono ?_); rintro e w9 ⟨rfl, rfl⟩)
    | (fail "no arm"))
  go_ret2
  exact ⟨rfl, rfl⟩
set_option maxRecDepth 100000 in
set_option maxHeartbeats 4000000 in
theorem Get_form (l : List UInt8) (h : DayForm l) (v : Int) (er : Value) (w : World)
    (hO : ∀ W, Below w.heap.size w W → Calls Tryz.prog 31 #[.agg #[.int .i64 (seg l 0 4 : Nat), .int .i64 (seg l 5 2 : Nat), .int .i64 (seg l 8 2 : Nat)]] W fun e w' => e = .returned (.tuple #[.int .i64 v, er]) ∧ Below W.heap.size W w') :
    Calls Tryz.prog 29 #[.string (str l)] w fun e w' => e = .returned (.tuple #[.int .i64 v, er]) ∧ Below w.heap.size w w' := by
  have HF := Lib.hid (fun W => hasForm_any l true (by simp [h]) W)
  obtain ⟨hl, -, -, hd⟩ := h
  have HN1 := Lib.hid (fun W => number_seg l 0 4 hl (by omega) (by omega) (fun i h1 h2 => hd i (by omega) (by omega) (by omega)) (by omega) W)
  have HN2 := Lib.hid (fun W => number_seg l 5 7 hl (by omega) (by omega) (fun i h1 h2 => hd i (by omega) (by omega) (by omega)) (by omega) W)
  have HN3 := Lib.hid (fun W => number_seg l 8 10 hl (by omega) (by omega) (fun i h1 h2 => hd i (by omega) (by omega) (by omega)) (by omega) W)
  have hz : (str l).size = 10 := by rw [str_size]; exact hl
  have HOO := Lib.hid hO
  clear hO hl hd
  simp only [show 4 - 0 = 4 from rfl, show 7 - 5 = 2 from rfl] at HN1 HN2 HN3
  generalize seg l 0 4 = n1 at *
  generalize seg l 5 2 = n2 at *
  generalize seg l 8 2 = n3 at *
  generalize str l = s at *
  go_enter Tryz.func29, Tryz.ntmps29
  go_wp2_with (first
    | (go_at_call 68; (with_reducible refine (HF.out _).mono ?_); rintro e w1 ⟨rfl, rfl⟩)
    | (fail "no arm"))
  go_region_held3 (fun w' => Below w.heap.size w w')
    (first
      | exact (Below.refl _ _).drew
      | exact HR4.out
      | exact HR3.out
      | exact HR2.out
      | exact HR1.out)
    (first
      | (go_at_call 69; (with_reducible refine (HN1.out _).mono ?_); rintro e w1 ⟨rfl, rfl⟩
         have HR1 := Lib.hid (Below.refl w.heap.size w).drew
         clear HN1)
      | (go_at_call 69; (with_reducible refine (HN2.out _).mono ?_); rintro e w1 ⟨rfl, rfl⟩
         have HR2 := Lib.hid HR1.out
         clear HN2)
      | (go_at_call 69; (with_reducible refine (HN3.out _).mono ?_); rintro e w1 ⟨rfl, rfl⟩
         have HR3 := Lib.hid HR2.out
         clear HN3)
      | (go_at_call 31; (with_reducible refine (HOO.out _ HR3.out).mono ?_); rintro e w4 ⟨rfl, hb⟩
         have HR4 := Lib.hid (HR3.out.trans (hb.mono HR3.out.size))
         clear hb HOO)
      | (fail "no arm"))
  go_wp2
  go_ret2
  exact ⟨rfl, HR4.out⟩
theorem Get_any (l : List UInt8) (w : World) (hL : Lens w) :
    Calls Tryz.prog 29 #[.string (str l)] w fun e w' => GetE l e ∧ Below w.heap.size w w' := by
  by_cases h : DayForm l
  · by_cases hc : IsCivil (seg l 0 4 : Nat) (seg l 5 2 : Nat) (seg l 8 2 : Nat)
    · refine (Get_form l h _ _ w fun W hW => Of_yes _ _ _ hc W (hL.keep hW)).mono ?_
      rintro e w' ⟨rfl, hb⟩
      exact ⟨⟨fun h' => absurd h h', fun _ _ => rfl, fun _ h' => absurd hc h'⟩, hb⟩
    · refine (Get_form l h _ _ w fun W hW => Of_no _ _ _ hc W (hL.keep hW)).mono ?_
      rintro e w' ⟨rfl, hb⟩
      exact ⟨⟨fun h' => absurd h h', fun _ h' => absurd h' hc, fun _ _ => rfl⟩, hb⟩
  · refine (Get_bad l h w).mono ?_
    rintro e w' ⟨rfl, rfl⟩
    exact ⟨⟨fun _ => rfl, fun h' => absurd h' h, fun h' => absurd h' h⟩, Below.refl _ _⟩
end Go.Proofs.YtlhmfgbaefaneabGreatDoor.date
namespace Go.Proofs.YtlhmfgbaefaneabGreatDoor.flt
open Go.RowKit Go.Extern.Stop Go.Stop Go.Extern
theorem Code_nil (w : World) : Calls Tryz.prog 63 #[.nilIface] w fun ev w' => ev = .returned (.int .i64 0) ∧ Below w.heap.size w w' := by
  go_enter Tryz.func63, Tryz.ntmps63
  go_wp2
  go_ret
  exact ⟨rfl, Below.refl _ _⟩
theorem Code_plain (c : Int) (w : World) (hg : Handle w) :
    Calls Tryz.prog 63 #[.iface 100 (.int .i64 c)] w fun ev w' => ev = .returned (.int .i64 c) ∧ Below w.heap.size w w' :=
  Code_hit _ _ c w ((first_plain c w hg).mono fun _ _ ⟨b, he, _, hb, hk⟩ => ⟨b, he, hb, by simp [World.cell?, hk]⟩)
end Go.Proofs.YtlhmfgbaefaneabGreatDoor.flt
namespace Go.Proofs.YtlhmfgbaefaneabGreatDoor.law6
open Go Go.RowKit Go.Proofs.YtlhmfgbaefaneabGreatDoor.day Go.Proofs.YtlhmfgbaefaneabGreatDoor.date
open Go.Proofs.YtlhmfgbaefaneabGreatDoor.ref (str str_size)
open Go.Proofs.YtlhmfgbaefaneabGreatDoor.ref6 (CAt dayText DayForm quiet_same drewN_below6)
open Go.Proofs.YtlhmfgbaefaneabGreatDoor.itoa (Tab)
theorem Day_isDay (n : Int) : IsDay (n % 109573) := ⟨by omega, by omega⟩
set_option maxRecDepth 100000 in
theorem Same_code (c : Int) (w : World) (h : Wd w) :
    Calls Tryz.prog 23 #[errOf c, .int .i64 c] w fun e w' => e = .returned (.bool true) ∧ Below w.heap.size w w' := by
  unfold errOf
  have HC := Lib.hid (flt.Code_plain c w h.hd)
  clear h
  go_enter Tryz.func23, Tryz.ntmps23
  go_wp2_with (first
    | (go_at_call 63; (with_reducible refine (HC.out).mono ?_); rintro e w1 ⟨rfl, hb⟩; have HB := Lib.hid hb; clear hb)
    | (fail "no arm"))
  go_ret
  exact ⟨rfl, HB.out⟩
set_option maxRecDepth 100000 in
theorem Same_nil (w : World) (_h : Wd w) :
    Calls Tryz.prog 23 #[.nilIface, .int .i64 0] w fun e w' => e = .returned (.bool true) ∧ Below w.heap.size w w' := by
  have HC := Lib.hid (flt.Code_nil w)
  go_enter Tryz.func23, Tryz.ntmps23
  go_wp2_with (first
    | (go_at_call 63; (with_reducible refine (HC.out).mono ?_); rintro e w1 ⟨rfl, hb⟩; have HB := Lib.hid hb; clear hb)
    | (fail "no arm"))
  go_ret
  exact ⟨rfl, HB.out⟩
theorem str_take6 (l : List UInt8) (m : Nat) : (str l).extract 0 m = str (l.take m) := by
  apply ByteArray.ext
  simp [str]
theorem Get_pair (l : List UInt8) (hl : l.length ≤ 4611686018427387904) : ∃ (p : Int) (er : Value) (c : Int),
    (∀ W, Wd W → Calls Tryz.prog 29 #[.string (str l)] W fun e w' => e = .returned (.tuple #[.int .i64 p, er]) ∧ Below W.heap.size W w') ∧
    (∀ W, Wd W → Calls Tryz.prog 30 #[.string (str l)] W fun e w' => e = .returned (.tuple #[.int .i64 p, .int .i64 c]) ∧ Below W.heap.size W w') ∧
    (∀ W, Wd W → Calls Tryz.prog 23 #[er, .int .i64 c] W fun e w' => e = .returned (.bool true) ∧ Below W.heap.size W w') := by
  by_cases h : DayForm l
  · by_cases hc : IsCivil (ref.seg l 0 4 : Nat) (ref.seg l 5 2 : Nat) (ref.seg l 8 2 : Nat)
    · exact ⟨_, .nilIface, 0, fun W hW => (Get_any l W hW.lens).mono fun e w' h' => ⟨h'.1.2.1 h hc, h'.2⟩, fun W _ => (ref6.Get_any l hl W).mono fun e w' h' => ⟨h'.2.1 h hc, h'.2.2.2⟩, fun W hW => Same_nil W hW⟩
    · exact ⟨_, errOf 4, 4, fun W hW => (Get_any l W hW.lens).mono fun e w' h' => ⟨h'.1.2.2 h hc, h'.2⟩, fun W _ => (ref6.Get_any l hl W).mono fun e w' h' => ⟨h'.2.2.1 h hc, h'.2.2.2⟩, fun W hW => Same_code 4 W hW⟩
  · exact ⟨_, errOf 1, 1, fun W hW => (Get_any l W hW.lens).mono fun e w' h' => ⟨h'.1.1 h, h'.2⟩, fun W _ => (ref6.Get_any l hl W).mono fun e w' h' => ⟨h'.1 h, h'.2.2.2⟩, fun W hW => Same_code 1 W hW⟩
theorem pad_two (d : Nat) : ref.pad 2 d = [UInt8.ofNat (48 + d / 10 % 10), UInt8.ofNat (48 + d % 10)] := by
  rw [ref.pad_cons, ref.pad_cons]; simp [ref.pad]
theorem pad_four (d : Nat) : ref.pad 4 d = [UInt8.ofNat (48 + d / 1000 % 10), UInt8.ofNat (48 + d / 100 % 10), UInt8.ofNat (48 + d / 10 % 10), UInt8.ofNat (48 + d % 10)] := by
  rw [ref.pad_cons, ref.pad_cons, ref.pad_cons, ref.pad_cons]; simp [ref.pad]
theorem dg_toNat (x : Nat) : (UInt8.ofNat (48 + x % 10)).toNat = 48 + x % 10 := by
  simp only [UInt8.toNat_ofNat']
  omega
theorem text_form {y m d : Int} (y0 : 0 ≤ y) (y1 : y ≤ 9999) (m0 : 0 ≤ m) (m1 : m ≤ 99) (d0 : 0 ≤ d) (d1 : d ≤ 99) : DayForm (dayText y m d) ∧ ref.seg (dayText y m d) 0 4 = y.toNat ∧ ref.seg (dayText y m d) 5 2 = m.toNat ∧ ref.seg (dayText y m d) 8 2 = d.toNat := by
  have e : dayText y m d = [UInt8.ofNat (48 + y.toNat / 1000 % 10), UInt8.ofNat (48 + y.toNat / 100 % 10), UInt8.ofNat (48 + y.toNat / 10 % 10), UInt8.ofNat (48 + y.toNat % 10), 45,
    UInt8.ofNat (48 + m.toNat / 10 % 10), UInt8.ofNat (48 + m.toNat % 10), 45, UInt8.ofNat (48 + d.toNat / 10 % 10), UInt8.ofNat (48 + d.toNat % 10)] := by
    unfold dayText
    rw [pad_four, pad_two, pad_two]
    rfl
  rw [e]
  have b1 : y.toNat < 10000 := by omega
  have b2 : m.toNat < 100 := by omega
  have b3 : d.toNat < 100 := by omega
  generalize y.toNat = Y at *
  generalize m.toNat = M at *
  generalize d.toNat = D at *
  refine ⟨⟨rfl, rfl, rfl, fun i hi h4 h7 => ?_⟩, ?_, ?_, ?_⟩
  · rcases (show i = 0 ∨ i = 1 ∨ i = 2 ∨ i = 3 ∨ i = 5 ∨ i = 6 ∨ i = 8 ∨ i = 9 by omega) with rfl | rfl | rfl | rfl | rfl | rfl | rfl | rfl <;>
    · simp only [ref.IsDig, ref.ch, List.getD_eq_getElem?_getD, List.getElem?_cons_zero, List.getElem?_cons_succ, Option.getD_some, dg_toNat]
      omega
  all_goals
    simp only [ref.seg, ref.ch, Nat.reduceAdd, List.getD_eq_getElem?_getD, List.getElem?_cons_zero, List.getElem?_cons_succ, Option.getD_some, dg_toNat]
    omega
theorem dayText_form {y m d : Int} (h : IsCivil y m d) : DayForm (dayText y m d) ∧ ref.seg (dayText y m d) 0 4 = y.toNat ∧ ref.seg (dayText y m d) 5 2 = m.toNat ∧ ref.seg (dayText y m d) 8 2 = d.toNat := by
  obtain ⟨a1, a2, a5, a6⟩ := id h
  obtain ⟨a3, a4⟩ := h.month
  have a7 := mlen_hi y m
  exact text_form (by omega) (by omega) (by omega) (by omega) (by omega) (by omega)
theorem Get_not (l : List UInt8) (h : l.length ≠ 10) (w : World) (_hw : Wd w) :
    Calls Tryz.prog 29 #[.string (str l)] w fun e w' => e = .returned (.tuple #[.int .i64 0, errOf 1]) ∧ Below w.heap.size w w' := by
  refine (Get_bad l (fun hf => h hf.1) w).mono ?_
  rintro e w' ⟨rfl, rfl⟩
  exact ⟨rfl, Below.refl _ _⟩
end Go.Proofs.YtlhmfgbaefaneabGreatDoor.law6
namespace Go.Proofs.YtlhmfgbaefaneabGreatDoor.day
open Go.Proofs.YtlhmfgbaefaneabGreatDoor.ref (str pad pad_cons)
open Go.Proofs.YtlhmfgbaefaneabGreatDoor.ref6 (dayText)
def Before (y m d y' m' d' : Int) : Prop := y < y' ∨ (y = y' ∧ (m < m' ∨ (m = m' ∧ d < d')))
instance (y m d y' m' d' : Int) : Decidable (Before y m d y' m' d') := by unfold Before; infer_instance
theorem Before.lt {y m d y' m' d' : Int} (h : IsCivil y m d) (h' : IsCivil y' m' d') (hb : Before y m d y' m' d') : dayOf y m d < dayOf y' m' d' := by
  rcases hb with hy | ⟨rfl, hm | ⟨rfl, hd⟩⟩
  · have a := dayOf_year h
    have b := dayOf_year h'
    have := ydays_mono (show (y - 1900).toNat + 1 ≤ (y' - 1900).toNat by have := h.1; omega)
    have e : ((y' - 1900).toNat : Int) - ((y - 1900).toNat + 1 : Nat) ≥ 0 := by have := h.1; omega
    omega
  · have a := dayOf_in h
    have b := dayOf_in h'
    have hm1 := h.month
    have := mdays_mono (y := y) (show m.toNat ≤ (m' - 1).toNat by omega)
    omega
  · unfold dayOf
    omega
theorem before_tri {y m d y' m' d' : Int} : Before y m d y' m' d' ∨ Before y' m' d' y m d ∨ (y = y' ∧ m = m' ∧ d = d') := by unfold Before; omega
theorem before_iff {y m d y' m' d' : Int} (h : IsCivil y m d) (h' : IsCivil y' m' d') : Before y m d y' m' d' ↔ dayOf y m d < dayOf y' m' d' := by
  refine ⟨Before.lt h h', fun hl => ?_⟩
  rcases before_tri (y := y) (m := m) (d := d) (y' := y') (m' := m') (d' := d') with hb | hb | ⟨rfl, rfl, rfl⟩
  · exact hb
  · have := Before.lt h' h hb; omega
  · omega
theorem u8_lt {a b : Nat} (ha : a < 10) (hb : b < 10) : (UInt8.ofNat (48 + a) < UInt8.ofNat (48 + b)) ↔ a < b := by
  rw [UInt8.lt_iff_toNat_lt]
  simp only [UInt8.toNat_ofNat']
  omega
theorem u8_eq {a b : Nat} (ha : a < 10) (hb : b < 10) : (UInt8.ofNat (48 + a) = UInt8.ofNat (48 + b)) ↔ a = b := by
  rw [← UInt8.toNat_inj]
  simp only [UInt8.toNat_ofNat']
  omega
theorem less_pad (r1 r2 : List UInt8) : ∀ (k u v : Nat), Op.bytesLess (pad k u ++ r1) (pad k v ++ r2) = (decide (u % 10 ^ k < v % 10 ^ k) || (decide (u % 10 ^ k = v % 10 ^ k) && Op.bytesLess r1 r2))
  | 0, u, v => by simp [pad, Nat.mod_one]
  | k + 1, u, v => by
    rw [pad_cons, pad_cons, List.cons_append, List.cons_append, Op.bytesLess, less_pad r1 r2 k u v]
    have hp : 0 < 10 ^ k := Nat.pow_pos (by omega)
    have a1 : u / 10 ^ k % 10 < 10 := Nat.mod_lt _ (by omega)
    have a2 : v / 10 ^ k % 10 < 10 := Nat.mod_lt _ (by omega)
    have e1 : u % 10 ^ (k + 1) = u % 10 ^ k + 10 ^ k * (u / 10 ^ k % 10) := Nat.mod_pow_succ
    have e2 : v % 10 ^ (k + 1) = v % 10 ^ k + 10 ^ k * (v / 10 ^ k % 10) := Nat.mod_pow_succ
    have b1 : u % 10 ^ k < 10 ^ k := Nat.mod_lt _ hp
    have b2 : v % 10 ^ k < 10 ^ k := Nat.mod_lt _ hp
    rw [e1, e2]
    generalize u / 10 ^ k % 10 = a at *
    generalize v / 10 ^ k % 10 = b at *
    generalize u % 10 ^ k = p at *
    generalize v % 10 ^ k = q at *
    generalize 10 ^ k = t at *
    clear e1 e2
    have c1 := u8_lt a1 a2
    have c2 := u8_eq a1 a2
    generalize UInt8.ofNat (48 + a) = A at *
    generalize UInt8.ofNat (48 + b) = B at *
    rcases Nat.lt_trichotomy a b with h | h | h
    · have hm : t * (a + 1) ≤ t * b := Nat.mul_le_mul_left t (by omega)
      rw [Nat.mul_add, Nat.mul_one] at hm
      have : p + t * a < q + t * b := by omega
      simp [c1.2 h, this]
    · subst h
      obtain rfl : A = B := c2.2 rfl
      simp
    · have hm : t * (b + 1) ≤ t * a := Nat.mul_le_mul_left t (by omega)
      rw [Nat.mul_add, Nat.mul_one] at hm
      have n1 : ¬ (A < B) := fun hh => by have := c1.1 hh; omega
      have n2 : ¬ (A = B) := fun hh => by have := c2.1 hh; omega
      have n3 : ¬ (p + t * a < q + t * b) := by omega
      have n4 : ¬ (p + t * a = q + t * b) := by omega
      simp [n1, n2, n3, n4]
theorem less_cons (c : UInt8) (a b : List UInt8) : Op.bytesLess (c :: a) (c :: b) = Op.bytesLess a b := by simp [Op.bytesLess]
theorem str_toList (l : List UInt8) : (str l).toList = l := by
  rw [ByteArray.toList_eq]; simp [str]
theorem text_less {y m d y' m' d' : Int} (h : IsCivil y m d) (h' : IsCivil y' m' d') : Op.bytesLess (str (dayText y m d)).toList (str (dayText y' m' d')).toList = decide (dayOf y m d < dayOf y' m' d') := by
  have hm := h.month
  have hm' := h'.month
  have l1 := mlen_hi y m
  have l2 := mlen_hi y' m'
  obtain ⟨a1, a2, a3, a4⟩ := id h
  obtain ⟨b1, b2, b3, b4⟩ := id h'
  rw [show decide (dayOf y m d < dayOf y' m' d') = decide (Before y m d y' m' d') from decide_eq_decide.2 (before_iff h h').symm]
  generalize mlen y m = p1 at *
  generalize mlen y' m' = p2 at *
  clear h h'
  obtain ⟨Y, rfl⟩ : ∃ Y : Nat, y = Y := ⟨y.toNat, by omega⟩
  obtain ⟨M, rfl⟩ : ∃ Y : Nat, m = Y := ⟨m.toNat, by omega⟩
  obtain ⟨D, rfl⟩ : ∃ Y : Nat, d = Y := ⟨d.toNat, by omega⟩
  obtain ⟨Y', rfl⟩ : ∃ Y : Nat, y' = Y := ⟨y'.toNat, by omega⟩
  obtain ⟨M', rfl⟩ : ∃ Y : Nat, m' = Y := ⟨m'.toNat, by omega⟩
  obtain ⟨D', rfl⟩ : ∃ Y : Nat, d' = Y := ⟨d'.toNat, by omega⟩
  rw [str_toList, str_toList]
  unfold dayText
  simp only [List.append_assoc, List.nil_append, List.cons_append, Int.toNat_natCast]
  rw [less_pad, less_cons, less_pad, less_cons]
  rw [show pad 2 D = pad 2 D ++ [] by simp, show pad 2 D' = pad 2 D' ++ [] by simp, less_pad]
  rw [Nat.mod_eq_of_lt (show Y < 10 ^ 4 by omega), Nat.mod_eq_of_lt (show Y' < 10 ^ 4 by omega), Nat.mod_eq_of_lt (show M < 10 ^ 2 by omega), Nat.mod_eq_of_lt (show M' < 10 ^ 2 by omega), Nat.mod_eq_of_lt (show D < 10 ^ 2 by omega), Nat.mod_eq_of_lt (show D' < 10 ^ 2 by omega)]
  rw [Bool.eq_iff_iff, decide_eq_true_iff]
  unfold Before
  simp only [Bool.or_eq_true, Bool.and_eq_true, decide_eq_true_eq, Op.bytesLess, Bool.false_eq_true, and_false, or_false]
  omega
theorem text_eq {y m d y' m' d' : Int} (h : IsCivil y m d) (h' : IsCivil y' m' d') : ((str (dayText y m d)).toList == (str (dayText y' m' d')).toList) = decide (dayOf y m d = dayOf y' m' d') := by
  have e1 := text_less h h'
  have e2 := text_less h' h
  rw [Bool.eq_iff_iff]
  simp only [beq_iff_eq, decide_eq_true_eq]
  refine ⟨fun he => ?_, fun he => ?_⟩
  · rw [he] at e1 e2
    rw [e1] at e2
    have := decide_eq_decide.1 e2
    rcases Int.lt_trichotomy (dayOf y m d) (dayOf y' m' d') with hl | hl | hl
    · have := this.1 hl; omega
    · exact hl
    · have := this.2 hl; omega
  · obtain ⟨rfl, rfl, rfl⟩ := dayOf_inj h h' he
    rfl
end Go.Proofs.YtlhmfgbaefaneabGreatDoor.day
namespace Go.Proofs.YtlhmfgbaefaneabGreatDoor.law6
open Go Go.RowKit
open Go.Proofs.YtlhmfgbaefaneabGreatDoor.ref (str str_size)
def byteCells (l : List UInt8) : List Value := l.map fun d => Value.int .u8 (d.toNat : Nat)
def PRow (w : World) (g : Nat) (l : List UInt8) : Prop :=
  ∃ R, w.heap[g]? = some (.cells (byteCells l ++ R).toArray 5 ((byteCells l ++ R).length, (byteCells l ++ R).length + 1))
theorem PRow.keep {w w' : World} {g n : Nat} {l : List UInt8} (h : PRow w g l) (hb : Below n w w') (hn : n = w.heap.size) : PRow w' g l := by
  obtain ⟨R, h⟩ := h
  exact ⟨R, by rw [hb.block g (by subst hn; exact (Array.getElem?_eq_some_iff.1 h).1), h]⟩
theorem PRow.cell {w : World} {g : Nat} {l : List UInt8} (h : PRow w g l) (j : Nat) (hj : j < l.length) : w.cell? ⟨g, j, none⟩ = some (.int .u8 (l[j].toNat : Nat)) := by
  obtain ⟨R, h⟩ := h
  rw [cell_of_row _ g j _ _ _ h]
  simp [byteCells, List.getElem?_append, hj]
theorem PRow.cell_any {w : World} {g : Nat} {l : List UInt8} (h : PRow w g l) (j : Nat) (hj : j < l.length) : ∃ v, w.cell? ⟨g, j, none⟩ = some (.int .u8 v) := ⟨_, h.cell j hj⟩
theorem PRow.frozen {w : World} {g : Nat} {l : List UInt8} (h : PRow w g l) (j : Nat) (hj : j < l.length) : w.frozen? ⟨g, j, none⟩ = false := by
  obtain ⟨R, h⟩ := h
  unfold World.frozen?
  simp only [h]
  have h1 : (byteCells l).length = l.length := by simp [byteCells]
  have : j < (byteCells l ++ R).length := by rw [List.length_append]; omega
  simp at this ⊢
  omega
theorem PRow.set {w : World} {g : Nat} {l : List UInt8} (h : PRow w g l) (j : Nat) (hj : j < l.length) (c : Nat) (hc : c < 256) : PRow (w.setCell ⟨g, j, none⟩ (.int .u8 (c : Nat))) g (l.set j (UInt8.ofNat c)) := by
  obtain ⟨R, h⟩ := h
  refine ⟨R, ?_⟩
  rw [setCell_eq_setRow w g j _ _ _ _ h, setRow_heap w g _ _ _ _ h]
  have e : byteCells (l.set j (UInt8.ofNat c)) = (byteCells l).set j (.int .u8 (c : Nat)) := by
    unfold byteCells
    rw [List.map_set]
    congr 1
    simp
    omega
  rw [e]
  have hl : j < (byteCells l).length := by simpa [byteCells] using hj
  simp [hl]
theorem PRow.back {w : World} {g : Nat} {l : List UInt8} (h : PRow w g l) (n : Nat) (hn : l.length = n) (cap : Nat) :
    (convert 41 9 (.slice (some ⟨g, 0, none⟩) n cap)).run Tryz.prog w = .ok (.string (str l)) w := by
  subst hn
  exact run_convert_bytes_back (P := Tryz.prog) w 41 9 5 ⟨g, 0, none⟩ cap l Tryz.underlying41 Tryz.underlying5 Tryz.underlying9 (fun j hj => by
    have h2 : (⟨g, 0, none⟩ : Addr).add j = ⟨g, j, none⟩ := by unfold Addr.add; split <;> simp_all
    rw [h2, h.cell j hj])
theorem conv_there (l : List UInt8) (n : Nat) (hn : l.length = n) (w : World) : ∃ V cap, (convert 9 41 (.string (str l))).run Tryz.prog w = .ok (.slice (some ⟨w.heap.size, 0, none⟩) n cap) V ∧ PRow V w.heap.size l ∧ Below w.heap.size w V := by
  have hr := run_bytes_of_string (P := Tryz.prog) w 9 41 5 (str l) Tryz.underlying9 Tryz.underlying41 Tryz.underlying5
  rw [str_size, hn] at hr
  refine ⟨_, _, hr, ⟨List.replicate (grownCap w n 0 5 - n) (.int .u8 0), ?_⟩, ((Below.refl w.heap.size w).drew).alloc (Below.refl w.heap.size w).drew.size _⟩
  have hs : w.drew.heap.size = w.heap.size := rfl
  rw [← hs, heap_alloc_new]
  have e : bytesRow (str l) (grownCap w n 0 5) = (byteCells l ++ List.replicate (grownCap w n 0 5 - n) (Value.int .u8 0)).toArray := by
    unfold bytesRow byteCells
    rw [str_size, hn]
    simp [str]
  rw [e]
  simp
end Go.Proofs.YtlhmfgbaefaneabGreatDoor.law6
