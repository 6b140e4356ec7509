/-
  The steps of the walks, part 5: RefGet6, DateT, DateG, Code, Law6Kit, RefRule6, RefNth6, EasterM, RefHol6, RefIsRule6, RefOpen6, Law6Lst, RefNext6, RefRoll6.
-/
import Derived.Laws.IdiomStrings
import Derived.BigRegion
import Derived.Deep.RegionHeld3
import Derived.Laws.BitsLemmas
import Derived.Laws.AppendOwn
import Derived.Test.YtlhmfgbaefaneabGreatDoorB01
import Derived.Test.YtlhmfgbaefaneabGreatDoorB04
import Derived.Test.YtlhmfgbaefaneabGreatDoorB03
import Derived.Test.YtlhmfgbaefaneabGreatDoorB02
namespace Go.Proofs.YtlhmfgbaefaneabGreatDoor.ref6
open Go Go.RowKit Go.Proofs.YtlhmfgbaefaneabGreatDoor.day
open Go.Proofs.YtlhmfgbaefaneabGreatDoor.ref (str str_size ch seg IsDig)
theorem ref_ch_get {l : List UInt8} {i : Nat} (h : i < (str l).size) : ((str l)[i]'h).toNat = ch l i := by
  have h' : i < l.length := by simpa [str_size] using h
  show ((str l).data[i]'h).toNat = _
  simp [str, ch, h']
def DayForm (l : List UInt8) : Prop := l.length = 10 ∧ ch l 4 = 45 ∧ ch l 7 = 45 ∧ ∀ i, i < 10 → i ≠ 4 → i ≠ 7 → IsDig l i
def GetEnd6 (l : List UInt8) (w : World) (e : Ending) (w' : World) : Prop :=
  (¬ DayForm l → e = .returned (.tuple #[.int .i64 0, .int .i64 1])) ∧
  (DayForm l → IsCivil (seg l 0 4 : Nat) (seg l 5 2 : Nat) (seg l 8 2 : Nat) → e = .returned (.tuple #[.int .i64 (dayOf (seg l 0 4 : Nat) (seg l 5 2 : Nat) (seg l 8 2 : Nat)), .int .i64 0])) ∧
  (DayForm l → ¬ IsCivil (seg l 0 4 : Nat) (seg l 5 2 : Nat) (seg l 8 2 : Nat) → e = .returned (.tuple #[.int .i64 0, .int .i64 4])) ∧ Below w.heap.size w w'
theorem GetEnd6.form {l : List UInt8} {w w' : World} (h : ¬ DayForm l) (hb : Below w.heap.size w w') : GetEnd6 l w (.returned (.tuple #[.int .i64 0, .int .i64 1])) w' :=
  ⟨fun _ => rfl, fun hf => absurd hf h, fun hf => absurd hf h, hb⟩
def N3 (w : World) (b : Nat) (x y z : Nat) : Prop := w.heap[b]? = some (.cells #[.int .i64 (x : Int), .int .i64 (y : Int), .int .i64 (z : Int)] 91 (0, 0))
theorem N3.cells {w : World} {g x y z : Nat} (h3 : N3 w g x y z) :
    w.cell? ⟨g, 0, none⟩ = some (.int .i64 (x : Int)) ∧ w.cell? ⟨g, 1, none⟩ = some (.int .i64 (y : Int)) ∧ w.cell? ⟨g, 2, none⟩ = some (.int .i64 (z : Int)) ∧ w.frozen? ⟨g, 0, none⟩ = false ∧ w.frozen? ⟨g, 1, none⟩ = false ∧ w.frozen? ⟨g, 2, none⟩ = false := by
  unfold N3 at h3
  refine ⟨?_, ?_, ?_, ?_, ?_, ?_⟩
  · rw [cell_of_row _ g 0 _ _ (0, 0) h3]; rfl
  · rw [cell_of_row _ g 1 _ _ (0, 0) h3]; rfl
  · rw [cell_of_row _ g 2 _ _ (0, 0) h3]; rfl
  all_goals
    unfold World.frozen?
    rw [h3]
    rfl
theorem N3.set0 {w : World} {g x y z : Nat} (h : N3 w g x y z) (v : Nat) : N3 (w.setCell ⟨g, 0, none⟩ (.int .i64 (v : Int))) g v y z := by
  unfold N3 at *; rw [heap_setCell_same w g 0 _ _ _ h]; rfl
theorem N3.set1 {w : World} {g x y z : Nat} (h : N3 w g x y z) (v : Nat) : N3 (w.setCell ⟨g, 1, none⟩ (.int .i64 (v : Int))) g x v z := by
  unfold N3 at *; rw [heap_setCell_same w g 1 _ _ _ h]; rfl
theorem N3.set2 {w : World} {g x y z : Nat} (h : N3 w g x y z) (v : Nat) : N3 (w.setCell ⟨g, 2, none⟩ (.int .i64 (v : Int))) g x y v := by
  unfold N3 at *; rw [heap_setCell_same w g 2 _ _ _ h]; rfl
end Go.Proofs.YtlhmfgbaefaneabGreatDoor.ref6
namespace Go.Proofs.YtlhmfgbaefaneabGreatDoor.date
open Go Go.RowKit Go.Proofs.YtlhmfgbaefaneabGreatDoor.day
open Go.Proofs.YtlhmfgbaefaneabGreatDoor.ref (str str_size str_append ch seg IsDig seg_lt pad pad_dec pad_nought pad_length)
open Go.Proofs.YtlhmfgbaefaneabGreatDoor.ref6 (CAt dayText DayForm quiet_same drewN_below6)
open Go.Proofs.YtlhmfgbaefaneabGreatDoor.itoa (Tab)
theorem pad_fill : ∀ (m x : Nat), x < 10 ^ (m + 1) → pad (m + 1) x = List.replicate (m + 1 - (Lib.decDigits x).length) 48 ++ Lib.decDigits x
  | m, x, h => by
    by_cases h2 : m = 0 ∨ 10 ^ m ≤ x
    · have e := pad_dec m x h h2
      have hl : (Lib.decDigits x).length = m + 1 := by rw [← e, pad_length]
      rw [hl, Nat.sub_self, e]
      rfl
    · obtain ⟨k, rfl⟩ : ∃ k, m = k + 1 := ⟨m - 1, by omega⟩
      have h3 : x < 10 ^ (k + 1) := by omega
      have ih := pad_fill k x h3
      have hl := congrArg List.length ih
      rw [pad_length, List.length_append, List.length_replicate] at hl
      rw [pad_nought h3, ih, show k + 1 + 1 - (Lib.decDigits x).length = (k + 1 - (Lib.decDigits x).length) + 1 by omega, List.replicate_succ]
      rfl
theorem dec_len : ∀ {m x : Nat}, x < 10 ^ (m + 1) → (Lib.decDigits x).length ≤ m + 1 := fun {m x} h => by
  have hl := congrArg List.length (pad_fill m x h)
  rw [pad_length, List.length_append, List.length_replicate] at hl
  omega
theorem itoa_nat {z : Int} (h : 0 ≤ z) : (⟨(Lib.itoa z).toArray⟩ : ByteArray) = str (Lib.decDigits z.toNat) := by
  unfold Lib.itoa
  rw [if_neg (by omega)]
  rfl
set_option maxRecDepth 100000 in
set_option maxHeartbeats 4000000 in
theorem padded_any (z : Int) (m : Nat) (k : Int) (hk : k = (m : Nat) + 1) (h0 : 0 ≤ z) (h1 : z.toNat < 10 ^ (m + 1)) (hm : m ≤ 8) (w : World) (ht : Tab w) :
    Calls Tryz.prog 67 #[.int .i64 z, .int .i64 k] w fun e w' => e = .returned (.string (str (pad (m + 1) z.toNat))) ∧ Below w.heap.size w w' := by
  have hlen := dec_len h1
  have hp : (10 : Nat) ^ (m + 1) ≤ 10 ^ 9 := Nat.pow_le_pow_right (by omega) (by omega)
  have hi := itoa.Itoa_any z (by omega) (by omega) w ht
  rw [itoa_nat h0] at hi
  have HI := Lib.hid hi
  have HE := Lib.hid (pad_fill m z.toNat h1)
  have HA := Lib.hid (str_append (List.replicate (m + 1 - (Lib.decDigits z.toNat).length) 48) (Lib.decDigits z.toNat))
  have hz : (str (Lib.decDigits z.toNat)).size = (Lib.decDigits z.toNat).length := str_size _
  have hR := fun W => Repeat_at (k - ((Lib.decDigits z.toNat).length : Nat)) (m + 1 - (Lib.decDigits z.toNat).length) (by omega) W (by omega)
  have hz2 : (str (List.replicate (m + 1 - (Lib.decDigits z.toNat).length) 48)).size = m + 1 - (Lib.decDigits z.toNat).length := by rw [str_size, List.length_replicate]
  have HR := Lib.hid hR
  have hk1 : ((Lib.decDigits z.toNat).length : Int) ≤ k := by omega
  have hk2 : k ≤ 9 := by omega
  have hz3 : ((m + 1 - (Lib.decDigits z.toNat).length : Nat) : Int) ≤ 9 := by omega
  clear hi hR h1 ht hp hk
  generalize str (List.replicate (m + 1 - (Lib.decDigits z.toNat).length) 48) = s2 at *
  generalize str (Lib.decDigits z.toNat) = s at *
  generalize (Lib.decDigits z.toNat).length = L at *
  go_enter Tryz.func67, Tryz.ntmps67
  go_wp2_with (first
    | (go_at_call 100; (with_reducible refine (HI.out).mono ?_); rintro e w1 ⟨rfl, hb⟩; have HB1 := Lib.hid hb; clear hb HI)
    | (go_at_call 101; (with_reducible refine (HR.out _).mono ?_); rintro e w2 ⟨rfl, hb⟩; have HB2 := Lib.hid hb; clear hb HR)
    | (fail "no arm"))
  go_ret
  exact ⟨by rw [HE.out, ← HA.out]; rfl, HB1.out.trans (HB2.out.mono HB1.out.size)⟩
set_option maxRecDepth 100000 in
set_option maxHeartbeats 4000000 in
theorem Text_at (y m d : Int) (h : IsCivil y m d) (w : World) (hL : Lens w) (ht : Tab w) :
    Calls Tryz.prog 27 #[.int .i64 (dayOf y m d)] w fun e w' => e = .returned (.string (str (dayText y m d))) ∧ Below w.heap.size w w' := by
  have HC := Lib.hid (Civil_at y m d h w hL)
  obtain ⟨a1, a2, a5, a6⟩ := id h
  obtain ⟨a3, a4⟩ := h.month
  have a7 := mlen_hi y m
  have HTy := Lib.hid (fun W (hW : Tab W) => padded_any y 3 4 rfl (by omega) (by omega) (by omega) W hW)
  have HTm := Lib.hid (fun W (hW : Tab W) => padded_any m 1 2 rfl (by omega) (by omega) (by omega) W hW)
  have HTd := Lib.hid (fun W (hW : Tab W) => padded_any d 1 2 rfl (by omega) (by omega) (by omega) W hW)
  have z1 : (str (pad 4 y.toNat)).size = 4 := by rw [str_size, pad_length]
  have z2 : (str (pad 2 m.toNat)).size = 2 := by rw [str_size, pad_length]
  have z3 : (str (pad 2 d.toNat)).size = 2 := by rw [str_size, pad_length]
  have HS := Lib.hid (show str (pad 4 y.toNat) ++ { data := #[45] } ++ str (pad 2 m.toNat) ++ { data := #[45] } ++ str (pad 2 d.toNat) = str (dayText y m d) from by
    rw [show ({ data := #[45] } : ByteArray) = str [45] from rfl, str_append, str_append, str_append, str_append]; rfl)
  have HTB := Lib.hid ht
  clear h a6 a7 ht
  simp only [show 3 + 1 = 4 from rfl, show 1 + 1 = 2 from rfl] at HTy HTm HTd
  generalize dayOf y m d = n at *
  generalize str (pad 4 y.toNat) = sy at *
  generalize str (pad 2 m.toNat) = sm at *
  generalize str (pad 2 d.toNat) = sd at *
  have z4 : ({ data := #[45] } : ByteArray).size = 1 := rfl
  go_enter Tryz.func27, Tryz.ntmps27
  go_wp2_with (first
    | (go_at_call 36; (with_reducible refine (HC.out).mono ?_); rintro e w1 ⟨rfl, hb⟩
       have HCV := Lib.hid (CAt.new w1 y m d)
       have HB := Lib.hid (hb.alloc hb.size (.cells #[.int .i64 y, .int .i64 m, .int .i64 d] 48))
       clear hb HC)
    | (fail "no arm"))
  obtain ⟨V, hV⟩ : ∃ V, V = (w1.alloc (.cells #[.int .i64 y, .int .i64 m, .int .i64 d] 48)) := ⟨_, rfl⟩
  rw [← hV] at HCV HB ⊢
  clear hV
  have HTV := Lib.hid (HTB.out.keep HB.out)
  have HOLD := Lib.hid (fun W (hW : Below V.heap.size V W) => (show Below V.heap.size V W ∧ W.cell? ⟨w1.heap.size, 0, none⟩ = some (.int .i64 y) ∧ W.cell? ⟨w1.heap.size, 1, none⟩ = some (.int .i64 m) ∧ W.cell? ⟨w1.heap.size, 2, none⟩ = some (.int .i64 d) from ⟨hW, (HCV.out.below hW).cells.1, (HCV.out.below hW).cells.2.1, (HCV.out.below hW).cells.2.2.1⟩))
  go_region_held3 (fun w' => Below V.heap.size V w' ∧ w'.cell? ⟨w1.heap.size, 0, none⟩ = some (.int .i64 y) ∧ w'.cell? ⟨w1.heap.size, 1, none⟩ = some (.int .i64 m) ∧ w'.cell? ⟨w1.heap.size, 2, none⟩ = some (.int .i64 d))
    (first
      | exact HOLD.out _ (Below.refl _ _).drew
      | exact HOLD.out _ HR4.out
      | exact HOLD.out _ HR3.out
      | exact HOLD.out _ HR2.out)
    (first
      | (go_at_call 67; (with_reducible refine (HTy.out _ (HTV.out.keep (Below.refl _ _).drew)).mono ?_); rintro e w2 ⟨rfl, hb⟩
         have HR2 := Lib.hid ((Below.refl _ _).drew.trans (hb.mono (Below.refl V.heap.size V).drew.size))
         clear hb HTy)
      | (go_at_call 67; (with_reducible refine (HTm.out _ (HTV.out.keep HR2.out)).mono ?_); rintro e w3 ⟨rfl, hb⟩
         have HR3 := Lib.hid (HR2.out.trans (hb.mono HR2.out.size))
         clear hb HTm)
      | (go_at_call 67; (with_reducible refine (HTd.out _ (HTV.out.keep HR3.out)).mono ?_); rintro e w4 ⟨rfl, hb⟩
         have HR4 := Lib.hid (HR3.out.trans (hb.mono HR3.out.size))
         clear hb HTd)
      | (fail "no arm"))
  go_wp2
  go_ret
  exact ⟨by rw [← HS.out]; rfl, HB.out.trans (HR4.out.mono HB.out.size)⟩
end Go.Proofs.YtlhmfgbaefaneabGreatDoor.date
namespace Go.Proofs.YtlhmfgbaefaneabGreatDoor.date
open Go Go.RowKit Go.Proofs.YtlhmfgbaefaneabGreatDoor.day
open Go.Proofs.YtlhmfgbaefaneabGreatDoor.ref (str str_size ch seg IsDig seg_lt)
open Go.Proofs.YtlhmfgbaefaneabGreatDoor.ref6 (DayForm ref_ch_get drewN_below6)
set_option maxRecDepth 100000 in
set_option maxHeartbeats 1000000 in
theorem number_any (l : List UInt8) (w : World) (hl : l.length ≤ 9) (hd : ∀ i, i < l.length → IsDig l i) :
    Calls Tryz.prog 69 #[.string (str l)] w fun e w' => e = .returned (.int .i64 (seg l 0 l.length : Nat)) ∧ w = w' := by
  have hz : (str l).size = l.length := str_size l
  have HG := Lib.hid (fun i (h : i < (str l).size) => ref_ch_get (l := l) h)
  have HD := Lib.hid hd
  generalize str l = s at *
  generalize hn : l.length = n at *
  have HN := Lib.hid hn
  clear hn hd
  go_enter Tryz.func69, Tryz.ntmps69
  go_wp2
  go_loopw [3, 7] (fun nv iv wr => w = wr ∧ ∃ i : Nat, i ≤ n ∧ iv = .int .i64 i ∧ nv = .int .i64 (seg l 0 i : Nat)) (fun _ iv _ => n - (intOf iv).toNat)
  case atStart => exact ⟨rfl, 0, Nat.zero_le _, rfl, rfl⟩
  case round =>
    obtain ⟨rfl, i, hi, rfl, rfl⟩ := hrel
    by_cases hlt : i < n
    · have hv := seg_lt (l := l) (st := 0) (m := i) fun j _ hj => HD.out j (by omega)
      have hp : 10 ^ i ≤ 10 ^ 9 := Nat.pow_le_pow_right (by omega) (by omega)
      have hdi := HD.out i hlt
      unfold IsDig at hdi
      have hgk : ∀ h : i < s.size, (s[i]'h).toNat = ch l i := fun h => HG.out _ h
      have HS := Lib.hid (show seg l 0 (i + 1) = seg l 0 i * 10 + (ch l i - 48) by rw [seg, Nat.zero_add])
      have hv8 : (seg l 0 i : Int) < 1000000000 := by omega
      generalize seg l 0 i = v at *
      generalize ch l i = c at *
      clear hv hp
      obtain ⟨hc1, hc2⟩ := hdi
      go_wp2
      refine ⟨?_, ?_⟩
      · refine ⟨trivial, i + 1, by omega, by go_num, ?_⟩
        rw [HS.out]
        go_num
      · simp [intOf]; omega
    · obtain rfl : i = n := by omega
      go_wp2
      go_ret
      exact ⟨rfl, rfl⟩
def FormTo (l : List UInt8) (i : Nat) : Prop := (4 < i → ch l 4 = 45) ∧ (7 < i → ch l 7 = 45) ∧ ∀ j, j < i → j ≠ 4 → j ≠ 7 → IsDig l j
theorem FormTo.all {l : List UInt8} (h : FormTo l 10) (hl : l.length = 10) : DayForm l := ⟨hl, h.1 (by omega), h.2.1 (by omega), fun j hj => h.2.2 j hj⟩
end Go.Proofs.YtlhmfgbaefaneabGreatDoor.date
namespace Go.Proofs.YtlhmfgbaefaneabGreatDoor.flt
open Go.RowKit Go.Extern.Stop Go.Stop Go.Extern
theorem Code_hit (u : TypeId) (x : Value) (c : Int) (w : World)
    (hF : Calls Tryz.prog 99 #[.iface u x] w fun ev w' => ∃ b, ev = .returned (.pointer (some ⟨b, 0, none⟩)) ∧ Below w.heap.size w w' ∧ w'.cell? ⟨b, 0, none⟩ = some (.int .i64 c)) :
    Calls Tryz.prog 63 #[.iface u x] w fun ev w' => ev = .returned (.int .i64 c) ∧ Below w.heap.size w w' := by
  have HF := Lib.hid hF
  clear hF
  go_enter Tryz.func63, Tryz.ntmps63
  go_wp2_with (go_at_call 99; refine (HF.out).mono ?_; rintro e' w' ⟨b, rfl, hb, hc⟩)
  go_ret
  exact ⟨rfl, hb⟩
theorem Code_fault (b : Nat) (c : Int) (w : World) (hg : Handle w) (hc : w.cell? ⟨b, 0, none⟩ = some (.int .i64 c)) :
    Calls Tryz.prog 63 #[.iface 108 (.pointer (some ⟨b, 0, none⟩))] w fun ev w' => ev = .returned (.int .i64 c) ∧ Below w.heap.size w w' :=
  Code_hit _ _ c w ((first_fault ⟨b, 0, none⟩ w hg).mono fun _ _ ⟨he, hb⟩ => ⟨b, he, hb, (hb.cell (cell_lt hc)).trans hc⟩)
def Wrapped (w : World) (c : Int) (s : ByteArray) (v : Value) (e : Ending) (w' : World) : Prop :=
  ∃ b, e = .returned (.iface 108 (.pointer (some ⟨b, 0, none⟩))) ∧ w.heap.size ≤ b ∧ FaultAt w' b c s v ∧ Below w.heap.size w w'
theorem Wrap_of (s : ByteArray) (u : TypeId) (x : Value) (c : Int) (w : World)
    (hC : Calls Tryz.prog 63 #[.iface u x] w fun ev w' => ev = .returned (.int .i64 c) ∧ Below w.heap.size w w') :
    Calls Tryz.prog 195 #[.string s, .iface u x] w (Wrapped w c s (.iface u x)) := by
  have HC := Lib.hid hC
  clear hC
  go_enter Tryz.func195, Tryz.ntmps195
  go_wp2_with (go_at_call 63; refine (HC.out).mono ?_; rintro e' w' ⟨rfl, hb⟩)
  go_ret
  refine ⟨_, rfl, hb.size, ?_, hb.alloc hb.size _⟩
  show (w'.heap.push _)[w'.heap.size]? = _
  simp
end Go.Proofs.YtlhmfgbaefaneabGreatDoor.flt
namespace Go.Proofs.YtlhmfgbaefaneabGreatDoor.law6
open Go Go.RowKit Go.Proofs.YtlhmfgbaefaneabGreatDoor.day Go.Proofs.YtlhmfgbaefaneabGreatDoor.date
open Go.Proofs.YtlhmfgbaefaneabGreatDoor.ref (str str_size)
open Go.Proofs.YtlhmfgbaefaneabGreatDoor.ref6 (CAt dayText DayForm quiet_same drewN_below6)
open Go.Proofs.YtlhmfgbaefaneabGreatDoor.itoa (Tab)
structure Wd (w : World) : Prop where
  hd : flt.Handle w
  lens : Lens w
  tab : Tab w
theorem Wd.keep {w w' : World} (h : Wd w) (hb : Below w.heap.size w w') : Wd w' :=
  ⟨flt.Handle.below h.hd hb (flt.Handle.pos h.hd), h.lens.keep hb, h.tab.keep hb⟩
theorem Wd.alloc {w : World} (h : Wd w) (o : Obj) : Wd (w.alloc o) := h.keep ((Below.refl _ _).alloc (Nat.le_refl _) o)
theorem below_tr6 {n : Nat} {w w1 w2 : World} (h : Below n w w1) (h2 : Below w1.heap.size w1 w2) (hn : n = w.heap.size) : Below n w w2 := by
  subst hn
  exact h.trans (h2.mono h.size)
def BegunC : Prop := ∀ w, Wd w → Calls Tryz.prog 20 #[] w fun e w' => e = .returned (.bool true) ∧ Below w.heap.size w w'
set_option maxRecDepth 100000 in
theorem Day_any (n : Int) (h0 : -9223372036854775808 ≤ n) (h1 : n ≤ 9223372036854775807) (w : World) :
    Calls Tryz.prog 28 #[.int .i64 n] w fun e w' => e = .returned (.int .i64 (n % 109573)) ∧ w = w' := by
  have h2 := Int.tmod_lt_of_pos n (show (0 : Int) < 109573 by decide)
  have h3 : -109573 < n.tmod 109573 := by
    rcases Int.le_total 0 n with h | h
    · rw [Int.tmod_eq_emod_of_nonneg h]; omega
    · have e := Int.tmod_eq_emod_of_nonneg (b := 109573) (show 0 ≤ -n by omega)
      rw [Int.neg_tmod] at e
      omega
  have HE := Lib.hid (show (n.tmod 109573 + 109573) % 109573 = n % 109573 from by
    rcases Int.le_total 0 n with h | h
    · rw [Int.tmod_eq_emod_of_nonneg h]; omega
    · have e := Int.tmod_eq_emod_of_nonneg (b := 109573) (show 0 ≤ -n by omega)
      rw [Int.neg_tmod] at e
      omega)
  go_enter Tryz.func28, Tryz.ntmps28
  go_wp2
  go_ret
  refine ⟨?_, rfl⟩
  rw [← HE.out]
  go_num
end Go.Proofs.YtlhmfgbaefaneabGreatDoor.law6
namespace Go.Proofs.YtlhmfgbaefaneabGreatDoor.ref6
open Go Go.RowKit Go.Proofs.YtlhmfgbaefaneabGreatDoor.day
structure Rule where
  kind : Int
  month : Int
  day : Int
  n : Int
  wd : Int
  shift : Bool
def Rule.cells (r : Rule) : Array Value := #[.int .i64 r.kind, .int .i64 r.month, .int .i64 r.day, .int .i64 r.n, .int .i64 r.wd, .bool r.shift]
def May (r : Rule) : Prop :=
  (r.kind = 1 ∧ 1 ≤ r.month ∧ r.month ≤ 12 ∧ 1 ≤ r.day ∧ r.day ≤ mlen 2000 r.month ∧ r.n = 0 ∧ r.wd = 0) ∨
  (r.kind = 2 ∧ 1 ≤ r.month ∧ r.month ≤ 12 ∧ (1 ≤ r.n ∧ r.n ≤ 5 ∨ r.n = -1) ∧ 0 ≤ r.wd ∧ r.wd ≤ 6 ∧ r.day = 0 ∧ r.shift = false) ∨
  (r.kind = 3 ∧ -100 ≤ r.n ∧ r.n ≤ 100 ∧ r.month = 0 ∧ r.day = 0 ∧ r.wd = 0 ∧ r.shift = false)
instance (r : Rule) : Decidable (May r) := by unfold May; infer_instance
end Go.Proofs.YtlhmfgbaefaneabGreatDoor.ref6
namespace Go.Proofs.YtlhmfgbaefaneabGreatDoor.ref6
open Go Go.RowKit Go.Proofs.YtlhmfgbaefaneabGreatDoor.day
def RAt (w : World) (b : Nat) (k mo d n wd : Int) (sh : Bool) : Prop := w.heap[b]? = some (.cells #[.int .i64 k, .int .i64 mo, .int .i64 d, .int .i64 n, .int .i64 wd, .bool sh] 38 (0, 0))
theorem RAt.below {w w' : World} {b : Nat} {k mo d n wd : Int} {sh : Bool} (h : RAt w b k mo d n wd sh) (hb : Below w.heap.size w w') : RAt w' b k mo d n wd sh := (hb.block b (Array.getElem?_eq_some_iff.1 h).1).trans h
theorem RAt.new (w : World) (k mo d n wd : Int) (sh : Bool) : RAt (w.alloc (.cells #[.int .i64 k, .int .i64 mo, .int .i64 d, .int .i64 n, .int .i64 wd, .bool sh] 38)) w.heap.size k mo d n wd sh := heap_alloc_new _ _
theorem RAt.grown {w w' : World} {b : Nat} {k mo d n wd : Int} {sh : Bool} {row : Option Nat} (h : RAt w b k mo d n wd sh) (hg : w.grownBy w' row) (hne : some b ≠ row) : RAt w' b k mo d n wd sh := (hg.block b (Array.getElem?_eq_some_iff.1 h).1 hne).trans h
theorem RAt.at {w : World} {b : Nat} {k mo d n wd : Int} {sh : Bool} (h : RAt w b k mo d n wd sh) : w.cell? ⟨b, 0, none⟩ = some (.int .i64 k) ∧ w.cell? ⟨b, 1, none⟩ = some (.int .i64 mo) ∧ w.cell? ⟨b, 2, none⟩ = some (.int .i64 d) ∧ w.cell? ⟨b, 3, none⟩ = some (.int .i64 n) ∧ w.cell? ⟨b, 4, none⟩ = some (.int .i64 wd) ∧ w.cell? ⟨b, 5, none⟩ = some (.bool sh) := by
  unfold RAt at h
  refine ⟨?_, ?_, ?_, ?_, ?_, ?_⟩ <;> rw [cell_of_row _ b _ _ _ (0, 0) h] <;> rfl
def daysW (y mo wd : Int) : Nat → List Int
  | 0 => []
  | k + 1 => daysW y mo wd k ++ (if (dayOf y mo ((k : Nat) + 1) + 1) % 7 = wd then [dayOf y mo ((k : Nat) + 1)] else [])
theorem dayOf_add (y mo : Int) (k : Int) : dayOf y mo (k + 1) = dayOf y mo 1 + k := by unfold dayOf; omega
theorem daysW_count (y mo wd : Int) (h1 : 0 ≤ wd) (h2 : wd ≤ 6) (k : Nat) : ((daysW y mo wd k).length : Int) = ((k : Nat) + 6 - (wd - dayOf y mo 1 - 1) % 7) / 7 := by
  induction k with
  | zero => simp only [daysW, List.length_nil]; omega
  | succ k ih =>
    simp only [daysW, List.length_append, dayOf_add]
    split
    · simp only [List.length_cons, List.length_nil]; omega
    · simp only [List.length_nil]; omega
theorem daysW_at (y mo wd : Int) (h1 : 0 ≤ wd) (h2 : wd ≤ 6) (k : Nat) : ∀ j, j < (daysW y mo wd k).length → (daysW y mo wd k)[j]? = some (dayOf y mo 1 + (wd - dayOf y mo 1 - 1) % 7 + 7 * (j : Nat)) := by
  induction k with
  | zero => intro j hj; simp [daysW] at hj
  | succ k ih =>
    intro j hj
    have hc := daysW_count y mo wd h1 h2 k
    simp only [daysW, dayOf_add] at hj ⊢
    by_cases hlt : j < (daysW y mo wd k).length
    · rw [List.getElem?_append_left hlt]; exact ih j hlt
    · split at hj
      · rename_i hw
        simp only [List.length_append, List.length_cons, List.length_nil] at hj
        obtain rfl : j = (daysW y mo wd k).length := by omega
        rw [if_pos hw, List.getElem?_append_right (Nat.le_refl _), Nat.sub_self]
        simp only [List.getElem?_cons_zero, Option.some.injEq]
        omega
      · simp only [List.append_nil] at hj; omega
def nthDay (y mo n wd : Int) : Option Int :=
  if n > ((daysW y mo wd (mlen y mo).toNat).length : Nat) then none else if n < 0 then (daysW y mo wd (mlen y mo).toNat)[(daysW y mo wd (mlen y mo).toNat).length - 1]? else (daysW y mo wd (mlen y mo).toNat)[(n - 1).toNat]?
end Go.Proofs.YtlhmfgbaefaneabGreatDoor.ref6
namespace Go.Proofs.YtlhmfgbaefaneabGreatDoor.day
def easterH (y : Int) : Int := (19 * (y % 19) + y / 100 - y / 100 / 4 - (y / 100 - (y / 100 + 8) / 25 + 1) / 3 + 15) % 30
def easterL (y : Int) : Int := (32 + 2 * (y / 100 % 4) + 2 * (y % 100 / 4) - easterH y - y % 100 % 4) % 7
def easterN (y : Int) : Int := easterH y + easterL y - 7 * ((y % 19 + 11 * easterH y + 22 * easterL y) / 451) + 114
def easterDay (y : Int) : Int := dayOf y (easterN y / 31) (easterN y % 31 + 1)
theorem easter_all : (List.range 300).all (fun k => decide (IsCivil (1900 + (k : Nat)) (easterN (1900 + (k : Nat)) / 31) (easterN (1900 + (k : Nat)) % 31 + 1))) = true := by decide +kernel
theorem easter_civil {y : Int} (h1 : 1900 ≤ y) (h2 : y ≤ 2199) : IsCivil y (easterN y / 31) (easterN y % 31 + 1) := by
  obtain ⟨k, rfl⟩ : ∃ k : Nat, y = 1900 + k := ⟨(y - 1900).toNat, by omega⟩
  exact of_decide_eq_true (List.all_eq_true.1 easter_all k (List.mem_range.2 (by omega)))
theorem easterH_in (y : Int) : 0 ≤ easterH y ∧ easterH y ≤ 29 := by unfold easterH; omega
theorem easterL_in (y : Int) : 0 ≤ easterL y ∧ easterL y ≤ 6 := by unfold easterL; omega
theorem easterN_in (y : Int) : 100 ≤ easterN y ∧ easterN y ≤ 150 := by
  have := easterH_in y
  have := easterL_in y
  unfold easterN
  omega
end Go.Proofs.YtlhmfgbaefaneabGreatDoor.day
namespace Go.Proofs.YtlhmfgbaefaneabGreatDoor.ref6
open Go Go.RowKit Go.Proofs.YtlhmfgbaefaneabGreatDoor.day
def shiftDay (sh : Bool) (n : Int) : Int := if sh = true ∧ (n + 1) % 7 = 6 then n - 1 else if sh = true ∧ (n + 1) % 7 = 0 then n + 1 else n
def rawDay (k mo d n wd : Int) (sh : Bool) (y : Int) : Option Int :=
  if k = 1 then (if IsCivil y mo d then some (shiftDay sh (dayOf y mo d)) else none) else if k = 3 then some (easterDay y + n) else nthDay y mo n wd
def holiday (k mo d n wd : Int) (sh : Bool) (y : Int) : Option Int :=
  if May ⟨k, mo, d, n, wd, sh⟩ ∧ 1900 ≤ y ∧ y ≤ 2199 then (rawDay k mo d n wd sh y).bind (fun z => if IsDay z then some z else none) else none
def HolEnd (o : Option Int) (w : World) (e : Ending) (w' : World) : Prop :=
  (∀ z, o = some z → e = .returned (.tuple #[.int .i64 z, .bool true])) ∧ (o = none → ∃ z, e = .returned (.tuple #[.int .i64 z, .bool false])) ∧ Below w.heap.size w w'
theorem HolEnd.day {k mo d n wd : Int} {sh : Bool} {y z : Int} {w w' : World} (h : May ⟨k, mo, d, n, wd, sh⟩ ∧ 1900 ≤ y ∧ y ≤ 2199) (hr : rawDay k mo d n wd sh y = some z) (hb : Below w.heap.size w w') :
    HolEnd (holiday k mo d n wd sh y) w (.returned (.tuple #[.int .i64 z, .bool (decide (IsDay z))])) w' := by
  unfold holiday
  rw [if_pos h, hr]
  simp only [Option.bind_some]
  by_cases hd : IsDay z
  · rw [if_pos hd, decide_eq_true hd]
    exact ⟨fun z' e => (by cases e; rfl), fun e => (by cases e), hb⟩
  · rw [if_neg hd, decide_eq_false hd]
    exact ⟨fun z' e => (by cases e), fun _ => ⟨z, rfl⟩, hb⟩
theorem HolEnd.no {o : Option Int} {z : Int} {w w' : World} (h : o = none) (hb : Below w.heap.size w w') : HolEnd o w (.returned (.tuple #[.int .i64 z, .bool false])) w' :=
  ⟨fun z' e => by rw [h] at e; (cases e), fun _ => ⟨z, rfl⟩, hb⟩
theorem easterDay_in {y : Int} (h1 : 1900 ≤ y) (h2 : y ≤ 2199) : 0 ≤ easterDay y ∧ easterDay y ≤ 109572 := dayOf_isDay (easter_civil h1 h2)
end Go.Proofs.YtlhmfgbaefaneabGreatDoor.ref6
namespace Go.Proofs.YtlhmfgbaefaneabGreatDoor.ref6
open Go Go.RowKit Go.Proofs.YtlhmfgbaefaneabGreatDoor.day
def ruleDay (k mo d n wd : Int) (sh : Bool) (y D : Int) : Prop :=
  holiday k mo d n wd sh (y - 1) = some D ∨ holiday k mo d n wd sh y = some D ∨ holiday k mo d n wd sh (y + 1) = some D
instance (k mo d n wd : Int) (sh : Bool) (y D : Int) : Decidable (ruleDay k mo d n wd sh y D) := by unfold ruleDay; infer_instance
end Go.Proofs.YtlhmfgbaefaneabGreatDoor.ref6
namespace Go.Proofs.YtlhmfgbaefaneabGreatDoor.ref6
open Go Go.RowKit Go.Proofs.YtlhmfgbaefaneabGreatDoor.day
structure CalT where
  rules : List Rule
  more : List Int
def RulesAt (w : World) (rv : Value) (l : List Rule) : Prop :=
  ∃ ao cap, rv = .slice ao l.length cap ∧ l.length ≤ 1000 ∧ ∀ k r, l[k]? = some r → ∃ g, ao = some ⟨g, 0, none⟩ ∧
    w.cell? ⟨g, k * 6, none⟩ = some (.int .i64 r.kind) ∧ w.cell? ⟨g, k * 6 + 1, none⟩ = some (.int .i64 r.month) ∧ w.cell? ⟨g, k * 6 + 2, none⟩ = some (.int .i64 r.day) ∧
    w.cell? ⟨g, k * 6 + 3, none⟩ = some (.int .i64 r.n) ∧ w.cell? ⟨g, k * 6 + 4, none⟩ = some (.int .i64 r.wd) ∧ w.cell? ⟨g, k * 6 + 5, none⟩ = some (.bool r.shift)
def IntsAt (w : World) (v : Value) (l : List Int) : Prop :=
  ∃ ao cap, v = .slice ao l.length cap ∧ l.length ≤ 1000 ∧ ∀ k z, l[k]? = some z → ∃ g, ao = some ⟨g, 0, none⟩ ∧ w.cell? ⟨g, k, none⟩ = some (.int .i64 z)
def CalsAt (w : World) (v : Value) (l : List CalT) : Prop :=
  ∃ ao cap, v = .slice ao l.length cap ∧ l.length ≤ 1000 ∧ ∀ k c, l[k]? = some c → ∃ g rv mv, ao = some ⟨g, 0, none⟩ ∧ w.cell? ⟨g, k * 2, none⟩ = some rv ∧ w.cell? ⟨g, k * 2 + 1, none⟩ = some mv ∧ RulesAt w rv c.rules ∧ IntsAt w mv c.more
theorem cell_below {w w' : World} {a : Addr} {v : Value} (h : w.cell? a = some v) (hb : Below w.heap.size w w') : w'.cell? a = some v := by
  refine (hb.cell (p := a) ?_).trans h
  rcases Nat.lt_or_ge a.block w.heap.size with h' | h'
  · exact h'
  · simp [World.cell?, Array.getElem?_eq_none h'] at h
theorem RulesAt.below {w w' : World} {v : Value} {l : List Rule} (h : RulesAt w v l) (hb : Below w.heap.size w w') : RulesAt w' v l := by
  obtain ⟨ao, cap, rfl, hl, h⟩ := h
  refine ⟨ao, cap, rfl, hl, fun k r hk => ?_⟩
  obtain ⟨g, e, h0, h1, h2, h3, h4, h5⟩ := h k r hk
  exact ⟨g, e, cell_below h0 hb, cell_below h1 hb, cell_below h2 hb, cell_below h3 hb, cell_below h4 hb, cell_below h5 hb⟩
theorem IntsAt.below {w w' : World} {v : Value} {l : List Int} (h : IntsAt w v l) (hb : Below w.heap.size w w') : IntsAt w' v l := by
  obtain ⟨ao, cap, rfl, hl, h⟩ := h
  refine ⟨ao, cap, rfl, hl, fun k r hk => ?_⟩
  obtain ⟨g, e, h0⟩ := h k r hk
  exact ⟨g, e, cell_below h0 hb⟩
theorem CalsAt.below {w w' : World} {v : Value} {l : List CalT} (h : CalsAt w v l) (hb : Below w.heap.size w w') : CalsAt w' v l := by
  obtain ⟨ao, cap, rfl, hl, h⟩ := h
  refine ⟨ao, cap, rfl, hl, fun k r hk => ?_⟩
  obtain ⟨g, rv, mv, e, h0, h1, h2, h3⟩ := h k r hk
  exact ⟨g, rv, mv, e, cell_below h0 hb, cell_below h1 hb, h2.below hb, h3.below hb⟩
def calOpen (c : CalT) (y D : Int) : Prop := (∀ r ∈ c.rules, ¬ ruleDay r.kind r.month r.day r.n r.wd r.shift y D) ∧ ∀ z ∈ c.more, z ≠ D
def isOpen (cs : List CalT) (y D : Int) : Prop := (D + 1) % 7 ≠ 0 ∧ (D + 1) % 7 ≠ 6 ∧ ∀ c ∈ cs, calOpen c y D
end Go.Proofs.YtlhmfgbaefaneabGreatDoor.ref6
namespace Go.Proofs.YtlhmfgbaefaneabGreatDoor.law6
open Go Go.RowKit Go.Proofs.YtlhmfgbaefaneabGreatDoor.day Go.Proofs.YtlhmfgbaefaneabGreatDoor.date
open Go.Proofs.YtlhmfgbaefaneabGreatDoor.ref6 (IntsAt RulesAt Rule May)
def IntsO (w : World) (v : Value) (l : List Int) : Prop :=
  ∃ ao cap, v = .slice ao l.length cap ∧ l.length ≤ 4611686018427387904 ∧ ∀ k z, l[k]? = some z → -9223372036854775808 ≤ z ∧ z ≤ 9223372036854775807 ∧ ∃ g o, ao = some ⟨g, o, none⟩ ∧ w.cell? ⟨g, o + k, none⟩ = some (.int .i64 z)
theorem IntsO.below {w w' : World} {v : Value} {l : List Int} (h : IntsO w v l) (hb : Below w.heap.size w w') : IntsO w' v l := by
  obtain ⟨ao, cap, rfl, h1, h2⟩ := h
  exact ⟨ao, cap, rfl, h1, fun k z hk => by
    obtain ⟨z0, z1, g, o, e, hc⟩ := h2 k z hk
    exact ⟨z0, z1, g, o, e, ref6.cell_below hc hb⟩⟩
def RulesO (w : World) (v : Value) (l : List Rule) : Prop :=
  ∃ ao cap, v = .slice ao l.length cap ∧ l.length ≤ 4611686018427387904 ∧ ∀ k r, l[k]? = some r → ∃ g o, ao = some ⟨g, o, none⟩ ∧
    w.cell? ⟨g, o + k * 6, none⟩ = some (.int .i64 r.kind) ∧ w.cell? ⟨g, o + k * 6 + 1, none⟩ = some (.int .i64 r.month) ∧ w.cell? ⟨g, o + k * 6 + 2, none⟩ = some (.int .i64 r.day) ∧
    w.cell? ⟨g, o + k * 6 + 3, none⟩ = some (.int .i64 r.n) ∧ w.cell? ⟨g, o + k * 6 + 4, none⟩ = some (.int .i64 r.wd) ∧ w.cell? ⟨g, o + k * 6 + 5, none⟩ = some (.bool r.shift)
theorem RulesO.below {w w' : World} {v : Value} {l : List Rule} (h : RulesO w v l) (hb : Below w.heap.size w w') : RulesO w' v l := by
  obtain ⟨ao, cap, rfl, h1, h2⟩ := h
  exact ⟨ao, cap, rfl, h1, fun k r hk => by
    obtain ⟨g, o, e, c0, c1, c2, c3, c4, c5⟩ := h2 k r hk
    exact ⟨g, o, e, ref6.cell_below c0 hb, ref6.cell_below c1 hb, ref6.cell_below c2 hb, ref6.cell_below c3 hb, ref6.cell_below c4 hb, ref6.cell_below c5 hb⟩⟩
end Go.Proofs.YtlhmfgbaefaneabGreatDoor.law6
namespace Go.Proofs.YtlhmfgbaefaneabGreatDoor.ref6
open Go Go.RowKit Go.Proofs.YtlhmfgbaefaneabGreatDoor.day
def dayOpen (cs : List CalT) (D : Int) : Prop := ∃ y m a, IsCivil y m a ∧ D = dayOf y m a ∧ isOpen cs y D
noncomputable def openB (cs : List CalT) (D : Int) : Bool := @decide (dayOpen cs D) (Classical.propDecidable _)
theorem openB_iff (cs : List CalT) (D : Int) : openB cs D = true ↔ dayOpen cs D := by
  unfold openB
  exact @decide_eq_true_iff _ (Classical.propDecidable _)
theorem openB_at {cs : List CalT} {y m a : Int} (h : IsCivil y m a) : openB cs (dayOf y m a) = true ↔ isOpen cs y (dayOf y m a) := by
  rw [openB_iff]
  constructor
  · rintro ⟨y', m', a', h', e, ho⟩
    obtain ⟨rfl, -, -⟩ := dayOf_inj h h' e
    exact ho
  · exact fun ho => ⟨y, m, a, h, rfl, ho⟩
theorem openB_day {cs : List CalT} {D : Int} (h : openB cs D = true) : IsDay D := by
  obtain ⟨y, m, a, hc, rfl, -⟩ := (openB_iff cs D).1 h
  exact dayOf_isDay hc
noncomputable def nextN (cs : List CalT) (step : Int) : Nat → Int → Option Int
  | 0, _ => none
  | f + 1, D => if IsDay D then (if openB cs D = true then some D else nextN cs step f (D + step)) else none
noncomputable def nextD (cs : List CalT) (step D : Int) : Option Int := nextN cs step 109573 D
end Go.Proofs.YtlhmfgbaefaneabGreatDoor.ref6
namespace Go.Proofs.YtlhmfgbaefaneabGreatDoor.ref6
open Go Go.RowKit Go.Proofs.YtlhmfgbaefaneabGreatDoor.day
noncomputable def monthOf (D : Int) : Int := @dite _ (∃ m y a, IsCivil y m a ∧ dayOf y m a = D) (Classical.propDecidable _) (fun h => h.choose) (fun _ => 0)
theorem monthOf_at {y m a : Int} (h : IsCivil y m a) : monthOf (dayOf y m a) = m := by
  unfold monthOf
  have hex : ∃ m' y' a', IsCivil y' m' a' ∧ dayOf y' m' a' = dayOf y m a := ⟨m, y, a, h, rfl⟩
  rw [dif_pos hex]
  obtain ⟨y', a', h', e⟩ := hex.choose_spec
  exact (dayOf_inj h' h e).2.1
noncomputable def rollD (cs : List CalT) (D rule : Int) : Option Int :=
  if rule = 0 then some D
  else
    let step : Int := if rule = 3 ∨ rule = 4 then -1 else 1
    if rule = 2 ∨ rule = 4 then
      match nextD cs step D with
      | some t => if monthOf t ≠ monthOf D then nextD cs (-step) D else some t
      | none => nextD cs (-step) D
    else nextD cs step D
def RollEnd (cs : List CalT) (D rule : Int) (w : World) (e : Ending) (w' : World) : Prop :=
  ((rule < 0 ∨ 4 < rule) → e = .returned (.tuple #[.int .i64 0, .int .i64 1])) ∧
  (¬ (rule < 0 ∨ 4 < rule) → ¬ IsDay D → e = .returned (.tuple #[.int .i64 0, .int .i64 4])) ∧
  (¬ (rule < 0 ∨ 4 < rule) → IsDay D → (∀ t, rollD cs D rule = some t → e = .returned (.tuple #[.int .i64 t, .int .i64 0])) ∧ (rollD cs D rule = none → e = .returned (.tuple #[.int .i64 0, .int .i64 4]))) ∧
  Below w.heap.size w w'
theorem RollEnd.yes {cs : List CalT} {D rule t : Int} {w w' : World} (h1 : ¬ (rule < 0 ∨ 4 < rule)) (h2 : IsDay D) (h3 : rollD cs D rule = some t) (hb : Below w.heap.size w w') : RollEnd cs D rule w (.returned (.tuple #[.int .i64 t, .int .i64 0])) w' :=
  ⟨fun h => absurd h h1, fun _ h => absurd h2 h, fun _ _ => ⟨fun t' h => (by rw [h3] at h; cases h; rfl), fun h => (by rw [h3] at h; cases h)⟩, hb⟩
theorem RollEnd.no {cs : List CalT} {D rule : Int} {w w' : World} (h1 : ¬ (rule < 0 ∨ 4 < rule)) (h2 : IsDay D) (h3 : rollD cs D rule = none) (hb : Below w.heap.size w w') : RollEnd cs D rule w (.returned (.tuple #[.int .i64 0, .int .i64 4])) w' :=
  ⟨fun h => absurd h h1, fun _ h => absurd h2 h, fun _ _ => ⟨fun t' h => (by rw [h3] at h; cases h), fun _ => rfl⟩, hb⟩
end Go.Proofs.YtlhmfgbaefaneabGreatDoor.ref6
