/-
  The steps of the walks, part 3: Itoa, RefDate6, RefTxt6, RefMonth6, TextZ, TextD, RefGet6, DateT, DateG, Code, Law6Kit, RefRule6, RefNth6, EasterM, RefHol6, RefIsRule6, RefOpen6, Law6Lst, RefNext6, RefRoll6, CalM, Cel, Law6Cal, Law6Eas, Law6Hol, Law6Mon.
-/
import Derived.Shelf.LaysM
import Derived.Shelf.Strconv.Itoa3
import Derived.Below
import Derived.Test.YtlhmfgbaefaneaaGreatDoorProg
import Derived.Laws.IdiomStrings
import Derived.Deep.RegionHeld3
import Derived.Lib.Strings
import Derived.Lib.Small
import Derived.BigRegion
import Derived.Laws.BitsLemmas
import Derived.Laws.AppendOwn
import Derived.Test.YtlhmfgbaefaneaaGreatDoorB01
import Derived.Test.YtlhmfgbaefaneaaGreatDoorB02
namespace Go.Proofs.YtlhmfgbaefaneaaGreatDoor.itoa
open Go Go.RowKit Go.Shelf
def layM_ren : Go.Shelf.Ren := ⟨fun | 171 => 120 | 243 => 154 | 246 => 199 | 283 => 244 | 284 => 245 | 285 => 246 | 286 => 247 | 129 => 268 | 317 => 269 | 318 => 270 | 319 => 271 | 320 => 272 | 337 => 280 | 338 => 281 | n => n, fun | 3 => 3 | 9 => 9 | 2 => 2 | 4 => 4 | 171 => 250 | 0 => 0 | 53 => 104 | 37 => 130 | 5 => 5 | 173 => 253 | 212 => 285 | 51 => 199 | 20 => 20 | 213 => 286 | 46 => 165 | 232 => 299 | 233 => 300 | n => n, fun | 17 => 2 | 18 => 8 | 19 => 9 | n => n⟩
theorem layM : Go.Proofs.LaysM.n171 Tryz.prog layM_ren := {
  mixed := by kernel_rfl
  f129 := Tryz.func268.trans (congrArg some (by kernel_rfl))
  f171 := Tryz.func120.trans (congrArg some (by kernel_rfl))
  f243 := Tryz.func154.trans (congrArg some (by kernel_rfl))
  f246 := Tryz.func199.trans (congrArg some (by kernel_rfl))
  f283 := Tryz.func244.trans (congrArg some (by kernel_rfl))
  f284 := Tryz.func245.trans (congrArg some (by kernel_rfl))
  f285 := Tryz.func246.trans (congrArg some (by kernel_rfl))
  f286 := Tryz.func247.trans (congrArg some (by kernel_rfl))
  f317 := Tryz.func269.trans (congrArg some (by kernel_rfl))
  f318 := Tryz.func270.trans (congrArg some (by kernel_rfl))
  f319 := Tryz.func271.trans (congrArg some (by kernel_rfl))
  f320 := Tryz.func272.trans (congrArg some (by kernel_rfl))
  f337 := Tryz.func280.trans (congrArg some (by kernel_rfl))
  f338 := Tryz.func281.trans (congrArg some (by kernel_rfl))
  t0 := Tryz.underlying0
  a0 := Tryz.isAgg0
  z0 := Tryz.sizeOf0
  v0 := Tryz.zeroValue0
  t2 := Tryz.underlying2
  a2 := Tryz.isAgg2
  z2 := Tryz.sizeOf2
  v2 := Tryz.zeroValue2
  t3 := Tryz.underlying3
  a3 := Tryz.isAgg3
  z3 := Tryz.sizeOf3
  v3 := Tryz.zeroValue3
  t4 := Tryz.underlying4
  a4 := Tryz.isAgg4
  z4 := Tryz.sizeOf4
  v4 := Tryz.zeroValue4
  t5 := Tryz.underlying5
  a5 := Tryz.isAgg5
  z5 := Tryz.sizeOf5
  v5 := Tryz.zeroValue5
  t9 := Tryz.underlying9
  a9 := Tryz.isAgg9
  z9 := Tryz.sizeOf9
  v9 := Tryz.zeroValue9
  t20 := Tryz.underlying20
  a20 := Tryz.isAgg20
  z20 := Tryz.sizeOf20
  v20 := Tryz.zeroValue20
  t37 := Tryz.underlying130
  a37 := Tryz.isAgg130
  z37 := Tryz.sizeOf130
  v37 := Tryz.zeroValue130
  t46 := Tryz.underlying165
  a46 := Tryz.isAgg165
  z46 := Tryz.sizeOf165
  v46 := Tryz.zeroValue165
  t51 := Tryz.underlying199
  a51 := Tryz.isAgg199
  z51 := Tryz.sizeOf199
  v51 := Tryz.zeroValue199
  t53 := Tryz.underlying104
  a53 := Tryz.isAgg104
  z53 := Tryz.sizeOf104
  v53 := Tryz.zeroValue104
  t171 := Tryz.underlying250
  a171 := Tryz.isAgg250
  z171 := Tryz.sizeOf250
  v171 := Tryz.zeroValue250
  t173 := Tryz.underlying253
  a173 := Tryz.isAgg253
  z173 := Tryz.sizeOf253
  v173 := Tryz.zeroValue253
  t212 := Tryz.underlying285
  a212 := Tryz.isAgg285
  z212 := Tryz.sizeOf285
  v212 := Tryz.zeroValue285
  t213 := Tryz.underlying286
  a213 := Tryz.isAgg286
  z213 := Tryz.sizeOf286
  t232 := Tryz.underlying299
  a232 := Tryz.isAgg299
  z232 := Tryz.sizeOf299
  v232 := Tryz.zeroValue299
  t233 := Tryz.underlying300
  a233 := Tryz.isAgg300
  z233 := Tryz.sizeOf300
  v233 := Tryz.zeroValue300
  g17 := by kernel_rfl
  g18 := by kernel_rfl
  g19 := by kernel_rfl
  i0 := by kernel_rfl
  i2 := by kernel_rfl
  i3 := by kernel_rfl
  i4 := by kernel_rfl
  i5 := by kernel_rfl
  i9 := by kernel_rfl
  i20 := by kernel_rfl
  i37 := by kernel_rfl
  i46 := by kernel_rfl
  i51 := by kernel_rfl
  i53 := by kernel_rfl
  i171 := by kernel_rfl
  i173 := by kernel_rfl
  i212 := by kernel_rfl
  i232 := by kernel_rfl
  i233 := by kernel_rfl
  m17 := by kernel_rfl
  m18 := by kernel_rfl
  m19 := by kernel_rfl }
def Tab (w : World) : Prop := ∃ t fr, w.heap[2]? = some (.cells (Lib.pow10Tab.map fun z => Value.int .u64 z).toArray t fr)
theorem Tab.below {w w' : World} {n : Nat} (h : Tab w) (hb : Below n w w') (hn : n = w.heap.size) : Tab w' := by
  obtain ⟨t, fr, h⟩ := h
  exact ⟨t, fr, by rw [hb.block _ (by subst hn; exact (Array.getElem?_eq_some_iff.1 h).1), h]⟩
theorem Tab.keep {w w' : World} (h : Tab w) (hb : Below w.heap.size w w') : Tab w' := h.below hb rfl
theorem below_grow (w : World) (k : Nat) (os : Array Obj) : Below w.heap.size w (Sort.grow (w.drewN k) os) := by
  have hd : Below w.heap.size w (w.drewN k) := by
    induction k with
    | zero => exact Below.refl _ _
    | succ k ih => exact ih.drew
  refine hd.trans ⟨rfl, rfl, rfl, by simp [Sort.grow], fun j hj => ?_⟩
  have := hd.size
  simp only [Sort.grow]
  rw [Array.getElem?_append_left (by omega)]
theorem Itoa_any (n : Int) (h0 : -9223372036854775808 ≤ n) (h1 : n ≤ 9223372036854775807) (w : World) (ht : Tab w) :
    Calls Tryz.prog 120 #[.int .i64 n] w fun e w' => e = .returned (.string ⟨(Lib.itoa n).toArray⟩) ∧ Below w.heap.size w w' := by
  obtain ⟨t, fr, ht⟩ := ht
  refine (Any.strconv_Itoa layM n h0 h1 w ?_).mono ?_
  · unfold Lib.TabIs World.var?
    rw [show Tryz.prog.globalNamed _ = some 2 by kernel_rfl]
    simp only [Option.bind_some]
    rw [ht]
  · rintro e w' ⟨rfl, k, os, rfl⟩
    exact ⟨rfl, below_grow w k os⟩
end Go.Proofs.YtlhmfgbaefaneaaGreatDoor.itoa
namespace Go.Proofs.YtlhmfgbaefaneaaGreatDoor.ref6
open Go Go.RowKit Go.Proofs.YtlhmfgbaefaneaaGreatDoor.day
def thirty (y m d y' m' d' : Int) : Int := 360 * (y' - y) + 30 * (m' - m) + min d' 30 - min d 30
end Go.Proofs.YtlhmfgbaefaneaaGreatDoor.ref6
namespace Go.Proofs.YtlhmfgbaefaneaaGreatDoor.ref6
open Go Go.RowKit Go.Proofs.YtlhmfgbaefaneaaGreatDoor.day
open Go.Proofs.YtlhmfgbaefaneaaGreatDoor.ref (str pad str_append str_size pad_cons pad_length)
def dayText (y m d : Int) : List UInt8 := pad 4 y.toNat ++ [45] ++ pad 2 m.toNat ++ [45] ++ pad 2 d.toNat
end Go.Proofs.YtlhmfgbaefaneaaGreatDoor.ref6
namespace Go.Proofs.YtlhmfgbaefaneaaGreatDoor.ref6
open Go Go.RowKit Go.Proofs.YtlhmfgbaefaneaaGreatDoor.day
def clip (fin : Bool) (y m d Y M : Int) : Int := if (fin = true ∧ d = mlen y m) ∨ mlen Y M < d then mlen Y M else d
end Go.Proofs.YtlhmfgbaefaneaaGreatDoor.ref6
namespace Go.Proofs.YtlhmfgbaefaneaaGreatDoor.ref
def IntText (l : List UInt8) (z : Int) : Prop := (Numeral l ∧ z = (seg l 0 l.length : Nat)) ∨ ∃ t, l = 45 :: t ∧ Numeral t ∧ seg t 0 t.length ≠ 0 ∧ z = -(seg t 0 t.length : Nat)
theorem numeral_head {t : List UInt8} : ¬ Numeral (45 :: t) := fun h => by
  have := h.2.2.2 0 (by simp)
  unfold IsDig ch at this
  simp at this
theorem IntText.itoa {l : List UInt8} {z : Int} (h : IntText l z) : l = Lib.itoa z := by
  unfold Lib.itoa
  rcases h with ⟨h, rfl⟩ | ⟨t, rfl, h, h0, rfl⟩
  · rw [if_neg (by omega)]
    exact h.dec
  · rw [if_pos (by omega), show (-(seg t 0 t.length : Nat) : Int).natAbs = seg t 0 t.length by omega, ← h.dec]
theorem IntText.inj {l : List UInt8} {z y : Int} (h : IntText l z) (k : IntText l y) : z = y := by
  rcases h with ⟨h, rfl⟩ | ⟨t, rfl, h, h0, rfl⟩
  · rcases k with ⟨k, rfl⟩ | ⟨t, rfl, k, k0, rfl⟩
    · rfl
    · exact absurd h numeral_head
  · rcases k with ⟨k, rfl⟩ | ⟨t', k1, k, k0, rfl⟩
    · exact absurd k numeral_head
    · simp at k1
      rw [k1]
end Go.Proofs.YtlhmfgbaefaneaaGreatDoor.ref
namespace Go.Proofs.YtlhmfgbaefaneaaGreatDoor.ref
theorem ch_left {a b : List UInt8} {i : Nat} (h : i < a.length) : ch (a ++ b) i = ch a i := by
  unfold ch
  rw [List.getD_eq_getElem?_getD, List.getD_eq_getElem?_getD, List.getElem?_append_left h]
theorem ch_last {a : List UInt8} {c : UInt8} : ch (a ++ [c]) a.length = c.toNat := by
  unfold ch
  rw [List.getD_eq_getElem?_getD, List.getElem?_append_right (Nat.le_refl _), Nat.sub_self]
  rfl
theorem seg_congr {l l' : List UInt8} {st : Nat} : ∀ m, (∀ i, i < m → ch l (st + i) = ch l' (st + i)) → seg l st m = seg l' st m
  | 0, _ => rfl
  | m + 1, h => by rw [seg, seg, seg_congr m fun i hi => h i (by omega), h m (by omega)]
theorem pad_reads : ∀ k d : Nat, (∀ i, i < k → IsDig (pad k d) i) ∧ seg (pad k d) 0 k = d % 10 ^ k
  | 0, d => ⟨fun i h => absurd h (by omega), by simp [seg, Nat.mod_one]⟩
  | k + 1, d => by
    have ih := pad_reads k (d / 10)
    have hl := pad_length k (d / 10)
    have hc : ch (pad (k + 1) d) k = 48 + d % 10 := by
      have h := ch_last (a := pad k (d / 10)) (c := UInt8.ofNat (48 + d % 10))
      rw [hl, UInt8.toNat_ofNat'] at h
      rw [pad, h]
      omega
    have hlt : ∀ i, i < k → ch (pad (k + 1) d) i = ch (pad k (d / 10)) i := fun i hi => by rw [pad, ch_left (by omega)]
    refine ⟨fun i hi => ?_, ?_⟩
    · rcases Nat.lt_or_ge i k with h | h
      · have := ih.1 i h
        unfold IsDig at this ⊢
        rw [hlt i h]
        exact this
      · obtain rfl : i = k := by omega
        unfold IsDig
        rw [hc]
        omega
    · rw [seg, Nat.zero_add, hc, seg_congr (l' := pad k (d / 10)) k (fun i hi => by rw [Nat.zero_add]; exact hlt i hi), ih.2, Nat.pow_succ, Nat.mul_comm (10 ^ k) 10, Nat.mod_mul]
      omega
theorem digits_of : ∀ (p x : Nat), x < 10 ^ (p + 1) → ∃ m, x < 10 ^ (m + 1) ∧ (m = 0 ∨ 10 ^ m ≤ x) ∧ m ≤ p
  | 0, x, h => ⟨0, h, Or.inl rfl, Nat.le_refl _⟩
  | p + 1, x, h => by
    rcases Nat.lt_or_ge x (10 ^ (p + 1)) with h1 | h1
    · obtain ⟨m, a, b, c⟩ := digits_of p x h1
      exact ⟨m, a, b, by omega⟩
    · exact ⟨p + 1, h, Or.inr h1, Nat.le_refl _⟩
theorem dec_numeral {x p : Nat} (h : x < 10 ^ (p + 1)) (hp : p < 4000) : Numeral (Lib.decDigits x) ∧ seg (Lib.decDigits x) 0 (Lib.decDigits x).length = x ∧ (Lib.decDigits x).length ≤ p + 1 := by
  obtain ⟨m, h1, h2, h3⟩ := digits_of p x h
  have hr := pad_reads (m + 1) x
  have hl := pad_length (m + 1) x
  rw [← pad_dec m x h1 h2, hl]
  refine ⟨⟨by omega, by omega, fun hm => ?_, fun i hi => hr.1 i (by omega)⟩, ?_, by omega⟩
  · have h4 := h2.resolve_left (by omega)
    have h5 := pad_head h1 h4
    have h6 : ch (pad (m + 1) x) 0 = (UInt8.ofNat (48 + x / 10 ^ m % 10)).toNat := by rw [pad_cons]; rfl
    rw [h6]
    exact h5
  · rw [hr.2, Nat.mod_eq_of_lt h1]
end Go.Proofs.YtlhmfgbaefaneaaGreatDoor.ref
namespace Go.Proofs.YtlhmfgbaefaneaaGreatDoor.ref6
open Go Go.RowKit Go.Proofs.YtlhmfgbaefaneaaGreatDoor.day
open Go.Proofs.YtlhmfgbaefaneaaGreatDoor.ref (str str_size ch seg IsDig)
theorem ref_ch_get {l : List UInt8} {i : Nat} (h : i < (str l).size) : ((str l)[i]'h).toNat = ch l i := by
  have h' : i < l.length := by simpa [str_size] using h
  show ((str l).data[i]'h).toNat = _
  simp [str, ch, h']
def DayForm (l : List UInt8) : Prop := l.length = 10 ∧ ch l 4 = 45 ∧ ch l 7 = 45 ∧ ∀ i, i < 10 → i ≠ 4 → i ≠ 7 → IsDig l i
def GetEnd6 (l : List UInt8) (w : World) (e : Ending) (w' : World) : Prop :=
  (¬ DayForm l → e = .returned (.tuple #[.int .i64 0, .int .i64 1])) ∧
  (DayForm l → IsCivil (seg l 0 4 : Nat) (seg l 5 2 : Nat) (seg l 8 2 : Nat) → e = .returned (.tuple #[.int .i64 (dayOf (seg l 0 4 : Nat) (seg l 5 2 : Nat) (seg l 8 2 : Nat)), .int .i64 0])) ∧
  (DayForm l → ¬ IsCivil (seg l 0 4 : Nat) (seg l 5 2 : Nat) (seg l 8 2 : Nat) → e = .returned (.tuple #[.int .i64 0, .int .i64 4])) ∧ Below w.heap.size w w'
theorem GetEnd6.form {l : List UInt8} {w w' : World} (h : ¬ DayForm l) (hb : Below w.heap.size w w') : GetEnd6 l w (.returned (.tuple #[.int .i64 0, .int .i64 1])) w' :=
  ⟨fun _ => rfl, fun hf => absurd hf h, fun hf => absurd hf h, hb⟩
def N3 (w : World) (b : Nat) (x y z : Nat) : Prop := w.heap[b]? = some (.cells #[.int .i64 (x : Int), .int .i64 (y : Int), .int .i64 (z : Int)] 101 (0, 0))
theorem N3.cells {w : World} {g x y z : Nat} (h3 : N3 w g x y z) :
    w.cell? ⟨g, 0, none⟩ = some (.int .i64 (x : Int)) ∧ w.cell? ⟨g, 1, none⟩ = some (.int .i64 (y : Int)) ∧ w.cell? ⟨g, 2, none⟩ = some (.int .i64 (z : Int)) ∧ w.frozen? ⟨g, 0, none⟩ = false ∧ w.frozen? ⟨g, 1, none⟩ = false ∧ w.frozen? ⟨g, 2, none⟩ = false := by
  unfold N3 at h3
  refine ⟨?_, ?_, ?_, ?_, ?_, ?_⟩
  · rw [cell_of_row _ g 0 _ _ (0, 0) h3]; rfl
  · rw [cell_of_row _ g 1 _ _ (0, 0) h3]; rfl
  · rw [cell_of_row _ g 2 _ _ (0, 0) h3]; rfl
  all_goals
    unfold World.frozen?
    rw [h3]
    rfl
theorem N3.set0 {w : World} {g x y z : Nat} (h : N3 w g x y z) (v : Nat) : N3 (w.setCell ⟨g, 0, none⟩ (.int .i64 (v : Int))) g v y z := by
  unfold N3 at *; rw [heap_setCell_same w g 0 _ _ _ h]; rfl
theorem N3.set1 {w : World} {g x y z : Nat} (h : N3 w g x y z) (v : Nat) : N3 (w.setCell ⟨g, 1, none⟩ (.int .i64 (v : Int))) g x v z := by
  unfold N3 at *; rw [heap_setCell_same w g 1 _ _ _ h]; rfl
theorem N3.set2 {w : World} {g x y z : Nat} (h : N3 w g x y z) (v : Nat) : N3 (w.setCell ⟨g, 2, none⟩ (.int .i64 (v : Int))) g x y v := by
  unfold N3 at *; rw [heap_setCell_same w g 2 _ _ _ h]; rfl
end Go.Proofs.YtlhmfgbaefaneaaGreatDoor.ref6
namespace Go.Proofs.YtlhmfgbaefaneaaGreatDoor.date
open Go Go.RowKit Go.Proofs.YtlhmfgbaefaneaaGreatDoor.day
open Go.Proofs.YtlhmfgbaefaneaaGreatDoor.ref (str str_size str_append ch seg IsDig seg_lt pad pad_dec pad_nought pad_length)
open Go.Proofs.YtlhmfgbaefaneaaGreatDoor.ref6 (CAt dayText DayForm quiet_same drewN_below6)
open Go.Proofs.YtlhmfgbaefaneaaGreatDoor.itoa (Tab)
theorem pad_fill : ∀ (m x : Nat), x < 10 ^ (m + 1) → pad (m + 1) x = List.replicate (m + 1 - (Lib.decDigits x).length) 48 ++ Lib.decDigits x
  | m, x, h => by
    by_cases h2 : m = 0 ∨ 10 ^ m ≤ x
    · have e := pad_dec m x h h2
      have hl : (Lib.decDigits x).length = m + 1 := by rw [← e, pad_length]
      rw [hl, Nat.sub_self, e]
      rfl
    · obtain ⟨k, rfl⟩ : ∃ k, m = k + 1 := ⟨m - 1, by omega⟩
      have h3 : x < 10 ^ (k + 1) := by omega
      have ih := pad_fill k x h3
      have hl := congrArg List.length ih
      rw [pad_length, List.length_append, List.length_replicate] at hl
      rw [pad_nought h3, ih, show k + 1 + 1 - (Lib.decDigits x).length = (k + 1 - (Lib.decDigits x).length) + 1 by omega, List.replicate_succ]
      rfl
theorem dec_len : ∀ {m x : Nat}, x < 10 ^ (m + 1) → (Lib.decDigits x).length ≤ m + 1 := fun {m x} h => by
  have hl := congrArg List.length (pad_fill m x h)
  rw [pad_length, List.length_append, List.length_replicate] at hl
  omega
theorem itoa_nat {z : Int} (h : 0 ≤ z) : (⟨(Lib.itoa z).toArray⟩ : ByteArray) = str (Lib.decDigits z.toNat) := by
  unfold Lib.itoa
  rw [if_neg (by omega)]
  rfl
set_option maxRecDepth 100000 in
set_option maxHeartbeats 4000000 in
theorem padded_any (z : Int) (m : Nat) (k : Int) (hk : k = (m : Nat) + 1) (h0 : 0 ≤ z) (h1 : z.toNat < 10 ^ (m + 1)) (hm : m ≤ 8) (w : World) (ht : Tab w) :
    Calls Tryz.prog 76 #[.int .i64 z, .int .i64 k] w fun e w' => e = .returned (.string (str (pad (m + 1) z.toNat))) ∧ Below w.heap.size w w' := by
  have hlen := dec_len h1
  have hp : (10 : Nat) ^ (m + 1) ≤ 10 ^ 9 := Nat.pow_le_pow_right (by omega) (by omega)
  have hi := itoa.Itoa_any z (by omega) (by omega) w ht
  rw [itoa_nat h0] at hi
  have HI := Lib.hid hi
  have HE := Lib.hid (pad_fill m z.toNat h1)
  have HA := Lib.hid (str_append (List.replicate (m + 1 - (Lib.decDigits z.toNat).length) 48) (Lib.decDigits z.toNat))
  have hz : (str (Lib.decDigits z.toNat)).size = (Lib.decDigits z.toNat).length := str_size _
  have hR := fun W => Repeat_at (k - ((Lib.decDigits z.toNat).length : Nat)) (m + 1 - (Lib.decDigits z.toNat).length) (by omega) W (by omega)
  have hz2 : (str (List.replicate (m + 1 - (Lib.decDigits z.toNat).length) 48)).size = m + 1 - (Lib.decDigits z.toNat).length := by rw [str_size, List.length_replicate]
  have HR := Lib.hid hR
  have hk1 : ((Lib.decDigits z.toNat).length : Int) ≤ k := by omega
  have hk2 : k ≤ 9 := by omega
  have hz3 : ((m + 1 - (Lib.decDigits z.toNat).length : Nat) : Int) ≤ 9 := by omega
  clear hi hR h1 ht hp hk
  generalize str (List.replicate (m + 1 - (Lib.decDigits z.toNat).length) 48) = s2 at *
  generalize str (Lib.decDigits z.toNat) = s at *
  generalize (Lib.decDigits z.toNat).length = L at *
  go_enter Tryz.func76, Tryz.ntmps76
  go_wp2_with (first
    | (go_at_call 120; (with_reducible refine (HI.out).mono ?_); rintro e w1 ⟨rfl, hb⟩; have HB1 := Lib.hid hb; clear hb HI)
    | (go_at_call 121; (with_reducible refine (HR.out _).mono ?_); rintro e w2 ⟨rfl, hb⟩; have HB2 := Lib.hid hb; clear hb HR)
    | (fail "no arm"))
  go_ret
  exact ⟨by rw [HE.out, ← HA.out]; rfl, HB1.out.trans (HB2.out.mono HB1.out.size)⟩
set_option maxRecDepth 100000 in
set_option maxHeartbeats 4000000 in
theorem Text_at (y m d : Int) (h : IsCivil y m d) (w : World) (hL : Lens w) (ht : Tab w) :
    Calls Tryz.prog 23 #[.int .i64 (dayOf y m d)] w fun e w' => e = .returned (.string (str (dayText y m d))) ∧ Below w.heap.size w w' := by
  have HC := Lib.hid (Civil_at y m d h w hL)
  obtain ⟨a1, a2, a5, a6⟩ := id h
  obtain ⟨a3, a4⟩ := h.month
  have a7 := mlen_hi y m
  have HTy := Lib.hid (fun W (hW : Tab W) => padded_any y 3 4 rfl (by omega) (by omega) (by omega) W hW)
  have HTm := Lib.hid (fun W (hW : Tab W) => padded_any m 1 2 rfl (by omega) (by omega) (by omega) W hW)
  have HTd := Lib.hid (fun W (hW : Tab W) => padded_any d 1 2 rfl (by omega) (by omega) (by omega) W hW)
  have z1 : (str (pad 4 y.toNat)).size = 4 := by rw [str_size, pad_length]
  have z2 : (str (pad 2 m.toNat)).size = 2 := by rw [str_size, pad_length]
  have z3 : (str (pad 2 d.toNat)).size = 2 := by rw [str_size, pad_length]
  have HS := Lib.hid (show str (pad 4 y.toNat) ++ { data := #[45] } ++ str (pad 2 m.toNat) ++ { data := #[45] } ++ str (pad 2 d.toNat) = str (dayText y m d) from by
    rw [show ({ data := #[45] } : ByteArray) = str [45] from rfl, str_append, str_append, str_append, str_append]; rfl)
  have HTB := Lib.hid ht
  clear h a6 a7 ht
  simp only [show 3 + 1 = 4 from rfl, show 1 + 1 = 2 from rfl] at HTy HTm HTd
  generalize dayOf y m d = n at *
  generalize str (pad 4 y.toNat) = sy at *
  generalize str (pad 2 m.toNat) = sm at *
  generalize str (pad 2 d.toNat) = sd at *
  have z4 : ({ data := #[45] } : ByteArray).size = 1 := rfl
  go_enter Tryz.func23, Tryz.ntmps23
  go_wp2_with (first
    | (go_at_call 20; (with_reducible refine (HC.out).mono ?_); rintro e w1 ⟨rfl, hb⟩
       have HCV := Lib.hid (CAt.new w1 y m d)
       have HB := Lib.hid (hb.alloc hb.size (.cells #[.int .i64 y, .int .i64 m, .int .i64 d] 23))
       clear hb HC)
    | (fail "no arm"))
  obtain ⟨V, hV⟩ : ∃ V, V = (w1.alloc (.cells #[.int .i64 y, .int .i64 m, .int .i64 d] 23)) := ⟨_, rfl⟩
  rw [← hV] at HCV HB ⊢
  clear hV
  have HTV := Lib.hid (HTB.out.keep HB.out)
  have HOLD := Lib.hid (fun W (hW : Below V.heap.size V W) => (show Below V.heap.size V W ∧ W.cell? ⟨w1.heap.size, 0, none⟩ = some (.int .i64 y) ∧ W.cell? ⟨w1.heap.size, 1, none⟩ = some (.int .i64 m) ∧ W.cell? ⟨w1.heap.size, 2, none⟩ = some (.int .i64 d) from ⟨hW, (HCV.out.below hW).cells.1, (HCV.out.below hW).cells.2.1, (HCV.out.below hW).cells.2.2.1⟩))
  go_region_held3 (fun w' => Below V.heap.size V w' ∧ w'.cell? ⟨w1.heap.size, 0, none⟩ = some (.int .i64 y) ∧ w'.cell? ⟨w1.heap.size, 1, none⟩ = some (.int .i64 m) ∧ w'.cell? ⟨w1.heap.size, 2, none⟩ = some (.int .i64 d))
    (first
      | exact HOLD.out _ (Below.refl _ _).drew
      | exact HOLD.out _ HR4.out
      | exact HOLD.out _ HR3.out
      | exact HOLD.out _ HR2.out)
    (first
      | (go_at_call 76; (with_reducible refine (HTy.out _ (HTV.out.keep (Below.refl _ _).drew)).mono ?_); rintro e w2 ⟨rfl, hb⟩
         have HR2 := Lib.hid ((Below.refl _ _).drew.trans (hb.mono (Below.refl V.heap.size V).drew.size))
         clear hb HTy)
      | (go_at_call 76; (with_reducible refine (HTm.out _ (HTV.out.keep HR2.out)).mono ?_); rintro e w3 ⟨rfl, hb⟩
         have HR3 := Lib.hid (HR2.out.trans (hb.mono HR2.out.size))
         clear hb HTm)
      | (go_at_call 76; (with_reducible refine (HTd.out _ (HTV.out.keep HR3.out)).mono ?_); rintro e w4 ⟨rfl, hb⟩
         have HR4 := Lib.hid (HR3.out.trans (hb.mono HR3.out.size))
         clear hb HTd)
      | (fail "no arm"))
  go_wp2
  go_ret
  exact ⟨by rw [← HS.out]; rfl, HB.out.trans (HR4.out.mono HB.out.size)⟩
end Go.Proofs.YtlhmfgbaefaneaaGreatDoor.date
namespace Go.Proofs.YtlhmfgbaefaneaaGreatDoor.date
open Go Go.RowKit Go.Proofs.YtlhmfgbaefaneaaGreatDoor.day
open Go.Proofs.YtlhmfgbaefaneaaGreatDoor.ref (str str_size ch seg IsDig seg_lt)
open Go.Proofs.YtlhmfgbaefaneaaGreatDoor.ref6 (DayForm ref_ch_get drewN_below6)
set_option maxRecDepth 100000 in
set_option maxHeartbeats 1000000 in
theorem number_any (l : List UInt8) (w : World) (hl : l.length ≤ 9) (hd : ∀ i, i < l.length → IsDig l i) :
    Calls Tryz.prog 78 #[.string (str l)] w fun e w' => e = .returned (.int .i64 (seg l 0 l.length : Nat)) ∧ w = w' := by
  have hz : (str l).size = l.length := str_size l
  have HG := Lib.hid (fun i (h : i < (str l).size) => ref_ch_get (l := l) h)
  have HD := Lib.hid hd
  generalize str l = s at *
  generalize hn : l.length = n at *
  have HN := Lib.hid hn
  clear hn hd
  go_enter Tryz.func78, Tryz.ntmps78
  go_wp2
  go_loopw [3, 7] (fun nv iv wr => w = wr ∧ ∃ i : Nat, i ≤ n ∧ iv = .int .i64 i ∧ nv = .int .i64 (seg l 0 i : Nat)) (fun _ iv _ => n - (intOf iv).toNat)
  case atStart => exact ⟨rfl, 0, Nat.zero_le _, rfl, rfl⟩
  case round =>
    obtain ⟨rfl, i, hi, rfl, rfl⟩ := hrel
    by_cases hlt : i < n
    · have hv := seg_lt (l := l) (st := 0) (m := i) fun j _ hj => HD.out j (by omega)
      have hp : 10 ^ i ≤ 10 ^ 9 := Nat.pow_le_pow_right (by omega) (by omega)
      have hdi := HD.out i hlt
      unfold IsDig at hdi
      have hgk : ∀ h : i < s.size, (s[i]'h).toNat = ch l i := fun h => HG.out _ h
      have HS := Lib.hid (show seg l 0 (i + 1) = seg l 0 i * 10 + (ch l i - 48) by rw [seg, Nat.zero_add])
      have hv8 : (seg l 0 i : Int) < 1000000000 := by omega
      generalize seg l 0 i = v at *
      generalize ch l i = c at *
      clear hv hp
      obtain ⟨hc1, hc2⟩ := hdi
      go_wp2
      refine ⟨?_, ?_⟩
      · refine ⟨trivial, i + 1, by omega, by go_num, ?_⟩
        rw [HS.out]
        go_num
      · simp [intOf]; omega
    · obtain rfl : i = n := by omega
      go_wp2
      go_ret
      exact ⟨rfl, rfl⟩
def FormTo (l : List UInt8) (i : Nat) : Prop := (4 < i → ch l 4 = 45) ∧ (7 < i → ch l 7 = 45) ∧ ∀ j, j < i → j ≠ 4 → j ≠ 7 → IsDig l j
theorem FormTo.all {l : List UInt8} (h : FormTo l 10) (hl : l.length = 10) : DayForm l := ⟨hl, h.1 (by omega), h.2.1 (by omega), fun j hj => h.2.2 j hj⟩
end Go.Proofs.YtlhmfgbaefaneaaGreatDoor.date
namespace Go.Proofs.YtlhmfgbaefaneaaGreatDoor.flt
open Go.RowKit Go.Extern.Stop Go.Stop Go.Extern
theorem Code_hit (u : TypeId) (x : Value) (c : Int) (w : World)
    (hF : Calls Tryz.prog 123 #[.iface u x] w fun ev w' => ∃ b, ev = .returned (.pointer (some ⟨b, 0, none⟩)) ∧ Below w.heap.size w w' ∧ w'.cell? ⟨b, 0, none⟩ = some (.int .i64 c)) :
    Calls Tryz.prog 80 #[.iface u x] w fun ev w' => ev = .returned (.int .i64 c) ∧ Below w.heap.size w w' := by
  have HF := Lib.hid hF
  clear hF
  go_enter Tryz.func80, Tryz.ntmps80
  go_wp2_with (go_at_call 123; refine (HF.out).mono ?_; rintro e' w' ⟨b, rfl, hb, hc⟩)
  go_ret
  exact ⟨rfl, hb⟩
theorem Code_fault (b : Nat) (c : Int) (w : World) (hg : Handle w) (hc : w.cell? ⟨b, 0, none⟩ = some (.int .i64 c)) :
    Calls Tryz.prog 80 #[.iface 131 (.pointer (some ⟨b, 0, none⟩))] w fun ev w' => ev = .returned (.int .i64 c) ∧ Below w.heap.size w w' :=
  Code_hit _ _ c w ((first_fault ⟨b, 0, none⟩ w hg).mono fun _ _ ⟨he, hb⟩ => ⟨b, he, hb, (hb.cell (cell_lt hc)).trans hc⟩)
def Wrapped (w : World) (c : Int) (s : ByteArray) (v : Value) (e : Ending) (w' : World) : Prop :=
  ∃ b, e = .returned (.iface 131 (.pointer (some ⟨b, 0, none⟩))) ∧ w.heap.size ≤ b ∧ FaultAt w' b c s v ∧ Below w.heap.size w w'
theorem Wrap_of (s : ByteArray) (u : TypeId) (x : Value) (c : Int) (w : World)
    (hC : Calls Tryz.prog 80 #[.iface u x] w fun ev w' => ev = .returned (.int .i64 c) ∧ Below w.heap.size w w') :
    Calls Tryz.prog 233 #[.string s, .iface u x] w (Wrapped w c s (.iface u x)) := by
  have HC := Lib.hid hC
  clear hC
  go_enter Tryz.func233, Tryz.ntmps233
  go_wp2_with (go_at_call 80; refine (HC.out).mono ?_; rintro e' w' ⟨rfl, hb⟩)
  go_ret
  refine ⟨_, rfl, hb.size, ?_, hb.alloc hb.size _⟩
  show (w'.heap.push _)[w'.heap.size]? = _
  simp
end Go.Proofs.YtlhmfgbaefaneaaGreatDoor.flt
namespace Go.Proofs.YtlhmfgbaefaneaaGreatDoor.law6
open Go Go.RowKit Go.Proofs.YtlhmfgbaefaneaaGreatDoor.day Go.Proofs.YtlhmfgbaefaneaaGreatDoor.date
open Go.Proofs.YtlhmfgbaefaneaaGreatDoor.ref (str str_size)
open Go.Proofs.YtlhmfgbaefaneaaGreatDoor.ref6 (CAt dayText DayForm quiet_same drewN_below6)
open Go.Proofs.YtlhmfgbaefaneaaGreatDoor.itoa (Tab)
structure Wd (w : World) : Prop where
  hd : flt.Handle w
  lens : Lens w
  tab : Tab w
theorem Wd.keep {w w' : World} (h : Wd w) (hb : Below w.heap.size w w') : Wd w' :=
  ⟨flt.Handle.below h.hd hb (flt.Handle.pos h.hd), h.lens.keep hb, h.tab.keep hb⟩
theorem Wd.alloc {w : World} (h : Wd w) (o : Obj) : Wd (w.alloc o) := h.keep ((Below.refl _ _).alloc (Nat.le_refl _) o)
theorem below_tr6 {n : Nat} {w w1 w2 : World} (h : Below n w w1) (h2 : Below w1.heap.size w1 w2) (hn : n = w.heap.size) : Below n w w2 := by
  subst hn
  exact h.trans (h2.mono h.size)
def BegunC : Prop := ∀ w, Wd w → Calls Tryz.prog 17 #[] w fun e w' => e = .returned (.bool true) ∧ Below w.heap.size w w'
set_option maxRecDepth 100000 in
theorem Day_any (n : Int) (h0 : -9223372036854775808 ≤ n) (h1 : n ≤ 9223372036854775807) (w : World) :
    Calls Tryz.prog 19 #[.int .i64 n] w fun e w' => e = .returned (.int .i64 (n % 109573)) ∧ w = w' := by
  have h2 := Int.tmod_lt_of_pos n (show (0 : Int) < 109573 by decide)
  have h3 : -109573 < n.tmod 109573 := by
    rcases Int.le_total 0 n with h | h
    · rw [Int.tmod_eq_emod_of_nonneg h]; omega
    · have e := Int.tmod_eq_emod_of_nonneg (b := 109573) (show 0 ≤ -n by omega)
      rw [Int.neg_tmod] at e
      omega
  have HE := Lib.hid (show (n.tmod 109573 + 109573) % 109573 = n % 109573 from by
    rcases Int.le_total 0 n with h | h
    · rw [Int.tmod_eq_emod_of_nonneg h]; omega
    · have e := Int.tmod_eq_emod_of_nonneg (b := 109573) (show 0 ≤ -n by omega)
      rw [Int.neg_tmod] at e
      omega)
  go_enter Tryz.func19, Tryz.ntmps19
  go_wp2
  go_ret
  refine ⟨?_, rfl⟩
  rw [← HE.out]
  go_num
end Go.Proofs.YtlhmfgbaefaneaaGreatDoor.law6
namespace Go.Proofs.YtlhmfgbaefaneaaGreatDoor.ref6
open Go Go.RowKit Go.Proofs.YtlhmfgbaefaneaaGreatDoor.day
structure Rule where
  kind : Int
  month : Int
  day : Int
  n : Int
  wd : Int
  shift : Bool
def Rule.cells (r : Rule) : Array Value := #[.int .i64 r.kind, .int .i64 r.month, .int .i64 r.day, .int .i64 r.n, .int .i64 r.wd, .bool r.shift]
def May (r : Rule) : Prop :=
  (r.kind = 1 ∧ 1 ≤ r.month ∧ r.month ≤ 12 ∧ 1 ≤ r.day ∧ r.day ≤ mlen 2000 r.month ∧ r.n = 0 ∧ r.wd = 0) ∨
  (r.kind = 2 ∧ 1 ≤ r.month ∧ r.month ≤ 12 ∧ (1 ≤ r.n ∧ r.n ≤ 5 ∨ r.n = -1) ∧ 0 ≤ r.wd ∧ r.wd ≤ 6 ∧ r.day = 0 ∧ r.shift = false) ∨
  (r.kind = 3 ∧ -100 ≤ r.n ∧ r.n ≤ 100 ∧ r.month = 0 ∧ r.day = 0 ∧ r.wd = 0 ∧ r.shift = false)
instance (r : Rule) : Decidable (May r) := by unfold May; infer_instance
end Go.Proofs.YtlhmfgbaefaneaaGreatDoor.ref6
namespace Go.Proofs.YtlhmfgbaefaneaaGreatDoor.ref6
open Go Go.RowKit Go.Proofs.YtlhmfgbaefaneaaGreatDoor.day
def RAt (w : World) (b : Nat) (k mo d n wd : Int) (sh : Bool) : Prop := w.heap[b]? = some (.cells #[.int .i64 k, .int .i64 mo, .int .i64 d, .int .i64 n, .int .i64 wd, .bool sh] 60 (0, 0))
theorem RAt.below {w w' : World} {b : Nat} {k mo d n wd : Int} {sh : Bool} (h : RAt w b k mo d n wd sh) (hb : Below w.heap.size w w') : RAt w' b k mo d n wd sh := (hb.block b (Array.getElem?_eq_some_iff.1 h).1).trans h
theorem RAt.new (w : World) (k mo d n wd : Int) (sh : Bool) : RAt (w.alloc (.cells #[.int .i64 k, .int .i64 mo, .int .i64 d, .int .i64 n, .int .i64 wd, .bool sh] 60)) w.heap.size k mo d n wd sh := heap_alloc_new _ _
theorem RAt.grown {w w' : World} {b : Nat} {k mo d n wd : Int} {sh : Bool} {row : Option Nat} (h : RAt w b k mo d n wd sh) (hg : w.grownBy w' row) (hne : some b ≠ row) : RAt w' b k mo d n wd sh := (hg.block b (Array.getElem?_eq_some_iff.1 h).1 hne).trans h
theorem RAt.at {w : World} {b : Nat} {k mo d n wd : Int} {sh : Bool} (h : RAt w b k mo d n wd sh) : w.cell? ⟨b, 0, none⟩ = some (.int .i64 k) ∧ w.cell? ⟨b, 1, none⟩ = some (.int .i64 mo) ∧ w.cell? ⟨b, 2, none⟩ = some (.int .i64 d) ∧ w.cell? ⟨b, 3, none⟩ = some (.int .i64 n) ∧ w.cell? ⟨b, 4, none⟩ = some (.int .i64 wd) ∧ w.cell? ⟨b, 5, none⟩ = some (.bool sh) := by
  unfold RAt at h
  refine ⟨?_, ?_, ?_, ?_, ?_, ?_⟩ <;> rw [cell_of_row _ b _ _ _ (0, 0) h] <;> rfl
def daysW (y mo wd : Int) : Nat → List Int
  | 0 => []
  | k + 1 => daysW y mo wd k ++ (if (dayOf y mo ((k : Nat) + 1) + 1) % 7 = wd then [dayOf y mo ((k : Nat) + 1)] else [])
theorem dayOf_add (y mo : Int) (k : Int) : dayOf y mo (k + 1) = dayOf y mo 1 + k := by unfold dayOf; omega
theorem daysW_count (y mo wd : Int) (h1 : 0 ≤ wd) (h2 : wd ≤ 6) (k : Nat) : ((daysW y mo wd k).length : Int) = ((k : Nat) + 6 - (wd - dayOf y mo 1 - 1) % 7) / 7 := by
  induction k with
  | zero => simp only [daysW, List.length_nil]; omega
  | succ k ih =>
    simp only [daysW, List.length_append, dayOf_add]
    split
    · simp only [List.length_cons, List.length_nil]; omega
    · simp only [List.length_nil]; omega
theorem daysW_at (y mo wd : Int) (h1 : 0 ≤ wd) (h2 : wd ≤ 6) (k : Nat) : ∀ j, j < (daysW y mo wd k).length → (daysW y mo wd k)[j]? = some (dayOf y mo 1 + (wd - dayOf y mo 1 - 1) % 7 + 7 * (j : Nat)) := by
  induction k with
  | zero => intro j hj; simp [daysW] at hj
  | succ k ih =>
    intro j hj
    have hc := daysW_count y mo wd h1 h2 k
    simp only [daysW, dayOf_add] at hj ⊢
    by_cases hlt : j < (daysW y mo wd k).length
    · rw [List.getElem?_append_left hlt]; exact ih j hlt
    · split at hj
      · rename_i hw
        simp only [List.length_append, List.length_cons, List.length_nil] at hj
        obtain rfl : j = (daysW y mo wd k).length := by omega
        rw [if_pos hw, List.getElem?_append_right (Nat.le_refl _), Nat.sub_self]
        simp only [List.getElem?_cons_zero, Option.some.injEq]
        omega
      · simp only [List.append_nil] at hj; omega
def nthDay (y mo n wd : Int) : Option Int :=
  if n > ((daysW y mo wd (mlen y mo).toNat).length : Nat) then none else if n < 0 then (daysW y mo wd (mlen y mo).toNat)[(daysW y mo wd (mlen y mo).toNat).length - 1]? else (daysW y mo wd (mlen y mo).toNat)[(n - 1).toNat]?
end Go.Proofs.YtlhmfgbaefaneaaGreatDoor.ref6
namespace Go.Proofs.YtlhmfgbaefaneaaGreatDoor.day
def easterH (y : Int) : Int := (19 * (y % 19) + y / 100 - y / 100 / 4 - (y / 100 - (y / 100 + 8) / 25 + 1) / 3 + 15) % 30
def easterL (y : Int) : Int := (32 + 2 * (y / 100 % 4) + 2 * (y % 100 / 4) - easterH y - y % 100 % 4) % 7
def easterN (y : Int) : Int := easterH y + easterL y - 7 * ((y % 19 + 11 * easterH y + 22 * easterL y) / 451) + 114
def easterDay (y : Int) : Int := dayOf y (easterN y / 31) (easterN y % 31 + 1)
theorem easter_all : (List.range 300).all (fun k => decide (IsCivil (1900 + (k : Nat)) (easterN (1900 + (k : Nat)) / 31) (easterN (1900 + (k : Nat)) % 31 + 1))) = true := by decide +kernel
theorem easter_civil {y : Int} (h1 : 1900 ≤ y) (h2 : y ≤ 2199) : IsCivil y (easterN y / 31) (easterN y % 31 + 1) := by
  obtain ⟨k, rfl⟩ : ∃ k : Nat, y = 1900 + k := ⟨(y - 1900).toNat, by omega⟩
  exact of_decide_eq_true (List.all_eq_true.1 easter_all k (List.mem_range.2 (by omega)))
theorem easterH_in (y : Int) : 0 ≤ easterH y ∧ easterH y ≤ 29 := by unfold easterH; omega
theorem easterL_in (y : Int) : 0 ≤ easterL y ∧ easterL y ≤ 6 := by unfold easterL; omega
theorem easterN_in (y : Int) : 100 ≤ easterN y ∧ easterN y ≤ 150 := by
  have := easterH_in y
  have := easterL_in y
  unfold easterN
  omega
end Go.Proofs.YtlhmfgbaefaneaaGreatDoor.day
namespace Go.Proofs.YtlhmfgbaefaneaaGreatDoor.ref6
open Go Go.RowKit Go.Proofs.YtlhmfgbaefaneaaGreatDoor.day
def shiftDay (sh : Bool) (n : Int) : Int := if sh = true ∧ (n + 1) % 7 = 6 then n - 1 else if sh = true ∧ (n + 1) % 7 = 0 then n + 1 else n
def rawDay (k mo d n wd : Int) (sh : Bool) (y : Int) : Option Int :=
  if k = 1 then (if IsCivil y mo d then some (shiftDay sh (dayOf y mo d)) else none) else if k = 3 then some (easterDay y + n) else nthDay y mo n wd
def holiday (k mo d n wd : Int) (sh : Bool) (y : Int) : Option Int :=
  if May ⟨k, mo, d, n, wd, sh⟩ ∧ 1900 ≤ y ∧ y ≤ 2199 then (rawDay k mo d n wd sh y).bind (fun z => if IsDay z then some z else none) else none
def HolEnd (o : Option Int) (w : World) (e : Ending) (w' : World) : Prop :=
  (∀ z, o = some z → e = .returned (.tuple #[.int .i64 z, .bool true])) ∧ (o = none → ∃ z, e = .returned (.tuple #[.int .i64 z, .bool false])) ∧ Below w.heap.size w w'
theorem HolEnd.day {k mo d n wd : Int} {sh : Bool} {y z : Int} {w w' : World} (h : May ⟨k, mo, d, n, wd, sh⟩ ∧ 1900 ≤ y ∧ y ≤ 2199) (hr : rawDay k mo d n wd sh y = some z) (hb : Below w.heap.size w w') :
    HolEnd (holiday k mo d n wd sh y) w (.returned (.tuple #[.int .i64 z, .bool (decide (IsDay z))])) w' := by
  unfold holiday
  rw [if_pos h, hr]
  simp only [Option.bind_some]
  by_cases hd : IsDay z
  · rw [if_pos hd, decide_eq_true hd]
    exact ⟨fun z' e => (by cases e; rfl), fun e => (by cases e), hb⟩
  · rw [if_neg hd, decide_eq_false hd]
    exact ⟨fun z' e => (by cases e), fun _ => ⟨z, rfl⟩, hb⟩
theorem HolEnd.no {o : Option Int} {z : Int} {w w' : World} (h : o = none) (hb : Below w.heap.size w w') : HolEnd o w (.returned (.tuple #[.int .i64 z, .bool false])) w' :=
  ⟨fun z' e => by rw [h] at e; (cases e), fun _ => ⟨z, rfl⟩, hb⟩
theorem easterDay_in {y : Int} (h1 : 1900 ≤ y) (h2 : y ≤ 2199) : 0 ≤ easterDay y ∧ easterDay y ≤ 109572 := dayOf_isDay (easter_civil h1 h2)
end Go.Proofs.YtlhmfgbaefaneaaGreatDoor.ref6
namespace Go.Proofs.YtlhmfgbaefaneaaGreatDoor.ref6
open Go Go.RowKit Go.Proofs.YtlhmfgbaefaneaaGreatDoor.day
def ruleDay (k mo d n wd : Int) (sh : Bool) (y D : Int) : Prop :=
  holiday k mo d n wd sh (y - 1) = some D ∨ holiday k mo d n wd sh y = some D ∨ holiday k mo d n wd sh (y + 1) = some D
instance (k mo d n wd : Int) (sh : Bool) (y D : Int) : Decidable (ruleDay k mo d n wd sh y D) := by unfold ruleDay; infer_instance
end Go.Proofs.YtlhmfgbaefaneaaGreatDoor.ref6
namespace Go.Proofs.YtlhmfgbaefaneaaGreatDoor.ref6
open Go Go.RowKit Go.Proofs.YtlhmfgbaefaneaaGreatDoor.day
structure CalT where
  rules : List Rule
  more : List Int
def RulesAt (w : World) (rv : Value) (l : List Rule) : Prop :=
  ∃ ao cap, rv = .slice ao l.length cap ∧ l.length ≤ 1000 ∧ ∀ k r, l[k]? = some r → ∃ g, ao = some ⟨g, 0, none⟩ ∧
    w.cell? ⟨g, k * 6, none⟩ = some (.int .i64 r.kind) ∧ w.cell? ⟨g, k * 6 + 1, none⟩ = some (.int .i64 r.month) ∧ w.cell? ⟨g, k * 6 + 2, none⟩ = some (.int .i64 r.day) ∧
    w.cell? ⟨g, k * 6 + 3, none⟩ = some (.int .i64 r.n) ∧ w.cell? ⟨g, k * 6 + 4, none⟩ = some (.int .i64 r.wd) ∧ w.cell? ⟨g, k * 6 + 5, none⟩ = some (.bool r.shift)
def IntsAt (w : World) (v : Value) (l : List Int) : Prop :=
  ∃ ao cap, v = .slice ao l.length cap ∧ l.length ≤ 1000 ∧ ∀ k z, l[k]? = some z → ∃ g, ao = some ⟨g, 0, none⟩ ∧ w.cell? ⟨g, k, none⟩ = some (.int .i64 z)
def CalsAt (w : World) (v : Value) (l : List CalT) : Prop :=
  ∃ ao cap, v = .slice ao l.length cap ∧ l.length ≤ 1000 ∧ ∀ k c, l[k]? = some c → ∃ g rv mv, ao = some ⟨g, 0, none⟩ ∧ w.cell? ⟨g, k * 2, none⟩ = some rv ∧ w.cell? ⟨g, k * 2 + 1, none⟩ = some mv ∧ RulesAt w rv c.rules ∧ IntsAt w mv c.more
theorem cell_below {w w' : World} {a : Addr} {v : Value} (h : w.cell? a = some v) (hb : Below w.heap.size w w') : w'.cell? a = some v := by
  refine (hb.cell (p := a) ?_).trans h
  rcases Nat.lt_or_ge a.block w.heap.size with h' | h'
  · exact h'
  · simp [World.cell?, Array.getElem?_eq_none h'] at h
theorem RulesAt.below {w w' : World} {v : Value} {l : List Rule} (h : RulesAt w v l) (hb : Below w.heap.size w w') : RulesAt w' v l := by
  obtain ⟨ao, cap, rfl, hl, h⟩ := h
  refine ⟨ao, cap, rfl, hl, fun k r hk => ?_⟩
  obtain ⟨g, e, h0, h1, h2, h3, h4, h5⟩ := h k r hk
  exact ⟨g, e, cell_below h0 hb, cell_below h1 hb, cell_below h2 hb, cell_below h3 hb, cell_below h4 hb, cell_below h5 hb⟩
theorem IntsAt.below {w w' : World} {v : Value} {l : List Int} (h : IntsAt w v l) (hb : Below w.heap.size w w') : IntsAt w' v l := by
  obtain ⟨ao, cap, rfl, hl, h⟩ := h
  refine ⟨ao, cap, rfl, hl, fun k r hk => ?_⟩
  obtain ⟨g, e, h0⟩ := h k r hk
  exact ⟨g, e, cell_below h0 hb⟩
theorem CalsAt.below {w w' : World} {v : Value} {l : List CalT} (h : CalsAt w v l) (hb : Below w.heap.size w w') : CalsAt w' v l := by
  obtain ⟨ao, cap, rfl, hl, h⟩ := h
  refine ⟨ao, cap, rfl, hl, fun k r hk => ?_⟩
  obtain ⟨g, rv, mv, e, h0, h1, h2, h3⟩ := h k r hk
  exact ⟨g, rv, mv, e, cell_below h0 hb, cell_below h1 hb, h2.below hb, h3.below hb⟩
def calOpen (c : CalT) (y D : Int) : Prop := (∀ r ∈ c.rules, ¬ ruleDay r.kind r.month r.day r.n r.wd r.shift y D) ∧ ∀ z ∈ c.more, z ≠ D
def isOpen (cs : List CalT) (y D : Int) : Prop := (D + 1) % 7 ≠ 0 ∧ (D + 1) % 7 ≠ 6 ∧ ∀ c ∈ cs, calOpen c y D
end Go.Proofs.YtlhmfgbaefaneaaGreatDoor.ref6
namespace Go.Proofs.YtlhmfgbaefaneaaGreatDoor.law6
open Go Go.RowKit Go.Proofs.YtlhmfgbaefaneaaGreatDoor.day Go.Proofs.YtlhmfgbaefaneaaGreatDoor.date
open Go.Proofs.YtlhmfgbaefaneaaGreatDoor.ref6 (IntsAt RulesAt Rule May)
def IntsO (w : World) (v : Value) (l : List Int) : Prop :=
  ∃ ao cap, v = .slice ao l.length cap ∧ l.length ≤ 4611686018427387904 ∧ ∀ k z, l[k]? = some z → -9223372036854775808 ≤ z ∧ z ≤ 9223372036854775807 ∧ ∃ g o, ao = some ⟨g, o, none⟩ ∧ w.cell? ⟨g, o + k, none⟩ = some (.int .i64 z)
theorem IntsO.below {w w' : World} {v : Value} {l : List Int} (h : IntsO w v l) (hb : Below w.heap.size w w') : IntsO w' v l := by
  obtain ⟨ao, cap, rfl, h1, h2⟩ := h
  exact ⟨ao, cap, rfl, h1, fun k z hk => by
    obtain ⟨z0, z1, g, o, e, hc⟩ := h2 k z hk
    exact ⟨z0, z1, g, o, e, ref6.cell_below hc hb⟩⟩
def RulesO (w : World) (v : Value) (l : List Rule) : Prop :=
  ∃ ao cap, v = .slice ao l.length cap ∧ l.length ≤ 4611686018427387904 ∧ ∀ k r, l[k]? = some r → ∃ g o, ao = some ⟨g, o, none⟩ ∧
    w.cell? ⟨g, o + k * 6, none⟩ = some (.int .i64 r.kind) ∧ w.cell? ⟨g, o + k * 6 + 1, none⟩ = some (.int .i64 r.month) ∧ w.cell? ⟨g, o + k * 6 + 2, none⟩ = some (.int .i64 r.day) ∧
    w.cell? ⟨g, o + k * 6 + 3, none⟩ = some (.int .i64 r.n) ∧ w.cell? ⟨g, o + k * 6 + 4, none⟩ = some (.int .i64 r.wd) ∧ w.cell? ⟨g, o + k * 6 + 5, none⟩ = some (.bool r.shift)
theorem RulesO.below {w w' : World} {v : Value} {l : List Rule} (h : RulesO w v l) (hb : Below w.heap.size w w') : RulesO w' v l := by
  obtain ⟨ao, cap, rfl, h1, h2⟩ := h
  exact ⟨ao, cap, rfl, h1, fun k r hk => by
    obtain ⟨g, o, e, c0, c1, c2, c3, c4, c5⟩ := h2 k r hk
    exact ⟨g, o, e, ref6.cell_below c0 hb, ref6.cell_below c1 hb, ref6.cell_below c2 hb, ref6.cell_below c3 hb, ref6.cell_below c4 hb, ref6.cell_below c5 hb⟩⟩
end Go.Proofs.YtlhmfgbaefaneaaGreatDoor.law6
namespace Go.Proofs.YtlhmfgbaefaneaaGreatDoor.ref6
open Go Go.RowKit Go.Proofs.YtlhmfgbaefaneaaGreatDoor.day
def dayOpen (cs : List CalT) (D : Int) : Prop := ∃ y m a, IsCivil y m a ∧ D = dayOf y m a ∧ isOpen cs y D
noncomputable def openB (cs : List CalT) (D : Int) : Bool := @decide (dayOpen cs D) (Classical.propDecidable _)
theorem openB_iff (cs : List CalT) (D : Int) : openB cs D = true ↔ dayOpen cs D := by
  unfold openB
  exact @decide_eq_true_iff _ (Classical.propDecidable _)
theorem openB_at {cs : List CalT} {y m a : Int} (h : IsCivil y m a) : openB cs (dayOf y m a) = true ↔ isOpen cs y (dayOf y m a) := by
  rw [openB_iff]
  constructor
  · rintro ⟨y', m', a', h', e, ho⟩
    obtain ⟨rfl, -, -⟩ := dayOf_inj h h' e
    exact ho
  · exact fun ho => ⟨y, m, a, h, rfl, ho⟩
theorem openB_day {cs : List CalT} {D : Int} (h : openB cs D = true) : IsDay D := by
  obtain ⟨y, m, a, hc, rfl, -⟩ := (openB_iff cs D).1 h
  exact dayOf_isDay hc
noncomputable def nextN (cs : List CalT) (step : Int) : Nat → Int → Option Int
  | 0, _ => none
  | f + 1, D => if IsDay D then (if openB cs D = true then some D else nextN cs step f (D + step)) else none
noncomputable def nextD (cs : List CalT) (step D : Int) : Option Int := nextN cs step 109573 D
end Go.Proofs.YtlhmfgbaefaneaaGreatDoor.ref6
namespace Go.Proofs.YtlhmfgbaefaneaaGreatDoor.ref6
open Go Go.RowKit Go.Proofs.YtlhmfgbaefaneaaGreatDoor.day
noncomputable def monthOf (D : Int) : Int := @dite _ (∃ m y a, IsCivil y m a ∧ dayOf y m a = D) (Classical.propDecidable _) (fun h => h.choose) (fun _ => 0)
theorem monthOf_at {y m a : Int} (h : IsCivil y m a) : monthOf (dayOf y m a) = m := by
  unfold monthOf
  have hex : ∃ m' y' a', IsCivil y' m' a' ∧ dayOf y' m' a' = dayOf y m a := ⟨m, y, a, h, rfl⟩
  rw [dif_pos hex]
  obtain ⟨y', a', h', e⟩ := hex.choose_spec
  exact (dayOf_inj h' h e).2.1
noncomputable def rollD (cs : List CalT) (D rule : Int) : Option Int :=
  if rule = 0 then some D
  else
    let step : Int := if rule = 3 ∨ rule = 4 then -1 else 1
    if rule = 2 ∨ rule = 4 then
      match nextD cs step D with
      | some t => if monthOf t ≠ monthOf D then nextD cs (-step) D else some t
      | none => nextD cs (-step) D
    else nextD cs step D
def RollEnd (cs : List CalT) (D rule : Int) (w : World) (e : Ending) (w' : World) : Prop :=
  ((rule < 0 ∨ 4 < rule) → e = .returned (.tuple #[.int .i64 0, .int .i64 1])) ∧
  (¬ (rule < 0 ∨ 4 < rule) → ¬ IsDay D → e = .returned (.tuple #[.int .i64 0, .int .i64 4])) ∧
  (¬ (rule < 0 ∨ 4 < rule) → IsDay D → (∀ t, rollD cs D rule = some t → e = .returned (.tuple #[.int .i64 t, .int .i64 0])) ∧ (rollD cs D rule = none → e = .returned (.tuple #[.int .i64 0, .int .i64 4]))) ∧
  Below w.heap.size w w'
theorem RollEnd.yes {cs : List CalT} {D rule t : Int} {w w' : World} (h1 : ¬ (rule < 0 ∨ 4 < rule)) (h2 : IsDay D) (h3 : rollD cs D rule = some t) (hb : Below w.heap.size w w') : RollEnd cs D rule w (.returned (.tuple #[.int .i64 t, .int .i64 0])) w' :=
  ⟨fun h => absurd h h1, fun _ h => absurd h2 h, fun _ _ => ⟨fun t' h => (by rw [h3] at h; cases h; rfl), fun h => (by rw [h3] at h; cases h)⟩, hb⟩
theorem RollEnd.no {cs : List CalT} {D rule : Int} {w w' : World} (h1 : ¬ (rule < 0 ∨ 4 < rule)) (h2 : IsDay D) (h3 : rollD cs D rule = none) (hb : Below w.heap.size w w') : RollEnd cs D rule w (.returned (.tuple #[.int .i64 0, .int .i64 4])) w' :=
  ⟨fun h => absurd h h1, fun _ h => absurd h2 h, fun _ _ => ⟨fun t' h => (by rw [h3] at h; cases h), fun _ => rfl⟩, hb⟩
end Go.Proofs.YtlhmfgbaefaneaaGreatDoor.ref6
namespace Go.Proofs.YtlhmfgbaefaneaaGreatDoor.ref6
open Go.Proofs.YtlhmfgbaefaneaaGreatDoor.day
theorem next_some {cs : List CalT} {s t : Int} : ∀ (f : Nat) (D : Int), nextN cs s f D = some t → ∃ k : Nat, t = D + s * k ∧ openB cs t = true ∧ ∀ j : Nat, j < k → openB cs (D + s * j) = false
  | 0, _, h => by simp [nextN] at h
  | f + 1, D, h => by
    simp only [nextN] at h
    split at h
    · split at h
      · rename_i ho
        cases h
        exact ⟨0, by simp, ho, fun j hj => absurd hj (Nat.not_lt_zero _)⟩
      · rename_i ho
        obtain ⟨k, e, h1, h2⟩ := next_some f (D + s) h
        refine ⟨k + 1, by rw [e]; push_cast; grind, h1, fun j hj => ?_⟩
        cases j
        · simpa using ho
        · rename_i j
          have := h2 j (by omega)
          rwa [show D + s + s * (j : Int) = D + s * ((j + 1 : Nat) : Int) by push_cast; grind] at this
    · cases h
theorem next_is {cs : List CalT} {s : Int} : ∀ (k f : Nat) (D : Int), k < f → (∀ j : Nat, j ≤ k → IsDay (D + s * j)) → openB cs (D + s * k) = true → (∀ j : Nat, j < k → openB cs (D + s * j) = false) → nextN cs s f D = some (D + s * k)
  | 0, f + 1, D, _, hd, ho, _ => by
    simp only [nextN]
    have := hd 0 (Nat.le_refl _)
    simp only [Int.natCast_zero, Int.mul_zero, Int.add_zero] at this ho ⊢
    rw [if_pos this, if_pos ho]
  | k + 1, f + 1, D, hf, hd, ho, hn => by
    simp only [nextN]
    have h0 := hd 0 (Nat.zero_le _)
    have n0 := hn 0 (Nat.succ_pos _)
    simp only [Int.natCast_zero, Int.mul_zero, Int.add_zero] at h0 n0
    rw [if_pos h0, if_neg (by rw [n0]; decide)]
    have sh : ∀ j : Nat, D + s + s * (j : Int) = D + s * ((j + 1 : Nat) : Int) := fun j => by push_cast; grind
    rw [next_is k f (D + s) (by omega) (fun j hj => by rw [sh]; exact hd (j + 1) (by omega)) (by rw [sh]; exact ho) (fun j hj => by rw [sh]; exact hn (j + 1) (by omega)), sh]
theorem next_up {cs : List CalT} {D t : Int} (h : nextD cs 1 D = some t) : D ≤ t ∧ openB cs t = true ∧ ∀ x, D ≤ x → x < t → openB cs x = false := by
  obtain ⟨k, e, h1, h2⟩ := next_some _ _ h
  refine ⟨by omega, h1, fun x hx hx2 => ?_⟩
  have := h2 (x - D).toNat (by omega)
  rwa [show D + 1 * ((x - D).toNat : Int) = x by omega] at this
theorem next_down {cs : List CalT} {D t : Int} (h : nextD cs (-1) D = some t) : t ≤ D ∧ openB cs t = true ∧ ∀ x, t < x → x ≤ D → openB cs x = false := by
  obtain ⟨k, e, h1, h2⟩ := next_some _ _ h
  refine ⟨by omega, h1, fun x hx hx2 => ?_⟩
  have := h2 (D - x).toNat (by omega)
  rwa [show D + -1 * ((D - x).toNat : Int) = x by omega] at this
theorem next_up_is {cs : List CalT} {D t : Int} (hD : IsDay D) (h : D ≤ t) (ho : openB cs t = true) (hn : ∀ x, D ≤ x → x < t → openB cs x = false) : nextD cs 1 D = some t := by
  have ht := openB_day ho
  obtain ⟨d1, d2⟩ := hD
  obtain ⟨t1, t2⟩ := ht
  have := next_is (cs := cs) (s := 1) (t - D).toNat 109573 D (by omega) (fun j hj => ⟨by omega, by omega⟩) (by rwa [show D + 1 * ((t - D).toNat : Int) = t by omega]) (fun j hj => hn _ (by omega) (by omega))
  rwa [show D + 1 * ((t - D).toNat : Int) = t by omega] at this
theorem next_down_is {cs : List CalT} {D t : Int} (hD : IsDay D) (h : t ≤ D) (ho : openB cs t = true) (hn : ∀ x, t < x → x ≤ D → openB cs x = false) : nextD cs (-1) D = some t := by
  have ht := openB_day ho
  obtain ⟨d1, d2⟩ := hD
  obtain ⟨t1, t2⟩ := ht
  have := next_is (cs := cs) (s := -1) (D - t).toNat 109573 D (by omega) (fun j hj => ⟨by omega, by omega⟩) (by rwa [show D + -1 * ((D - t).toNat : Int) = t by omega]) (fun j hj => hn _ (by omega) (by omega))
  rwa [show D + -1 * ((D - t).toNat : Int) = t by omega] at this
theorem least_up {p : Int → Bool} : ∀ (n : Nat) (D : Int), p (D + n) = true → ∃ t, D ≤ t ∧ t ≤ D + n ∧ p t = true ∧ ∀ x, D ≤ x → x < t → p x = false
  | 0, D, h => ⟨D, by omega, by omega, by simpa using h, fun x h1 h2 => by omega⟩
  | n + 1, D, h => by
    cases h0 : p D
    · obtain ⟨t, h1, h2, h3, h4⟩ := least_up (p := p) n (D + 1) (by rwa [show D + 1 + (n : Int) = D + ((n + 1 : Nat) : Int) by omega])
      refine ⟨t, by omega, by omega, h3, fun x hx hx2 => ?_⟩
      by_cases e : x = D
      · rw [e]; exact h0
      · exact h4 x (by omega) hx2
    · exact ⟨D, by omega, by omega, h0, fun x h1 h2 => by omega⟩
theorem least_down {p : Int → Bool} : ∀ (n : Nat) (D : Int), p (D - n) = true → ∃ t, t ≤ D ∧ D - n ≤ t ∧ p t = true ∧ ∀ x, t < x → x ≤ D → p x = false
  | 0, D, h => ⟨D, by omega, by omega, by simpa using h, fun x h1 h2 => by omega⟩
  | n + 1, D, h => by
    cases h0 : p D
    · obtain ⟨t, h1, h2, h3, h4⟩ := least_down (p := p) n (D - 1) (by rwa [show D - 1 - (n : Int) = D - ((n + 1 : Nat) : Int) by omega])
      refine ⟨t, by omega, by omega, h3, fun x hx hx2 => ?_⟩
      by_cases e : x = D
      · rw [e]; exact h0
      · exact h4 x hx (by omega)
    · exact ⟨D, by omega, by omega, h0, fun x h1 h2 => by omega⟩
theorem next_up_none {cs : List CalT} {D : Int} (hD : IsDay D) (h : nextD cs 1 D = none) (x : Int) (hx : D ≤ x) : openB cs x = false := by
  cases ho : openB cs x
  · rfl
  · obtain ⟨t, h1, -, h3, h4⟩ := least_up (p := openB cs) (x - D).toNat D (by rwa [show D + ((x - D).toNat : Int) = x by omega])
    rw [next_up_is hD h1 h3 h4] at h
    cases h
theorem next_down_none {cs : List CalT} {D : Int} (hD : IsDay D) (h : nextD cs (-1) D = none) (x : Int) (hx : x ≤ D) : openB cs x = false := by
  cases ho : openB cs x
  · rfl
  · obtain ⟨t, h1, -, h3, h4⟩ := least_down (p := openB cs) (D - x).toNat D (by rwa [show D - ((D - x).toNat : Int) = x by omega])
    rw [next_down_is hD h1 h3 h4] at h
    cases h
theorem next_off {cs : List CalT} {s D : Int} (hD : ¬ IsDay D) : nextD cs s D = none := by
  obtain ⟨n, hn⟩ : ∃ n, 109573 = n + 1 := ⟨109572, rfl⟩
  unfold nextD
  rw [hn]
  simp only [nextN]
  rw [if_neg hD]
def Near (cs : List CalT) : Prop := ∀ a, IsDay a → IsDay (a + 300) → ∃ x, a ≤ x ∧ x < a + 300 ∧ openB cs x = true
def cntN (p : Int → Bool) : Nat → Int → Int
  | 0, _ => 0
  | k + 1, a => cntN p k a + (if p (a + (k : Nat)) = true then 1 else 0)
noncomputable def cntO (cs : List CalT) (a b : Int) : Int := cntN (openB cs) (b - a).toNat a
theorem cntN_add (p : Int → Bool) (a : Int) (k : Nat) : ∀ j, cntN p (k + j) a = cntN p k a + cntN p j (a + (k : Nat))
  | 0 => by simp [cntN]
  | j + 1 => by
    rw [show k + (j + 1) = (k + j) + 1 by omega]
    simp only [cntN]
    rw [cntN_add p a k j, show a + ((k + j : Nat) : Int) = a + (k : Int) + (j : Int) by omega]
    omega
theorem cntN_zero (p : Int → Bool) (a : Int) : ∀ k : Nat, (∀ j : Nat, j < k → p (a + j) = false) → cntN p k a = 0
  | 0, _ => rfl
  | k + 1, h => by
    simp only [cntN]
    rw [cntN_zero p a k (fun j hj => h j (by omega)), h k (by omega)]
    rfl
theorem cnt_split (cs : List CalT) {a b c : Int} (h1 : a ≤ b) (h2 : b ≤ c) : cntO cs a c = cntO cs a b + cntO cs b c := by
  unfold cntO
  rw [show (c - a).toNat = (b - a).toNat + (c - b).toNat by omega, cntN_add, show a + ((b - a).toNat : Int) = b by omega]
theorem cnt_empty (cs : List CalT) {a b : Int} (h : b ≤ a) : cntO cs a b = 0 := by unfold cntO; rw [show (b - a).toNat = 0 by omega]; rfl
theorem cnt_one (cs : List CalT) (a : Int) : cntO cs a (a + 1) = if openB cs a = true then 1 else 0 := by
  unfold cntO
  rw [show (a + 1 - a).toNat = 1 by omega]
  simp [cntN]
theorem cnt_zero (cs : List CalT) {a b : Int} (h : ∀ x, a ≤ x → x < b → openB cs x = false) : cntO cs a b = 0 :=
  cntN_zero _ _ _ fun j hj => h _ (by omega) (by omega)
theorem cnt_last (cs : List CalT) {a b : Int} (h : a ≤ b) : cntO cs a (b + 1) = cntO cs a b + if openB cs b = true then 1 else 0 := by
  rw [cnt_split cs h (show b ≤ b + 1 by omega), cnt_one]
noncomputable def addN (cs : List CalT) (s : Int) : Nat → Int → Option Int
  | 0, D => some D
  | k + 1, D => match nextD cs s (D + s) with
    | some t => addN cs s k t
    | none => none
theorem roll_1 (cs : List CalT) (D : Int) : rollD cs D 1 = nextD cs 1 D := by unfold rollD; simp
theorem roll_3 (cs : List CalT) (D : Int) : rollD cs D 3 = nextD cs (-1) D := by unfold rollD; simp
theorem roll_2 (cs : List CalT) (D : Int) : rollD cs D 2 = match nextD cs 1 D with
    | some t => if monthOf t ≠ monthOf D then nextD cs (-1) D else some t
    | none => nextD cs (-1) D := by unfold rollD; simp <;> (cases nextD cs 1 D <;> rfl)
theorem roll_4 (cs : List CalT) (D : Int) : rollD cs D 4 = match nextD cs (-1) D with
    | some t => if monthOf t ≠ monthOf D then nextD cs 1 D else some t
    | none => nextD cs 1 D := by unfold rollD; simp <;> (cases nextD cs (-1) D <;> rfl)
end Go.Proofs.YtlhmfgbaefaneaaGreatDoor.ref6
namespace Go.Proofs.YtlhmfgbaefaneaaGreatDoor.law6
open Go Go.RowKit
def CelAt (w : World) (g : Nat) (u v : Value) : Prop := w.cell? ⟨g, 0, none⟩ = some u ∧ w.cell? ⟨g, 1, none⟩ = some v
theorem CelAt.below {w w' : World} {g : Nat} {u v : Value} (h : CelAt w g u v) (hb : Below w.heap.size w w') : CelAt w' g u v := ⟨ref6.cell_below h.1 hb, ref6.cell_below h.2 hb⟩
end Go.Proofs.YtlhmfgbaefaneaaGreatDoor.law6
namespace Go.Proofs.YtlhmfgbaefaneaaGreatDoor.law6
open Go Go.RowKit Go.Proofs.YtlhmfgbaefaneaaGreatDoor.day Go.Proofs.YtlhmfgbaefaneaaGreatDoor.date
open Go.Proofs.YtlhmfgbaefaneaaGreatDoor.ref6 (IntsAt RulesAt CalsAt CalT Rule May openB nextD addN cntO rollD Near)
def newCode (rs : List Rule) (ms : List Int) : Int :=
  if 20 < rs.length ∨ 100 < ms.length then 2 else if (rs.all fun r => decide (May r)) = false then 1 else if (ms.all fun z => decide (IsDay z)) = false then 4 else 0
def CalPtrs (IsC : World → Value → List CalT → Prop) (w : World) (v : Value) (us : List (Option Addr × List CalT)) : Prop :=
  ∃ ao cap, v = .slice ao us.length cap ∧ us.length ≤ 1000 ∧ ∀ k u, us[k]? = some u → ∃ g, ao = some ⟨g, 0, none⟩ ∧ w.cell? ⟨g, k, none⟩ = some (.pointer u.1) ∧ IsC w (.pointer u.1) u.2
structure CalC (IsC : World → Value → List CalT → Prop) : Prop where
  keep : ∀ w w' v cs, IsC w v cs → Below w.heap.size w w' → IsC w' v cs
  none_ : ∀ w, IsC w (.pointer none) []
  new : ∀ rv rs mv ms w, Wd w → RulesO w rv rs → IntsO w mv ms → newCode rs ms = 0 → Calls Tryz.prog 44 #[rv, mv] w fun e w' => ∃ ad, e = .returned (.tuple #[.pointer (some ad), .nilIface]) ∧ IsC w' (.pointer (some ad)) [⟨rs, ms⟩] ∧ Below w.heap.size w w'
  newNo : ∀ rv rs mv ms w, Wd w → RulesO w rv rs → IntsO w mv ms → newCode rs ms ≠ 0 → Calls Tryz.prog 44 #[rv, mv] w fun e w' => e = .returned (.tuple #[.pointer none, errOf (newCode rs ms)]) ∧ Below w.heap.size w w'
  join : ∀ jv us w, Wd w → CalPtrs IsC w jv us → Calls Tryz.prog 49 #[jv] w fun e w' => ∃ ad, e = .returned (.pointer ad) ∧ IsC w' (.pointer ad) (us.flatMap (·.2)) ∧ Below w.heap.size w w'
  isOpen : ∀ v cs D w, Wd w → IsC w v cs → -9223372036854775808 ≤ D → D ≤ 9223372036854775807 → Calls Tryz.prog 50 #[v, .int .i64 D] w fun e w' => e = .returned (.bool (openB cs D)) ∧ Below w.heap.size w w'
  add : ∀ v cs D k t w, Wd w → IsC w v cs → IsDay D → -1000 ≤ k → k ≤ 1000 → addN cs (if k < 0 then -1 else 1) k.natAbs D = some t → Calls Tryz.prog 52 #[v, .int .i64 D, .int .i64 k] w fun e w' => e = .returned (.tuple #[.int .i64 t, .nilIface]) ∧ Below w.heap.size w w'
  addNo : ∀ v cs D k w, Wd w → IsC w v cs → IsDay D → -1000 ≤ k → k ≤ 1000 → addN cs (if k < 0 then -1 else 1) k.natAbs D = none → Calls Tryz.prog 52 #[v, .int .i64 D, .int .i64 k] w fun e w' => e = .returned (.tuple #[.int .i64 0, errOf 4]) ∧ Below w.heap.size w w'
  addDay : ∀ v cs D k w, Wd w → IsC w v cs → ¬ IsDay D → -1000 ≤ k → k ≤ 1000 → Calls Tryz.prog 52 #[v, .int .i64 D, .int .i64 k] w fun e w' => e = .returned (.tuple #[.int .i64 0, errOf 4]) ∧ Below w.heap.size w w'
  addFar : ∀ v cs D k w, Wd w → IsC w v cs → IsDay D → (k < -1000 ∨ 1000 < k) → -9223372036854775808 ≤ k → k ≤ 9223372036854775807 → Calls Tryz.prog 52 #[v, .int .i64 D, .int .i64 k] w fun e w' => e = .returned (.tuple #[.int .i64 0, errOf 2]) ∧ Below w.heap.size w w'
  count : ∀ v cs a b w, Wd w → IsC w v cs → -1000000000 ≤ a → a ≤ 1000000000 → -1000000000 ≤ b → b ≤ 1000000000 → Calls Tryz.prog 54 #[v, .int .i64 a, .int .i64 b] w fun e w' => e = .returned (.int .i64 (cntO cs a b)) ∧ Below w.heap.size w w'
structure RolC (IsC : World → Value → List CalT → Prop) : Prop where
  yes : ∀ v cs D r t w, Wd w → IsC w v cs → (r = 2 ∨ r = 4 → Near cs) → IsDay D → 0 ≤ r → r ≤ 4 → rollD cs D r = some t → Calls Tryz.prog 55 #[v, .int .i64 D, .int .i64 r] w fun e w' => e = .returned (.tuple #[.int .i64 t, .nilIface]) ∧ Below w.heap.size w w'
  no : ∀ v cs D r w, Wd w → IsC w v cs → (r = 2 ∨ r = 4 → Near cs) → IsDay D → 0 ≤ r → r ≤ 4 → rollD cs D r = none → Calls Tryz.prog 55 #[v, .int .i64 D, .int .i64 r] w fun e w' => e = .returned (.tuple #[.int .i64 0, errOf 4]) ∧ Below w.heap.size w w'
  day : ∀ v cs D r w, Wd w → IsC w v cs → ¬ IsDay D → 0 ≤ r → r ≤ 4 → Calls Tryz.prog 55 #[v, .int .i64 D, .int .i64 r] w fun e w' => e = .returned (.tuple #[.int .i64 0, errOf 4]) ∧ Below w.heap.size w w'
  form : ∀ v cs D r w, Wd w → IsC w v cs → r < 0 ∨ 4 < r → Calls Tryz.prog 55 #[v, .int .i64 D, .int .i64 r] w fun e w' => e = .returned (.tuple #[.int .i64 0, errOf 1]) ∧ Below w.heap.size w w'
theorem intsO_nil (w : World) : IntsO w (.slice none 0 0) [] := ⟨none, 0, rfl, by simp, fun k z hk => by simp at hk⟩
def CalV {IsC : World → Value → List CalT → Prop} (_ : CalC IsC) (w : World) (v : Value) (cs : List CalT) : Prop := IsC w v cs
theorem CalV.below {IsC : World → Value → List CalT → Prop} {H : CalC IsC} {w w' : World} {v : Value} {cs : List CalT} (h : CalV H w v cs) (hb : Below w.heap.size w w') : CalV H w' v cs := H.keep _ _ _ _ h hb
def CalP {IsC : World → Value → List CalT → Prop} (_ : CalC IsC) (w : World) (v : Value) (cs : List CalT) : Prop := ∃ us, CalPtrs IsC w v us ∧ us.flatMap (·.2) = cs
theorem CalP.below {IsC : World → Value → List CalT → Prop} {H : CalC IsC} {w w' : World} {v : Value} {cs : List CalT} (h : CalP H w v cs) (hb : Below w.heap.size w w') : CalP H w' v cs := by
  obtain ⟨us, ⟨ao, cap, e, hl, hk⟩, hc⟩ := h
  refine ⟨us, ⟨ao, cap, e, hl, fun k u hu => ?_⟩, hc⟩
  obtain ⟨g, e1, e2, e3⟩ := hk k u hu
  exact ⟨g, e1, ref6.cell_below e2 hb, H.keep _ _ _ _ e3 hb⟩
end Go.Proofs.YtlhmfgbaefaneaaGreatDoor.law6
namespace Go.Proofs.YtlhmfgbaefaneaaGreatDoor.law6
open Go Go.RowKit Go.Proofs.YtlhmfgbaefaneaaGreatDoor.day Go.Proofs.YtlhmfgbaefaneaaGreatDoor.date
structure EasC : Prop where
  yes : ∀ (y : Int), 1900 ≤ y → y ≤ 2199 → ∀ w, Wd w → Calls Tryz.prog 42 #[.int .i64 y] w fun e w' => e = .returned (.tuple #[.int .i64 (easterDay y), .nilIface]) ∧ Below w.heap.size w w'
  no : ∀ (y : Int), ¬ (1900 ≤ y ∧ y ≤ 2199) → ∀ w, Wd w → Calls Tryz.prog 42 #[.int .i64 y] w fun e w' => e = .returned (.tuple #[.int .i64 0, errOf 4]) ∧ Below w.heap.size w w'
end Go.Proofs.YtlhmfgbaefaneaaGreatDoor.law6
namespace Go.Proofs.YtlhmfgbaefaneaaGreatDoor.law6
open Go Go.RowKit Go.Proofs.YtlhmfgbaefaneaaGreatDoor.day Go.Proofs.YtlhmfgbaefaneaaGreatDoor.date
open Go.Proofs.YtlhmfgbaefaneaaGreatDoor.ref6 (Rule May holiday ruleDay rawDay shiftDay nthDay daysW)
structure HolC : Prop where
  may : ∀ (k mo d n wd : Int) (sh : Bool) (w : World), Wd w → Calls Tryz.prog 87 #[.agg #[.int .i64 k, .int .i64 mo, .int .i64 d, .int .i64 n, .int .i64 wd, .bool sh]] w fun e w' => e = .returned (.bool (decide (May ⟨k, mo, d, n, wd, sh⟩))) ∧ Below w.heap.size w w'
  dayYes : ∀ (k mo d n wd : Int) (sh : Bool) (y z : Int), holiday k mo d n wd sh y = some z → ∀ w, Wd w → Calls Tryz.prog 118 #[.agg #[.int .i64 k, .int .i64 mo, .int .i64 d, .int .i64 n, .int .i64 wd, .bool sh], .int .i64 y] w fun e w' => e = .returned (.tuple #[.int .i64 z, .bool true]) ∧ Below w.heap.size w w'
  dayNo : ∀ (k mo d n wd : Int) (sh : Bool) (y : Int), holiday k mo d n wd sh y = none → ∀ w, Wd w → Calls Tryz.prog 118 #[.agg #[.int .i64 k, .int .i64 mo, .int .i64 d, .int .i64 n, .int .i64 wd, .bool sh], .int .i64 y] w fun e w' => e = .returned (.tuple #[.int .i64 0, .bool false]) ∧ Below w.heap.size w w'
  is : ∀ (k mo d n wd : Int) (sh : Bool) (y m a : Int), IsCivil y m a → ∀ w, Wd w → Calls Tryz.prog 69 #[.agg #[.int .i64 k, .int .i64 mo, .int .i64 d, .int .i64 n, .int .i64 wd, .bool sh], .int .i64 (dayOf y m a)] w fun e w' => e = .returned (.bool (decide (ruleDay k mo d n wd sh y (dayOf y m a)))) ∧ Below w.heap.size w w'
  isNo : ∀ (k mo d n wd : Int) (sh : Bool) (D : Int), ¬ IsDay D → ∀ w, Wd w → Calls Tryz.prog 69 #[.agg #[.int .i64 k, .int .i64 mo, .int .i64 d, .int .i64 n, .int .i64 wd, .bool sh], .int .i64 D] w fun e w' => e = .returned (.bool false) ∧ Below w.heap.size w w'
end Go.Proofs.YtlhmfgbaefaneaaGreatDoor.law6
namespace Go.Proofs.YtlhmfgbaefaneaaGreatDoor.day
open Go.Proofs.YtlhmfgbaefaneaaGreatDoor.ref6 (clip)
def mY (y m k : Int) : Int := (12 * y + (m - 1) + k) / 12
def mM (y m k : Int) : Int := (12 * y + (m - 1) + k) % 12 + 1
theorem mM_in (y m k : Int) : 1 ≤ mM y m k ∧ mM y m k ≤ 12 := by unfold mM; omega
theorem clip_in {fin : Bool} {y m d Y M : Int} (hd : 1 ≤ d) (h1 : 1 ≤ M) (h2 : M ≤ 12) : 1 ≤ clip fin y m d Y M ∧ clip fin y m d Y M ≤ mlen Y M := by
  have := mlen_lo (y := Y) h1 h2
  unfold clip
  split <;> omega
theorem clip_civil {fin : Bool} {y m d Y M : Int} (hd : 1 ≤ d) (h1 : 1 ≤ M) (h2 : M ≤ 12) : IsCivil Y M (clip fin y m d Y M) ↔ 1900 ≤ Y ∧ Y ≤ 2199 := by
  have := clip_in (fin := fin) (y := y) (m := m) (d := d) (Y := Y) (M := M) hd h1 h2
  unfold IsCivil
  omega
end Go.Proofs.YtlhmfgbaefaneaaGreatDoor.day
namespace Go.Proofs.YtlhmfgbaefaneaaGreatDoor.law6
open Go Go.RowKit Go.Proofs.YtlhmfgbaefaneaaGreatDoor.day Go.Proofs.YtlhmfgbaefaneaaGreatDoor.date
open Go.Proofs.YtlhmfgbaefaneaaGreatDoor.ref6 (clip)
def AddYesC : Prop := ∀ (y m d k : Int) (fin : Bool), IsCivil y m d → -3600 ≤ k → k ≤ 3600 → 1900 ≤ mY y m k → mY y m k ≤ 2199 → ∀ w, Wd w →
  Calls Tryz.prog 35 #[.int .i64 (dayOf y m d), .int .i64 k, .bool fin] w fun e w' => e = .returned (.tuple #[.int .i64 (dayOf (mY y m k) (mM y m k) (clip fin y m d (mY y m k) (mM y m k))), .nilIface]) ∧ Below w.heap.size w w'
def AddNoC : Prop := ∀ (y m d k : Int) (fin : Bool), -9223372036854775808 ≤ k → k ≤ 9223372036854775807 → IsCivil y m d → ¬ (-3600 ≤ k ∧ k ≤ 3600 ∧ 1900 ≤ mY y m k ∧ mY y m k ≤ 2199) → ∀ w, Wd w →
  Calls Tryz.prog 35 #[.int .i64 (dayOf y m d), .int .i64 k, .bool fin] w fun e w' => e = .returned (.tuple #[.int .i64 0, errOf 4]) ∧ Below w.heap.size w w'
def LastC : Prop := ∀ (y m d : Int), IsCivil y m d → ∀ w, Wd w → Calls Tryz.prog 38 #[.int .i64 (dayOf y m d)] w fun e w' => e = .returned (.bool (decide (d = mlen y m))) ∧ Below w.heap.size w w'
def EndYesC : Prop := ∀ (y m : Int), 1900 ≤ y → y ≤ 2199 → 1 ≤ m → m ≤ 12 → ∀ w, Wd w → Calls Tryz.prog 37 #[.int .i64 y, .int .i64 m] w fun e w' => e = .returned (.tuple #[.int .i64 (dayOf y m (mlen y m)), .nilIface]) ∧ Below w.heap.size w w'
def EndNoC : Prop := ∀ (y m : Int), ¬ (1900 ≤ y ∧ y ≤ 2199 ∧ 1 ≤ m ∧ m ≤ 12) → ∀ w, Wd w → Calls Tryz.prog 37 #[.int .i64 y, .int .i64 m] w fun e w' => e = .returned (.tuple #[.int .i64 0, errOf 4]) ∧ Below w.heap.size w w'
def BetweenC : Prop := ∀ (y m d y' m' d' : Int), IsCivil y m d → IsCivil y' m' d' → ∀ w, Wd w → Calls Tryz.prog 40 #[.int .i64 (dayOf y m d), .int .i64 (dayOf y' m' d')] w fun e w' => e = .returned (.int .i64 (12 * (y' - y) + (m' - m))) ∧ Below w.heap.size w w'
def BetweenNoC : Prop := ∀ (a b : Int), ¬ (IsDay a ∧ IsDay b) → ∀ w, Wd w → Calls Tryz.prog 40 #[.int .i64 a, .int .i64 b] w fun e w' => e = .returned (.int .i64 0) ∧ Below w.heap.size w w'
structure MonC : Prop where
  addYes : AddYesC
  addNo : AddNoC
  last : LastC
  endYes : EndYesC
  endNo : EndNoC
  between : BetweenC
  betweenNo : BetweenNoC
end Go.Proofs.YtlhmfgbaefaneaaGreatDoor.law6
