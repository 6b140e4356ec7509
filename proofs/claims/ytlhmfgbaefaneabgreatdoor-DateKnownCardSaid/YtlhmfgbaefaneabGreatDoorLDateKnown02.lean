/-
  The steps of the walks, part 2: Law6Kit, MapLaw, DayOrd.
-/
import Derived.Laws.BitsLemmas
import Derived.Maps.RangeWalk
import Derived.StringKeys
import Derived.Laws.Cover1
import Derived.Test.YtlhmfgbaefaneabGreatDoorB01
import Derived.Test.YtlhmfgbaefaneabGreatDoorB02
import Derived.Test.YtlhmfgbaefaneabGreatDoorB03
import Derived.Test.YtlhmfgbaefaneabGreatDoorB04
import Derived.Test.YtlhmfgbaefaneabGreatDoorB05
import Derived.Test.YtlhmfgbaefaneabGreatDoorB06
import Derived.Test.YtlhmfgbaefaneabGreatDoorB07
import Derived.Test.YtlhmfgbaefaneabGreatDoorB08
import Derived.Test.YtlhmfgbaefaneabGreatDoorB09
import Derived.Test.YtlhmfgbaefaneabGreatDoorB10
import Derived.Test.YtlhmfgbaefaneabGreatDoorB11
import Derived.Test.YtlhmfgbaefaneabGreatDoorB12
import Derived.Test.YtlhmfgbaefaneabGreatDoorB13
import Derived.Test.YtlhmfgbaefaneabGreatDoorB14
import Derived.Test.YtlhmfgbaefaneabGreatDoorB15
import Derived.Test.YtlhmfgbaefaneabGreatDoorB16
import Derived.Test.YtlhmfgbaefaneabGreatDoorB17
import Derived.Test.YtlhmfgbaefaneabGreatDoorB18
import Derived.Test.YtlhmfgbaefaneabGreatDoorB19
import Derived.Test.YtlhmfgbaefaneabGreatDoorB20
import Derived.Test.YtlhmfgbaefaneabGreatDoorB21
import Derived.Test.YtlhmfgbaefaneabGreatDoorB22
import Derived.Test.YtlhmfgbaefaneabGreatDoorB23
import Derived.Test.YtlhmfgbaefaneabGreatDoorB24
import Derived.Test.YtlhmfgbaefaneabGreatDoorB25
import Derived.Test.YtlhmfgbaefaneabGreatDoorB26
import Derived.Test.YtlhmfgbaefaneabGreatDoorB27
import Derived.Test.YtlhmfgbaefaneabGreatDoorB28
import Derived.Test.YtlhmfgbaefaneabGreatDoorB29
import Derived.Test.YtlhmfgbaefaneabGreatDoorB30
import Derived.Test.YtlhmfgbaefaneabGreatDoorB31
import Derived.Test.YtlhmfgbaefaneabGreatDoorB32
import Derived.Test.YtlhmfgbaefaneabGreatDoorB33
import Derived.Test.YtlhmfgbaefaneabGreatDoorB34
import Derived.Test.YtlhmfgbaefaneabGreatDoorB35
import Derived.Test.YtlhmfgbaefaneabGreatDoorB36
import Derived.Test.YtlhmfgbaefaneabGreatDoorB37
import Derived.Test.YtlhmfgbaefaneabGreatDoorB38
import Derived.Test.YtlhmfgbaefaneabGreatDoorB39
import Derived.Test.YtlhmfgbaefaneabGreatDoorB40
import Derived.Test.YtlhmfgbaefaneabGreatDoorLDateKnown01
namespace Go.Proofs.YtlhmfgbaefaneabGreatDoor.law6
open Go Go.RowKit Go.Proofs.YtlhmfgbaefaneabGreatDoor.day Go.Proofs.YtlhmfgbaefaneabGreatDoor.date
open Go.Proofs.YtlhmfgbaefaneabGreatDoor.ref (str str_size)
open Go.Proofs.YtlhmfgbaefaneabGreatDoor.ref6 (CAt dayText DayForm quiet_same drewN_below6)
open Go.Proofs.YtlhmfgbaefaneabGreatDoor.itoa (Tab)
set_option maxRecDepth 100000 in
theorem Same_code (c : Int) (w : World) (h : Wd w) :
    Calls Tryz.prog 23 #[errOf c, .int .i64 c] w fun e w' => e = .returned (.bool true) ∧ Below w.heap.size w w' := by
  unfold errOf
  have HC := Lib.hid (flt.Code_plain c w h.hd)
  clear h
  go_enter Tryz.func23, Tryz.ntmps23
  go_wp2_with (first
    | (go_at_call 63; (with_reducible refine (HC.out).mono ?_); rintro e w1 ⟨rfl, hb⟩; have HB := Lib.hid hb; clear hb)
    | (fail "no arm"))
  go_ret
  exact ⟨rfl, HB.out⟩
theorem pad_two (d : Nat) : ref.pad 2 d = [UInt8.ofNat (48 + d / 10 % 10), UInt8.ofNat (48 + d % 10)] := by
  rw [ref.pad_cons, ref.pad_cons]; simp [ref.pad]
theorem pad_four (d : Nat) : ref.pad 4 d = [UInt8.ofNat (48 + d / 1000 % 10), UInt8.ofNat (48 + d / 100 % 10), UInt8.ofNat (48 + d / 10 % 10), UInt8.ofNat (48 + d % 10)] := by
  rw [ref.pad_cons, ref.pad_cons, ref.pad_cons, ref.pad_cons]; simp [ref.pad]
theorem dg_toNat (x : Nat) : (UInt8.ofNat (48 + x % 10)).toNat = 48 + x % 10 := by
  simp only [UInt8.toNat_ofNat']
  omega
theorem text_form {y m d : Int} (y0 : 0 ≤ y) (y1 : y ≤ 9999) (m0 : 0 ≤ m) (m1 : m ≤ 99) (d0 : 0 ≤ d) (d1 : d ≤ 99) : DayForm (dayText y m d) ∧ ref.seg (dayText y m d) 0 4 = y.toNat ∧ ref.seg (dayText y m d) 5 2 = m.toNat ∧ ref.seg (dayText y m d) 8 2 = d.toNat := by
  have e : dayText y m d = [UInt8.ofNat (48 + y.toNat / 1000 % 10), UInt8.ofNat (48 + y.toNat / 100 % 10), UInt8.ofNat (48 + y.toNat / 10 % 10), UInt8.ofNat (48 + y.toNat % 10), 45,
    UInt8.ofNat (48 + m.toNat / 10 % 10), UInt8.ofNat (48 + m.toNat % 10), 45, UInt8.ofNat (48 + d.toNat / 10 % 10), UInt8.ofNat (48 + d.toNat % 10)] := by
    unfold dayText
    rw [pad_four, pad_two, pad_two]
    rfl
  rw [e]
  have b1 : y.toNat < 10000 := by omega
  have b2 : m.toNat < 100 := by omega
  have b3 : d.toNat < 100 := by omega
  generalize y.toNat = Y at *
  generalize m.toNat = M at *
  generalize d.toNat = D at *
  refine ⟨⟨rfl, rfl, rfl, fun i hi h4 h7 => ?_⟩, ?_, ?_, ?_⟩
  · rcases (show i = 0 ∨ i = 1 ∨ i = 2 ∨ i = 3 ∨ i = 5 ∨ i = 6 ∨ i = 8 ∨ i = 9 by omega) with rfl | rfl | rfl | rfl | rfl | rfl | rfl | rfl <;>
    · simp only [ref.IsDig, ref.ch, List.getD_eq_getElem?_getD, List.getElem?_cons_zero, List.getElem?_cons_succ, Option.getD_some, dg_toNat]
      omega
  all_goals
    simp only [ref.seg, ref.ch, Nat.reduceAdd, List.getD_eq_getElem?_getD, List.getElem?_cons_zero, List.getElem?_cons_succ, Option.getD_some, dg_toNat]
    omega
theorem dayText_form {y m d : Int} (h : IsCivil y m d) : DayForm (dayText y m d) ∧ ref.seg (dayText y m d) 0 4 = y.toNat ∧ ref.seg (dayText y m d) 5 2 = m.toNat ∧ ref.seg (dayText y m d) 8 2 = d.toNat := by
  obtain ⟨a1, a2, a5, a6⟩ := id h
  obtain ⟨a3, a4⟩ := h.month
  have a7 := mlen_hi y m
  exact text_form (by omega) (by omega) (by omega) (by omega) (by omega) (by omega)
theorem Get_day (y m d : Int) (h : IsCivil y m d) (w : World) (hw : Wd w) :
    Calls Tryz.prog 29 #[.string (str (dayText y m d))] w fun e w' => e = .returned (.tuple #[.int .i64 (dayOf y m d), .nilIface]) ∧ Below w.heap.size w w' := by
  obtain ⟨f1, f2, f3, f4⟩ := dayText_form h
  have hm := h.month
  have e1 : (y.toNat : Int) = y := Int.toNat_of_nonneg (by have := h.1; omega)
  have e2 : (m.toNat : Int) = m := Int.toNat_of_nonneg (by omega)
  have e3 : (d.toNat : Int) = d := Int.toNat_of_nonneg (by have := h.2.2; omega)
  refine (Get_any (dayText y m d) w hw.lens).mono fun e w' h' => ?_
  have := h'.1.2.1 f1
  rw [f2, f3, f4, e1, e2, e3] at this
  exact ⟨this h, h'.2⟩
theorem Get_text (y m d : Int) (y0 : 0 ≤ y) (y1 : y ≤ 9999) (m0 : 0 ≤ m) (m1 : m ≤ 99) (d0 : 0 ≤ d) (d1 : d ≤ 99) (h : ¬ IsCivil y m d) (w : World) (hw : Wd w) :
    Calls Tryz.prog 29 #[.string (str (dayText y m d))] w fun e w' => e = .returned (.tuple #[.int .i64 0, errOf 4]) ∧ Below w.heap.size w w' := by
  obtain ⟨f1, f2, f3, f4⟩ := text_form y0 y1 m0 m1 d0 d1
  have e1 : (y.toNat : Int) = y := Int.toNat_of_nonneg y0
  have e2 : (m.toNat : Int) = m := Int.toNat_of_nonneg m0
  have e3 : (d.toNat : Int) = d := Int.toNat_of_nonneg d0
  refine (Get_any (dayText y m d) w hw.lens).mono fun e w' h' => ?_
  have := h'.1.2.2 f1
  rw [f2, f3, f4, e1, e2, e3] at this
  exact ⟨this h, h'.2⟩
end Go.Proofs.YtlhmfgbaefaneabGreatDoor.law6
namespace Go.Proofs.YtlhmfgbaefaneabGreatDoor.law6
open Go Go.RowKit Go.Maps
open Go.Proofs.YtlhmfgbaefaneabGreatDoor.ref (str)
def RV (v : Value) : Option (DataW Value × List MemPlace) := some (.held v, [])
theorem wpList_insert_own {P : Program} (w : World) {ops : Array Oper} {rest : List Oper} {o : Oper} {a : Act} {Q : Exit → Act → World → Prop}
    (hg : o.guard = none) (m x v : Operand) (t : TypeId) (hop : o.op = Op.insert t m x v)
    (k e : TypeId) (K : Keyed P k) (ht : P.underlying t = some (.map k e)) (b n : Nat) (D : DataW Value)
    (hm : a.eval m = .map (some b)) (hown : w.ownsMap P k RV b n D) (hn : n < maxLen) (key val : Value) (kl : Lit) (hx : a.eval x = key) (hv : a.eval v = val) (hkey : keyOf P k key = some kl)
    (hK : ∀ w', w'.ownsMap P k RV b (n + 1) (D.put kl (.held val)) → w.grownBy w' (some b) → wpList P ops Q rest (a.put o.dst undef) w') :
    wpList P ops Q (o :: rest) a w := by
  refine wpList_plain hg fun K' hK' => ?_
  obtain ⟨w', hrun, r1, r2⟩ := hown.update K ht hn hkey (show RV val = some (.held val, []) from rfl)
  unfold Oper.wp
  simp [execOp, hop, hm, hx, hv, hrun, Result.andThen]
  exact hK' _ _ (hK w' r1 r2)
theorem same_eq {a b : Lit} (h : a.sameKey b = true) : a = b := by
  by_cases e : a = b
  · exact e
  · rw [sameKey_ne e] at h; cases h
theorem entry_of (L : List (Lit × DataW Value)) (kl : Lit) (h : has (.map L) kl = true) : ∃ p ∈ L, p.1 = kl ∧ ∀ zd, (DataW.map L).atKey kl zd = p.2 := by
  rw [has_eq] at h
  cases hf : L.find? (fun p => p.1.sameKey kl) with
  | none =>
    rw [List.any_eq_true] at h
    obtain ⟨p, hp, hs⟩ := h
    have := List.find?_eq_none.1 hf p hp
    rw [hs] at this
    exact absurd rfl this
  | some p =>
    refine ⟨p, List.mem_of_find?_eq_some hf, same_eq (by have := List.find?_some hf; simpa using this), fun zd => ?_⟩
    unfold DataW.atKey
    simp only [hf]
theorem string_key {P : Program} {k : TypeId} (hk : P.underlying k = some .string) {s : ByteArray} {kl : Lit} (h : keyOf P k (.string s) = some kl) : kl = .string s.data.toList := by
  rw [keyOf_string hk] at h
  unfold mapKey at h
  rw [hk] at h
  simp only at h
  split at h
  · exact (Option.some.inj h).symm
  · cases h
theorem string_inv {P : Program} {k : TypeId} (hk : P.underlying k = some .string) (key : Value) (kl : Lit) (h : keyOf P k key = some kl) : ∃ x, key = .string x := by
  rw [keyOf_string hk] at h
  unfold mapKey at h
  rw [hk] at h
  cases key <;> simp at h
  exact ⟨_, rfl⟩
theorem grown_of {w w' : World} (h : Below w.heap.size w w') (row : Option Nat) : w.grownBy w' row := ⟨h.os, h.tape, h.output, h.size, fun k hk _ => h.block k hk⟩
theorem str_of {s : ByteArray} {l : List UInt8} (h : (Lit.string s.data.toList) = .string l) : s = str l := by
  have e := Lit.string.inj h
  cases s with
  | mk d =>
    simp only at e
    subst e
    simp [str]
end Go.Proofs.YtlhmfgbaefaneabGreatDoor.law6
namespace Go.Proofs.YtlhmfgbaefaneabGreatDoor.day
open Go.Proofs.YtlhmfgbaefaneabGreatDoor.ref (str pad pad_cons)
open Go.Proofs.YtlhmfgbaefaneabGreatDoor.ref6 (dayText)
def Before (y m d y' m' d' : Int) : Prop := y < y' ∨ (y = y' ∧ (m < m' ∨ (m = m' ∧ d < d')))
instance (y m d y' m' d' : Int) : Decidable (Before y m d y' m' d') := by unfold Before; infer_instance
theorem Before.lt {y m d y' m' d' : Int} (h : IsCivil y m d) (h' : IsCivil y' m' d') (hb : Before y m d y' m' d') : dayOf y m d < dayOf y' m' d' := by
  rcases hb with hy | ⟨rfl, hm | ⟨rfl, hd⟩⟩
  · have a := dayOf_year h
    have b := dayOf_year h'
    have := ydays_mono (show (y - 1900).toNat + 1 ≤ (y' - 1900).toNat by have := h.1; omega)
    have e : ((y' - 1900).toNat : Int) - ((y - 1900).toNat + 1 : Nat) ≥ 0 := by have := h.1; omega
    omega
  · have a := dayOf_in h
    have b := dayOf_in h'
    have hm1 := h.month
    have := mdays_mono (y := y) (show m.toNat ≤ (m' - 1).toNat by omega)
    omega
  · unfold dayOf
    omega
end Go.Proofs.YtlhmfgbaefaneabGreatDoor.day
