/-
  The steps of the walks, part 0: what the shared parts lack.
-/
import Derived.Test.YtfpooimjjpamoaaGreatDoorProg
import Derived.WalkKit
import Derived.WalkSpells
import Derived.Lib.Hide
import Derived.OwnWalk
import Derived.Below
import Derived.Carry
import Derived.Outline
import Derived.Deep.Draws
import Derived.Laws.Externs
import Derived.Laws.Bits64b
import Derived.Lib.Mul64
import Derived.BigQuiet
import Derived.Deep.QuietTactic
import Derived.Tactics2
import Derived.Lib.Strings
import Derived.Lib.Slices
import Derived.Lib.Small
import Derived.Lib.Walk
import Derived.Lib.BitFns
import Derived.Laws.CopyOwn
import Derived.Laws.AppendOwnNone
import Derived.Lib.SliceRun
import Derived.Deep.RegionHeld3
import Derived.BigRegion
import Derived.Lib.ItoaNum
import Derived.Laws.MakeOwn
import Derived.LaidEql
import Derived.LaidEqlPtr
import Derived.Lib.IfaceEq
import Derived.Stop.Asserts
import Derived.Stop.IfaceNil
import Derived.RowKitTokens
import Derived.Recover
import Derived.Laws.IdiomStrings
import Derived.RegionTactic
import Derived.Lib.Bytealg
import Derived.MapKept
import Derived.Deep.LoopGhost
import Derived.Lib.Builder
import Derived.Lib.AppendStr
import Derived.Lib.UnsafeStr
import Derived.Deep.RegionWith
import Derived.Test.YtfpooimjjpamoaaGreatDoorF01
import Derived.Test.YtfpooimjjpamoaaGreatDoorF02
import Derived.Test.YtfpooimjjpamoaaGreatDoorF03
import Derived.Test.YtfpooimjjpamoaaGreatDoorF04
import Derived.Test.YtfpooimjjpamoaaGreatDoorF05
import Derived.Test.YtfpooimjjpamoaaGreatDoorF06
import Derived.Test.YtfpooimjjpamoaaGreatDoorF07
import Derived.Test.YtfpooimjjpamoaaGreatDoorF08
import Derived.Test.YtfpooimjjpamoaaGreatDoorF09
import Derived.Test.YtfpooimjjpamoaaGreatDoorF10
import Derived.Test.YtfpooimjjpamoaaGreatDoorF11
import Derived.Test.YtfpooimjjpamoaaGreatDoorF12
import Derived.Test.YtfpooimjjpamoaaGreatDoorF13
import Derived.Test.YtfpooimjjpamoaaGreatDoorF14
import Derived.Test.YtfpooimjjpamoaaGreatDoorF15
import Derived.Test.YtfpooimjjpamoaaGreatDoorF16
import Derived.Test.YtfpooimjjpamoaaGreatDoorF17
import Derived.Test.YtfpooimjjpamoaaGreatDoorF18
import Derived.Test.YtfpooimjjpamoaaGreatDoorF19
import Derived.Test.YtfpooimjjpamoaaGreatDoorF20
import Derived.Test.YtfpooimjjpamoaaGreatDoorF21
import Derived.Test.YtfpooimjjpamoaaGreatDoorF22
import Derived.Test.YtfpooimjjpamoaaGreatDoorF23
import Derived.Test.YtfpooimjjpamoaaGreatDoorS01
import Derived.Test.YtfpooimjjpamoaaGreatDoorS02
import Derived.Test.YtfpooimjjpamoaaGreatDoorS03
import Derived.Test.YtfpooimjjpamoaaGreatDoorS04
import Derived.Test.YtfpooimjjpamoaaGreatDoorS05
import Derived.Test.YtfpooimjjpamoaaGreatDoorS06
import Derived.Test.YtfpooimjjpamoaaGreatDoorS07
import Derived.Test.YtfpooimjjpamoaaGreatDoorS08
import Derived.Test.YtfpooimjjpamoaaGreatDoorS09
import Derived.Test.YtfpooimjjpamoaaGreatDoorS10
import Derived.Test.YtfpooimjjpamoaaGreatDoorS11
import Derived.Test.YtfpooimjjpamoaaGreatDoorS12
import Derived.Test.YtfpooimjjpamoaaGreatDoorS13
import Derived.Test.YtfpooimjjpamoaaGreatDoorS14
import Derived.Test.YtfpooimjjpamoaaGreatDoorS15
import Derived.Test.YtfpooimjjpamoaaGreatDoorS16
import Derived.Test.YtfpooimjjpamoaaGreatDoorS17
import Derived.Test.YtfpooimjjpamoaaGreatDoorS18
import Derived.Test.YtfpooimjjpamoaaGreatDoorS19
import Derived.Test.YtfpooimjjpamoaaGreatDoorS20
import Derived.Test.YtfpooimjjpamoaaGreatDoorS21
import Derived.Test.YtfpooimjjpamoaaGreatDoorS22
import Derived.Test.YtfpooimjjpamoaaGreatDoorS23
import Derived.Test.YtfpooimjjpamoaaGreatDoorS24
import Derived.Test.YtfpooimjjpamoaaGreatDoorS25
import Derived.Test.YtfpooimjjpamoaaGreatDoorS26
namespace Go.Proofs.YtfpooimjjpamoaaGreatDoor.law2
open Go.RowKit Go.Proofs.YtfpooimjjpamoaaGreatDoor.nat
open Go.Proofs.YtfpooimjjpamoaaGreatDoor.ref (str str_size str_append ch seg IsDig Numeral seg_lt)
theorem Front.numeral {t : List UInt8} {n : Nat} (h : Front t n) (hn : n ≤ 4000) (hne : t ≠ []) : Numeral t :=
  ⟨List.length_pos_iff.2 hne, by have := h.1; omega, fun _ => h.2.1 hne, h.2.2⟩
def DRel (w : World) (l : List UInt8) (n : Nat) (tv iv : Value) (wr : World) : Prop :=
  w = wr ∧ ∃ (t : List UInt8) (i : Nat), i ≤ l.length ∧ iv = .int .i64 i ∧ tv = .string (str t) ∧ Front t n
set_option maxRecDepth 100000 in
set_option maxHeartbeats 4000000 in
theorem Digits_any (l : List UInt8) (n : Nat) (w : World) (hl : l.length ≤ 4611686018427387904) (hn : n ≤ 4000) :
    Calls Tryz.prog 101 #[.string (str l), .int .i64 (n : Nat)] w fun e w' => ∃ t, e = .returned (.string (str t)) ∧ (Numeral t ∧ t.length ≤ max n 1) ∧ w = w' := by
  have hz : (str l).size = l.length := str_size l
  have HG := Lib.hid (fun i (h : i < (str l).size) => ch_get (l := l) h)
  have HX := Lib.hid (fun i (h : i < l.length) => (show (str l).extract i (i + 1) = str [UInt8.ofNat (ch l i)] ∧ ch l i < 256 from by
    have hc : ch l i = l[i].toNat := by simp [ch, h]
    have he : UInt8.ofNat (ch l i) = l[i] := by rw [hc, UInt8.ofNat_toNat]
    refine ⟨?_, by rw [hc]; exact l[i].toNat_lt⟩
    rw [he]
    apply ByteArray.ext
    simp [str, List.take_one, h]))
  obtain ⟨N, hN⟩ : ∃ N, l.length = N := ⟨_, rfl⟩
  rw [hN] at hz HX hl
  have HN := Lib.hid hN
  generalize str l = s at *
  clear hN
  go_enter Tryz.func101, Tryz.ntmps101
  go_wp2
  go_loopw [5, 6] (fun tv iv wr => DRel w l n tv iv wr) (fun _ iv _ => N - (intOf iv).toNat)
  case atStart => exact ⟨rfl, [], 0, Nat.zero_le _, rfl, rfl, by simp, fun h => absurd rfl h, fun i hi => by simp at hi⟩
  case round =>
    obtain ⟨rfl, t, i, hi, rfl, rfl, hF⟩ := hrel
    rw [HN.out] at hi
    have HF := Lib.hid hF
    have hts : (str t).size = t.length := str_size t
    have hte : (str t).toList.isEmpty = t.isEmpty := by rw [ByteArray.toList_eq]; rfl
    have htn := hF.1
    by_cases hgo : i < N ∧ t.length < n
    · obtain ⟨hiN, htl⟩ := hgo
      obtain ⟨hx, hc256⟩ := HX.out i hiN
      have hgk : ∀ h : i < s.size, (s[i]'h).toNat = ch l i := fun h => HG.out _ h
      have HNext := Lib.hid (fun h1 h2 h3 => hF.next (c := UInt8.ofNat (ch l i)) htl h1 h2 h3)
      have HTo := Lib.hid (show (UInt8.ofNat (ch l i)).toNat = ch l i by rw [UInt8.toNat_ofNat']; omega)
      have HAp := Lib.hid (str_append t [UInt8.ofNat (ch l i)])
      have hs1 : (str [UInt8.ofNat (ch l i)]).size = 1 := rfl
      have hcat : ¬ 9223372036854775807 < (str t).size + (str [UInt8.ofNat (ch l i)]).size := by omega
      generalize str [UInt8.ofNat (ch l i)] = one at *
      generalize hcc : ch l i = c at *
      have HSt := Lib.hid (show str t = str t from rfl)
      clear hcc hF
      by_cases h1 : c < 48
      · go_wp2
        refine ⟨?_, ?_⟩
        · exact ⟨rfl, t, i + 1, by rw [HN.out]; omega, by go_num, rfl, HF.out⟩
        · simp [intOf]; omega
      · by_cases h2 : 57 < c
        · go_wp2
          refine ⟨?_, ?_⟩
          · exact ⟨rfl, t, i + 1, by rw [HN.out]; omega, by go_num, rfl, HF.out⟩
          · simp [intOf]; omega
        · rcases t with _ | ⟨d, t⟩
          · have hte2 : (str []).toList.isEmpty = true := hte
            by_cases h48 : c = 48
            · subst h48
              go_wp2
              refine ⟨?_, ?_⟩
              · exact ⟨rfl, [], i + 1, by rw [HN.out]; omega, by go_num, rfl, HF.out⟩
              · simp [intOf]; omega
            · have hc48 : ((c : Int) == 48) = false := by simp only [beq_eq_false_iff_ne, ne_eq]; omega
              have HR := Lib.hid (HNext.out (by rw [HTo.out]; omega) (by rw [HTo.out]; omega) (Or.inr (by rw [HTo.out]; omega)))
              go_wp2
              refine ⟨?_, ?_⟩
              · exact ⟨rfl, _, i + 1, by rw [HN.out]; omega, by go_num, by rw [HAp.out], HR.out⟩
              · simp [intOf]; omega
          · have hte2 : (str (d :: t)).toList.isEmpty = false := hte
            have hlt2 : ((t.length : Int) + 1) < (n : Int) := by have := htl; simp at this; omega
            have HR := Lib.hid (HNext.out (by rw [HTo.out]; omega) (by rw [HTo.out]; omega) (Or.inl (by simp)))
            generalize str (d :: t) = st at *
            go_wp2
            refine ⟨?_, ?_⟩
            · exact ⟨rfl, _, i + 1, by rw [HN.out]; omega, by go_num, by rw [HAp.out], HR.out⟩
            · simp [intOf]; omega
    · rcases t with _ | ⟨d, t⟩
      · have hte2 : (str []).toList.isEmpty = true := hte
        have h0 : Numeral [48] := by
          refine ⟨by simp, by simp, fun h => by simp at h, fun i hi => ?_⟩
          have : i = 0 := by simp at hi; omega
          subst this
          exact ⟨by decide, by decide⟩
        have HNum := Lib.hid h0
        clear hF h0
        rcases Nat.lt_or_ge i N with hiN | hiN
        · have hn0 : n = 0 := by
            rcases Nat.eq_zero_or_pos n with h | h
            · exact h
            · exact absurd ⟨hiN, by simpa using h⟩ hgo
          subst hn0
          clear hgo
          go_wp2
          go_ret
          exact ⟨[48], rfl, ⟨HNum.out, by simp⟩, rfl⟩
        · obtain rfl : i = N := by omega
          clear hgo
          go_wp2
          go_ret
          exact ⟨[48], rfl, ⟨HNum.out, by simp; omega⟩, rfl⟩
      · have hte2 : (str (d :: t)).toList.isEmpty = false := hte
        have HNum := Lib.hid (hF.numeral hn (by simp))
        have HLe := Lib.hid hF.1
        have hnot : ¬ (i < N ∧ (d :: t).length < n) := hgo
        generalize hst : str (d :: t) = st at *
        have HSt := Lib.hid hst
        clear hF hst hgo
        rcases Nat.lt_or_ge i N with hiN | hiN
        · have hlt2 : ¬ ((t.length : Int) + 1) < (n : Int) := by
            intro h
            exact hnot ⟨hiN, by simp; omega⟩
          clear hnot
          go_wp2
          go_ret
          exact ⟨d :: t, by rw [HSt.out]; rfl, ⟨HNum.out, by have := HLe.out; omega⟩, rfl⟩
        · obtain rfl : i = N := by omega
          clear hnot
          go_wp2
          go_ret
          exact ⟨d :: t, by rw [HSt.out]; rfl, ⟨HNum.out, by have := HLe.out; omega⟩, rfl⟩
end Go.Proofs.YtfpooimjjpamoaaGreatDoor.law2
namespace Go.Proofs.YtfpooimjjpamoaaGreatDoor.plan
open Go
theorem beqN {a b : Nat} : Nat.beq a b = true ↔ a = b := ⟨Nat.eq_of_beq_eq_true, fun h => h ▸ Nat.beq_refl a⟩
def bits : List Nat → Nat
  | [] => 0
  | i :: l => Nat.lor (bits l) (Nat.pow 2 i)
theorem testBit_bits (l : List Nat) (j : Nat) : (bits l).testBit j = decide (j ∈ l) := by
  induction l with
  | nil => simp [bits]
  | cons i l ih =>
    show (bits l ||| 2 ^ i).testBit j = _
    rw [Nat.testBit_or, ih, Nat.testBit_two_pow]
    by_cases h : i = j
    · subst h; simp
    · simp [h, Ne.symm h]
theorem sub_bits {a L : Nat} (h : Nat.land a L = a) {k : Nat} (hk : a.testBit k = true) : L.testBit k = true := by
  have h1 : (a &&& L).testBit k = true := by rw [show a &&& L = a from h]; exact hk
  rw [Nat.testBit_and] at h1; simp at h1; exact h1.2
theorem bits_sub {a L : Nat} (h : ∀ k, a.testBit k = true → L.testBit k = true) : Nat.land a L = a := by
  refine Nat.eq_of_testBit_eq (x := a &&& L) fun k => ?_
  rw [Nat.testBit_and]
  cases ha : a.testBit k with
  | false => rfl
  | true => rw [h k ha]; rfl
theorem off_bits {a b : List Nat} (h : Nat.land (bits a) (bits b) = 0) {x : Nat} (ha : x ∈ a) : x ∉ b := fun hb => by
  have h1 : (bits a &&& bits b).testBit x = false := by rw [show bits a &&& bits b = 0 from h]; simp
  rw [Nat.testBit_and, testBit_bits, testBit_bits] at h1
  simp [ha, hb] at h1
structure Row where
  A : Nat
  D : Nat
  K : Nat
def row (md : Region.Mode) (ops : Array Oper) (o : Oper) : Row := ⟨bits ((o.after.toList.filter (Region.binds md)).map (·.on)), bits o.dst.toList, bits (o.looksAt ops)⟩
def rows (md : Region.Mode) (ops : Array Oper) : List Row := ops.toList.map (row md ops)
def allAt (f : Nat → Row → Bool) : Nat → List Row → Bool
  | _, [] => true
  | j, r :: l => f j r && allAt f (Nat.succ j) l
theorem allAt_spec {f : Nat → Row → Bool} : ∀ (l : List Row) (k : Nat), allAt f k l = true → ∀ j r, l[j]? = some r → f (k + j) r = true
  | [], _, _, _, _, h => by simp at h
  | q :: l, k, h, j, r, hj => by
    simp only [allAt, Bool.and_eq_true] at h
    cases j with
    | zero => simp at hj; subst hj; exact h.1
    | succ j =>
      have := allAt_spec l (k + 1) h.2 j r (by simpa using hj)
      rwa [Nat.add_assoc, Nat.add_comm 1 j] at this
def readyAt (L j : Nat) (r : Row) : Bool := !L.testBit j && Nat.beq (Nat.land r.A L) r.A
def aside (L i : Nat) (r : Row) (j : Nat) (q : Row) : Bool := Nat.beq j i || (L.testBit j || (q.A.testBit i || (Nat.beq (Nat.land r.D q.K) 0 && (Nat.beq (Nat.land r.D q.D) 0 && Nat.beq (Nat.land q.D r.K) 0))))
def stepB (T : List Row) (L i : Nat) (call : Bool) : Bool :=
  match T[i]? with
  | none => false
  | some r => readyAt L i r && (match call with
    | true => allAt (fun j q => Nat.beq j i || !readyAt L j q) 0 T
    | false => allAt (aside L i r) 0 T)
def planB (T : List Row) : List (Nat × Bool) → Nat → Bool
  | [], L => allAt (fun j _ => L.testBit j) 0 T
  | (i, c) :: l, L => stepB T L i c && planB T l (Nat.lor L (Nat.pow 2 i))
section
variable {P : Program} {ops : Array Oper} {Q : Exit → Act → World → Prop} {md : Region.Mode} {S : World → Prop}
theorem rows_at {i : Nat} {r : Row} (h : (rows md ops)[i]? = some r) : ∃ o, ops[i]? = some o ∧ r = row md ops o := by
  unfold rows at h
  rw [List.getElem?_map, Array.getElem?_toList] at h
  cases ho : ops[i]? with
  | none => simp [ho] at h
  | some o => simp [ho] at h; exact ⟨o, rfl, h.symm⟩
theorem at_rows {i : Nat} {o : Oper} (h : ops[i]? = some o) : (rows md ops)[i]? = some (row md ops o) := by
  unfold rows
  rw [List.getElem?_map, Array.getElem?_toList, h]; rfl
def Rel (L : Nat) (listed : Array Bool) : Prop := ∀ j, L.testBit j = listed.getD j false
theorem Rel.true_of {L : Nat} {listed : Array Bool} (hR : Rel L listed) (hs : listed.size = ops.size) {j : Nat} {o : Oper} (ho : ops[j]? = some o) : listed.getD j true = L.testBit j := by
  have hlt : j < ops.size := (Array.getElem?_eq_some_iff.1 ho).1
  rw [hR j]
  simp [Array.getD_eq_getD_getElem?, show j < listed.size by omega]
theorem Rel.set {L : Nat} {listed : Array Bool} (hR : Rel L listed) {i : Nat} (hi : i < listed.size) : Rel (Nat.lor L (Nat.pow 2 i)) (listed.setIfInBounds i true) := fun j => by
  show (L ||| 2 ^ i).testBit j = _
  rw [Nat.testBit_or, Nat.testBit_two_pow, hR j]
  by_cases h : i = j
  · subst h; simp [Array.getD_eq_getD_getElem?, hi]
  · simp [h, Array.getD_eq_getD_getElem?, Array.getElem?_setIfInBounds_ne]
theorem ready_iff {L : Nat} {listed : Array Bool} (hR : Rel L listed) (hs : listed.size = ops.size) {j : Nat} {o : Oper} (ho : ops[j]? = some o) :
    j ∈ Region.ready md ops listed ↔ readyAt L j (row md ops o) = true := by
  rw [mem_ready]
  unfold readyAt
  rw [hR.true_of hs ho]
  simp only [ho, Option.some.injEq, exists_eq_left', Bool.and_eq_true, Bool.not_eq_true']
  refine and_congr Iff.rfl ?_
  constructor
  · intro h
    refine beqN.2 (bits_sub fun k hk => ?_)
    simp only [row] at hk
    rw [testBit_bits] at hk
    obtain ⟨e, he, rfl⟩ := List.mem_map.1 (of_decide_eq_true hk)
    obtain ⟨he, hb⟩ := List.mem_filter.1 he
    rw [hR]; exact h e (by simpa using he) hb
  · intro h e he hb
    rw [← hR]
    refine sub_bits (beqN.1 h) ?_
    simp only [row]
    rw [testBit_bits]
    exact decide_eq_true (List.mem_map.2 ⟨e, List.mem_filter.2 ⟨by simpa using he, hb⟩, rfl⟩)
theorem apart_of {oi oj : Oper} (h1 : Nat.land (row md ops oi).D (row md ops oj).K = 0) (h2 : Nat.land (row md ops oi).D (row md ops oj).D = 0) (h3 : Nat.land (row md ops oj).D (row md ops oi).K = 0) : oi.apart ops oj = true := by
  simp only [row] at h1 h2 h3
  unfold Oper.apart
  rw [Bool.and_eq_true]
  constructor
  · cases hd : oi.dst with
    | none => rfl
    | some d =>
      have m1 : d ∉ oj.looksAt ops := off_bits h1 (by rw [hd]; simp)
      have m2 : d ∉ oj.dst.toList := off_bits h2 (by rw [hd]; simp)
      have m3 : oj.dst ≠ some d := fun h => m2 (by rw [h]; simp)
      simp [m1, m3]
  · cases hd : oj.dst with
    | none => rfl
    | some d =>
      have m1 : d ∉ oi.looksAt ops := off_bits h3 (by rw [hd]; simp)
      simp [m1]
def wpPlan (P : Program) (ops : Array Oper) (Q : Exit → Act → World → Prop) (S : World → Prop) : List (Nat × Bool) → Act → World → Prop
  | [], a, w => Q .normal a w
  | (i, false) :: l, a, w => ∃ oi v, ops[i]? = some oi ∧ YieldsIf P ops S oi v a ∧ wpPlan P ops Q S l (a.put oi.dst v) w
  | (i, true) :: l, a, w => wpOp P ops Q i (fun a' w' => S w' ∧ (S w' → wpPlan P ops Q S l a' w')) a w
theorem wpPlan_take {i : Nat} {l : List (Nat × Bool)} {o : Oper} {v : Value} {a : Act} {w : World} (ho : ops[i]? = some o) (hy : YieldsIf P ops S o v a) (h : wpPlan P ops Q S l (a.put o.dst v) w) : wpPlan P ops Q S ((i, false) :: l) a w :=
  ⟨o, v, ho, hy, h⟩
theorem wpPlan_call {i : Nat} {l : List (Nat × Bool)} {o : Oper} {a : Act} {w : World} (ho : ops[i]? = some o)
    (h : ∀ K' : Act → World → Prop, Shut (∀ a w, S w → (S w → wpPlan P ops Q S l a w) → K' a w) → if Region.wanted o (yielded ops a.tmps) = true then Oper.wp P o a w K' Q else K' (a.put o.dst undef) w) : wpPlan P ops Q S ((i, true) :: l) a w :=
  wpOp_step ho (fun K' hK => h K' (fun a w hS hW => hK a w ⟨hS, hW⟩))
theorem wpPlan_done {a : Act} {w : World} (h : Q .normal a w) : wpPlan P ops Q S [] a w := h
theorem wpPlan.anyH (hsel : Region.noSelect ops = true) (hQ : ∀ c a d v w, Q (.panic c) (a.put d v) w → Q (.panic c) a w) : ∀ (l : List (Nat × Bool)) (L : Nat) (listed : Array Bool) (a : Act) (w : World),
    Rel L listed → listed.size = ops.size → planB (rows md ops) l L = true → S w → wpPlan P ops Q S l a w → wpAnyH P md ops Q S l.length listed a w
  | [], L, listed, a, w, hR, hs, hB, _, h => by
    refine wpAnyH_done ?_ h _
    refine List.eq_nil_iff_forall_not_mem.2 fun j hj => ?_
    obtain ⟨h0, o, ho, _⟩ := mem_ready.1 hj
    have h1 := allAt_spec _ _ hB j _ (at_rows ho)
    rw [hR.true_of hs ho] at h0
    rw [Nat.zero_add] at h1
    rw [h0] at h1; cases h1
  | (i, c) :: l, L, listed, a, w, hR, hs, hB, hS, h => by
    simp only [planB, Bool.and_eq_true] at hB
    obtain ⟨hB1, hB2⟩ := hB
    unfold stepB at hB1
    cases hr : (rows md ops)[i]? with
    | none => rw [hr] at hB1; cases hB1
    | some r =>
      rw [hr] at hB1
      obtain ⟨o, ho, rfl⟩ := rows_at hr
      simp only [Bool.and_eq_true] at hB1
      obtain ⟨hrd, hB1⟩ := hB1
      have hlt : i < listed.size := by rw [hs]; exact (Array.getElem?_eq_some_iff.1 ho).1
      have hmem := (ready_iff (md := md) hR hs ho).2 hrd
      cases c with
      | false =>
        obtain ⟨oi, v, hoi, hy, hw⟩ := h
        rw [ho] at hoi; cases hoi
        refine wpAnyH_first ho (Region.noSelect_spec hsel) (fun c a w => hQ c a _ v w) l.length listed a w (fun j oj hj hne hun hno => ?_) hmem hy hS
          (wpPlan.anyH hsel hQ l _ _ _ _ (hR.set hlt) (by simpa using hs) hB2 hS hw)
        have h1 := allAt_spec _ _ hB1 j _ (at_rows hj)
        rw [Nat.zero_add] at h1
        unfold aside at h1
        rw [hR.true_of hs hj] at hun
        simp only [Bool.or_eq_true, Bool.and_eq_true, hun, Bool.false_eq_true, false_or] at h1
        rcases h1 with h1 | h1 | ⟨h1, h2, h3⟩
        · exact absurd (beqN.1 h1) hne
        · simp only [row] at h1
          rw [testBit_bits] at h1
          obtain ⟨e, he, he2⟩ := List.mem_map.1 (of_decide_eq_true h1)
          obtain ⟨he, hb⟩ := List.mem_filter.1 he
          exact absurd he2 (hno e (by simpa using he) hb)
        · exact apart_of (beqN.1 h1) (beqN.1 h2) (beqN.1 h3)
      | true =>
        refine wpAnyH_all (rs := Region.ready md ops listed) rfl (List.ne_nil_of_mem hmem) fun j hj => ?_
        obtain ⟨_, oj, hoj, _⟩ := mem_ready.1 hj
        have h1 := allAt_spec _ _ hB1 j _ (at_rows hoj)
        rw [Nat.zero_add, (ready_iff (md := md) hR hs hoj).1 hj] at h1
        simp only [Bool.not_true, Bool.or_false] at h1
        have := beqN.1 h1; subst this
        refine wpOp_mono (fun a' w' h3 => ⟨h3.1, wpPlan.anyH hsel hQ l _ _ _ _ (hR.set hlt) (by simpa using hs) hB2 h3.1 (h3.2 h3.1)⟩) h
theorem region_plan {id : Nat} {a : Act} {w : World} {l : List (Nat × Bool)} (hm : P.follows .mixedOrders = true) (hsel : Region.noSelect ops = true) (hlen : l.length = ops.size) (hB : planB (rows .any ops) l 0 = true)
    (hQ : ∀ c a d v w, Q (.panic c) (a.put d v) w → Q (.panic c) a w) (hS : S w.drew) (h : S w.drew → wpPlan P ops Q S l a w.drew) : (Code.region id ops true).wp P Q a w := by
  refine wp_region_held_drew hm hS fun hS => ?_
  have := wpPlan.anyH (md := .any) hsel hQ l 0 (Array.replicate ops.size false) a w.drew (fun j => by simp [Array.getD_eq_getD_getElem?, Array.getElem?_replicate]; split <;> rfl) (by simp) hB hS (h hS)
  rwa [hlen] at this
end
#print axioms region_plan
end Go.Proofs.YtfpooimjjpamoaaGreatDoor.plan
