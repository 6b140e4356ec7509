/-
  The steps of the walks, part 11: CalF, CalG, Read, RefA, RefMul, RefSub, RefDv, RefInt, RefQ.
-/
import Derived.Test.YtlhmfgbaefaneabGreatDoorProg
import Derived.WalkKit
import Derived.WalkSpells
import Derived.Lib.Hide
import Derived.OwnWalk
import Derived.Below
import Derived.Carry
import Derived.Outline
import Derived.BigQuiet
import Derived.Deep.QuietTactic
import Derived.Laws.MakeOwn
import Derived.Laws.AppendOwnNone
import Derived.RegionTactic
import Derived.BigRegion
import Derived.Laws.IdiomStrings
import Derived.StillTailTactics
import Derived.Deep.RegionHeld3
import Derived.Test.YtlhmfgbaefaneabGreatDoorB10
import Derived.Test.YtlhmfgbaefaneabGreatDoorB04
namespace Go.Proofs.YtlhmfgbaefaneabGreatDoor.cal
open Go Go.RowKit Go.Proofs.YtlhmfgbaefaneabGreatDoor.day Go.Proofs.YtlhmfgbaefaneabGreatDoor.date Go.Proofs.YtlhmfgbaefaneabGreatDoor.law6
open Go.Proofs.YtlhmfgbaefaneabGreatDoor.ref6 (CalT openB Rule May holiday RAt quiet_same drewN_below6)
def zeros : List Nat := List.replicate 1713 0
theorem zero_cells : Tryz.zeroCells83 = (zeros.map fun d => Value.int .u64 (d : Nat)).toArray := by kernel_rfl
theorem zero_row (w : World) : CRow (w.alloc (.cells Tryz.zeroCells83 83)) w.heap.size zeros := by
  refine ⟨by unfold zeros; rw [List.length_replicate], fun x hx => ?_, ?_⟩
  · unfold zeros at hx
    rw [(List.mem_replicate.1 hx).2]
    decide
  · rw [← zero_cells]
    exact heap_alloc_new _ _
theorem zero_bit (D : Nat) : bitN zeros D = false := bit_zero _ _
def rulesTo (rs : List Rule) (k : Nat) (D : Int) : Prop := ∃ (j : Nat) (r : Rule), j < k ∧ rs[j]? = some r ∧ ruleShut r 2200 D
def moreTo (ms : List Int) (k : Nat) (D : Int) : Prop := ∃ j : Nat, j < k ∧ ms[j]? = some D
theorem rulesTo_next {rs : List Rule} {k : Nat} {r : Rule} (h : rs[k]? = some r) (D : Int) : rulesTo rs (k + 1) D ↔ rulesTo rs k D ∨ ruleShut r 2200 D := by
  constructor
  · rintro ⟨j, q, hj, hq, hs⟩
    rcases (show j < k ∨ j = k by omega) with h1 | rfl
    · exact Or.inl ⟨j, q, h1, hq, hs⟩
    · rw [h] at hq; cases hq; exact Or.inr hs
  · rintro (⟨j, q, hj, hq, hs⟩ | hs)
    · exact ⟨j, q, by omega, hq, hs⟩
    · exact ⟨k, r, by omega, h, hs⟩
theorem moreTo_next {ms : List Int} {k : Nat} {z : Int} (h : ms[k]? = some z) (D : Int) : moreTo ms (k + 1) D ↔ moreTo ms k D ∨ D = z := by
  constructor
  · rintro ⟨j, hj, hq⟩
    rcases (show j < k ∨ j = k by omega) with h1 | rfl
    · exact Or.inl ⟨j, h1, hq⟩
    · rw [h] at hq; cases hq; exact Or.inr rfl
  · rintro (⟨j, hj, hq⟩ | rfl)
    · exact ⟨j, by omega, hq⟩
    · exact ⟨k, by omega, h⟩
theorem shut_one (rs : List Rule) (ms : List Int) (D : Int) : shut [⟨rs, ms⟩] D ↔ rulesTo rs rs.length D ∨ moreTo ms ms.length D := by
  unfold shut rulesShut rulesTo moreTo
  constructor
  · rintro ⟨c, hc, h⟩
    simp only [List.mem_singleton] at hc
    subst hc
    rcases h with ⟨r, hr, hs⟩ | h
    · obtain ⟨j, hj⟩ := List.mem_iff_getElem?.1 hr
      exact Or.inl ⟨j, r, (List.getElem?_eq_some_iff.1 hj).1, hj, hs⟩
    · obtain ⟨j, hj⟩ := List.mem_iff_getElem?.1 h
      exact Or.inr ⟨j, (List.getElem?_eq_some_iff.1 hj).1, hj⟩
  · rintro (⟨j, r, -, hj, hs⟩ | ⟨j, -, hj⟩)
    · exact ⟨_, List.mem_singleton.2 rfl, Or.inl ⟨r, List.mem_of_getElem? hj, hs⟩⟩
    · exact ⟨_, List.mem_singleton.2 rfl, Or.inr (List.mem_of_getElem? hj)⟩
theorem code_far {rs : List Rule} {ms : List Int} (h : 20 < rs.length ∨ 100 < ms.length) : newCode rs ms = 2 := if_pos h
theorem code_rule {rs : List Rule} {ms : List Int} (h1 : ¬ (20 < rs.length ∨ 100 < ms.length)) {k : Nat} {r : Rule} (h : rs[k]? = some r) (hm : ¬ May r) : newCode rs ms = 1 := by
  unfold newCode
  rw [if_neg h1, if_pos]
  rw [List.all_eq_false]
  exact ⟨r, List.mem_of_getElem? h, by simpa using hm⟩
theorem code_day {rs : List Rule} {ms : List Int} (h1 : ¬ (20 < rs.length ∨ 100 < ms.length)) (hr : ∀ (j : Nat) (r : Rule), rs[j]? = some r → May r) {k : Nat} {z : Int} (h : ms[k]? = some z) (hm : ¬ IsDay z) : newCode rs ms = 4 := by
  unfold newCode
  rw [if_neg h1, if_neg, if_pos]
  · rw [List.all_eq_false]
    exact ⟨z, List.mem_of_getElem? h, by simpa using hm⟩
  · rw [Bool.not_eq_false, List.all_eq_true]
    intro r hr'
    obtain ⟨j, hj⟩ := List.mem_iff_getElem?.1 hr'
    exact decide_eq_true (hr j r hj)
theorem code_ok {rs : List Rule} {ms : List Int} (h1 : ¬ (20 < rs.length ∨ 100 < ms.length)) (hr : ∀ (j : Nat) (r : Rule), rs[j]? = some r → May r) (hd : ∀ (j : Nat) (z : Int), ms[j]? = some z → IsDay z) : newCode rs ms = 0 := by
  unfold newCode
  rw [if_neg h1, if_neg, if_neg]
  · rw [Bool.not_eq_false, List.all_eq_true]
    intro z hz
    obtain ⟨j, hj⟩ := List.mem_iff_getElem?.1 hz
    exact decide_eq_true (hd j z hj)
  · rw [Bool.not_eq_false, List.all_eq_true]
    intro r hr'
    obtain ⟨j, hj⟩ := List.mem_iff_getElem?.1 hr'
    exact decide_eq_true (hr j r hj)
def NewEnd (rs : List Rule) (ms : List Int) (w : World) (e : Ending) (w' : World) : Prop :=
  (newCode rs ms = 0 → ∃ ad, e = .returned (.tuple #[.pointer (some ad), .nilIface]) ∧ CalIs w' (.pointer (some ad)) [⟨rs, ms⟩]) ∧
  (newCode rs ms ≠ 0 → e = .returned (.tuple #[.pointer none, errOf (newCode rs ms)])) ∧ Below w.heap.size w w'
theorem NewEnd.bad {rs : List Rule} {ms : List Int} {w w' : World} {c : Int} (h : newCode rs ms = c) (hc : c ≠ 0) (hb : Below w.heap.size w w') : NewEnd rs ms w (.returned (.tuple #[.pointer none, .iface 100 (.int .i64 c)])) w' :=
  ⟨fun h0 => absurd (h.symm.trans h0) hc, fun _ => by rw [h]; rfl, hb⟩
theorem NewEnd.ok {rs : List Rule} {ms : List Int} {w w' : World} {L : List Nat} (h : newCode rs ms = 0) (hr : CRow w' w.heap.size L) (hL : Bits zeros L (fun D => rulesTo rs rs.length D ∨ moreTo ms ms.length D)) (hb : Below w.heap.size w w') : NewEnd rs ms w (.returned (.tuple #[.pointer (some ⟨w.heap.size, 0, none⟩), .nilIface])) w' :=
  ⟨fun _ => ⟨_, rfl, Or.inr ⟨_, L, rfl, hr, fun D hD => by rw [hL D hD, zero_bit, shut_one]; simp⟩⟩, fun h0 => absurd h h0, hb⟩
def NRel (rs : List Rule) (w : World) (kv : Value) (wr : World) : Prop :=
  ∃ (k : Nat) (L : List Nat), kv = .int .i64 (k : Nat) ∧ k ≤ rs.length ∧ CRow wr w.heap.size L ∧ Bits zeros L (rulesTo rs k) ∧ (∀ (j : Nat) (r : Rule), j < k → rs[j]? = some r → May r) ∧ Below w.heap.size w wr
def NRel2 (rs : List Rule) (ms : List Int) (w : World) (kv : Value) (wr : World) : Prop :=
  ∃ (k : Nat) (L : List Nat), kv = .int .i64 (k : Nat) ∧ k ≤ ms.length ∧ CRow wr w.heap.size L ∧ Bits zeros L (fun D => rulesTo rs rs.length D ∨ moreTo ms k D) ∧ (∀ (j : Nat) (z : Int), j < k → ms[j]? = some z → IsDay z) ∧ Below w.heap.size w wr
set_option maxRecDepth 100000 in
set_option maxHeartbeats 4000000 in
theorem New_far (rv mv : Value) (rs : List Rule) (ms : List Int) (w : World) (hR : RulesO w rv rs) (hM : IntsO w mv ms) (h : 20 < rs.length ∨ 100 < ms.length) :
    Calls Tryz.prog 42 #[rv, mv] w fun e w' => NewEnd rs ms w e w' := by
  have HE := Lib.hid (fun W => OfE 2 rfl W)
  have HX := Lib.hid (fun W => NewEnd.bad (w := w) (w' := W) (code_far h) (by decide))
  obtain ⟨ra, rc, rfl, hl1, -⟩ := hR
  obtain ⟨ma, mc, rfl, hl2, -⟩ := hM
  generalize rs.length = N at *
  generalize ms.length = M at *
  rcases (show decide ((20 : Int) < (N : Int)) = true ∨ decide ((20 : Int) < (N : Int)) = false ∧ decide ((100 : Int) < (M : Int)) = true by simp only [decide_eq_true_eq, decide_eq_false_iff_not]; omega) with h1 | ⟨h1, h2⟩
  all_goals
    clear h
    go_enter Tryz.func42, Tryz.ntmps42
    go_wp2_with (first
      | (go_at_call 49; (with_reducible refine (HE.out _).mono ?_); rintro e w9 ⟨rfl, rfl⟩)
      | (fail "no arm"))
    go_ret2
    exact HX.out _ (Below.refl _ _)
set_option maxRecDepth 100000 in
set_option maxHeartbeats 4000000 in
theorem New_near (rv mv : Value) (rs : List Rule) (ms : List Int) (w : World) (hw : Wd w) (hR : RulesO w rv rs) (hM : IntsO w mv ms) (h : ¬ (20 < rs.length ∨ 100 < ms.length)) :
    Calls Tryz.prog 42 #[rv, mv] w fun e w' => NewEnd rs ms w e w' := by
  have HE1 := Lib.hid (fun W => OfE 1 rfl W)
  have HE4 := Lib.hid (fun W => OfE 4 rfl W)
  have HRI := Lib.hid (fun W (hb : Below w.heap.size w W) => hR.below hb)
  have HMI := Lib.hid (fun W (hb : Below w.heap.size w W) => hM.below hb)
  have HX1 := Lib.hid (fun (k : Nat) (r : Rule) (hk : rs[k]? = some r) (hm : ¬ May r) W => NewEnd.bad (w := w) (w' := W) (code_rule h hk hm) (by decide))
  have HX4 := Lib.hid (fun (hr : ∀ (j : Nat) (r : Rule), rs[j]? = some r → May r) (k : Nat) (z : Int) (hk : ms[k]? = some z) (hm : ¬ IsDay z) W => NewEnd.bad (w := w) (w' := W) (code_day h hr hk hm) (by decide))
  have HX0 := Lib.hid (fun (hr : ∀ (j : Nat) (r : Rule), rs[j]? = some r → May r) (hd : ∀ (j : Nat) (z : Int), ms[j]? = some z → IsDay z) W L => NewEnd.ok (w := w) (w' := W) (L := L) (code_ok h hr hd))
  have HMay := Lib.hid (fun (r : Rule) W (hb : Below w.heap.size w W) => holi.May_any r.kind r.month r.day r.n r.wd r.shift W (hw.keep hb))
  have HBy := Lib.hid (fun (r : Rule) W L (hb : Below w.heap.size w W) (hr : CRow W w.heap.size L) => closeBy_at w.heap.size L r w W hw hb (Nat.le_refl _) hr)
  have HOn := Lib.hid (fun (n : Nat) (hn : n ≤ 109572) W L (h : CRow W w.heap.size L) => closeOn_at w.heap.size L n hn W h)
  have HIs := Lib.hid (fun (x : Int) W => isDay_any x W)
  obtain ⟨ra, rc, rfl, hl1, -⟩ := hR
  obtain ⟨ma, mc, rfl, hl2, -⟩ := hM
  obtain ⟨N, hN⟩ : ∃ N, rs.length = N := ⟨_, rfl⟩
  obtain ⟨M, hM⟩ : ∃ M, ms.length = M := ⟨_, rfl⟩
  have HN := Lib.hid hN
  have HM := Lib.hid hM
  rw [hN] at h hl1 ⊢
  rw [hM] at h hl2 ⊢
  have h1 : decide ((20 : Int) < (N : Int)) = false := by simp only [decide_eq_false_iff_not]; omega
  have h2 : decide ((100 : Int) < (M : Int)) = false := by simp only [decide_eq_false_iff_not]; omega
  have hN20 : N ≤ 20 := by omega
  have hM100 : M ≤ 100 := by omega
  have HS := Lib.hid (show NRel rs w (.int .i64 0) (w.alloc (.cells Tryz.zeroCells83 83)) from ⟨0, zeros, rfl, Nat.zero_le _, zero_row w, Bits.none fun D => by rintro ⟨j, r, hj, -⟩; omega, fun j r hj => by omega, (Below.refl _ _).alloc (Nat.le_refl _) _⟩)
  have HB0 := Lib.hid (show Below w.heap.size w w from Below.refl _ _)
  clear h hN hM hw
  go_enter Tryz.func42, Tryz.ntmps42
  go_wp2
  go_loopw [23] (fun kv wr => NRel rs w kv wr) (fun kv _ => (20 - intOf kv).toNat)
  case atStart => exact HS.out
  case round =>
    obtain ⟨k, L, rfl, hk, hc, hbits, hmay, hb⟩ := hrel
    rw [HN.out] at hk
    have HR := Lib.hid hc
    have HBt := Lib.hid hbits
    have HMy := Lib.hid hmay
    have HB := Lib.hid hb
    clear hc hbits hmay hb HS
    by_cases hlt : k < N
    · obtain ⟨r, hget⟩ : ∃ z, rs[k]? = some z := ⟨rs[k]'(by rw [HN.out]; exact hlt), List.getElem?_eq_getElem _⟩
      obtain ⟨ao', cap', he, -, hz⟩ := HRI.out wr HB.out
      obtain ⟨g, o, hao, hc0, hc1, hc2, hc3, hc4, hc5⟩ := hz k r hget
      obtain ⟨rfl, rfl⟩ : ra = ao' ∧ rc = cap' := by injection he with h1 h2 h3; exact ⟨h1, h3⟩
      subst hao
      have HNx := Lib.hid (fun D => rulesTo_next hget D)
      have HGet := Lib.hid hget
      have HMr := HMay.out r
      have HByr := HBy.out r
      clear he hz hget HBy HMay
      by_cases hm : May r
      · have HmR := Lib.hid hm
        rw [show decide (May ⟨r.kind, r.month, r.day, r.n, r.wd, r.shift⟩) = true from decide_eq_true hm] at HMr
        have HMr := Lib.hid HMr
        have HByr := Lib.hid HByr
        obtain ⟨kd, mo, d, n, wd, sh⟩ := r
        simp only at hc0 hc1 hc2 hc3 hc4 hc5 HMr HByr
        have HRB := Lib.hid (RAt.new wr kd mo d n wd sh)
        obtain ⟨e0, e1, e2, e3, e4, e5⟩ := HRB.out.at
        have HBa := Lib.hid ((HB.out).alloc HB.out.size (.cells #[.int .i64 kd, .int .i64 mo, .int .i64 d, .int .i64 n, .int .i64 wd, .bool sh] 38))
        have HRa := Lib.hid (HR.out.keep ((Below.refl _ _).alloc (Nat.le_refl _) (.cells #[.int .i64 kd, .int .i64 mo, .int .i64 d, .int .i64 n, .int .i64 wd, .bool sh] 38)))
        clear hm
        go_wp2_with (first
          | (go_at_call 24; (with_reducible refine (HMr.out _ HBa.out).mono ?_); rintro e w4 ⟨rfl, hb4⟩
             have HB4 := Lib.hid (HBa.out.trans (hb4.mono HBa.out.size))
             have HR4 := Lib.hid (HRa.out.keep hb4)
             obtain ⟨d0, d1, d2, d3, d4, d5⟩ := (HRB.out.below hb4).at
             clear hb4 HMr e0 e1 e2 e3 e4 e5)
          | (go_at_call 81; (with_reducible refine (HByr.out _ _ HB4.out HR4.out).mono ?_); rintro e w5 ⟨rfl, ⟨L5, hr5, hbt5⟩, hg5⟩
             have HR5 := Lib.hid hr5
             have HBt5 := Lib.hid hbt5
             have HB5 := Lib.hid (nat.below_grown HB4.out hg5 HB4.out.size (Nat.le_refl _))
             clear hr5 hbt5 hg5 HByr)
          | (fail "no arm"))
        go_roundw
        case rel => exact ⟨k + 1, L5, by go_num, by rw [HN.out]; omega, HR5.out, (HBt.out.trans HBt5.out).same (fun D => by rw [HNx.out]), fun j q hj hq => by
          rcases (show j < k ∨ j = k by omega) with h | rfl
          · exact HMy.out j q h hq
          · rw [HGet.out] at hq; cases hq; exact HmR.out, HB5.out⟩
        case measure => simp [intOf]; omega
      · have HX := Lib.hid (HX1.out k r HGet.out hm)
        rw [show decide (May ⟨r.kind, r.month, r.day, r.n, r.wd, r.shift⟩) = false from decide_eq_false hm] at HMr
        have HMr := Lib.hid HMr
        clear HByr HGet HNx
        obtain ⟨kd, mo, d, n, wd, sh⟩ := r
        simp only at hc0 hc1 hc2 hc3 hc4 hc5 HMr
        have HRB := Lib.hid (RAt.new wr kd mo d n wd sh)
        obtain ⟨e0, e1, e2, e3, e4, e5⟩ := HRB.out.at
        have HBa := Lib.hid ((HB.out).alloc HB.out.size (.cells #[.int .i64 kd, .int .i64 mo, .int .i64 d, .int .i64 n, .int .i64 wd, .bool sh] 38))
        clear hm
        go_wp2_with (first
          | (go_at_call 24; (with_reducible refine (HMr.out _ HBa.out).mono ?_); rintro e w4 ⟨rfl, hb4⟩
             have HB4 := Lib.hid (HBa.out.trans (hb4.mono HBa.out.size))
             clear hb4 HMr e0 e1 e2 e3 e4 e5)
          | (go_at_call 49; (with_reducible refine (HE1.out _).mono ?_); rintro e w9 ⟨rfl, rfl⟩)
          | (fail "no arm"))
        go_ret2
        exact HX.out _ HB4.out
    · have hkN : k = N := by omega
      subst hkN
      have HAll := Lib.hid (fun (j : Nat) (r : Rule) (hj : rs[j]? = some r) => HMy.out j r (by have := (List.getElem?_eq_some_iff.1 hj).1; rw [HN.out] at this; exact this) hj)
      have HX4 := Lib.hid (HX4.out HAll.out)
      have HX0 := Lib.hid (HX0.out HAll.out)
      have HS := Lib.hid (show NRel2 rs ms w (.int .i64 0) wr from ⟨0, L, rfl, Nat.zero_le _, HR.out, HBt.out.same (fun D => by rw [HN.out]; exact ⟨fun h => h.elim id (fun ⟨j, hj, _⟩ => absurd hj (Nat.not_lt_zero _)), Or.inl⟩), fun j r hj => by omega, HB.out⟩)
      clear HX1 HMay HBy HR HBt HB HMy HRI hlt hk
      go_wp2
      go_loopw [37] (fun kv wr => NRel2 rs ms w kv wr) (fun kv _ => (100 - intOf kv).toNat)
      case atStart => exact HS.out
      case round =>
        obtain ⟨k2, L2, rfl, hk, hc, hbits, hday, hb⟩ := hrel
        rw [HM.out] at hk
        have HR := Lib.hid hc
        have HBt := Lib.hid hbits
        have HDy := Lib.hid hday
        have HB := Lib.hid hb
        clear hc hbits hday hb HS
        by_cases hlt : k2 < M
        · obtain ⟨z, hget⟩ : ∃ z, ms[k2]? = some z := ⟨ms[k2]'(by rw [HM.out]; exact hlt), List.getElem?_eq_getElem _⟩
          obtain ⟨ao', cap', he, -, hz⟩ := HMI.out _ HB.out
          obtain ⟨z0, z1, g, o, hao, hc0⟩ := hz k2 z hget
          obtain ⟨rfl, rfl⟩ : ma = ao' ∧ mc = cap' := by injection he with h1 h2 h3; exact ⟨h1, h3⟩
          subst hao
          have HGet := Lib.hid hget
          have HIz := HIs.out z
          clear he hz
          by_cases hd : IsDay z
          · rw [decide_eq_true hd] at HIz
            have HIz := Lib.hid HIz
            obtain ⟨n, rfl⟩ : ∃ n : Nat, z = (n : Nat) := ⟨z.toNat, by have := hd.1; omega⟩
            have HNx := Lib.hid (fun D => moreTo_next hget D)
            have hn := Lib.hid (show n ≤ 109572 by have := hd.2; omega)
            have HOnn := Lib.hid (HOn.out n hn.out)
            have HdD := Lib.hid hd
            clear HOn hd hget HIs
            go_wp2_with (first
              | (go_at_call 50; (with_reducible refine (HIz.out _).mono ?_); rintro e w1 ⟨rfl, rfl⟩)
              | (go_at_call 82; (with_reducible refine (HOnn.out _ _ HR.out).mono ?_); rintro e w5 ⟨rfl, hr5, hg5⟩
                 have HR5 := Lib.hid hr5
                 have HB5 := Lib.hid (nat.below_grown HB.out hg5 HB.out.size (Nat.le_refl _))
                 clear hr5 hg5 HOnn)
              | (fail "no arm"))
            go_roundw
            case rel => exact ⟨k2 + 1, setBit L2 n, by go_num, by rw [HM.out]; omega, HR5.out, HBt.out.add HR.out.1 hn.out (fun D => by rw [HNx.out, or_assoc]), fun j q hj hq => by
              rcases (show j < k2 ∨ j = k2 by omega) with h | rfl
              · exact HDy.out j q h hq
              · rw [HGet.out] at hq; cases hq; exact HdD.out, HB5.out⟩
            case measure => simp [intOf]; omega
          · rw [decide_eq_false hd] at HIz
            have HIz := Lib.hid HIz
            have HX := Lib.hid (HX4.out k2 z hget hd)
            clear hd hget HIs HGet HX4 HX0
            go_wp2_with (first
              | (go_at_call 50; (with_reducible refine (HIz.out _).mono ?_); rintro e w1 ⟨rfl, rfl⟩)
              | (go_at_call 49; (with_reducible refine (HE4.out _).mono ?_); rintro e w9 ⟨rfl, rfl⟩)
              | (fail "no arm"))
            go_ret2
            exact HX.out _ HB.out
        · have hkM : k2 = M := by omega
          subst hkM
          have HX := Lib.hid (HX0.out (fun (j : Nat) (r : Int) (hj : ms[j]? = some r) => HDy.out j r (by have := (List.getElem?_eq_some_iff.1 hj).1; rw [HM.out] at this; exact this) hj))
          clear HX0 HX4 HDy hlt hk HIs HOn HMI
          go_wp2
          go_ret2
          exact HX.out _ L2 HR.out (by rw [HM.out]; exact HBt.out) HB.out
theorem New_any (rv mv : Value) (rs : List Rule) (ms : List Int) (w : World) (hw : Wd w) (hR : RulesO w rv rs) (hM : IntsO w mv ms) :
    Calls Tryz.prog 42 #[rv, mv] w fun e w' => NewEnd rs ms w e w' := by
  by_cases h : 20 < rs.length ∨ 100 < ms.length
  · exact New_far rv mv rs ms w hR hM h
  · exact New_near rv mv rs ms w hw hR hM h
end Go.Proofs.YtlhmfgbaefaneabGreatDoor.cal
namespace Go.Proofs.YtlhmfgbaefaneabGreatDoor.cal
open Go Go.RowKit Go.Proofs.YtlhmfgbaefaneabGreatDoor.day Go.Proofs.YtlhmfgbaefaneabGreatDoor.date Go.Proofs.YtlhmfgbaefaneabGreatDoor.law6
open Go.Proofs.YtlhmfgbaefaneabGreatDoor.ref6 (CalT openB addN cntO Rule May holiday RAt quiet_same drewN_below6)
def calsTo (us : List (Option Addr × List CalT)) (k : Nat) (D : Int) : Prop := ∃ (j : Nat) (u : Option Addr × List CalT), j < k ∧ us[j]? = some u ∧ shut u.2 D
theorem calsTo_next {us : List (Option Addr × List CalT)} {k : Nat} {u : Option Addr × List CalT} (h : us[k]? = some u) (D : Int) : calsTo us (k + 1) D ↔ calsTo us k D ∨ shut u.2 D := by
  constructor
  · rintro ⟨j, q, hj, hq, hs⟩
    rcases (show j < k ∨ j = k by omega) with h1 | rfl
    · exact Or.inl ⟨j, q, h1, hq, hs⟩
    · rw [h] at hq; cases hq; exact Or.inr hs
  · rintro (⟨j, q, hj, hq, hs⟩ | hs)
    · exact ⟨j, q, by omega, hq, hs⟩
    · exact ⟨k, u, by omega, h, hs⟩
theorem shut_all (us : List (Option Addr × List CalT)) (D : Int) : shut (us.flatMap (·.2)) D ↔ calsTo us us.length D := by
  unfold shut calsTo
  constructor
  · rintro ⟨c, hc, h⟩
    obtain ⟨u, hu, hcu⟩ := List.mem_flatMap.1 hc
    obtain ⟨j, hj⟩ := List.mem_iff_getElem?.1 hu
    exact ⟨j, u, (List.getElem?_eq_some_iff.1 hj).1, hj, c, hcu, h⟩
  · rintro ⟨j, u, -, hj, c, hcu, h⟩
    exact ⟨c, List.mem_flatMap.2 ⟨u, List.mem_of_getElem? hj, hcu⟩, h⟩
def JRel (us : List (Option Addr × List CalT)) (w : World) (kv : Value) (wr : World) : Prop :=
  ∃ (k : Nat) (L : List Nat), kv = .int .i64 (k : Nat) ∧ k ≤ us.length ∧ CRow wr w.heap.size L ∧ (∀ D : Nat, D ≤ 109572 → (bitN L D = true ↔ calsTo us k (D : Nat))) ∧ Below w.heap.size w wr
def JRel2 (A B : List Nat) (w : World) (iv : Value) (wr : World) : Prop :=
  ∃ i : Nat, iv = .int .i64 (i : Nat) ∧ i ≤ 1713 ∧ CRow wr w.heap.size (orW A B i) ∧ Below w.heap.size w wr
set_option maxRecDepth 100000 in
set_option maxHeartbeats 4000000 in
theorem Join_at (jv : Value) (us : List (Option Addr × List CalT)) (w : World) (h : CalPtrs CalIs w jv us) :
    Calls Tryz.prog 45 #[jv] w fun e w' => (e = .returned (.pointer (some ⟨w.heap.size, 0, none⟩)) ∧ CalIs w' (.pointer (some ⟨w.heap.size, 0, none⟩)) (us.flatMap (·.2))) ∧ Below w.heap.size w w' := by
  obtain ⟨ao, cap, rfl, hl, hus⟩ := h
  obtain ⟨N, hN⟩ : ∃ N, us.length = N := ⟨_, rfl⟩
  have HN := Lib.hid hN
  have HU := Lib.hid hus
  rw [hN] at hl ⊢
  have HS := Lib.hid (show JRel us w (.int .i64 0) (w.alloc (.cells Tryz.zeroCells83 83)) from ⟨0, zeros, rfl, Nat.zero_le _, zero_row w, fun D _ => by rw [zero_bit]; simp [calsTo], (Below.refl _ _).alloc (Nat.le_refl _) _⟩)
  clear hN hus
  go_enter Tryz.func45, Tryz.ntmps45
  go_wp2
  go_loopw [10] (fun kv wr => JRel us w kv wr) (fun kv _ => (1000 - intOf kv).toNat)
  case atStart => exact HS.out
  case round =>
    obtain ⟨k, L, rfl, hk, hc, hbits, hb⟩ := hrel
    rw [HN.out] at hk
    have HR := Lib.hid hc
    have HBt := Lib.hid hbits
    have HB := Lib.hid hb
    clear hc hbits hb HS
    by_cases hlt : k < N
    · obtain ⟨⟨p, cs⟩, hget⟩ : ∃ z, us[k]? = some z := ⟨us[k]'(by rw [HN.out]; exact hlt), List.getElem?_eq_getElem _⟩
      obtain ⟨g', hao, hcell, hcal⟩ := HU.out k _ hget
      subst hao
      have HNx := Lib.hid (fun D => calsTo_next hget D)
      have c0 := ref6.cell_below hcell HB.out
      clear hcell hget
      simp only at c0
      rcases hcal with ⟨hp, hs⟩ | ⟨gc, Lc, hp, hrc, hs⟩
      · obtain rfl : p = none := by cases p; rfl; cases hp
        have HSh := Lib.hid hs
        clear hs hp
        go_wp2
        go_roundw
        case rel => exact ⟨k + 1, L, by go_num, by rw [HN.out]; omega, HR.out, fun D hD => by rw [HBt.out D hD, HNx.out]; exact ⟨Or.inl, fun h => h.elim id fun h2 => absurd h2 (HSh.out _ ⟨by omega, by omega⟩)⟩, HB.out⟩
        case measure => simp [intOf]; omega
      · obtain rfl : p = some ⟨gc, 0, none⟩ := by injection hp
        have HSh := Lib.hid hs
        have HRc := Lib.hid (fun W (hb : Below w.heap.size w W) => hrc.keep hb)
        have hgc := hrc.lt
        have hne : ¬ gc = w.heap.size := by omega
        have hne2 : ¬ w.heap.size = gc := by omega
        have HL := Lib.hid HR.out.1
        have HLa := Lib.hid HR.out.2.1
        have HLb := Lib.hid hrc.2.1
        have HS := Lib.hid (show JRel2 L Lc w (.int .i64 0) wr from ⟨0, rfl, by omega, by rw [orW_zero]; exact HR.out, HB.out⟩)
        clear hs hrc HU HR hgc hp
        go_wp2
        go_loopw [16] (fun iv wr => JRel2 L Lc w iv wr) (fun iv _ => (1713 - intOf iv).toNat)
        case atStart => exact HS.out
        case round =>
          obtain ⟨i, rfl, hi, hc, hb⟩ := hrel
          have HR := Lib.hid hc
          have HB2 := Lib.hid hb
          clear hb HS
          by_cases hlt2 : i < 1713
          · have c1 := hc.cell i hlt2
            have f1 := hc.free i
            have c2 := (HRc.out _ HB2.out).cell i hlt2
            rw [orW_wd _ _ _ _ (by rw [HL.out]; exact hlt2), if_neg (Nat.lt_irrefl _)] at c1
            have HO := Lib.hid (bits_or_u64_nat _ _ (wd_lt HLa.out i) (wd_lt HLb.out i))
            have HX := Lib.hid (orW_next L Lc i (by rw [HL.out]; exact hlt2))
            have HV := Lib.hid (or_lt (wd_lt HLa.out i) (wd_lt HLb.out i))
            generalize wd L i = x at *
            generalize wd Lc i = y at *
            clear hc c0
            go_wp2
            go_region
            all_goals go_wp2
            go_roundw
            case rel => exact ⟨i + 1, by go_num, by omega, by rw [HX.out]; exact (HR.out.set i HV.out HO.out).keep (Below.refl _ _).drew, (nat.below_grown HB2.out (nat.grown_set _ _ _ _) HB2.out.size (Nat.le_refl _)).drew⟩
            case measure => simp [intOf]; omega
          · have hi3 : i = 1713 := by omega
            subst hi3
            have HF := Lib.hid (show ∀ D : Nat, D ≤ 109572 → (bitN (orW L Lc 1713) D = true ↔ calsTo us (k + 1) (D : Nat)) from by
              intro D hD
              have hl := HL.out
              rw [← hl, orW_bit _ _ _ (by rw [hl]; omega), Bool.or_eq_true, HBt.out D hD, HSh.out D hD, HNx.out])
            clear hc HBt HL
            go_wp2
            go_roundw
            case rel => exact ⟨k + 1, _, by go_num, by rw [HN.out]; omega, HR.out, HF.out, HB2.out⟩
            case measure => simp [intOf]; omega
    · have hkN : k = N := by omega
      subst hkN
      have HF := Lib.hid (show CalIs wr (.pointer (some ⟨w.heap.size, 0, none⟩)) (us.flatMap (·.2)) from Or.inr ⟨_, L, rfl, HR.out, fun D hD => by rw [HBt.out D hD, shut_all, HN.out]⟩)
      clear hlt hk HBt HR HU HN
      go_wp2
      go_ret
      exact ⟨⟨rfl, HF.out⟩, HB.out⟩
theorem cal_c : CalC CalIs where
  keep _ _ _ _ h hb := h.keep hb
  none_ _ := Or.inl ⟨rfl, fun D _ => by rintro ⟨c, hc, -⟩; cases hc⟩
  new rv rs mv ms w hw hr hm h := (New_any rv mv rs ms w hw hr hm).mono fun e w' h' => by
    obtain ⟨ad, e1, e2⟩ := h'.1 h
    exact ⟨ad, e1, e2, h'.2.2⟩
  newNo rv rs mv ms w hw hr hm h := (New_any rv mv rs ms w hw hr hm).mono fun e w' h' => ⟨h'.2.1 h, h'.2.2⟩
  join jv us w _ h := (Join_at jv us w h).mono fun e w' h' => ⟨_, h'.1.1, h'.1.2, h'.2⟩
  isOpen v cs D w _ hc _ _ := Open_any v cs D w hc
  add v cs D k t w _ hc hd h1 h2 h := by
    by_cases hk : k < 0
    · rw [if_pos hk] at h
      have := Add_down v cs D k.natAbs (some t) (Or.inl ⟨hd, h⟩) (by omega) (by omega) w hc
      rw [show -((k.natAbs : Nat) : Int) = k by omega] at this
      exact this.mono fun e w' h' => ⟨h'.1 t rfl, h'.2.2⟩
    · rw [if_neg hk] at h
      have := Add_up v cs D k.natAbs (some t) (Or.inl ⟨hd, h⟩) (by omega) w hc
      rw [show ((k.natAbs : Nat) : Int) = k by omega] at this
      exact this.mono fun e w' h' => ⟨h'.1 t rfl, h'.2.2⟩
  addNo v cs D k w _ hc hd h1 h2 h := by
    by_cases hk : k < 0
    · rw [if_pos hk] at h
      have := Add_down v cs D k.natAbs none (Or.inl ⟨hd, h⟩) (by omega) (by omega) w hc
      rw [show -((k.natAbs : Nat) : Int) = k by omega] at this
      exact this.mono fun e w' h' => ⟨h'.2.1 rfl, h'.2.2⟩
    · rw [if_neg hk] at h
      have := Add_up v cs D k.natAbs none (Or.inl ⟨hd, h⟩) (by omega) w hc
      rw [show ((k.natAbs : Nat) : Int) = k by omega] at this
      exact this.mono fun e w' h' => ⟨h'.2.1 rfl, h'.2.2⟩
  addDay v cs D k w _ hc hd h1 h2 := by
    by_cases hk : k < 0
    · have := Add_down v cs D k.natAbs none (Or.inr ⟨hd, rfl⟩) (by omega) (by omega) w hc
      rw [show -((k.natAbs : Nat) : Int) = k by omega] at this
      exact this.mono fun e w' h' => ⟨h'.2.1 rfl, h'.2.2⟩
    · have := Add_up v cs D k.natAbs none (Or.inr ⟨hd, rfl⟩) (by omega) w hc
      rw [show ((k.natAbs : Nat) : Int) = k by omega] at this
      exact this.mono fun e w' h' => ⟨h'.2.1 rfl, h'.2.2⟩
  addFar v cs D k w _ _ _ h _ _ := Add_far v D k (by simp only [decide_eq_true_eq, decide_eq_false_iff_not]; omega) w
  count v cs a b w _ hc a1 a2 b1 b2 := Count_any v cs a b a1 a2 b1 b2 w hc
end Go.Proofs.YtlhmfgbaefaneabGreatDoor.cal
namespace Go.Proofs.YtlhmfgbaefaneabGreatDoor.ref
open Go.RowKit
def Reads (w : World) (sv : Value) (l : List Nat) : Prop :=
  ∃ ao cap, sv = .slice ao l.length cap ∧ (l.length ≤ cap ∧ (ao = none → cap = 0)) ∧ cap ≤ maxLen ∧ (l = [] ∨ ∃ g, ao = some ⟨g, 0, none⟩ ∧ ∀ k, k < l.length → w.cell? ⟨g, k, none⟩ = some (.int .u64 (dg l k : Nat)))
theorem cell_lt {w : World} {a : Addr} {v : Value} (h : w.cell? a = some v) : a.block < w.heap.size := by
  rcases Nat.lt_or_ge a.block w.heap.size with h' | h'
  · exact h'
  · simp [World.cell?, Array.getElem?_eq_none h'] at h
theorem Reads.below {w w' : World} {sv : Value} {l : List Nat} (h : Reads w sv l) (hb : Below w.heap.size w w') : Reads w' sv l := by
  obtain ⟨ao, cap, rfl, h1, h2, h3⟩ := h
  refine ⟨ao, cap, rfl, h1, h2, h3.imp id fun ⟨g, hg, hc⟩ => ⟨g, hg, fun k hk => (hb.cell (p := ⟨g, k, none⟩) (cell_lt (hc k hk))).trans (hc k hk)⟩⟩
theorem Reads.inj {w : World} {sv : Value} {l l' : List Nat} (h : Reads w sv l) (h' : Reads w sv l') : l = l' := by
  obtain ⟨ao, cap, rfl, _, _, h3⟩ := h
  obtain ⟨ao', cap', he, _, _, h3'⟩ := h'
  simp only [Value.slice.injEq] at he
  obtain ⟨rfl, hl, rfl⟩ := he
  rcases h3 with rfl | ⟨g, rfl, hc⟩
  · exact (List.eq_nil_of_length_eq_zero hl.symm).symm
  · rcases h3' with rfl | ⟨g', hg', hc'⟩
    · exact List.eq_nil_of_length_eq_zero hl
    · simp only [Option.some.injEq, Addr.mk.injEq, and_true] at hg'
      subst hg'
      refine dg_ext hl fun k h1 => ?_
      have := (hc k h1).symm.trans (hc' k (by omega))
      simp only [Option.some.injEq, Value.int.injEq, true_and] at this
      omega
end Go.Proofs.YtlhmfgbaefaneabGreatDoor.ref
namespace Go.Proofs.YtlhmfgbaefaneabGreatDoor.ref
open Go.RowKit
def IsN (w : World) (sv : Value) (x : Nat) : Prop := Reads w sv (digs x)
theorem IsN.below {w w' : World} {sv : Value} {x : Nat} (h : IsN w sv x) (hb : Below w.heap.size w w') : IsN w' sv x := Reads.below h hb
theorem IsN.of {w : World} {sv : Value} {l : List Nat} (h : Reads w sv l) (hn : Norm l) : IsN w sv (val l) := by
  unfold IsN
  rw [← hn.eq_digs]
  exact h
theorem IsN.inj {w : World} {sv : Value} {x y : Nat} (h : IsN w sv x) (h' : IsN w sv y) : x = y := by
  have := congrArg val (Reads.inj h h')
  rwa [val_digs, val_digs] at this
def cmpN (x y : Nat) : Int := if x < y then -1 else if x = y then 0 else 1
end Go.Proofs.YtlhmfgbaefaneabGreatDoor.ref
namespace Go.Proofs.YtlhmfgbaefaneabGreatDoor.ref
open Go.RowKit
def Own (w : World) (base g cap : Nat) (o : List Nat) : Prop := w.ownsRow base 80 1 (.slice (some ⟨g, 0, none⟩) o.length cap) o.length (o.map fun d => Value.int .u64 (d : Nat))
theorem Own.cell {w : World} {base g cap : Nat} {o : List Nat} (h : Own w base g cap o) (k : Nat) (hk : k < o.length) : w.cell? ⟨g, k, none⟩ = some (.int .u64 (dg o k : Nat)) := by
  rw [World.ownsRow.cellAt h k (by omega)]
  exact dg_map hk _
theorem Own.frozen {w : World} {base g cap : Nat} {o : List Nat} (h : Own w base g cap o) (k : Nat) : w.frozen? ⟨g, k, none⟩ = false := World.ownsRow.frozenAt h k
theorem Own.low {w : World} {base g cap : Nat} {o : List Nat} (h : Own w base g cap o) : base ≤ g ∧ g < w.heap.size := World.ownsRow.lt h g rfl
theorem Own.store {w : World} {base g cap : Nat} {o : List Nat} (h : Own w base g cap o) (j d : Nat) (u : Int) (hu : u = (d : Nat)) : Own (w.setCell ⟨g, j, none⟩ (.int .u64 u)) base g cap (o.set j d) := by
  have h1 := (World.ownsRow.stored h j (.int .u64 u)).1
  unfold Own
  rw [List.length_set, List.map_set, ← hu]
  exact h1
theorem Own.drewN {w : World} {base g cap : Nat} {o : List Nat} (h : Own w base g cap o) (n : Nat) : Own (w.drewN n) base g cap o :=
  World.ownsRow.kept (row := none) h ⟨rfl, rfl, rfl, Nat.le_refl _, fun _ _ _ => rfl⟩ (by simp [Value.ownBlock])
def MRel (w : World) (x y n g cap i : Nat) (wr : World) : Prop :=
  ∃ o : List Nat, o.length = n ∧ Own wr w.heap.size g cap o ∧ Below w.heap.size w wr ∧ Dig o ∧ val o = val ((digs x).take i) * y ∧ ∀ j, i + (digs y).length ≤ j → dg o j = 0
def MIn (w : World) (x y n g cap i k c : Nat) (wr : World) : Prop :=
  ∃ o : List Nat, o.length = n ∧ Own wr w.heap.size g cap o ∧ Below w.heap.size w wr ∧ Dig o ∧ val o + 1000000000 ^ (i + k) * c = val ((digs x).take i) * y + 1000000000 ^ i * (dg (digs x) i * val ((digs y).take k)) ∧
    (∀ j, i + (digs y).length ≤ j → i + k ≤ j → dg o j = 0) ∧ c < 1000000000 ∧ (k ≤ (digs y).length ∨ k = (digs y).length + 1 ∧ c = 0)
theorem MIn.row {w wi : World} {x y n g cap i k : Nat} (h : MIn w x y n g cap i k 0 wi) (hk : (digs y).length ≤ k) : MRel w x y n g cap (i + 1) wi := by
  obtain ⟨o, hl, hO, hB, hD, hv, hz, _, hj⟩ := h
  refine ⟨o, hl, hO, hB, hD, ?_, fun j h => hz j (by omega) (by omega)⟩
  rw [List.take_of_length_le hk, val_digs] at hv
  rw [val_take_succ, Nat.add_mul, Nat.mul_assoc]
  omega
theorem MIn.next {w wi wj : World} {x y n g cap i k c : Nat} {o : List Nat} (hl : o.length = n) (hO : Own wi w.heap.size g cap o) (hB : Below w.heap.size w wj) (hD : Dig o)
    (hv : val o + 1000000000 ^ (i + k) * c = val ((digs x).take i) * y + 1000000000 ^ i * (dg (digs x) i * val ((digs y).take k))) (hz : ∀ j, i + (digs y).length ≤ j → i + k ≤ j → dg o j = 0) (hc : c < 1000000000)
    (hj : k ≤ (digs y).length) (u : Int) (hw : wj = wi.setCell ⟨g, i + k, none⟩ (.int .u64 u)) (hu : u = ((dg o (i + k) + c + dg (digs x) i * dg (digs y) k) % 1000000000 : Nat)) (hgo : i + k < n) :
    MIn w x y n g cap i (k + 1) ((dg o (i + k) + c + dg (digs x) i * dg (digs y) k) / 1000000000) wj := by
  have d1 := dg_lt hD (i + k)
  have d2 := dg_lt (norm_digs x).1 i
  have d3 := dg_lt (norm_digs y).1 k
  have hp : dg (digs x) i * dg (digs y) k ≤ 999999999 * 999999999 := Nat.mul_le_mul (by omega) (by omega)
  refine ⟨o.set (i + k) ((dg o (i + k) + c + dg (digs x) i * dg (digs y) k) % 1000000000), by simp [hl], by rw [hw]; exact hO.store _ _ _ hu, hB, hD.set (Nat.mod_lt _ (by omega)), mul_step (by omega) hv, fun j h1 h2 => ?_, by omega, ?_⟩
  · rw [dg_set_other (by omega)]
    exact hz j h1 (by omega)
  · by_cases hk : k < (digs y).length
    · exact Or.inl (by omega)
    · have h0 : dg o (i + k) = 0 := hz _ (by omega) (by omega)
      have h1 : dg (digs y) k = 0 := dg_out (by omega)
      refine Or.inr ⟨by omega, ?_⟩
      rw [h0, h1, Nat.mul_zero]
      omega
end Go.Proofs.YtlhmfgbaefaneabGreatDoor.ref
namespace Go.Proofs.YtlhmfgbaefaneabGreatDoor.ref
open Go.RowKit
theorem Own.of_row {w : World} {base n : Nat} {v : Value} {l : List Nat} (h : w.ownsRow base 80 1 v n (l.map fun d => Value.int .u64 (d : Nat))) (hn : l.length = n) (h0 : 0 < n) : ∃ g cap, v = .slice (some ⟨g, 0, none⟩) n cap ∧ Own w base g cap l := by
  rcases h.2 with ⟨_, hz⟩ | ⟨g, cap, cur, rfl, _⟩
  · omega
  · refine ⟨g, cap, rfl, ?_⟩
    unfold Own
    rw [hn]
    exact h
end Go.Proofs.YtlhmfgbaefaneabGreatDoor.ref
namespace Go.Proofs.YtlhmfgbaefaneabGreatDoor.ref
open Go.RowKit
theorem Own.below {w w' : World} {base g cap : Nat} {o : List Nat} (h : Own w base g cap o) (hb : Below w.heap.size w w') : Own w' base g cap o :=
  World.ownsRow.kept (row := none) h ⟨hb.os, hb.tape, hb.output, hb.size, fun k hk _ => hb.block k hk⟩ (by simp [Value.ownBlock])
theorem Reads.setCell {w : World} {ao : Option Addr} {n cap : Nat} {l : List Nat} (h : Reads w (.slice ao n cap) l) {p : Addr} (hp : ∀ a, ao = some a → a.block ≠ p.block) (u : Value) : Reads (w.setCell p u) (.slice ao n cap) l := by
  obtain ⟨ao', cap', he, h1, h2, h3⟩ := h
  simp only [Value.slice.injEq] at he
  obtain ⟨rfl, rfl, rfl⟩ := he
  refine ⟨ao, cap, rfl, h1, h2, h3.imp id fun ⟨g, hg, hc⟩ => ⟨g, hg, fun k hk => ?_⟩⟩
  rw [World.cell?_of_block (w := w) (a := ⟨g, k, none⟩) (Below.heap_setCell _ _ _ _ (hp ⟨g, 0, none⟩ hg))]
  exact hc k hk
end Go.Proofs.YtlhmfgbaefaneabGreatDoor.ref
namespace Go.Proofs.YtlhmfgbaefaneabGreatDoor.ref
open Go.RowKit
def IsI (w : World) (v : Value) (z : Int) : Prop := ∃ sv, v = .agg #[.bool (decide (z < 0)), sv] ∧ IsN w sv z.natAbs
theorem IsI.below {w w' : World} {v : Value} {z : Int} (h : IsI w v z) (hb : Below w.heap.size w w') : IsI w' v z := by
  obtain ⟨sv, rfl, hs⟩ := h
  exact ⟨sv, rfl, hs.below hb⟩
theorem IsI.inj {w : World} {v : Value} {z z' : Int} (h : IsI w v z) (h' : IsI w v z') : z = z' := by
  obtain ⟨sv, rfl, hs⟩ := h
  obtain ⟨sv', he, hs'⟩ := h'
  have e := Value.agg.inj he
  simp only [Array.mk.injEq, List.cons.injEq, Value.bool.injEq, and_true] at e
  obtain ⟨e1, rfl⟩ := e
  have := IsN.inj hs hs'
  simp only [decide_eq_decide] at e1
  omega
def signed (b : Bool) (x : Nat) : Int := if b then -(x : Int) else x
end Go.Proofs.YtlhmfgbaefaneabGreatDoor.ref
namespace Go.Proofs.YtlhmfgbaefaneabGreatDoor.ref
open Go.RowKit
def IsQ (w : World) (v : Value) (z : Int) (d : Nat) : Prop := ∃ s t, v = .agg #[.bool (decide (z < 0)), s, t] ∧ IsN w s z.natAbs ∧ IsN w t d
theorem IsQ.below {w w' : World} {v : Value} {z : Int} {d : Nat} (h : IsQ w v z d) (hb : Below w.heap.size w w') : IsQ w' v z d := by
  obtain ⟨s, t, rfl, hs, ht⟩ := h
  exact ⟨s, t, rfl, hs.below hb, ht.below hb⟩
theorem IsQ.inj {w : World} {v : Value} {z z' : Int} {d d' : Nat} (h : IsQ w v z d) (h' : IsQ w v z' d') : z = z' ∧ d = d' := by
  obtain ⟨s, t, rfl, hs, ht⟩ := h
  obtain ⟨s', t', he, hs', ht'⟩ := h'
  have e := Value.agg.inj he
  simp only [Array.mk.injEq, List.cons.injEq, Value.bool.injEq, and_true] at e
  obtain ⟨e1, rfl, rfl⟩ := e
  have := IsN.inj hs hs'
  have := IsN.inj ht ht'
  simp only [decide_eq_decide] at e1
  omega
theorem IsI.nat {w : World} {s : Value} {d : Nat} (h : IsN w s d) : IsI w (.agg #[.bool false, s]) (d : Int) := ⟨s, by simp, by simpa using h⟩
end Go.Proofs.YtlhmfgbaefaneabGreatDoor.ref
