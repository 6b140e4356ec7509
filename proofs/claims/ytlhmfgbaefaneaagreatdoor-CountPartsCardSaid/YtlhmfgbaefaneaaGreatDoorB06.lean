/-
  The steps of the walks, part 6: CalG, Read, RefA, RefMul, RefSub, RefDv, RefInt, RefI, RefCmpI, RefQ, RefQText.
-/
import Derived.Test.YtlhmfgbaefaneaaGreatDoorProg
import Derived.WalkKit
import Derived.WalkSpells
import Derived.Lib.Hide
import Derived.OwnWalk
import Derived.Below
import Derived.Carry
import Derived.Outline
import Derived.BigQuiet
import Derived.Deep.QuietTactic
import Derived.Laws.MakeOwn
import Derived.Laws.AppendOwnNone
import Derived.RegionTactic
import Derived.BigRegion
import Derived.Laws.IdiomStrings
import Derived.StillTailTactics
import Derived.Deep.RegionHeld3
import Derived.Test.YtlhmfgbaefaneaaGreatDoorB05
import Derived.Test.YtlhmfgbaefaneaaGreatDoorB02
namespace Go.Proofs.YtlhmfgbaefaneaaGreatDoor.cal
open Go Go.RowKit Go.Proofs.YtlhmfgbaefaneaaGreatDoor.day Go.Proofs.YtlhmfgbaefaneaaGreatDoor.date Go.Proofs.YtlhmfgbaefaneaaGreatDoor.law6
open Go.Proofs.YtlhmfgbaefaneaaGreatDoor.ref6 (CalT openB addN cntO Rule May holiday RAt quiet_same drewN_below6)
def calsTo (us : List (Option Addr × List CalT)) (k : Nat) (D : Int) : Prop := ∃ (j : Nat) (u : Option Addr × List CalT), j < k ∧ us[j]? = some u ∧ shut u.2 D
theorem calsTo_next {us : List (Option Addr × List CalT)} {k : Nat} {u : Option Addr × List CalT} (h : us[k]? = some u) (D : Int) : calsTo us (k + 1) D ↔ calsTo us k D ∨ shut u.2 D := by
  constructor
  · rintro ⟨j, q, hj, hq, hs⟩
    rcases (show j < k ∨ j = k by omega) with h1 | rfl
    · exact Or.inl ⟨j, q, h1, hq, hs⟩
    · rw [h] at hq; cases hq; exact Or.inr hs
  · rintro (⟨j, q, hj, hq, hs⟩ | hs)
    · exact ⟨j, q, by omega, hq, hs⟩
    · exact ⟨k, u, by omega, h, hs⟩
theorem shut_all (us : List (Option Addr × List CalT)) (D : Int) : shut (us.flatMap (·.2)) D ↔ calsTo us us.length D := by
  unfold shut calsTo
  constructor
  · rintro ⟨c, hc, h⟩
    obtain ⟨u, hu, hcu⟩ := List.mem_flatMap.1 hc
    obtain ⟨j, hj⟩ := List.mem_iff_getElem?.1 hu
    exact ⟨j, u, (List.getElem?_eq_some_iff.1 hj).1, hj, c, hcu, h⟩
  · rintro ⟨j, u, -, hj, c, hcu, h⟩
    exact ⟨c, List.mem_flatMap.2 ⟨u, List.mem_of_getElem? hj, hcu⟩, h⟩
def JRel (us : List (Option Addr × List CalT)) (w : World) (kv : Value) (wr : World) : Prop :=
  ∃ (k : Nat) (L : List Nat), kv = .int .i64 (k : Nat) ∧ k ≤ us.length ∧ CRow wr w.heap.size L ∧ (∀ D : Nat, D ≤ 109572 → (bitN L D = true ↔ calsTo us k (D : Nat))) ∧ Below w.heap.size w wr
def JRel2 (A B : List Nat) (w : World) (iv : Value) (wr : World) : Prop :=
  ∃ i : Nat, iv = .int .i64 (i : Nat) ∧ i ≤ 1713 ∧ CRow wr w.heap.size (orW A B i) ∧ Below w.heap.size w wr
set_option maxRecDepth 100000 in
set_option maxHeartbeats 4000000 in
theorem Join_at (jv : Value) (us : List (Option Addr × List CalT)) (w : World) (h : CalPtrs CalIs w jv us) :
    Calls Tryz.prog 49 #[jv] w fun e w' => (e = .returned (.pointer (some ⟨w.heap.size, 0, none⟩)) ∧ CalIs w' (.pointer (some ⟨w.heap.size, 0, none⟩)) (us.flatMap (·.2))) ∧ Below w.heap.size w w' := by
  obtain ⟨ao, cap, rfl, hl, hus⟩ := h
  obtain ⟨N, hN⟩ : ∃ N, us.length = N := ⟨_, rfl⟩
  have HN := Lib.hid hN
  have HU := Lib.hid hus
  rw [hN] at hl ⊢
  have HS := Lib.hid (show JRel us w (.int .i64 0) (w.alloc (.cells Tryz.zeroCells107 107)) from ⟨0, zeros, rfl, Nat.zero_le _, zero_row w, fun D _ => by rw [zero_bit]; simp [calsTo], (Below.refl _ _).alloc (Nat.le_refl _) _⟩)
  clear hN hus
  go_enter Tryz.func49, Tryz.ntmps49
  go_wp2
  go_loopw [10] (fun kv wr => JRel us w kv wr) (fun kv _ => (1000 - intOf kv).toNat)
  case atStart => exact HS.out
  case round =>
    obtain ⟨k, L, rfl, hk, hc, hbits, hb⟩ := hrel
    rw [HN.out] at hk
    have HR := Lib.hid hc
    have HBt := Lib.hid hbits
    have HB := Lib.hid hb
    clear hc hbits hb HS
    by_cases hlt : k < N
    · obtain ⟨⟨p, cs⟩, hget⟩ : ∃ z, us[k]? = some z := ⟨us[k]'(by rw [HN.out]; exact hlt), List.getElem?_eq_getElem _⟩
      obtain ⟨g', hao, hcell, hcal⟩ := HU.out k _ hget
      subst hao
      have HNx := Lib.hid (fun D => calsTo_next hget D)
      have c0 := ref6.cell_below hcell HB.out
      clear hcell hget
      simp only at c0
      rcases hcal with ⟨hp, hs⟩ | ⟨gc, Lc, hp, hrc, hs⟩
      · obtain rfl : p = none := by cases p; rfl; cases hp
        have HSh := Lib.hid hs
        clear hs hp
        go_wp2
        go_roundw
        case rel => exact ⟨k + 1, L, by go_num, by rw [HN.out]; omega, HR.out, fun D hD => by rw [HBt.out D hD, HNx.out]; exact ⟨Or.inl, fun h => h.elim id fun h2 => absurd h2 (HSh.out _ ⟨by omega, by omega⟩)⟩, HB.out⟩
        case measure => simp [intOf]; omega
      · obtain rfl : p = some ⟨gc, 0, none⟩ := by injection hp
        have HSh := Lib.hid hs
        have HRc := Lib.hid (fun W (hb : Below w.heap.size w W) => hrc.keep hb)
        have hgc := hrc.lt
        have hne : ¬ gc = w.heap.size := by omega
        have hne2 : ¬ w.heap.size = gc := by omega
        have HL := Lib.hid HR.out.1
        have HLa := Lib.hid HR.out.2.1
        have HLb := Lib.hid hrc.2.1
        have HS := Lib.hid (show JRel2 L Lc w (.int .i64 0) wr from ⟨0, rfl, by omega, by rw [orW_zero]; exact HR.out, HB.out⟩)
        clear hs hrc HU HR hgc hp
        go_wp2
        go_loopw [16] (fun iv wr => JRel2 L Lc w iv wr) (fun iv _ => (1713 - intOf iv).toNat)
        case atStart => exact HS.out
        case round =>
          obtain ⟨i, rfl, hi, hc, hb⟩ := hrel
          have HR := Lib.hid hc
          have HB2 := Lib.hid hb
          clear hb HS
          by_cases hlt2 : i < 1713
          · have c1 := hc.cell i hlt2
            have f1 := hc.free i
            have c2 := (HRc.out _ HB2.out).cell i hlt2
            rw [orW_wd _ _ _ _ (by rw [HL.out]; exact hlt2), if_neg (Nat.lt_irrefl _)] at c1
            have HO := Lib.hid (bits_or_u64_nat _ _ (wd_lt HLa.out i) (wd_lt HLb.out i))
            have HX := Lib.hid (orW_next L Lc i (by rw [HL.out]; exact hlt2))
            have HV := Lib.hid (or_lt (wd_lt HLa.out i) (wd_lt HLb.out i))
            generalize wd L i = x at *
            generalize wd Lc i = y at *
            clear hc c0
            go_wp2
            go_region
            all_goals go_wp2
            go_roundw
            case rel => exact ⟨i + 1, by go_num, by omega, by rw [HX.out]; exact (HR.out.set i HV.out HO.out).keep (Below.refl _ _).drew, (nat.below_grown HB2.out (nat.grown_set _ _ _ _) HB2.out.size (Nat.le_refl _)).drew⟩
            case measure => simp [intOf]; omega
          · have hi3 : i = 1713 := by omega
            subst hi3
            have HF := Lib.hid (show ∀ D : Nat, D ≤ 109572 → (bitN (orW L Lc 1713) D = true ↔ calsTo us (k + 1) (D : Nat)) from by
              intro D hD
              have hl := HL.out
              rw [← hl, orW_bit _ _ _ (by rw [hl]; omega), Bool.or_eq_true, HBt.out D hD, HSh.out D hD, HNx.out])
            clear hc HBt HL
            go_wp2
            go_roundw
            case rel => exact ⟨k + 1, _, by go_num, by rw [HN.out]; omega, HR.out, HF.out, HB2.out⟩
            case measure => simp [intOf]; omega
    · have hkN : k = N := by omega
      subst hkN
      have HF := Lib.hid (show CalIs wr (.pointer (some ⟨w.heap.size, 0, none⟩)) (us.flatMap (·.2)) from Or.inr ⟨_, L, rfl, HR.out, fun D hD => by rw [HBt.out D hD, shut_all, HN.out]⟩)
      clear hlt hk HBt HR HU HN
      go_wp2
      go_ret
      exact ⟨⟨rfl, HF.out⟩, HB.out⟩
theorem cal_c : CalC CalIs where
  keep _ _ _ _ h hb := h.keep hb
  none_ _ := Or.inl ⟨rfl, fun D _ => by rintro ⟨c, hc, -⟩; cases hc⟩
  new rv rs mv ms w hw hr hm h := (New_any rv mv rs ms w hw hr hm).mono fun e w' h' => by
    obtain ⟨ad, e1, e2⟩ := h'.1 h
    exact ⟨ad, e1, e2, h'.2.2⟩
  newNo rv rs mv ms w hw hr hm h := (New_any rv mv rs ms w hw hr hm).mono fun e w' h' => ⟨h'.2.1 h, h'.2.2⟩
  join jv us w _ h := (Join_at jv us w h).mono fun e w' h' => ⟨_, h'.1.1, h'.1.2, h'.2⟩
  isOpen v cs D w _ hc _ _ := Open_any v cs D w hc
  add v cs D k t w _ hc hd h1 h2 h := by
    by_cases hk : k < 0
    · rw [if_pos hk] at h
      have := Add_down v cs D k.natAbs (some t) (Or.inl ⟨hd, h⟩) (by omega) (by omega) w hc
      rw [show -((k.natAbs : Nat) : Int) = k by omega] at this
      exact this.mono fun e w' h' => ⟨h'.1 t rfl, h'.2.2⟩
    · rw [if_neg hk] at h
      have := Add_up v cs D k.natAbs (some t) (Or.inl ⟨hd, h⟩) (by omega) w hc
      rw [show ((k.natAbs : Nat) : Int) = k by omega] at this
      exact this.mono fun e w' h' => ⟨h'.1 t rfl, h'.2.2⟩
  addNo v cs D k w _ hc hd h1 h2 h := by
    by_cases hk : k < 0
    · rw [if_pos hk] at h
      have := Add_down v cs D k.natAbs none (Or.inl ⟨hd, h⟩) (by omega) (by omega) w hc
      rw [show -((k.natAbs : Nat) : Int) = k by omega] at this
      exact this.mono fun e w' h' => ⟨h'.2.1 rfl, h'.2.2⟩
    · rw [if_neg hk] at h
      have := Add_up v cs D k.natAbs none (Or.inl ⟨hd, h⟩) (by omega) w hc
      rw [show ((k.natAbs : Nat) : Int) = k by omega] at this
      exact this.mono fun e w' h' => ⟨h'.2.1 rfl, h'.2.2⟩
  addDay v cs D k w _ hc hd h1 h2 := by
    by_cases hk : k < 0
    · have := Add_down v cs D k.natAbs none (Or.inr ⟨hd, rfl⟩) (by omega) (by omega) w hc
      rw [show -((k.natAbs : Nat) : Int) = k by omega] at this
      exact this.mono fun e w' h' => ⟨h'.2.1 rfl, h'.2.2⟩
    · have := Add_up v cs D k.natAbs none (Or.inr ⟨hd, rfl⟩) (by omega) w hc
      rw [show ((k.natAbs : Nat) : Int) = k by omega] at this
      exact this.mono fun e w' h' => ⟨h'.2.1 rfl, h'.2.2⟩
  addFar v cs D k w _ _ _ h _ _ := Add_far v D k (by simp only [decide_eq_true_eq, decide_eq_false_iff_not]; omega) w
  count v cs a b w _ hc a1 a2 b1 b2 := Count_any v cs a b a1 a2 b1 b2 w hc
end Go.Proofs.YtlhmfgbaefaneaaGreatDoor.cal
namespace Go.Proofs.YtlhmfgbaefaneaaGreatDoor.ref
open Go.RowKit
def Reads (w : World) (sv : Value) (l : List Nat) : Prop :=
  ∃ ao cap, sv = .slice ao l.length cap ∧ (l.length ≤ cap ∧ (ao = none → cap = 0)) ∧ cap ≤ maxLen ∧ (l = [] ∨ ∃ g, ao = some ⟨g, 0, none⟩ ∧ ∀ k, k < l.length → w.cell? ⟨g, k, none⟩ = some (.int .u64 (dg l k : Nat)))
theorem cell_lt {w : World} {a : Addr} {v : Value} (h : w.cell? a = some v) : a.block < w.heap.size := by
  rcases Nat.lt_or_ge a.block w.heap.size with h' | h'
  · exact h'
  · simp [World.cell?, Array.getElem?_eq_none h'] at h
theorem Reads.below {w w' : World} {sv : Value} {l : List Nat} (h : Reads w sv l) (hb : Below w.heap.size w w') : Reads w' sv l := by
  obtain ⟨ao, cap, rfl, h1, h2, h3⟩ := h
  refine ⟨ao, cap, rfl, h1, h2, h3.imp id fun ⟨g, hg, hc⟩ => ⟨g, hg, fun k hk => (hb.cell (p := ⟨g, k, none⟩) (cell_lt (hc k hk))).trans (hc k hk)⟩⟩
theorem Reads.inj {w : World} {sv : Value} {l l' : List Nat} (h : Reads w sv l) (h' : Reads w sv l') : l = l' := by
  obtain ⟨ao, cap, rfl, _, _, h3⟩ := h
  obtain ⟨ao', cap', he, _, _, h3'⟩ := h'
  simp only [Value.slice.injEq] at he
  obtain ⟨rfl, hl, rfl⟩ := he
  rcases h3 with rfl | ⟨g, rfl, hc⟩
  · exact (List.eq_nil_of_length_eq_zero hl.symm).symm
  · rcases h3' with rfl | ⟨g', hg', hc'⟩
    · exact List.eq_nil_of_length_eq_zero hl
    · simp only [Option.some.injEq, Addr.mk.injEq, and_true] at hg'
      subst hg'
      refine dg_ext hl fun k h1 => ?_
      have := (hc k h1).symm.trans (hc' k (by omega))
      simp only [Option.some.injEq, Value.int.injEq, true_and] at this
      omega
end Go.Proofs.YtlhmfgbaefaneaaGreatDoor.ref
namespace Go.Proofs.YtlhmfgbaefaneaaGreatDoor.ref
open Go.RowKit
def IsN (w : World) (sv : Value) (x : Nat) : Prop := Reads w sv (digs x)
theorem IsN.below {w w' : World} {sv : Value} {x : Nat} (h : IsN w sv x) (hb : Below w.heap.size w w') : IsN w' sv x := Reads.below h hb
theorem IsN.of {w : World} {sv : Value} {l : List Nat} (h : Reads w sv l) (hn : Norm l) : IsN w sv (val l) := by
  unfold IsN
  rw [← hn.eq_digs]
  exact h
theorem IsN.inj {w : World} {sv : Value} {x y : Nat} (h : IsN w sv x) (h' : IsN w sv y) : x = y := by
  have := congrArg val (Reads.inj h h')
  rwa [val_digs, val_digs] at this
def cmpN (x y : Nat) : Int := if x < y then -1 else if x = y then 0 else 1
end Go.Proofs.YtlhmfgbaefaneaaGreatDoor.ref
namespace Go.Proofs.YtlhmfgbaefaneaaGreatDoor.ref
open Go.RowKit
def Own (w : World) (base g cap : Nat) (o : List Nat) : Prop := w.ownsRow base 104 1 (.slice (some ⟨g, 0, none⟩) o.length cap) o.length (o.map fun d => Value.int .u64 (d : Nat))
theorem Own.cell {w : World} {base g cap : Nat} {o : List Nat} (h : Own w base g cap o) (k : Nat) (hk : k < o.length) : w.cell? ⟨g, k, none⟩ = some (.int .u64 (dg o k : Nat)) := by
  rw [World.ownsRow.cellAt h k (by omega)]
  exact dg_map hk _
theorem Own.frozen {w : World} {base g cap : Nat} {o : List Nat} (h : Own w base g cap o) (k : Nat) : w.frozen? ⟨g, k, none⟩ = false := World.ownsRow.frozenAt h k
theorem Own.low {w : World} {base g cap : Nat} {o : List Nat} (h : Own w base g cap o) : base ≤ g ∧ g < w.heap.size := World.ownsRow.lt h g rfl
theorem Own.store {w : World} {base g cap : Nat} {o : List Nat} (h : Own w base g cap o) (j d : Nat) (u : Int) (hu : u = (d : Nat)) : Own (w.setCell ⟨g, j, none⟩ (.int .u64 u)) base g cap (o.set j d) := by
  have h1 := (World.ownsRow.stored h j (.int .u64 u)).1
  unfold Own
  rw [List.length_set, List.map_set, ← hu]
  exact h1
theorem Own.drewN {w : World} {base g cap : Nat} {o : List Nat} (h : Own w base g cap o) (n : Nat) : Own (w.drewN n) base g cap o :=
  World.ownsRow.kept (row := none) h ⟨rfl, rfl, rfl, Nat.le_refl _, fun _ _ _ => rfl⟩ (by simp [Value.ownBlock])
def MRel (w : World) (x y n g cap i : Nat) (wr : World) : Prop :=
  ∃ o : List Nat, o.length = n ∧ Own wr w.heap.size g cap o ∧ Below w.heap.size w wr ∧ Dig o ∧ val o = val ((digs x).take i) * y ∧ ∀ j, i + (digs y).length ≤ j → dg o j = 0
def MIn (w : World) (x y n g cap i k c : Nat) (wr : World) : Prop :=
  ∃ o : List Nat, o.length = n ∧ Own wr w.heap.size g cap o ∧ Below w.heap.size w wr ∧ Dig o ∧ val o + 1000000000 ^ (i + k) * c = val ((digs x).take i) * y + 1000000000 ^ i * (dg (digs x) i * val ((digs y).take k)) ∧
    (∀ j, i + (digs y).length ≤ j → i + k ≤ j → dg o j = 0) ∧ c < 1000000000 ∧ (k ≤ (digs y).length ∨ k = (digs y).length + 1 ∧ c = 0)
theorem MIn.row {w wi : World} {x y n g cap i k : Nat} (h : MIn w x y n g cap i k 0 wi) (hk : (digs y).length ≤ k) : MRel w x y n g cap (i + 1) wi := by
  obtain ⟨o, hl, hO, hB, hD, hv, hz, _, hj⟩ := h
  refine ⟨o, hl, hO, hB, hD, ?_, fun j h => hz j (by omega) (by omega)⟩
  rw [List.take_of_length_le hk, val_digs] at hv
  rw [val_take_succ, Nat.add_mul, Nat.mul_assoc]
  omega
theorem MIn.next {w wi wj : World} {x y n g cap i k c : Nat} {o : List Nat} (hl : o.length = n) (hO : Own wi w.heap.size g cap o) (hB : Below w.heap.size w wj) (hD : Dig o)
    (hv : val o + 1000000000 ^ (i + k) * c = val ((digs x).take i) * y + 1000000000 ^ i * (dg (digs x) i * val ((digs y).take k))) (hz : ∀ j, i + (digs y).length ≤ j → i + k ≤ j → dg o j = 0) (hc : c < 1000000000)
    (hj : k ≤ (digs y).length) (u : Int) (hw : wj = wi.setCell ⟨g, i + k, none⟩ (.int .u64 u)) (hu : u = ((dg o (i + k) + c + dg (digs x) i * dg (digs y) k) % 1000000000 : Nat)) (hgo : i + k < n) :
    MIn w x y n g cap i (k + 1) ((dg o (i + k) + c + dg (digs x) i * dg (digs y) k) / 1000000000) wj := by
  have d1 := dg_lt hD (i + k)
  have d2 := dg_lt (norm_digs x).1 i
  have d3 := dg_lt (norm_digs y).1 k
  have hp : dg (digs x) i * dg (digs y) k ≤ 999999999 * 999999999 := Nat.mul_le_mul (by omega) (by omega)
  refine ⟨o.set (i + k) ((dg o (i + k) + c + dg (digs x) i * dg (digs y) k) % 1000000000), by simp [hl], by rw [hw]; exact hO.store _ _ _ hu, hB, hD.set (Nat.mod_lt _ (by omega)), mul_step (by omega) hv, fun j h1 h2 => ?_, by omega, ?_⟩
  · rw [dg_set_other (by omega)]
    exact hz j h1 (by omega)
  · by_cases hk : k < (digs y).length
    · exact Or.inl (by omega)
    · have h0 : dg o (i + k) = 0 := hz _ (by omega) (by omega)
      have h1 : dg (digs y) k = 0 := dg_out (by omega)
      refine Or.inr ⟨by omega, ?_⟩
      rw [h0, h1, Nat.mul_zero]
      omega
end Go.Proofs.YtlhmfgbaefaneaaGreatDoor.ref
namespace Go.Proofs.YtlhmfgbaefaneaaGreatDoor.ref
open Go.RowKit
theorem Own.of_row {w : World} {base n : Nat} {v : Value} {l : List Nat} (h : w.ownsRow base 104 1 v n (l.map fun d => Value.int .u64 (d : Nat))) (hn : l.length = n) (h0 : 0 < n) : ∃ g cap, v = .slice (some ⟨g, 0, none⟩) n cap ∧ Own w base g cap l := by
  rcases h.2 with ⟨_, hz⟩ | ⟨g, cap, cur, rfl, _⟩
  · omega
  · refine ⟨g, cap, rfl, ?_⟩
    unfold Own
    rw [hn]
    exact h
end Go.Proofs.YtlhmfgbaefaneaaGreatDoor.ref
namespace Go.Proofs.YtlhmfgbaefaneaaGreatDoor.ref
open Go.RowKit
theorem Own.below {w w' : World} {base g cap : Nat} {o : List Nat} (h : Own w base g cap o) (hb : Below w.heap.size w w') : Own w' base g cap o :=
  World.ownsRow.kept (row := none) h ⟨hb.os, hb.tape, hb.output, hb.size, fun k hk _ => hb.block k hk⟩ (by simp [Value.ownBlock])
theorem Reads.setCell {w : World} {ao : Option Addr} {n cap : Nat} {l : List Nat} (h : Reads w (.slice ao n cap) l) {p : Addr} (hp : ∀ a, ao = some a → a.block ≠ p.block) (u : Value) : Reads (w.setCell p u) (.slice ao n cap) l := by
  obtain ⟨ao', cap', he, h1, h2, h3⟩ := h
  simp only [Value.slice.injEq] at he
  obtain ⟨rfl, rfl, rfl⟩ := he
  refine ⟨ao, cap, rfl, h1, h2, h3.imp id fun ⟨g, hg, hc⟩ => ⟨g, hg, fun k hk => ?_⟩⟩
  rw [World.cell?_of_block (w := w) (a := ⟨g, k, none⟩) (Below.heap_setCell _ _ _ _ (hp ⟨g, 0, none⟩ hg))]
  exact hc k hk
end Go.Proofs.YtlhmfgbaefaneaaGreatDoor.ref
namespace Go.Proofs.YtlhmfgbaefaneaaGreatDoor.ref
open Go.RowKit
def IsI (w : World) (v : Value) (z : Int) : Prop := ∃ sv, v = .agg #[.bool (decide (z < 0)), sv] ∧ IsN w sv z.natAbs
theorem IsI.below {w w' : World} {v : Value} {z : Int} (h : IsI w v z) (hb : Below w.heap.size w w') : IsI w' v z := by
  obtain ⟨sv, rfl, hs⟩ := h
  exact ⟨sv, rfl, hs.below hb⟩
theorem IsI.inj {w : World} {v : Value} {z z' : Int} (h : IsI w v z) (h' : IsI w v z') : z = z' := by
  obtain ⟨sv, rfl, hs⟩ := h
  obtain ⟨sv', he, hs'⟩ := h'
  have e := Value.agg.inj he
  simp only [Array.mk.injEq, List.cons.injEq, Value.bool.injEq, and_true] at e
  obtain ⟨e1, rfl⟩ := e
  have := IsN.inj hs hs'
  simp only [decide_eq_decide] at e1
  omega
def signed (b : Bool) (x : Nat) : Int := if b then -(x : Int) else x
end Go.Proofs.YtlhmfgbaefaneaaGreatDoor.ref
namespace Go.Proofs.YtlhmfgbaefaneaaGreatDoor.ref
open Go.RowKit
theorem result_cells {w w2 w3 : World} {n : Nat} (hn : w.heap.size = n) (h2 : w2 = w.alloc (.cells #[Value.bool false, .slice none 0 0] 81)) (h : Below w2.heap.size w2 w3) :
    w3.cell? ⟨n, 0, none⟩ = some (.bool false) ∧ w3.cell? ⟨n, 1, none⟩ = some (.slice none 0 0) ∧ w3.frozen? ⟨n, 0, none⟩ = false ∧ w3.frozen? ⟨n, 1, none⟩ = false := by
  subst h2 hn
  have hs : w.heap.size < (w.alloc (.cells #[Value.bool false, .slice none 0 0] 81)).heap.size := by simp
  refine ⟨(h.cell (p := ⟨w.heap.size, 0, none⟩) hs).trans ?_, (h.cell (p := ⟨w.heap.size, 1, none⟩) hs).trans ?_, (h.frozen (p := ⟨w.heap.size, 0, none⟩) hs).trans ?_, (h.frozen (p := ⟨w.heap.size, 1, none⟩) hs).trans ?_⟩
  · rw [cell_of_row _ w.heap.size 0 _ 81 (0, 0) (heap_alloc_new w _)]; rfl
  · rw [cell_of_row _ w.heap.size 1 _ 81 (0, 0) (heap_alloc_new w _)]; rfl
  · unfold World.frozen?
    rw [heap_alloc_new]
    rfl
  · unfold World.frozen?
    rw [heap_alloc_new]
    rfl
end Go.Proofs.YtlhmfgbaefaneaaGreatDoor.ref
namespace Go.Proofs.YtlhmfgbaefaneaaGreatDoor.ref
open Go.RowKit
def MadeAt (V w3 : World) : Prop := Below (V.alloc (.cells #[Value.bool false, .slice none 0 0] 81)).heap.size (V.alloc (.cells #[Value.bool false, .slice none 0 0] 81)) w3
theorem MadeAt.cells {V w3 : World} (h : MadeAt V w3) :
    w3.cell? ⟨V.heap.size, 0, none⟩ = some (.bool false) ∧ w3.cell? ⟨V.heap.size, 1, none⟩ = some (.slice none 0 0) ∧ w3.frozen? ⟨V.heap.size, 0, none⟩ = false ∧ w3.frozen? ⟨V.heap.size, 1, none⟩ = false := result_cells rfl rfl h
theorem MadeAt.on {V w2 w3 : World} (h : MadeAt V w2) (hb : Below w2.drew.heap.size w2.drew w3) : MadeAt V w3 := by
  have h2 := Below.drew h
  exact h2.trans (hb.mono h2.size)
theorem MadeAt.at {V w2 w3 : World} (h : MadeAt V w2) (hb : Below w2.heap.size w2 w3) : MadeAt V w3 := by
  have h2 : Below (V.alloc (.cells #[Value.bool false, .slice none 0 0] 81)).heap.size (V.alloc (.cells #[Value.bool false, .slice none 0 0] 81)) w2 := h
  exact h2.trans (hb.mono h2.size)
end Go.Proofs.YtlhmfgbaefaneaaGreatDoor.ref
namespace Go.Proofs.YtlhmfgbaefaneaaGreatDoor.ref
open Go.RowKit
def IsQ (w : World) (v : Value) (z : Int) (d : Nat) : Prop := ∃ s t, v = .agg #[.bool (decide (z < 0)), s, t] ∧ IsN w s z.natAbs ∧ IsN w t d
theorem IsQ.below {w w' : World} {v : Value} {z : Int} {d : Nat} (h : IsQ w v z d) (hb : Below w.heap.size w w') : IsQ w' v z d := by
  obtain ⟨s, t, rfl, hs, ht⟩ := h
  exact ⟨s, t, rfl, hs.below hb, ht.below hb⟩
theorem IsQ.inj {w : World} {v : Value} {z z' : Int} {d d' : Nat} (h : IsQ w v z d) (h' : IsQ w v z' d') : z = z' ∧ d = d' := by
  obtain ⟨s, t, rfl, hs, ht⟩ := h
  obtain ⟨s', t', he, hs', ht'⟩ := h'
  have e := Value.agg.inj he
  simp only [Array.mk.injEq, List.cons.injEq, Value.bool.injEq, and_true] at e
  obtain ⟨e1, rfl, rfl⟩ := e
  have := IsN.inj hs hs'
  have := IsN.inj ht ht'
  simp only [decide_eq_decide] at e1
  omega
theorem IsI.nat {w : World} {s : Value} {d : Nat} (h : IsN w s d) : IsI w (.agg #[.bool false, s]) (d : Int) := ⟨s, by simp, by simpa using h⟩
end Go.Proofs.YtlhmfgbaefaneaaGreatDoor.ref
namespace Go.Proofs.YtlhmfgbaefaneaaGreatDoor.ref
open Go.RowKit
def lowN (z : Int) (d : Nat) : Int := signed (decide (z < 0)) (z.natAbs / Nat.gcd z.natAbs d)
def lowD (z : Int) (d : Nat) : Nat := d / Nat.gcd z.natAbs d
def ratText (z : Int) (d : Nat) : List UInt8 := Lib.itoa (lowN z d) ++ (if lowD z d = 1 then [] else 47 :: Lib.decDigits (lowD z d))
theorem lowN_abs (z : Int) (d : Nat) : (lowN z d).natAbs = z.natAbs / Nat.gcd z.natAbs d := by
  unfold lowN signed
  generalize z.natAbs / Nat.gcd z.natAbs d = q
  split <;> omega
theorem row3 {w : World} {g : Nat} {v0 v1 v2 : Value} {t : TypeId} (h3 : w.heap[g]? = some (.cells #[v0, v1, v2] t (0, 0))) :
    w.cell? ⟨g, 0, none⟩ = some v0 ∧ w.cell? ⟨g, 1, none⟩ = some v1 ∧ w.cell? ⟨g, 2, none⟩ = some v2 ∧ w.frozen? ⟨g, 0, none⟩ = false ∧ w.frozen? ⟨g, 1, none⟩ = false ∧ w.frozen? ⟨g, 2, none⟩ = false := by
  refine ⟨?_, ?_, ?_, ?_, ?_, ?_⟩
  · rw [cell_of_row _ g 0 _ t (0, 0) h3]; rfl
  · rw [cell_of_row _ g 1 _ t (0, 0) h3]; rfl
  · rw [cell_of_row _ g 2 _ t (0, 0) h3]; rfl
  all_goals
    unfold World.frozen?
    rw [h3]
    rfl
end Go.Proofs.YtlhmfgbaefaneaaGreatDoor.ref
