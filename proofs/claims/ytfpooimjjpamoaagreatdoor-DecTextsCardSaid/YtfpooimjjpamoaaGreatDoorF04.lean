/-
  The steps of the walks, part 4: RefSub.
-/
import Derived.Laws.AppendOwnNone
import Derived.RegionTactic
import Derived.BigRegion
import Derived.Test.YtfpooimjjpamoaaGreatDoorF03
namespace Go.Proofs.YtfpooimjjpamoaaGreatDoor.ref
open Go.RowKit
theorem Own.of_row {w : World} {base n : Nat} {v : Value} {l : List Nat} (h : w.ownsRow base 45 1 v n (l.map fun d => Value.int .u64 (d : Nat))) (hn : l.length = n) (h0 : 0 < n) : ∃ g cap, v = .slice (some ⟨g, 0, none⟩) n cap ∧ Own w base g cap l := by
  rcases h.2 with ⟨_, hz⟩ | ⟨g, cap, cur, rfl, _⟩
  · omega
  · refine ⟨g, cap, rfl, ?_⟩
    unfold Own
    rw [hn]
    exact h
set_option maxRecDepth 100000 in
set_option maxHeartbeats 1000000 in
theorem Sub_zero (a b : Value) (w : World) (ha : IsN w a 0) (hb : IsN w b 0) :
    Calls Tryz.prog 31 #[a, b] w fun e w' => ∃ sv, e = .returned sv ∧ IsN w' sv 0 ∧ Below w.heap.size w w' := by
  obtain ⟨i0, hi0, hz0, hz1, hz2⟩ := info_parts infoU64
  obtain ⟨ao, acap, rfl, ⟨a1, a4⟩, a2, -⟩ := ha
  obtain ⟨bo, bcap, rfl, ⟨b1, -⟩, b2, -⟩ := hb
  unfold maxLen at a2 b2
  have h0 : (digs 0).length = 0 := by rw [digs_zero]; rfl
  rw [h0] at *
  have hend : ∀ (w' : World) (sv' : Value) (l' : List Nat), Reads w' sv' l' → Norm l' → val l' = val [] → IsN w' sv' 0 := fun w' sv' l' h1 h2 h3 => by
    have := IsN.of h1 h2
    rwa [h3] at this
  have HE := Lib.hid hend
  have A4 := Lib.hid a4
  clear a4 hend h0 a1 b1
  rcases ao with _ | ad
  · obtain rfl := A4.out rfl
    have HT := Lib.hid (fun w : World => trim_any (.slice none 0 0) [] w ⟨none, 0, rfl, ⟨Nat.le_refl _, fun _ => rfl⟩, Nat.zero_le _, Or.inl rfl⟩ Dig.nil)
    go_enter Tryz.func31, Tryz.ntmps31
    go_wp2_with (first | (at_builtin; refine wpList_append_own_none _ rfl _ _ 25 rfl w.heap.size 45 i0 1 Tryz.underlying25 hi0 (.slice none 0 0) 0 [] rfl (World.ownsRow_nil _ _ _ _) rfl ?_))
    refine wp_loop_rounds 1 ?_
    rw [rounds_succ]
    go_wp2_with (go_at_call 111; refine (HT.out _).mono ?_; rintro e' w' ⟨sv', l', rfl, hr, hn, hval, rfl⟩; have HRd := Lib.hid hr; have HNr := Lib.hid hn; have HVl := Lib.hid hval; clear hr hn hval)
    go_ret
    exact ⟨_, rfl, HE.out _ _ _ HRd.out HNr.out HVl.out, Below.refl _ _⟩
  · go_enter Tryz.func31, Tryz.ntmps31
    go_wp2_with (at_builtin; refine wpList_append_own _ rfl _ _ 25 rfl w.heap.size 45 i0 (.int .u64 0) 1 8 Tryz.underlying25 hi0 hz0 hz1 hz2 rfl (by decide) (.slice none 0 0) 0 [] rfl (World.ownsRow_nil _ _ _ _) ad 0 acap [] rfl rfl ?c1 ?c2 ?c3 ?c4 ?c5 ?_)
    case c1 => intro j u hj; simp at hj
    case c2 => intro u hu; simp at hu
    case c3 => unfold maxLen; omega
    case c4 => omega
    case c5 => exact Nat.le_refl _
    intro v' w3 hown3 hg3 hiff
    subst hiff
    have HT := Lib.hid (fun w : World => trim_any (.slice none 0 0) [] w ⟨none, 0, rfl, ⟨Nat.le_refl _, fun _ => rfl⟩, Nat.zero_le _, Or.inl rfl⟩ Dig.nil)
    have HB := Lib.hid (show Below w.heap.size w w3 from (Below.refl _ _).grown hg3 (Nat.le_refl _) (fun k hk => by simp [Value.ownBlock] at hk))
    clear hown3 hg3
    go_wp2
    refine wp_loop_rounds 1 ?_
    rw [rounds_succ]
    go_wp2_with (go_at_call 111; refine (HT.out _).mono ?_; rintro e' w' ⟨sv', l', rfl, hr, hn, hval, rfl⟩; have HRd := Lib.hid hr; have HNr := Lib.hid hn; have HVl := Lib.hid hval; clear hr hn hval)
    go_ret
    exact ⟨_, rfl, HE.out _ _ _ HRd.out HNr.out HVl.out, HB.out⟩
def SRel (w : World) (x y n g cap i : Nat) (wr : World) : Prop :=
  ∃ o : List Nat, o.length = n ∧ Own wr w.heap.size g cap o ∧ Below w.heap.size w wr ∧ Dig o ∧ val o + val ((digs y).take i) = x
def SIn (w : World) (n g cap : Nat) (V D k : Nat) (wr : World) : Prop :=
  ∃ o : List Nat, o.length = n ∧ Own wr w.heap.size g cap o ∧ Below w.heap.size w wr ∧ Dig o ∧ val o + D = V + 1000000000 ^ k
set_option maxRecDepth 100000 in
set_option maxHeartbeats 8000000 in
theorem Sub_some (a b : Value) (x y : Nat) (w : World) (ha : IsN w a x) (hb : IsN w b y) (hle : y ≤ x) (hx : (digs x).length ≤ 100000) (hx0 : digs x ≠ []) :
    Calls Tryz.prog 31 #[a, b] w fun e w' => ∃ sv, e = .returned sv ∧ IsN w' sv (x - y) ∧ Below w.heap.size w w' := by
  obtain ⟨i0, hi0, hz0, hz1, hz2⟩ := info_parts infoU64
  obtain ⟨ao, acap, rfl, ⟨a1, -⟩, a2, a3⟩ := ha
  obtain ⟨bo, bcap, rfl, ⟨b1, -⟩, b2, b3⟩ := hb
  obtain ⟨ga, rfl, ca⟩ := a3.resolve_left hx0
  unfold maxLen at a2 b2
  have hna0 : 0 < (digs x).length := List.length_pos_iff.2 hx0
  have hnb : (digs y).length ≤ (digs x).length := by
    by_cases h : (digs x).length < (digs y).length
    · have := digs_len_lt h
      omega
    · omega
  generalize hN : (digs x).length = na at *
  generalize hM : (digs y).length = nb at *
  have HN := Lib.hid hN
  have HM := Lib.hid hM
  have HCA := Lib.hid ca
  have HLe := Lib.hid hle
  clear hN hM ca hx0 hle
  go_enter Tryz.func31, Tryz.ntmps31
  go_wp2_with (at_builtin; refine wpList_append_own _ rfl _ _ 25 rfl w.heap.size 45 i0 (.int .u64 0) 1 8 Tryz.underlying25 hi0 hz0 hz1 hz2 rfl (by decide) (.slice none 0 0) 0 [] rfl (World.ownsRow_nil _ _ _ _) ⟨ga, 0, none⟩ na acap ((digs x).map fun d => Value.int .u64 (d : Nat)) rfl ?c0 ?c1 ?c2 ?c3 ?c4 ?c5 ?_)
  case c0 => rw [List.length_map, HN.out, Nat.mul_one]
  case c1 =>
    intro j u hj
    have hjn : j < na := by
      rw [List.getElem?_map] at hj
      have := (List.getElem?_eq_some_iff.1 (Option.map_eq_some_iff.1 hj).choose_spec.1).choose
      rw [HN.out] at this
      exact this
    rw [dg_map (by rw [HN.out]; exact hjn)] at hj
    have := HCA.out j hjn
    simp only [Option.some.injEq] at hj
    subst hj
    have h2 : (⟨ga, 0, none⟩ : Addr).add j = ⟨ga, j, none⟩ := by unfold Addr.add; split <;> simp_all
    rw [h2]
    exact this
  case c2 =>
    intro u hu
    obtain ⟨d, _, rfl⟩ := List.mem_map.1 hu
    rfl
  case c3 => unfold maxLen; omega
  case c4 => omega
  case c5 => exact Nat.le_refl _
  intro v' w3 hown3 hg3 _
  obtain ⟨g, cap, rfl, hO⟩ := Own.of_row (n := na) (l := digs x) (by simpa using hown3) HN.out hna0
  have hB : Below w.heap.size w w3 := (Below.refl _ _).grown hg3 (Nat.le_refl _) (fun k hk => by simp [Value.ownBlock] at hk)
  have HO := Lib.hid hO
  have HB := Lib.hid hB
  clear hown3 hg3 hO hB
  go_wp2
  go_loopw [6] (fun iv wr => ∃ i : Nat, i ≤ nb ∧ iv = .int .i64 i ∧ SRel w x y na g cap i wr) (fun iv _ => nb - (intOf iv).toNat)
  case atStart => exact ⟨0, Nat.zero_le _, rfl, digs x, HN.out, HO.out, HB.out, (norm_digs x).1, by simp [val, val_digs]⟩
  case round =>
    obtain ⟨i, hi, rfl, hrel⟩ := hrel
    obtain ⟨o, hl, hO, hB, hD, hv⟩ := hrel
    have HOo := Lib.hid hO
    have HBo := Lib.hid hB
    have HDo := Lib.hid hD
    have HVo := Lib.hid hv
    have HLo := Lib.hid hl
    clear hO hB hD hv hl
    by_cases hlt : i < nb
    · have hy0 : digs y ≠ [] := by
        intro h
        have := HM.out
        rw [h] at this
        simp at this
        omega
      obtain ⟨gb, rfl, cb⟩ := b3.resolve_left hy0
      have c1 := HOo.out.cell i (by rw [HLo.out]; omega)
      have f1 := HOo.out.frozen i
      have c2 := (HBo.out.cell (p := ⟨gb, i, none⟩) (cell_lt (cb i hlt))).trans (cb i hlt)
      have b1' := dg_lt HDo.out i
      have b2' := dg_lt (norm_digs y).1 i
      generalize hd1 : dg o i = d at c1 b1'
      generalize hd2 : dg (digs y) i = e at c2 b2'
      have HD1 := Lib.hid hd1
      have HD2 := Lib.hid hd2
      have hin : i < na := by omega
      clear hd1 hd2 hy0 cb b3
      by_cases hde : e ≤ d
      · go_wp2
        go_quiet (fail)
        go_wp2
        go_region
        go_wp2
        go_roundw
        case rel =>
          refine ⟨i + 1, by omega, by go_num, o.set i (dg o i - dg (digs y) i), by rw [List.length_set]; exact HLo.out, (HOo.out.drewN _).store i _ _ (by rw [HD1.out, HD2.out]; go_num), (drewN_below HBo.out _).setCell HOo.out.low.1 _, HDo.out.set (by have := HD1.out; omega), sub_plain (by rw [HLo.out]; exact hin) HVo.out (by rw [HD1.out, HD2.out]; exact hde)⟩
        case measure => simp [intOf]; omega
      · have hV := Lib.hid (show 1000000000 ^ i * e ≤ val o from by
          have h1 := val_dg (digs y) i (by rw [HM.out]; exact hlt)
          rw [val_digs, Nat.mul_add, HD2.out] at h1
          have h2 := HVo.out
          have h3 := HLe.out
          omega)
        have HS := Lib.hid (sub_borrow (o := o) (b := digs y) (i := i) (V := val o) (by rw [HLo.out]; exact hin) rfl (by rw [HD2.out]; exact b2'))
        rw [HD1.out, HD2.out] at HS
        have hde' : d < e := by omega
        clear hde
        go_wp2
        go_quiet (fail)
        go_wp2
        go_region
        go_wp2
        go_loopw [7] (fun kv wi => ∃ k : Nat, kv = .int .i64 k ∧ SIn w na g cap (val o) (1000000000 ^ i * e) k wi) (fun kv _ => na - (intOf kv).toNat)
        case atStart =>
          exact ⟨i + 1, by go_num, o.set i (d + (1000000000 - e)), by rw [List.length_set]; exact HLo.out, (HOo.out.drewN _).store i _ _ (by go_num), (drewN_below HBo.out _).setCell HOo.out.low.1 _, HDo.out.set (by omega), HS.out⟩
        case round =>
          obtain ⟨k, rfl, o2, hl2, hO2, hB2, hD2, hv2⟩ := hrel
          have hk : k < na := by
            have := sub_within hD2 hv2 hV.out
            omega
          have g1 := hO2.cell k (by omega)
          have g2 := hO2.frozen k
          have g3 := dg_lt hD2 k
          have HO2 := Lib.hid hO2
          have HB2 := Lib.hid hB2
          have HD22 := Lib.hid hD2
          have HV2 := Lib.hid hv2
          have HL2 := Lib.hid hl2
          generalize hq : dg o2 k = q at g1 g3
          have HQ := Lib.hid hq
          clear hO2 hB2 hD2 hv2 hl2 hq
          by_cases h0 : q = 0
          · subst h0
            go_wp2
            go_roundw
            case rel => exact ⟨k + 1, by go_num, o2.set k 999999999, by rw [List.length_set]; exact HL2.out, HO2.out.store k _ _ (by go_num), HB2.out.setCell HO2.out.low.1 _, HD22.out.set (by omega), sub_nought (by rw [HL2.out]; exact hk) HV2.out HQ.out⟩
            case measure => simp [intOf]; omega
          · have hb : ((q : Int) == 0) = false := by simp; omega
            go_wp2
            go_roundw
            case rel =>
              refine ⟨i + 1, by omega, by go_num, o2.set k (dg o2 k - 1), by rw [List.length_set]; exact HL2.out, HO2.out.store k _ _ (by rw [HQ.out]; go_num), HB2.out.setCell HO2.out.low.1 _, HD22.out.set (by have := HQ.out; omega), ?_⟩
              have h1 := sub_last (by rw [HL2.out]; exact hk) HV2.out (by rw [HQ.out]; exact h0)
              rw [val_take_succ, HD2.out]
              have h2 := HVo.out
              omega
            case measure => simp [intOf]; omega
    · have hi' : i = nb := by omega
      subst hi'
      have HT := Lib.hid (trim_any _ o wr HOo.out.reads HDo.out)
      rw [HLo.out] at HT
      go_wp2_with (go_at_call 111; refine (HT.out).mono ?_; rintro e' w' ⟨sv', l', rfl, hr, hn, hval, rfl⟩; have HRd := Lib.hid hr; have HNr := Lib.hid hn; have HVl := Lib.hid hval; clear hr hn hval)
      go_ret
      refine ⟨_, rfl, ?_, HBo.out⟩
      have h1 : val l' = x - y := by
        have h2 := HVo.out
        rw [List.take_of_length_le (by rw [HM.out]; omega), val_digs] at h2
        have h3 := HVl.out
        omega
      rw [← h1]
      exact IsN.of HRd.out HNr.out
theorem Sub_any (a b : Value) (x y : Nat) (w : World) (ha : IsN w a x) (hb : IsN w b y) (hle : y ≤ x) (hx : (digs x).length ≤ 100000) :
    Calls Tryz.prog 31 #[a, b] w fun e w' => ∃ sv, e = .returned sv ∧ IsN w' sv (x - y) ∧ Below w.heap.size w w' := by
  by_cases hx0 : digs x = []
  · have h0 : x = 0 := by have := congrArg val hx0; rwa [val_digs] at this
    subst h0
    obtain rfl : y = 0 := by omega
    exact Sub_zero a b w ha hb
  · exact Sub_some a b x y w ha hb hle hx hx0
end Go.Proofs.YtfpooimjjpamoaaGreatDoor.ref
