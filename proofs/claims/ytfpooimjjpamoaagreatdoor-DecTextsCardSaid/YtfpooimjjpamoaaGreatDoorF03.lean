/-
  The steps of the walks, part 3: RefMul.
-/
import Derived.Laws.MakeOwn
import Derived.Test.YtfpooimjjpamoaaGreatDoorF02
namespace Go.Proofs.YtfpooimjjpamoaaGreatDoor.ref
open Go.RowKit
def Own (w : World) (base g cap : Nat) (o : List Nat) : Prop := w.ownsRow base 45 1 (.slice (some ⟨g, 0, none⟩) o.length cap) o.length (o.map fun d => Value.int .u64 (d : Nat))
theorem Own.cell {w : World} {base g cap : Nat} {o : List Nat} (h : Own w base g cap o) (k : Nat) (hk : k < o.length) : w.cell? ⟨g, k, none⟩ = some (.int .u64 (dg o k : Nat)) := by
  rw [World.ownsRow.cellAt h k (by omega)]
  exact dg_map hk _
theorem Own.frozen {w : World} {base g cap : Nat} {o : List Nat} (h : Own w base g cap o) (k : Nat) : w.frozen? ⟨g, k, none⟩ = false := World.ownsRow.frozenAt h k
theorem Own.low {w : World} {base g cap : Nat} {o : List Nat} (h : Own w base g cap o) : base ≤ g ∧ g < w.heap.size := World.ownsRow.lt h g rfl
theorem Own.store {w : World} {base g cap : Nat} {o : List Nat} (h : Own w base g cap o) (j d : Nat) (u : Int) (hu : u = (d : Nat)) : Own (w.setCell ⟨g, j, none⟩ (.int .u64 u)) base g cap (o.set j d) := by
  have h1 := (World.ownsRow.stored h j (.int .u64 u)).1
  unfold Own
  rw [List.length_set, List.map_set, ← hu]
  exact h1
theorem Own.drewN {w : World} {base g cap : Nat} {o : List Nat} (h : Own w base g cap o) (n : Nat) : Own (w.drewN n) base g cap o :=
  World.ownsRow.kept (row := none) h ⟨rfl, rfl, rfl, Nat.le_refl _, fun _ _ _ => rfl⟩ (by simp [Value.ownBlock])
theorem Own.reads {w : World} {base g cap : Nat} {o : List Nat} (h : Own w base g cap o) : Reads w (.slice (some ⟨g, 0, none⟩) o.length cap) o := Reads.of_own h
theorem own_made (w : World) (n : Nat) (hn : n ≤ maxLen) : Own (w.alloc (.cells (madeCells #[Value.int .u64 0] (n * 1)) 45)) w.heap.size w.heap.size n (List.replicate n 0) := by
  unfold Own
  have h := World.ownsRow_lit (base := w.heap.size) (e := 45) (size := 1) w (madeCells #[Value.int .u64 0] (n * 1)) n (Nat.le_refl _) hn (by rw [size_madeCells])
  have e : (madeCells #[Value.int .u64 0] (n * 1)).toList = (List.replicate n 0).map fun d : Nat => Value.int .u64 (d : Nat) := by
    apply List.ext_getElem
    · simp [madeCells]
    · intro k h1 h2
      simp [madeCells, Nat.mod_one]
  rw [e] at h
  simpa using h
def MRel (w : World) (x y n g cap i : Nat) (wr : World) : Prop :=
  ∃ o : List Nat, o.length = n ∧ Own wr w.heap.size g cap o ∧ Below w.heap.size w wr ∧ Dig o ∧ val o = val ((digs x).take i) * y ∧ ∀ j, i + (digs y).length ≤ j → dg o j = 0
def MIn (w : World) (x y n g cap i k c : Nat) (wr : World) : Prop :=
  ∃ o : List Nat, o.length = n ∧ Own wr w.heap.size g cap o ∧ Below w.heap.size w wr ∧ Dig o ∧ val o + 1000000000 ^ (i + k) * c = val ((digs x).take i) * y + 1000000000 ^ i * (dg (digs x) i * val ((digs y).take k)) ∧
    (∀ j, i + (digs y).length ≤ j → i + k ≤ j → dg o j = 0) ∧ c < 1000000000 ∧ (k ≤ (digs y).length ∨ k = (digs y).length + 1 ∧ c = 0)
set_option maxRecDepth 100000 in
set_option maxHeartbeats 4000000 in
theorem Mul_none (a b : Value) (x y : Nat) (w : World) (ha : IsN w a x) (hb : IsN w b y) (h : digs x = [] ∨ digs y = []) :
    Calls Tryz.prog 38 #[a, b] w fun e w' => ∃ sv, e = .returned sv ∧ IsN w' sv (x * y) ∧ Below w.heap.size w w' := by
  obtain ⟨ao, acap, rfl, ⟨a1, -⟩, a2, a3⟩ := ha
  obtain ⟨bo, bcap, rfl, ⟨b1, -⟩, b2, b3⟩ := hb
  have hz := Lib.hid (show IsN w (.slice none 0 0) (x * y) from by
    have h0 : x * y = 0 := by
      rcases h with h | h
      · have := congrArg val h
        rw [val_digs] at this
        rw [show x = 0 from this, Nat.zero_mul]
      · have := congrArg val h
        rw [val_digs] at this
        rw [show y = 0 from this, Nat.mul_zero]
    rw [h0]
    unfold IsN
    rw [digs_zero]
    exact ⟨none, 0, rfl, ⟨Nat.le_refl _, fun _ => rfl⟩, Nat.zero_le _, Or.inl rfl⟩)
  rcases h with h | h
  · have hl : (digs x).length = 0 := by rw [h]; rfl
    rw [hl]
    go_enter Tryz.func38, Tryz.ntmps38
    go_wp2
    go_ret
    exact ⟨_, rfl, hz.out, Below.refl _ _⟩
  · have hl : (digs y).length = 0 := by rw [h]; rfl
    rw [hl]
    generalize (digs x).length = na at *
    by_cases h0 : na = 0
    · subst h0
      go_enter Tryz.func38, Tryz.ntmps38
      go_wp2
      go_ret
      exact ⟨_, rfl, hz.out, Below.refl _ _⟩
    · have h1 : ((na : Int) == 0) = false := by simp; omega
      go_enter Tryz.func38, Tryz.ntmps38
      go_wp2
      go_ret
      exact ⟨_, rfl, hz.out, Below.refl _ _⟩
theorem MIn.row {w wi : World} {x y n g cap i k : Nat} (h : MIn w x y n g cap i k 0 wi) (hk : (digs y).length ≤ k) : MRel w x y n g cap (i + 1) wi := by
  obtain ⟨o, hl, hO, hB, hD, hv, hz, _, hj⟩ := h
  refine ⟨o, hl, hO, hB, hD, ?_, fun j h => hz j (by omega) (by omega)⟩
  rw [List.take_of_length_le hk, val_digs] at hv
  rw [val_take_succ, Nat.add_mul, Nat.mul_assoc]
  omega
theorem MIn.next {w wi wj : World} {x y n g cap i k c : Nat} {o : List Nat} (hl : o.length = n) (hO : Own wi w.heap.size g cap o) (hB : Below w.heap.size w wj) (hD : Dig o)
    (hv : val o + 1000000000 ^ (i + k) * c = val ((digs x).take i) * y + 1000000000 ^ i * (dg (digs x) i * val ((digs y).take k))) (hz : ∀ j, i + (digs y).length ≤ j → i + k ≤ j → dg o j = 0) (hc : c < 1000000000)
    (hj : k ≤ (digs y).length) (u : Int) (hw : wj = wi.setCell ⟨g, i + k, none⟩ (.int .u64 u)) (hu : u = ((dg o (i + k) + c + dg (digs x) i * dg (digs y) k) % 1000000000 : Nat)) (hgo : i + k < n) :
    MIn w x y n g cap i (k + 1) ((dg o (i + k) + c + dg (digs x) i * dg (digs y) k) / 1000000000) wj := by
  have d1 := dg_lt hD (i + k)
  have d2 := dg_lt (norm_digs x).1 i
  have d3 := dg_lt (norm_digs y).1 k
  have hp : dg (digs x) i * dg (digs y) k ≤ 999999999 * 999999999 := Nat.mul_le_mul (by omega) (by omega)
  refine ⟨o.set (i + k) ((dg o (i + k) + c + dg (digs x) i * dg (digs y) k) % 1000000000), by simp [hl], by rw [hw]; exact hO.store _ _ _ hu, hB, hD.set (Nat.mod_lt _ (by omega)), mul_step (by omega) hv, fun j h1 h2 => ?_, by omega, ?_⟩
  · rw [dg_set_other (by omega)]
    exact hz j h1 (by omega)
  · by_cases hk : k < (digs y).length
    · exact Or.inl (by omega)
    · have h0 : dg o (i + k) = 0 := hz _ (by omega) (by omega)
      have h1 : dg (digs y) k = 0 := dg_out (by omega)
      refine Or.inr ⟨by omega, ?_⟩
      rw [h0, h1, Nat.mul_zero]
      omega
set_option maxRecDepth 100000 in
set_option maxHeartbeats 8000000 in
theorem Mul_some (a b : Value) (x y : Nat) (w : World) (ha : IsN w a x) (hb : IsN w b y) (hx : (digs x).length ≤ 100000) (hy : (digs y).length ≤ 100000) (hx0 : digs x ≠ []) (hy0 : digs y ≠ []) :
    Calls Tryz.prog 38 #[a, b] w fun e w' => ∃ sv, e = .returned sv ∧ IsN w' sv (x * y) ∧ Below w.heap.size w w' := by
  obtain ⟨i0, hi0, hz0, hz1, hz2⟩ := info_parts infoU64
  obtain ⟨ao, acap, rfl, ⟨a1, -⟩, a2, a3⟩ := ha
  obtain ⟨bo, bcap, rfl, ⟨b1, -⟩, b2, b3⟩ := hb
  obtain ⟨ga, rfl, ca⟩ := a3.resolve_left hx0
  obtain ⟨gb, rfl, cb⟩ := b3.resolve_left hy0
  unfold maxLen at a2 b2
  have hna0 : 0 < (digs x).length := List.length_pos_iff.2 hx0
  have hnb0 : 0 < (digs y).length := List.length_pos_iff.2 hy0
  generalize hN : (digs x).length = na at *
  generalize hM : (digs y).length = nb at *
  have HN := Lib.hid hN
  have HM := Lib.hid hM
  have HCA := Lib.hid ca
  have HCB := Lib.hid cb
  obtain ⟨W1, hmk, HO1, HB1⟩ : ∃ W1, (Instr.makeSlice 25 (.int .i64 ((na : Int) + nb)) (.int .i64 ((na : Int) + nb))).run Tryz.prog w = .ok (.slice (some ⟨w.heap.size, 0, none⟩) (na + nb) (na + nb)) W1 ∧
      Hid (Own W1 w.heap.size w.heap.size (na + nb) (List.replicate (na + nb) 0)) ∧ Hid (Below w.heap.size w W1) := by
    refine ⟨_, ?_, own_made w (na + nb) (by unfold maxLen; omega), (Below.refl _ _).alloc (Nat.le_refl _) _⟩
    have h := run_make (P := Tryz.prog) w 25 45 i0 (.int .u64 0) Tryz.underlying25 hi0 hz0 .i64 .i64 ((na : Int) + nb) ((na : Int) + nb) (by omega) (by omega) (by rw [hz2]; omega) (by omega)
    rw [show ((na : Int) + nb).toNat = na + nb by omega, hz1] at h
    exact h
  have p1 : ((na : Int) == 0) = false := by simp; omega
  have p2 : ((nb : Int) == 0) = false := by simp; omega
  clear hN hM ca cb hx0 hy0 a3 b3 hi0 hz0 hz1 hz2
  go_enter Tryz.func38, Tryz.ntmps38
  go_wp2
  go_loopw [6] (fun iv wr => ∃ i : Nat, i ≤ na ∧ iv = .int .i64 i ∧ MRel w x y (na + nb) w.heap.size (na + nb) i wr) (fun iv _ => na - (intOf iv).toNat)
  case atStart => exact ⟨0, Nat.zero_le _, rfl, _, by simp, HO1.out, HB1.out, dig_zeros _, by rw [val_zeros]; simp [val], fun j _ => dg_zeros _ _⟩
  case round =>
    obtain ⟨i, hi, rfl, hrel⟩ := hrel
    have HR := Lib.hid hrel
    clear hrel hmk
    by_cases hlt : i < na
    · obtain ⟨wo, rfl⟩ : ∃ wo : World, wo = wr := ⟨_, rfl⟩
      go_wp2
      go_loopw [7, 8] (fun cv kv wi => ∃ k c : Nat, kv = .int .i64 k ∧ cv = .int .u64 c ∧ MIn w x y (na + nb) w.heap.size (na + nb) i k c wi) (fun _ kv _ => nb + 2 - (intOf kv).toNat)
      case atStart =>
        obtain ⟨o, hl, hO, hB, hD, hv, hz⟩ := HR.out
        exact ⟨0, 0, rfl, rfl, o, hl, hO, hB, hD, by rw [hv]; simp [val], fun j h _ => hz j h, by omega, Or.inl (Nat.zero_le _)⟩
      case round =>
        obtain ⟨k, c, rfl, rfl, hin⟩ := hrel
        have HI := Lib.hid hin
        obtain ⟨o, hl, hO, hB, hD, hv, hz, hc, hj⟩ := hin
        have hk2 : k ≤ nb + 1 := by have := HM.out; omega
        have HO := Lib.hid hO
        have HBl := Lib.hid hB
        have HD := Lib.hid hD
        have HV := Lib.hid hv
        have HZ := Lib.hid hz
        have HJ := Lib.hid hj
        have HLo := Lib.hid hl
        clear hO hB hD hv hz hj
        by_cases hkb : k < nb
        · have c1 := HO.out.cell (i + k) (by rw [HLo.out]; omega)
          have f1 := HO.out.frozen (i + k)
          have c2 := (HBl.out.cell (p := ⟨ga, i, none⟩) (cell_lt (HCA.out i hlt))).trans (HCA.out i hlt)
          have c3 := (HBl.out.cell (p := ⟨gb, k, none⟩) (cell_lt (HCB.out k hkb))).trans (HCB.out k hkb)
          have b1' := dg_lt HD.out (i + k)
          have b2' := dg_lt (norm_digs x).1 i
          have b3' := dg_lt (norm_digs y).1 k
          have bp : dg (digs x) i * dg (digs y) k ≤ 999999999 * 999999999 := Nat.mul_le_mul (by omega) (by omega)
          generalize hd1 : dg o (i + k) = d1 at c1 b1'
          generalize hd2 : dg (digs x) i = d2 at c2 b2' bp
          generalize hd3 : dg (digs y) k = d3 at c3 b3' bp
          have HD1 := Lib.hid hd1
          have HD2 := Lib.hid hd2
          have HD3 := Lib.hid hd3
          have bq : (d2 : Int) * (d3 : Int) ≤ 999999998000000001 := by rw [← Int.natCast_mul]; omega
          have bq0 : 0 ≤ (d2 : Int) * (d3 : Int) := Int.mul_nonneg (by omega) (by omega)
          clear hd1 hd2 hd3 bp hl
          go_wp2
          go_quiet (fail)
          go_wp2
          go_roundw
          case rel =>
            refine ⟨k + 1, (dg o (i + k) + c + dg (digs x) i * dg (digs y) k) / 1000000000, by go_num, ?_, MIn.next (wi := wr.drewN _) HLo.out (HO.out.drewN _) ((drewN_below HBl.out _).setCell HO.out.low.1 _) HD.out HV.out HZ.out hc (by rw [HM.out]; omega) _ rfl ?_ (by omega)⟩
            · rw [HD1.out, HD2.out, HD3.out]; go_num
            · rw [HD1.out, HD2.out, HD3.out]; go_num
          case measure => simp [intOf]; omega
        · by_cases hc0 : c = 0
          · subst hc0
            have HE := Lib.hid (MIn.row HI.out (by rw [HM.out]; omega))
            go_wp2
            go_roundw
            case rel => exact ⟨i + 1, by omega, by go_num, HE.out⟩
            case measure => simp [intOf]; omega
          · have hk : k = nb := by
              have h1 := HM.out
              rcases HJ.out with h | ⟨_, h⟩ <;> omega
            subst hk
            have c1 := HO.out.cell (i + k) (by rw [HLo.out]; omega)
            have f1 := HO.out.frozen (i + k)
            have e1 := HZ.out (i + k) (by rw [HM.out]; omega) (by omega)
            have e2 := Lib.hid (show dg (digs y) k = 0 from dg_out (by rw [HM.out]; omega))
            rw [e1] at c1
            have HE1 := Lib.hid e1
            have c0 : 0 < c := by omega
            clear e1 hl hc0
            go_wp2
            go_roundw
            case rel =>
              refine ⟨k + 1, (dg o (i + k) + c + dg (digs x) i * dg (digs y) k) / 1000000000, by go_num, ?_, MIn.next HLo.out HO.out (HBl.out.setCell HO.out.low.1 _) HD.out HV.out HZ.out hc (by rw [HM.out]; omega) _ rfl ?_ (by omega)⟩
              · rw [HE1.out, e2.out, Nat.mul_zero, Nat.zero_add, Nat.add_zero]; go_num
              · rw [HE1.out, e2.out, Nat.mul_zero, Nat.zero_add, Nat.add_zero]; go_num
            case measure => simp [intOf] <;> omega
    · obtain ⟨o, hl, hO, hB, hD, hv, hz⟩ := HR.out
      have hi' : i = na := by omega
      subst hi'
      have HT := Lib.hid (trim_any _ o wr hO.reads hD)
      rw [hl] at HT
      have HV := Lib.hid hv
      have HBl := Lib.hid hB
      clear hO hB hD hv hz hl
      go_wp2_with (go_at_call 111; refine (HT.out).mono ?_; rintro e' w' ⟨sv', l', rfl, hr, hn, hval, rfl⟩; have HRd := Lib.hid hr; have HNr := Lib.hid hn; have HVl := Lib.hid hval; clear hr hn hval)
      go_ret
      refine ⟨_, rfl, ?_, HBl.out⟩
      have h1 : val l' = x * y := by
        rw [HVl.out, HV.out, List.take_of_length_le (by rw [HN.out]; omega), val_digs]
      rw [← h1]
      exact IsN.of HRd.out HNr.out
theorem Mul_any (a b : Value) (x y : Nat) (w : World) (ha : IsN w a x) (hb : IsN w b y) (hx : (digs x).length ≤ 100000) (hy : (digs y).length ≤ 100000) :
    Calls Tryz.prog 38 #[a, b] w fun e w' => ∃ sv, e = .returned sv ∧ IsN w' sv (x * y) ∧ Below w.heap.size w w' := by
  by_cases hx0 : digs x = []
  · exact Mul_none a b x y w ha hb (Or.inl hx0)
  · by_cases hy0 : digs y = []
    · exact Mul_none a b x y w ha hb (Or.inr hy0)
    · exact Mul_some a b x y w ha hb hx hy hx0 hy0
end Go.Proofs.YtfpooimjjpamoaaGreatDoor.ref
