/-
  The steps of the walks, part 8: RefGet, RefInt.
-/
import Derived.Test.YtfpooimjjpamoaaGreatDoorF07
namespace Go.Proofs.YtfpooimjjpamoaaGreatDoor.ref
open Go.RowKit
def GetPost (l : List UInt8) (w : World) (sv : Value) (ok : Bool) (w' : World) : Prop :=
  (ok = true → Numeral l ∧ IsN w' sv (seg l 0 l.length)) ∧ (ok = false → ¬ Numeral l ∧ sv = .slice none 0 0) ∧ Below w.heap.size w w'
def GetEnd (l : List UInt8) (w : World) (e : Ending) (w' : World) : Prop := ∃ sv ok, e = .returned (.tuple #[sv, .bool ok]) ∧ GetPost l w sv ok w'
def GRel (w : World) (l : List UInt8) (nv ev : Value) (wr : World) : Prop :=
  ∃ (j : Nat) (o : List Nat), ev = .int .i64 ((l.length : Int) - 9 * j) ∧ o.length = j ∧ (9 * j : Int) < (l.length : Int) + 9 ∧
    wr.ownsRow w.heap.size 45 1 nv o.length (o.map fun d => Value.int .u64 (d : Nat)) ∧ Below w.heap.size w wr ∧ Dig o ∧
    val o = seg l (l.length - 9 * j) (l.length - (l.length - 9 * j)) ∧ ∀ i, l.length - 9 * j ≤ i → i < l.length → IsDig l i
def GIn (l : List UInt8) (st n : Nat) (wo : World) (dv iv : Value) (wr : World) : Prop :=
  wo = wr ∧ ∃ m : Nat, m ≤ n ∧ iv = .int .i64 ((st + m : Nat) : Int) ∧ dv = .int .u64 (seg l st m : Nat) ∧ ∀ i, st ≤ i → i < st + m → IsDig l i
theorem ch_get {l : List UInt8} {i : Nat} (h : i < (str l).size) : ((str l)[i]'h).toNat = ch l i := by
  have h2 : i < l.length := h
  simp [ch, h2, str]
  rfl
set_option maxRecDepth 100000 in
set_option maxHeartbeats 8000000 in
theorem GetN_any (l : List UInt8) (w : World) (hl : l.length ≤ 100000) :
    Calls Tryz.prog 45 #[.string (str l)] w fun e w' => GetEnd l w e w' := by
  obtain ⟨i0, hi0, hz0, hz1, hz2⟩ := info_parts infoU64
  have hz : (str l).size = l.length := str_size l
  have HG := Lib.hid (fun i (h : i < (str l).size) => ch_get (l := l) h)
  have hbad : ∀ w', Below w.heap.size w w' → ¬ Numeral l → GetPost l w (.slice none 0 0) false w' := fun w' hb h => ⟨fun h2 => (by cases h2), fun _ => ⟨h, rfl⟩, hb⟩
  have HBad := Lib.hid hbad
  clear hbad
  generalize str l = s at *
  generalize hn : l.length = n at *
  have HN := Lib.hid hn
  clear hn
  by_cases h0 : n < 1
  · go_enter Tryz.func45, Tryz.ntmps45
    go_wp2
    go_ret2
    exact ⟨_, false, rfl, HBad.out _ (Below.refl _ _) fun h => by have := h.1; rw [HN.out] at this; omega⟩
  · by_cases h4 : 4000 < n
    · go_enter Tryz.func45, Tryz.ntmps45
      go_wp2
      go_ret2
      exact ⟨_, false, rfl, HBad.out _ (Below.refl _ _) fun h => by have := h.2.1; rw [HN.out] at this; omega⟩
    · have hc0 := HG.out 0 (by omega)
      by_cases h48 : n ≠ 1 ∧ ch l 0 = 48
      · obtain ⟨h1, h48⟩ := h48
        rw [h48] at hc0
        have hc0' : ∀ h : 0 < s.size, (s[0]'h).toNat = 48 := fun _ => hc0
        have HH := Lib.hid h48
        clear h48 hc0
        go_enter Tryz.func45, Tryz.ntmps45
        go_wp2
        go_ret2
        exact ⟨_, false, rfl, HBad.out _ (Below.refl _ _) fun h => h.2.2.1 (by rw [HN.out]; omega) HH.out⟩
      · have HH := Lib.hid (show 1 < n → ch l 0 ≠ 48 from fun h1 h2 => h48 ⟨by omega, h2⟩)
        have hcase : n = 1 ∨ n ≠ 1 := by omega
        clear h48
        rcases hcase with h1 | h1
        case' neg.inr =>
          have hc0' : ∀ h : 0 < s.size, (s[0]'h).toNat = ch l 0 := fun _ => hc0
          have hb : ((ch l 0 : Int) == 48) = false := by have := HH.out (by omega); simp; omega
          clear hc0
          generalize ch l 0 = c0 at hc0' hb
        all_goals
          go_enter Tryz.func45, Tryz.ntmps45
          go_wp2
          go_loopw [4, 5] (fun nv ev wr => GRel w l nv ev wr) (fun _ ev _ => (intOf ev).toNat)
          case atStart => exact ⟨0, [], by rw [HN.out]; go_num, rfl, by omega, World.ownsRow_nil _ _ _ _, Below.refl _ _, Dig.nil, by simp [val, seg], fun i h1 h2 => by omega⟩
          case round =>
            obtain ⟨j, o, rfl, hol, hj, hown, hbe, hdo, hval, hdg⟩ := hrel
            have hN := HN.out
            rw [hN] at hj hval hdg ⊢
            clear hN
            have HO := Lib.hid hown
            have HBe := Lib.hid hbe
            have HDo := Lib.hid hdo
            have HV := Lib.hid hval
            have HDg := Lib.hid hdg
            have HOl := Lib.hid hol
            clear hown hbe hdo hval hdg hol
            by_cases he : 9 * j < n
            · obtain ⟨e, hee⟩ : ∃ e : Nat, e = n - 9 * j := ⟨_, rfl⟩
              rw [show ((n : Int) - 9 * j) = (e : Int) by omega]
              have he1 : 1 ≤ e := by omega
              have he0 : 0 < e := he1
              have he0' : (0 : Int) < (e : Int) := by omega
              rw [← hee] at HV HDg
              have HE := Lib.hid hee
              have hen : e ≤ n := by omega
              clear hee
              obtain ⟨st, m, hst, hme, hm9⟩ : ∃ st m : Nat, st = e - 9 ∧ e = st + m ∧ m ≤ 9 := ⟨e - 9, e - (e - 9), rfl, by omega, by omega⟩
              have HG1 := Lib.hid hst
              have HG2 := Lib.hid hme
              rcases Nat.lt_or_ge e 9 with h9 | h9
              all_goals try (exfalso; omega)
              all_goals first
                | (have he9 : (e : Int) - 9 = (st : Int) := by omega
                   have hx : 0 ≤ (e : Int) - 9 := by omega
                   clear hst hme
                   go_wp2)
                | (clear hst hme
                   go_wp2)
              all_goals
                go_loopw [6, 7] (fun dv iv wi => GIn l st m wr dv iv wi) (fun _ iv _ => st + m - (intOf iv).toNat)
                case atStart => exact ⟨rfl, 0, Nat.zero_le _, by have := HG1.out; simp only [Value.int.injEq, true_and]; omega, rfl, fun i h1 h2 => by omega⟩
                case round =>
                  obtain ⟨rfl, k, hk, rfl, rfl, hdk⟩ := hrel
                  have hv := seg_lt hdk
                  have hp : 10 ^ k ≤ 10 ^ 9 := Nat.pow_le_pow_right (by omega) (by omega)
                  have HDk := Lib.hid hdk
                  have hsk : st + k ≤ e := by have := HG2.out; omega
                  clear hdk
                  generalize hvv : seg l st k = v at *
                  have HVv := Lib.hid hvv
                  clear hvv
                  by_cases hkm : k < m
                  · have hlt : st + k < e := by have := HG2.out; omega
                    have hp8 : 10 ^ k ≤ 10 ^ 8 := Nat.pow_le_pow_right (by omega) (by omega)
                    have hgk : ∀ h : st + k < s.size, (s[st + k]'h).toNat = ch l (st + k) := fun h => HG.out _ h
                    have hv8 : v < 100000000 := by omega
                    generalize hcc : ch l (st + k) = c at *
                    have HCc := Lib.hid hcc
                    clear hcc hp hp8 hv
                    have HSt := Lib.hid (show st + k < n by omega)
                    by_cases hc1 : c < 48
                    · go_wp2
                      go_ret2
                      exact ⟨_, false, rfl, HBad.out _ HBe.out fun h => by have := (h.2.2.2 (st + k) (by rw [HN.out]; exact HSt.out)).1; rw [HCc.out] at this; omega⟩
                    · by_cases hc2 : 57 < c
                      · go_wp2
                        go_ret2
                        exact ⟨_, false, rfl, HBad.out _ HBe.out fun h => by have := (h.2.2.2 (st + k) (by rw [HN.out]; exact HSt.out)).2; rw [HCc.out] at this; omega⟩
                      · go_wp2
                        refine ⟨?_, ?_⟩
                        · refine ⟨rfl, k + 1, by omega, by go_num, ?_, fun i h1 h2 => ?_⟩
                          · rw [seg, HVv.out, HCc.out]
                            go_num
                          · by_cases h3 : i < st + k
                            · exact HDk.out i h1 h3
                            · obtain rfl : i = st + k := by omega
                              unfold IsDig
                              rw [HCc.out]
                              omega
                        · simp [intOf]; omega
                  · obtain rfl : k = m := by omega
                    have hv9 : v < 1000000000 := by omega
                    have HW2 := Lib.hid (show (wr.alloc (.cells #[Value.int .u64 (v : Nat)] 45)).ownsRow wr.heap.size 45 1 (.slice (some ⟨wr.heap.size, 0, none⟩) [v].length 1) [v].length ([v].map fun d => Value.int .u64 (d : Nat)) from World.ownsRow_lit wr #[Value.int .u64 (v : Nat)] 1 (Nat.le_refl _) (by unfold maxLen; omega) rfl)
                    have HRd := Lib.hid (Reads.of_own HW2.out)
                    have HO2 := Lib.hid (HO.out.alloc (.cells #[Value.int .u64 (v : Nat)] 45))
                    have hje : st + k = e := HG2.out.symm
                    clear hp hv
                    go_wp2_with (at_builtin; refine wpList_append_reads rfl _ _ rfl w.heap.size _ _ o [v] rfl HO2.out rfl HRd.out ?c1 ?c2 ?_)
                    case c1 => rw [HOl.out]; simp; omega
                    case c2 => have := HBe.out.size; simp; omega
                    intro v' w3 hown hg3
                    have HO3 := Lib.hid hown
                    have HB3 := Lib.hid ((HBe.out.alloc HBe.out.size (.cells #[Value.int .u64 (v : Nat)] 45)).grown hg3 (by have := HBe.out.size; simp; omega) (fun b hb => (World.ownsRow.lt HO2.out b hb).1))
                    clear hown hg3
                    go_wp2
                    refine ⟨?_, ?_⟩
                    · skip
                      have hE := HE.out
                      rw [hE] at hje
                      refine ⟨j + 1, o ++ [v], ?_, by rw [List.length_append, HOl.out]; rfl, by rw [HN.out]; omega, by simpa using HO3.out, HB3.out, HDo.out.append (Dig.nil.cons hv9), ?_, fun i h1 h2 => ?_⟩
                      · rw [HN.out]; simp only [Value.int.injEq, true_and]; omega
                      · rw [val_snoc, HV.out, HN.out, HOl.out, pow_nine, show n - 9 * (j + 1) = st by have := HG1.out; omega, show n - st = k + 9 * j by omega, seg_add, HVv.out, show st + k = n - 9 * j by omega, ← hE, show n - e = 9 * j by omega, Nat.mul_comm (10 ^ (9 * j)) v]
                        omega
                      · rw [HN.out] at h1 h2
                        by_cases h3 : i < st + k
                        · exact HDk.out i (by have := HG1.out; omega) h3
                        · exact HDg.out i (by omega) h2
                    · simp [intOf]; omega
            · have HT := Lib.hid (trim_any u4 o wr (Reads.of_own HO.out) HDo.out)
              go_wp2_with (go_at_call 111; refine (HT.out).mono ?_; rintro e' w' ⟨sv', l', rfl, hr, hn, hval, rfl⟩; have HRd := Lib.hid hr; have HNr := Lib.hid hn; have HVl := Lib.hid hval; clear hr hn hval HT)
              go_ret2
              refine ⟨_, true, rfl, fun _ => ⟨⟨by rw [HN.out]; omega, by rw [HN.out]; omega, fun h => HH.out (by rw [HN.out] at h; exact h), fun i hi => HDg.out i (by omega) (by rw [HN.out] at hi; exact hi)⟩, ?_⟩, fun h => (by cases h), HBe.out⟩
              have h1 : val l' = seg l 0 l.length := by
                rw [HVl.out, HV.out, HN.out, show n - 9 * j = 0 by omega]
                rfl
              rw [← h1]
              exact IsN.of HRd.out HNr.out
end Go.Proofs.YtfpooimjjpamoaaGreatDoor.ref
namespace Go.Proofs.YtfpooimjjpamoaaGreatDoor.ref
open Go.RowKit
def IsI (w : World) (v : Value) (z : Int) : Prop := ∃ sv, v = .agg #[.bool (decide (z < 0)), sv] ∧ IsN w sv z.natAbs
theorem IsI.below {w w' : World} {v : Value} {z : Int} (h : IsI w v z) (hb : Below w.heap.size w w') : IsI w' v z := by
  obtain ⟨sv, rfl, hs⟩ := h
  exact ⟨sv, rfl, hs.below hb⟩
theorem IsI.inj {w : World} {v : Value} {z z' : Int} (h : IsI w v z) (h' : IsI w v z') : z = z' := by
  obtain ⟨sv, rfl, hs⟩ := h
  obtain ⟨sv', he, hs'⟩ := h'
  have e := Value.agg.inj he
  simp only [Array.mk.injEq, List.cons.injEq, Value.bool.injEq, and_true] at e
  obtain ⟨e1, rfl⟩ := e
  have := IsN.inj hs hs'
  simp only [decide_eq_decide] at e1
  omega
def signed (b : Bool) (x : Nat) : Int := if b then -(x : Int) else x
theorem IsI.signed {w : World} {sv : Value} {x : Nat} (b : Bool) (h : IsN w sv x) : IsI w (.agg #[.bool (b && decide (x ≠ 0)), sv]) (signed b x) := by
  unfold Go.Proofs.YtfpooimjjpamoaaGreatDoor.ref.signed
  cases b
  · exact ⟨sv, by simp, by simpa using h⟩
  · have e : decide (-(x : Int) < 0) = decide (x ≠ 0) := by
      rw [decide_eq_decide]
      omega
    refine ⟨sv, ?_, by simpa using h⟩
    simp only [if_true, e, Bool.true_and]
set_option maxRecDepth 100000 in
set_option maxHeartbeats 4000000 in
theorem Int_any (b : Bool) (a : Value) (x : Nat) (w : World) (ha : IsN w a x) :
    Calls Tryz.prog 121 #[.bool b, a] w fun e w' => ∃ v, e = .returned v ∧ IsI w' v (signed b x) ∧ Below w.heap.size w w' := by
  have HA := Lib.hid ha
  obtain ⟨ao, acap, rfl, ⟨a1, -⟩, a2, -⟩ := ha
  unfold maxLen at a2
  have HX1 := Lib.hid (show 0 < (digs x).length ↔ x ≠ 0 from by
    have : (digs x).length = 0 ↔ x = 0 := by rw [List.length_eq_zero_iff]; exact digs_nil
    omega)
  generalize hna : (digs x).length = na at *
  clear hna
  have HS := Lib.hid (fun (w' : World) (hb : Below w.heap.size w w') => IsI.signed b (HA.out.below hb))
  have hw : Below w.heap.size w (w.alloc (.cells #[Value.bool (b && decide (0 < na)), Value.slice ao na acap] 57)) := (Below.refl _ _).alloc (Nat.le_refl _) _
  have HW := Lib.hid hw
  have hd : decide (x ≠ 0) = decide (0 < na) := by rw [decide_eq_decide]; exact HX1.out.symm
  rw [hd] at HS
  clear hd hw
  by_cases h0 : 0 < na
  all_goals
    cases b
    all_goals
      go_enter Tryz.func121, Tryz.ntmps121
      go_wp2
      first
        | (refine bodyPost_ret (v := .agg #[.bool false, .slice ao na acap]) ?_ rfl ?_
           focus (simp [results, Tryz.results121, go_sem]; done))
        | (refine bodyPost_ret (v := .agg #[.bool true, .slice ao na acap]) ?_ rfl ?_
           focus (simp [results, Tryz.results121, go_sem]; done))
      refine ⟨_, rfl, ?_, ?_⟩
      · first
          | (have h1 := HS.out _ HW.out
             simpa [h0] using h1)
          | skip
      · first
          | (have h1 := HW.out
             simpa [h0] using h1)
          | skip
end Go.Proofs.YtfpooimjjpamoaaGreatDoor.ref
