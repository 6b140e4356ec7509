/-
  The steps of the walks, part 15: RefGetDec.
-/
import Derived.Test.YtfpooimjjpamoaaGreatDoorF11
import Derived.Test.YtfpooimjjpamoaaGreatDoorS23
import Derived.Test.YtfpooimjjpamoaaGreatDoorS01
namespace Go.Proofs.YtfpooimjjpamoaaGreatDoor.ref
open Go.RowKit
theorem len_ten (i : Nat) : (digs (10 ^ i)).length ≤ i + 1 :=
  digs_len_of_lt (Nat.lt_of_le_of_lt (Nat.pow_le_pow_left (show 10 ≤ 1000000000 by omega) i) (Nat.pow_lt_pow_right (by omega) (Nat.lt_succ_self i)))
theorem TenPow (k : Nat) (hk : k ≤ 20) (z : Int) (hz : z = (k : Int)) (W : World) (v : Value) (hv : IsN W v 10) :
    Calls Tryz.prog 87 #[v, .int .i64 z] W fun e w' => ∃ sv, e = .returned sv ∧ IsN w' sv (10 ^ k) ∧ Below W.heap.size W w' := by
  subst hz
  exact Pow_any v 10 (k : Int) (by omega) W hv (Nat.le_trans (len_ten 1) (by omega)) fun i hi => Nat.le_trans (len_ten i) (by omega)
def GetDecEnd (l : List UInt8) (w : World) (e : Ending) (w' : World) : Prop :=
  ∃ v k ok, e = .returned (.tuple #[v, .int .i64 k, .bool ok]) ∧
    (ok = true → ∃ (neg : Bool) (n m : Nat), k = (m : Int) ∧ DecForm l neg n m ∧ IsQ w' v (if neg then -(n : Int) else (n : Int)) (10 ^ m)) ∧
    (ok = false → k = 0 ∧ v = .agg #[.bool false, .slice none 0 0, .slice none 0 0] ∧ ∀ neg n m, ¬ DecForm l neg n m) ∧ Below w.heap.size w w'
set_option maxRecDepth 100000 in
set_option maxHeartbeats 4000000 in
theorem GetDec_minus_long (t : List UInt8) (w : World) (hl : t.length ≤ 9000) (hn : ∀ c ∈ t, c ≠ 46) (h6 : 60 < t.length + 1) :
    Calls Tryz.prog 79 #[.string (str (45 :: t))] w fun e w' => GetDecEnd (45 :: t) w e w' := by
  have HEnd := Lib.hid (fun neg n m (h : DecForm (45 :: t) neg n m) => (show False by have := h.1; simp at this; omega))
  have hzt : (str t).size = t.length := str_size _
  have HG := Lib.hid (fun i (h : i < (str t).size) => ch_get (l := t) h)
  have hzl : (str (45 :: t)).size = t.length + 1 := str_size _
  have hem : (str (45 :: t)).toList.isEmpty = false := by rw [ByteArray.toList_eq]; rfl
  have hg : ∀ h : 0 < (str (45 :: t)).size, ((str (45 :: t))[0]'h).toNat = 45 := fun _ => rfl
  have ht := str_tail 45 t
  rw [hzl] at ht
  have HNo := Lib.hid (fun i (h : i < t.length) => (show ch t i ≠ 46 from fun e => by
    have hc : ch t i = t[i].toNat := by simp [ch, h]
    refine hn t[i] (List.getElem_mem h) ?_
    rw [← UInt8.ofNat_toNat (x := t[i]), ← hc, e]
    rfl))
  have hx : (str t).extract 0 t.length = str t := by apply ByteArray.ext; simp [str]
  generalize hsl : str (45 :: t) = s at *
  generalize str t = st at *
  obtain ⟨N, hNN⟩ : ∃ N, t.length = N := ⟨_, rfl⟩
  rw [hNN] at hx HNo hzt hl h6 hzl ht
  clear hNN hn hsl
  go_enter Tryz.func79, Tryz.ntmps79
  go_wp2
  go_quiet (fail)
  go_wp2
  obtain ⟨V, hV⟩ : ∃ V, V = (w.alloc (.cells #[.bool false, .slice none 0 0, .slice none 0 0] 86)).drewN nq := ⟨_, rfl⟩
  rw [← hV]
  have HV0 := Lib.hid (show Below w.heap.size w V from by rw [hV]; exact nat.drewN_below ((Below.refl _ _).alloc (Nat.le_refl _) _) nq)
  have HVr := Lib.hid (show V.heap[w.heap.size]? = some (.cells #[.bool false, .slice none 0 0, .slice none 0 0] 86 (0, 0)) from by rw [hV]; exact heap_alloc_new _ _)
  clear hV
  go_loopw [7] (fun kv wr => (∃ k : Nat, k ≤ N ∧ kv = .int .i64 k) ∧ V = wr) (fun kv _ => N - (intOf kv).toNat)
  case atStart => exact ⟨⟨0, Nat.zero_le _, rfl⟩, rfl⟩
  case round =>
    obtain ⟨⟨k, hk, rfl⟩, rfl⟩ := hrel
    by_cases hlt : k < N
    · have hgk : ∀ h : k < st.size, (st[k]'h).toNat = ch t k := fun h => HG.out _ h
      have hc := HNo.out k hlt
      generalize ch t k = c at *
      have hcb : ((c : Int) == 46) = false := by simp only [beq_eq_false_iff_ne, ne_eq]; omega
      go_wp2
      refine ⟨?_, ?_⟩
      · exact ⟨⟨k + 1, by omega, by go_num⟩, by first | trivial | rfl⟩
      · simp [intOf]; omega
    · obtain rfl : k = N := by omega
      obtain ⟨c0, c1, c2, f0, f1, f2⟩ := row3 HVr.out
      go_wp2
      obtain ⟨-, -, -, q3, q4, q5⟩ := three_cells (.bool false) (.slice none 0 0) (.slice none 0 0) c0 c1 c2
      refine bodyPost_ret (v := .tuple #[.agg #[.bool false, .slice none 0 0, .slice none 0 0], .int .i64 0, .bool false]) ?_ rfl ?_
      · simp [results, Tryz.results79, go_sem, q3, q4, q5]
      · exact ⟨_, _, _, rfl, (fun h => by cases h), fun _ => ⟨rfl, rfl, HEnd.out⟩, result_below (HV0.out.trans ((Below.refl _ _).mono HV0.out.size)) (Nat.le_refl _) _ _ _⟩
set_option maxRecDepth 100000 in
set_option maxHeartbeats 4000000 in
theorem GetDec_minus_bad (t : List UInt8) (w : World) (hl : t.length ≤ 9000) (hn : ∀ c ∈ t, c ≠ 46) (h6 : t.length + 1 ≤ 60) (hN : ¬ Numeral t) :
    Calls Tryz.prog 79 #[.string (str (45 :: t))] w fun e w' => GetDecEnd (45 :: t) w e w' := by
  have HEnd := Lib.hid (fun neg n m (h : DecForm (45 :: t) neg n m) => (show False from hN (h.minus.2.2.whole hn).2.1))
  have hzt : (str t).size = t.length := str_size _
  have HG := Lib.hid (fun i (h : i < (str t).size) => ch_get (l := t) h)
  have hzl : (str (45 :: t)).size = t.length + 1 := str_size _
  have hem : (str (45 :: t)).toList.isEmpty = false := by rw [ByteArray.toList_eq]; rfl
  have hg : ∀ h : 0 < (str (45 :: t)).size, ((str (45 :: t))[0]'h).toNat = 45 := fun _ => rfl
  have ht := str_tail 45 t
  rw [hzl] at ht
  have HNo := Lib.hid (fun i (h : i < t.length) => (show ch t i ≠ 46 from fun e => by
    have hc : ch t i = t[i].toNat := by simp [ch, h]
    refine hn t[i] (List.getElem_mem h) ?_
    rw [← UInt8.ofNat_toNat (x := t[i]), ← hc, e]
    rfl))
  have hx : (str t).extract 0 t.length = str t := by apply ByteArray.ext; simp [str]
  have HGN := Lib.hid (fun W => GetN_no t W (by omega) hN)
  generalize hsl : str (45 :: t) = s at *
  generalize str t = st at *
  obtain ⟨N, hNN⟩ : ∃ N, t.length = N := ⟨_, rfl⟩
  rw [hNN] at hx HNo hzt hl h6 hzl ht
  clear hNN hn hN hsl
  go_enter Tryz.func79, Tryz.ntmps79
  go_wp2
  go_quiet (fail)
  go_wp2
  obtain ⟨V, hV⟩ : ∃ V, V = (w.alloc (.cells #[.bool false, .slice none 0 0, .slice none 0 0] 86)).drewN nq := ⟨_, rfl⟩
  rw [← hV]
  have HV0 := Lib.hid (show Below w.heap.size w V from by rw [hV]; exact nat.drewN_below ((Below.refl _ _).alloc (Nat.le_refl _) _) nq)
  have HVr := Lib.hid (show V.heap[w.heap.size]? = some (.cells #[.bool false, .slice none 0 0, .slice none 0 0] 86 (0, 0)) from by rw [hV]; exact heap_alloc_new _ _)
  clear hV
  go_loopw [7] (fun kv wr => (∃ k : Nat, k ≤ N ∧ kv = .int .i64 k) ∧ V = wr) (fun kv _ => N - (intOf kv).toNat)
  case atStart => exact ⟨⟨0, Nat.zero_le _, rfl⟩, rfl⟩
  case round =>
    obtain ⟨⟨k, hk, rfl⟩, rfl⟩ := hrel
    by_cases hlt : k < N
    · have hgk : ∀ h : k < st.size, (st[k]'h).toNat = ch t k := fun h => HG.out _ h
      have hc := HNo.out k hlt
      generalize ch t k = c at *
      have hcb : ((c : Int) == 46) = false := by simp only [beq_eq_false_iff_ne, ne_eq]; omega
      go_wp2
      refine ⟨?_, ?_⟩
      · exact ⟨⟨k + 1, by omega, by go_num⟩, by first | trivial | rfl⟩
      · simp [intOf]; omega
    · obtain rfl : k = N := by omega
      go_wp2_with (first
        | (go_at_call 45; (with_reducible refine (HGN.out _).mono ?_); rintro e w2 ⟨rfl, hb⟩
           obtain ⟨c0, c1, c2, f0, f1, f2⟩ := row3 ((hb.block w.heap.size (Array.getElem?_eq_some_iff.1 HVr.out).1).trans HVr.out)
           have HB2 := Lib.hid hb
           clear hb)
        | (fail "no arm"))
      obtain ⟨-, -, -, q3, q4, q5⟩ := three_cells (.bool false) (.slice none 0 0) (.slice none 0 0) c0 c1 c2
      refine bodyPost_ret (v := .tuple #[.agg #[.bool false, .slice none 0 0, .slice none 0 0], .int .i64 0, .bool false]) ?_ rfl ?_
      · simp [results, Tryz.results79, go_sem, q3, q4, q5]
      · exact ⟨_, _, _, rfl, (fun h => by cases h), fun _ => ⟨rfl, rfl, HEnd.out⟩, result_below (HV0.out.trans (HB2.out.mono HV0.out.size)) (Nat.le_refl _) _ _ _⟩
set_option maxRecDepth 100000 in
set_option maxHeartbeats 4000000 in
theorem GetDec_minus_nought (t : List UInt8) (w : World) (hl : t.length ≤ 9000) (hn : ∀ c ∈ t, c ≠ 46) (h6 : t.length + 1 ≤ 60) (hN : Numeral t) (hX0 : seg t 0 t.length = 0) :
    Calls Tryz.prog 79 #[.string (str (45 :: t))] w fun e w' => GetDecEnd (45 :: t) w e w' := by
  have HEnd := Lib.hid (fun neg n m (h : DecForm (45 :: t) neg n m) => (show False from h.minus.2.1 ((h.minus.2.2.whole hn).2.2.trans hX0)))
  have hzt : (str t).size = t.length := str_size _
  have HG := Lib.hid (fun i (h : i < (str t).size) => ch_get (l := t) h)
  have hzl : (str (45 :: t)).size = t.length + 1 := str_size _
  have hem : (str (45 :: t)).toList.isEmpty = false := by rw [ByteArray.toList_eq]; rfl
  have hg : ∀ h : 0 < (str (45 :: t)).size, ((str (45 :: t))[0]'h).toNat = 45 := fun _ => rfl
  have ht := str_tail 45 t
  rw [hzl] at ht
  have HNo := Lib.hid (fun i (h : i < t.length) => (show ch t i ≠ 46 from fun e => by
    have hc : ch t i = t[i].toNat := by simp [ch, h]
    refine hn t[i] (List.getElem_mem h) ?_
    rw [← UInt8.ofNat_toNat (x := t[i]), ← hc, e]
    rfl))
  have hx : (str t).extract 0 t.length = str t := by apply ByteArray.ext; simp [str]
  have HGN := Lib.hid (fun W => GetN_yes t W hN)
  generalize hsl : str (45 :: t) = s at *
  generalize str t = st at *
  obtain ⟨N, hNN⟩ : ∃ N, t.length = N := ⟨_, rfl⟩
  rw [hNN] at HGN hx HNo hzt hl h6 hzl ht
  obtain ⟨X, hXX⟩ : ∃ X, seg t 0 N = X := ⟨_, rfl⟩
  rw [hXX] at HGN
  rw [hNN, hXX] at hX0
  have HX0 := Lib.hid (show (digs X).length = 0 from (digs_len_zero X).2 hX0)
  clear hX0
  clear hXX
  clear hNN hn hN hsl
  go_enter Tryz.func79, Tryz.ntmps79
  go_wp2
  go_quiet (fail)
  go_wp2
  obtain ⟨V, hV⟩ : ∃ V, V = (w.alloc (.cells #[.bool false, .slice none 0 0, .slice none 0 0] 86)).drewN nq := ⟨_, rfl⟩
  rw [← hV]
  have HV0 := Lib.hid (show Below w.heap.size w V from by rw [hV]; exact nat.drewN_below ((Below.refl _ _).alloc (Nat.le_refl _) _) nq)
  have HVr := Lib.hid (show V.heap[w.heap.size]? = some (.cells #[.bool false, .slice none 0 0, .slice none 0 0] 86 (0, 0)) from by rw [hV]; exact heap_alloc_new _ _)
  clear hV
  go_loopw [7] (fun kv wr => (∃ k : Nat, k ≤ N ∧ kv = .int .i64 k) ∧ V = wr) (fun kv _ => N - (intOf kv).toNat)
  case atStart => exact ⟨⟨0, Nat.zero_le _, rfl⟩, rfl⟩
  case round =>
    obtain ⟨⟨k, hk, rfl⟩, rfl⟩ := hrel
    by_cases hlt : k < N
    · have hgk : ∀ h : k < st.size, (st[k]'h).toNat = ch t k := fun h => HG.out _ h
      have hc := HNo.out k hlt
      generalize ch t k = c at *
      have hcb : ((c : Int) == 46) = false := by simp only [beq_eq_false_iff_ne, ne_eq]; omega
      go_wp2
      refine ⟨?_, ?_⟩
      · exact ⟨⟨k + 1, by omega, by go_num⟩, by first | trivial | rfl⟩
      · simp [intOf]; omega
    · obtain rfl : k = N := by omega
      go_wp2_with (first
        | (go_at_call 45; (with_reducible refine (HGN.out _).mono ?_); rintro e w2 ⟨sv, rfl, hs, hb⟩
           obtain ⟨so, sc, rfl, -⟩ := id hs
           have HS := Lib.hid hs
           have HB2 := Lib.hid hb
           clear hb hs)
        | (fail "no arm"))
      go_loopw [9, 11] (fun nv iv wr => nv = .slice so (digs X).length sc ∧ iv = .int .i64 ((k : Int) + 1) ∧ w2 = wr) (fun _ _ _ => 0)
      case atStart => exact ⟨rfl, rfl, rfl⟩
      case round =>
        obtain ⟨rfl, rfl, rfl⟩ := hrel
        have hm0 := HX0.out
        rw [hm0]
        obtain ⟨c0, c1, c2, f0, f1, f2⟩ := row3 ((HB2.out.block w.heap.size (Array.getElem?_eq_some_iff.1 HVr.out).1).trans HVr.out)
        go_wp2
        obtain ⟨-, -, -, q3, q4, q5⟩ := three_cells (.bool false) (.slice none 0 0) (.slice none 0 0) c0 c1 c2
        refine bodyPost_ret (v := .tuple #[.agg #[.bool false, .slice none 0 0, .slice none 0 0], .int .i64 0, .bool false]) ?_ rfl ?_
        · simp [results, Tryz.results79, go_sem, q3, q4, q5]
        · exact ⟨_, _, _, rfl, (fun h => by cases h), fun _ => ⟨rfl, rfl, HEnd.out⟩, result_below (HV0.out.trans (HB2.out.mono HV0.out.size)) (Nat.le_refl _) _ _ _⟩
set_option maxRecDepth 100000 in
set_option maxHeartbeats 4000000 in
theorem GetDec_minus_yes (t : List UInt8) (w : World) (hl : t.length ≤ 9000) (hn : ∀ c ∈ t, c ≠ 46) (h6 : t.length + 1 ≤ 60) (hN : Numeral t) (hX0 : seg t 0 t.length ≠ 0) :
    Calls Tryz.prog 79 #[.string (str (45 :: t))] w fun e w' => GetDecEnd (45 :: t) w e w' := by
  have HEnd := Lib.hid (show DecForm (45 :: t) true (seg t 0 t.length) 0 from ⟨by simpa using h6, t, rfl, fun _ => hX0, Or.inl ⟨rfl, hN, rfl⟩⟩)
  have hzt : (str t).size = t.length := str_size _
  have HG := Lib.hid (fun i (h : i < (str t).size) => ch_get (l := t) h)
  have hzl : (str (45 :: t)).size = t.length + 1 := str_size _
  have hem : (str (45 :: t)).toList.isEmpty = false := by rw [ByteArray.toList_eq]; rfl
  have hg : ∀ h : 0 < (str (45 :: t)).size, ((str (45 :: t))[0]'h).toNat = 45 := fun _ => rfl
  have ht := str_tail 45 t
  rw [hzl] at ht
  have HNo := Lib.hid (fun i (h : i < t.length) => (show ch t i ≠ 46 from fun e => by
    have hc : ch t i = t[i].toNat := by simp [ch, h]
    refine hn t[i] (List.getElem_mem h) ?_
    rw [← UInt8.ofNat_toNat (x := t[i]), ← hc, e]
    rfl))
  have hx : (str t).extract 0 t.length = str t := by apply ByteArray.ext; simp [str]
  have HGN := Lib.hid (fun W => GetN_yes t W hN)
  generalize hsl : str (45 :: t) = s at *
  generalize str t = st at *
  obtain ⟨N, hNN⟩ : ∃ N, t.length = N := ⟨_, rfl⟩
  rw [hNN] at HGN hx HNo hzt hl h6 hzl ht
  obtain ⟨X, hXX⟩ : ∃ X, seg t 0 N = X := ⟨_, rfl⟩
  rw [hXX] at HGN
  rw [hNN, hXX] at HEnd
  rw [hNN, hXX] at hX0
  have HX0 := Lib.hid (show (((digs X).length : Int) == 0) = false from by have := digs_len_zero X; simp only [beq_eq_false_iff_ne, ne_eq]; omega)
  have HDp := Lib.hid (show decide (-(X : Int) < 0) = true from decide_eq_true (by omega))
  clear hX0
  clear hXX
  clear hNN hn hN hsl
  have HU := Lib.hid (fun W => OfU_int 10 10 rfl (by decide) W)
  have HP := Lib.hid (fun z (hz : z = 0) => TenPow 0 (by omega) z hz)
  go_enter Tryz.func79, Tryz.ntmps79
  go_wp2
  go_quiet (fail)
  go_wp2
  obtain ⟨V, hV⟩ : ∃ V, V = (w.alloc (.cells #[.bool false, .slice none 0 0, .slice none 0 0] 86)).drewN nq := ⟨_, rfl⟩
  rw [← hV]
  have HV0 := Lib.hid (show Below w.heap.size w V from by rw [hV]; exact nat.drewN_below ((Below.refl _ _).alloc (Nat.le_refl _) _) nq)
  have HVr := Lib.hid (show V.heap[w.heap.size]? = some (.cells #[.bool false, .slice none 0 0, .slice none 0 0] 86 (0, 0)) from by rw [hV]; exact heap_alloc_new _ _)
  clear hV
  go_loopw [7] (fun kv wr => (∃ k : Nat, k ≤ N ∧ kv = .int .i64 k) ∧ V = wr) (fun kv _ => N - (intOf kv).toNat)
  case atStart => exact ⟨⟨0, Nat.zero_le _, rfl⟩, rfl⟩
  case round =>
    obtain ⟨⟨k, hk, rfl⟩, rfl⟩ := hrel
    by_cases hlt : k < N
    · have hgk : ∀ h : k < st.size, (st[k]'h).toNat = ch t k := fun h => HG.out _ h
      have hc := HNo.out k hlt
      generalize ch t k = c at *
      have hcb : ((c : Int) == 46) = false := by simp only [beq_eq_false_iff_ne, ne_eq]; omega
      go_wp2
      refine ⟨?_, ?_⟩
      · exact ⟨⟨k + 1, by omega, by go_num⟩, by first | trivial | rfl⟩
      · simp [intOf]; omega
    · obtain rfl : k = N := by omega
      go_wp2_with (first
        | (go_at_call 45; (with_reducible refine (HGN.out _).mono ?_); rintro e w2 ⟨sv, rfl, hs, hb⟩
           obtain ⟨so, sc, rfl, -⟩ := id hs
           have HS := Lib.hid hs
           have HB2 := Lib.hid hb
           clear hb hs)
        | (fail "no arm"))
      go_loopw [9, 11] (fun nv iv wr => nv = .slice so (digs X).length sc ∧ iv = .int .i64 ((k : Int) + 1) ∧ w2 = wr) (fun _ _ _ => 0)
      case atStart => exact ⟨rfl, rfl, rfl⟩
      case round =>
        obtain ⟨rfl, rfl, rfl⟩ := hrel
        have hm0 : (((digs X).length : Int) == 0) = false := HX0.out
        generalize (digs X).length = xl at *
        go_wp2_with (first
          | (go_at_call 48; (with_reducible refine (HU.out _).mono ?_); rintro e' w3 ⟨ten, rfl, ho, hb⟩
             have HO := Lib.hid ho
             have HB3 := Lib.hid hb
             clear ho hb)
          | (go_at_call 87; (with_reducible refine (HP.out _ (by first | rfl | decide | simp) _ _ HO.out).mono ?_); rintro e' w4 ⟨pw, rfl, hp, hb⟩
             obtain ⟨po, pc, rfl, -⟩ := id hp
             have HPw := Lib.hid hp
             have hvw : Below V.heap.size V w4 := HB2.out.trans ((HB3.out.trans (hb.mono HB3.out.size)).mono HB2.out.size)
             obtain ⟨c0, c1, c2, f0, f1, f2⟩ := row3 ((hvw.block w.heap.size (Array.getElem?_eq_some_iff.1 HVr.out).1).trans HVr.out)
             have HVw := Lib.hid (HV0.out.trans (hvw.mono HV0.out.size))
             have HS4 := Lib.hid (HS.out.below (HB3.out.trans (hb.mono HB3.out.size)))
             clear hp hb hvw)
          | (fail "no arm"))
        obtain ⟨-, -, -, q3, q4, q5⟩ := three_cells (.bool true) (.slice so xl sc) (.slice po (digs (10 ^ 0)).length pc) c0 c1 c2
        have HF1 := Lib.hid (result_num (v1 := .slice so xl sc) (v2 := .slice po (digs (10 ^ 0)).length pc) (b' := true) HS4.out c0 c1 c2)
        have HF2 := Lib.hid (result_num (v1 := .slice so xl sc) (v2 := .slice po (digs (10 ^ 0)).length pc) (b' := true) HPw.out c0 c1 c2)
        refine bodyPost_ret (v := .tuple #[.agg #[.bool true, .slice so xl sc, .slice po (digs (10 ^ 0)).length pc], .int .i64 0, .bool true]) ?_ rfl ?_
        · simp [results, Tryz.results79, go_sem, q3, q4, q5] <;> decide
        · exact ⟨_, _, _, rfl, fun _ => ⟨true, X, 0, rfl, HEnd.out, IsQ.of HDp.out (by rw [show Int.natAbs (if true = true then -(X : Int) else (X : Int)) = X by simp]; exact HF1.out) HF2.out⟩, (fun h => by cases h), result_below HVw.out (Nat.le_refl _) _ _ _⟩
set_option maxRecDepth 100000 in
set_option maxHeartbeats 4000000 in
theorem GetDec_plain_long (t : List UInt8) (w : World) (hl : t.length ≤ 9000) (hn : ∀ c ∈ t, c ≠ 46) (h6 : 60 < t.length) (hne : t ≠ []) (hm : ∀ u, t ≠ 45 :: u) :
    Calls Tryz.prog 79 #[.string (str (t))] w fun e w' => GetDecEnd (t) w e w' := by
  have HEnd := Lib.hid (fun neg n m (h : DecForm (t) neg n m) => (show False by have := h.1; omega))
  have hzt : (str t).size = t.length := str_size _
  have HG := Lib.hid (fun i (h : i < (str t).size) => ch_get (l := t) h)
  obtain ⟨c0, u0, hcu⟩ : ∃ c u, t = c :: u := by
    rcases t with _ | ⟨c, u⟩
    · exact absurd rfl hne
    · exact ⟨c, u, rfl⟩
  have hem : (str t).toList.isEmpty = false := by rw [hcu, ByteArray.toList_eq]; rfl
  have hcb0 : ((c0.toNat : Int) == 45) = false := by
    simp only [beq_eq_false_iff_ne, ne_eq]
    intro h
    refine hm u0 (hcu.trans ?_)
    rw [show c0 = 45 from UInt8.toNat_inj.1 (by simpa using (show c0.toNat = 45 by omega))]
  have hg : ∀ h : 0 < (str t).size, ((str t)[0]'h).toNat = c0.toNat := fun h => by rw [HG.out 0 h, hcu]; rfl
  have hpos : 0 < t.length := by rw [hcu]; simp
  generalize c0.toNat = d0 at *
  have HNo := Lib.hid (fun i (h : i < t.length) => (show ch t i ≠ 46 from fun e => by
    have hc : ch t i = t[i].toNat := by simp [ch, h]
    refine hn t[i] (List.getElem_mem h) ?_
    rw [← UInt8.ofNat_toNat (x := t[i]), ← hc, e]
    rfl))
  have hx : (str t).extract 0 t.length = str t := by apply ByteArray.ext; simp [str]
  generalize str t = st at *
  obtain ⟨N, hNN⟩ : ∃ N, t.length = N := ⟨_, rfl⟩
  rw [hNN] at hx HNo hzt hl h6 hpos
  clear hNN hn hm hne hcu
  go_enter Tryz.func79, Tryz.ntmps79
  go_wp2
  go_quiet (fail)
  go_wp2
  obtain ⟨V, hV⟩ : ∃ V, V = (w.alloc (.cells #[.bool false, .slice none 0 0, .slice none 0 0] 86)).drewN nq := ⟨_, rfl⟩
  rw [← hV]
  have HV0 := Lib.hid (show Below w.heap.size w V from by rw [hV]; exact nat.drewN_below ((Below.refl _ _).alloc (Nat.le_refl _) _) nq)
  have HVr := Lib.hid (show V.heap[w.heap.size]? = some (.cells #[.bool false, .slice none 0 0, .slice none 0 0] 86 (0, 0)) from by rw [hV]; exact heap_alloc_new _ _)
  clear hV
  go_loopw [7] (fun kv wr => (∃ k : Nat, k ≤ N ∧ kv = .int .i64 k) ∧ V = wr) (fun kv _ => N - (intOf kv).toNat)
  case atStart => exact ⟨⟨0, Nat.zero_le _, rfl⟩, rfl⟩
  case round =>
    obtain ⟨⟨k, hk, rfl⟩, rfl⟩ := hrel
    by_cases hlt : k < N
    · have hgk : ∀ h : k < st.size, (st[k]'h).toNat = ch t k := fun h => HG.out _ h
      have hc := HNo.out k hlt
      generalize ch t k = c at *
      have hcb : ((c : Int) == 46) = false := by simp only [beq_eq_false_iff_ne, ne_eq]; omega
      go_wp2
      refine ⟨?_, ?_⟩
      · exact ⟨⟨k + 1, by omega, by go_num⟩, by first | trivial | rfl⟩
      · simp [intOf]; omega
    · obtain rfl : k = N := by omega
      obtain ⟨c0, c1, c2, f0, f1, f2⟩ := row3 HVr.out
      go_wp2
      obtain ⟨-, -, -, q3, q4, q5⟩ := three_cells (.bool false) (.slice none 0 0) (.slice none 0 0) c0 c1 c2
      refine bodyPost_ret (v := .tuple #[.agg #[.bool false, .slice none 0 0, .slice none 0 0], .int .i64 0, .bool false]) ?_ rfl ?_
      · simp [results, Tryz.results79, go_sem, q3, q4, q5]
      · exact ⟨_, _, _, rfl, (fun h => by cases h), fun _ => ⟨rfl, rfl, HEnd.out⟩, result_below (HV0.out.trans ((Below.refl _ _).mono HV0.out.size)) (Nat.le_refl _) _ _ _⟩
set_option maxRecDepth 100000 in
set_option maxHeartbeats 4000000 in
theorem GetDec_plain_bad (t : List UInt8) (w : World) (hl : t.length ≤ 9000) (hn : ∀ c ∈ t, c ≠ 46) (h6 : t.length ≤ 60) (hN : ¬ Numeral t) (hne : t ≠ []) (hm : ∀ u, t ≠ 45 :: u) :
    Calls Tryz.prog 79 #[.string (str (t))] w fun e w' => GetDecEnd (t) w e w' := by
  have HEnd := Lib.hid (fun neg n m (h : DecForm (t) neg n m) => (show False from hN ((h.plain hm).2.whole hn).2.1))
  have hzt : (str t).size = t.length := str_size _
  have HG := Lib.hid (fun i (h : i < (str t).size) => ch_get (l := t) h)
  obtain ⟨c0, u0, hcu⟩ : ∃ c u, t = c :: u := by
    rcases t with _ | ⟨c, u⟩
    · exact absurd rfl hne
    · exact ⟨c, u, rfl⟩
  have hem : (str t).toList.isEmpty = false := by rw [hcu, ByteArray.toList_eq]; rfl
  have hcb0 : ((c0.toNat : Int) == 45) = false := by
    simp only [beq_eq_false_iff_ne, ne_eq]
    intro h
    refine hm u0 (hcu.trans ?_)
    rw [show c0 = 45 from UInt8.toNat_inj.1 (by simpa using (show c0.toNat = 45 by omega))]
  have hg : ∀ h : 0 < (str t).size, ((str t)[0]'h).toNat = c0.toNat := fun h => by rw [HG.out 0 h, hcu]; rfl
  have hpos : 0 < t.length := by rw [hcu]; simp
  generalize c0.toNat = d0 at *
  have HNo := Lib.hid (fun i (h : i < t.length) => (show ch t i ≠ 46 from fun e => by
    have hc : ch t i = t[i].toNat := by simp [ch, h]
    refine hn t[i] (List.getElem_mem h) ?_
    rw [← UInt8.ofNat_toNat (x := t[i]), ← hc, e]
    rfl))
  have hx : (str t).extract 0 t.length = str t := by apply ByteArray.ext; simp [str]
  have HGN := Lib.hid (fun W => GetN_no t W (by omega) hN)
  generalize str t = st at *
  obtain ⟨N, hNN⟩ : ∃ N, t.length = N := ⟨_, rfl⟩
  rw [hNN] at hx HNo hzt hl h6 hpos
  clear hNN hn hN hm hne hcu
  go_enter Tryz.func79, Tryz.ntmps79
  go_wp2
  go_quiet (fail)
  go_wp2
  obtain ⟨V, hV⟩ : ∃ V, V = (w.alloc (.cells #[.bool false, .slice none 0 0, .slice none 0 0] 86)).drewN nq := ⟨_, rfl⟩
  rw [← hV]
  have HV0 := Lib.hid (show Below w.heap.size w V from by rw [hV]; exact nat.drewN_below ((Below.refl _ _).alloc (Nat.le_refl _) _) nq)
  have HVr := Lib.hid (show V.heap[w.heap.size]? = some (.cells #[.bool false, .slice none 0 0, .slice none 0 0] 86 (0, 0)) from by rw [hV]; exact heap_alloc_new _ _)
  clear hV
  go_loopw [7] (fun kv wr => (∃ k : Nat, k ≤ N ∧ kv = .int .i64 k) ∧ V = wr) (fun kv _ => N - (intOf kv).toNat)
  case atStart => exact ⟨⟨0, Nat.zero_le _, rfl⟩, rfl⟩
  case round =>
    obtain ⟨⟨k, hk, rfl⟩, rfl⟩ := hrel
    by_cases hlt : k < N
    · have hgk : ∀ h : k < st.size, (st[k]'h).toNat = ch t k := fun h => HG.out _ h
      have hc := HNo.out k hlt
      generalize ch t k = c at *
      have hcb : ((c : Int) == 46) = false := by simp only [beq_eq_false_iff_ne, ne_eq]; omega
      go_wp2
      refine ⟨?_, ?_⟩
      · exact ⟨⟨k + 1, by omega, by go_num⟩, by first | trivial | rfl⟩
      · simp [intOf]; omega
    · obtain rfl : k = N := by omega
      go_wp2_with (first
        | (go_at_call 45; (with_reducible refine (HGN.out _).mono ?_); rintro e w2 ⟨rfl, hb⟩
           obtain ⟨c0, c1, c2, f0, f1, f2⟩ := row3 ((hb.block w.heap.size (Array.getElem?_eq_some_iff.1 HVr.out).1).trans HVr.out)
           have HB2 := Lib.hid hb
           clear hb)
        | (fail "no arm"))
      obtain ⟨-, -, -, q3, q4, q5⟩ := three_cells (.bool false) (.slice none 0 0) (.slice none 0 0) c0 c1 c2
      refine bodyPost_ret (v := .tuple #[.agg #[.bool false, .slice none 0 0, .slice none 0 0], .int .i64 0, .bool false]) ?_ rfl ?_
      · simp [results, Tryz.results79, go_sem, q3, q4, q5]
      · exact ⟨_, _, _, rfl, (fun h => by cases h), fun _ => ⟨rfl, rfl, HEnd.out⟩, result_below (HV0.out.trans (HB2.out.mono HV0.out.size)) (Nat.le_refl _) _ _ _⟩
set_option maxRecDepth 100000 in
set_option maxHeartbeats 4000000 in
theorem GetDec_plain_yes (t : List UInt8) (w : World) (hl : t.length ≤ 9000) (hn : ∀ c ∈ t, c ≠ 46) (h6 : t.length ≤ 60) (hN : Numeral t) (hne : t ≠ []) (hm : ∀ u, t ≠ 45 :: u) :
    Calls Tryz.prog 79 #[.string (str (t))] w fun e w' => GetDecEnd (t) w e w' := by
  have HEnd := Lib.hid (show DecForm (t) false (seg t 0 t.length) 0 from ⟨by simpa using h6, t, rfl, (fun h => by cases h), Or.inl ⟨rfl, hN, rfl⟩⟩)
  have hzt : (str t).size = t.length := str_size _
  have HG := Lib.hid (fun i (h : i < (str t).size) => ch_get (l := t) h)
  obtain ⟨c0, u0, hcu⟩ : ∃ c u, t = c :: u := by
    rcases t with _ | ⟨c, u⟩
    · exact absurd rfl hne
    · exact ⟨c, u, rfl⟩
  have hem : (str t).toList.isEmpty = false := by rw [hcu, ByteArray.toList_eq]; rfl
  have hcb0 : ((c0.toNat : Int) == 45) = false := by
    simp only [beq_eq_false_iff_ne, ne_eq]
    intro h
    refine hm u0 (hcu.trans ?_)
    rw [show c0 = 45 from UInt8.toNat_inj.1 (by simpa using (show c0.toNat = 45 by omega))]
  have hg : ∀ h : 0 < (str t).size, ((str t)[0]'h).toNat = c0.toNat := fun h => by rw [HG.out 0 h, hcu]; rfl
  have hpos : 0 < t.length := by rw [hcu]; simp
  generalize c0.toNat = d0 at *
  have HNo := Lib.hid (fun i (h : i < t.length) => (show ch t i ≠ 46 from fun e => by
    have hc : ch t i = t[i].toNat := by simp [ch, h]
    refine hn t[i] (List.getElem_mem h) ?_
    rw [← UInt8.ofNat_toNat (x := t[i]), ← hc, e]
    rfl))
  have hx : (str t).extract 0 t.length = str t := by apply ByteArray.ext; simp [str]
  have HGN := Lib.hid (fun W => GetN_yes t W hN)
  generalize str t = st at *
  obtain ⟨N, hNN⟩ : ∃ N, t.length = N := ⟨_, rfl⟩
  rw [hNN] at HGN hx HNo hzt hl h6 hpos
  obtain ⟨X, hXX⟩ : ∃ X, seg t 0 N = X := ⟨_, rfl⟩
  rw [hXX] at HGN
  rw [hNN, hXX] at HEnd
  have HDp := Lib.hid (show decide ((X : Int) < 0) = false from decide_eq_false (by omega))
  clear hXX
  clear hNN hn hN hm hne hcu
  have HU := Lib.hid (fun W => OfU_int 10 10 rfl (by decide) W)
  have HP := Lib.hid (fun z (hz : z = 0) => TenPow 0 (by omega) z hz)
  go_enter Tryz.func79, Tryz.ntmps79
  go_wp2
  go_quiet (fail)
  go_wp2
  obtain ⟨V, hV⟩ : ∃ V, V = (w.alloc (.cells #[.bool false, .slice none 0 0, .slice none 0 0] 86)).drewN nq := ⟨_, rfl⟩
  rw [← hV]
  have HV0 := Lib.hid (show Below w.heap.size w V from by rw [hV]; exact nat.drewN_below ((Below.refl _ _).alloc (Nat.le_refl _) _) nq)
  have HVr := Lib.hid (show V.heap[w.heap.size]? = some (.cells #[.bool false, .slice none 0 0, .slice none 0 0] 86 (0, 0)) from by rw [hV]; exact heap_alloc_new _ _)
  clear hV
  go_loopw [7] (fun kv wr => (∃ k : Nat, k ≤ N ∧ kv = .int .i64 k) ∧ V = wr) (fun kv _ => N - (intOf kv).toNat)
  case atStart => exact ⟨⟨0, Nat.zero_le _, rfl⟩, rfl⟩
  case round =>
    obtain ⟨⟨k, hk, rfl⟩, rfl⟩ := hrel
    by_cases hlt : k < N
    · have hgk : ∀ h : k < st.size, (st[k]'h).toNat = ch t k := fun h => HG.out _ h
      have hc := HNo.out k hlt
      generalize ch t k = c at *
      have hcb : ((c : Int) == 46) = false := by simp only [beq_eq_false_iff_ne, ne_eq]; omega
      go_wp2
      refine ⟨?_, ?_⟩
      · exact ⟨⟨k + 1, by omega, by go_num⟩, by first | trivial | rfl⟩
      · simp [intOf]; omega
    · obtain rfl : k = N := by omega
      go_wp2_with (first
        | (go_at_call 45; (with_reducible refine (HGN.out _).mono ?_); rintro e w2 ⟨sv, rfl, hs, hb⟩
           obtain ⟨so, sc, rfl, -⟩ := id hs
           have HS := Lib.hid hs
           have HB2 := Lib.hid hb
           clear hb hs)
        | (fail "no arm"))
      go_loopw [9, 11] (fun nv iv wr => nv = .slice so (digs X).length sc ∧ iv = .int .i64 ((k : Int) + 1) ∧ w2 = wr) (fun _ _ _ => 0)
      case atStart => exact ⟨rfl, rfl, rfl⟩
      case round =>
        obtain ⟨rfl, rfl, rfl⟩ := hrel
        generalize (digs X).length = xl at *
        go_wp2_with (first
          | (go_at_call 48; (with_reducible refine (HU.out _).mono ?_); rintro e' w3 ⟨ten, rfl, ho, hb⟩
             have HO := Lib.hid ho
             have HB3 := Lib.hid hb
             clear ho hb)
          | (go_at_call 87; (with_reducible refine (HP.out _ (by first | rfl | decide | simp) _ _ HO.out).mono ?_); rintro e' w4 ⟨pw, rfl, hp, hb⟩
             obtain ⟨po, pc, rfl, -⟩ := id hp
             have HPw := Lib.hid hp
             have hvw : Below V.heap.size V w4 := HB2.out.trans ((HB3.out.trans (hb.mono HB3.out.size)).mono HB2.out.size)
             obtain ⟨c0, c1, c2, f0, f1, f2⟩ := row3 ((hvw.block w.heap.size (Array.getElem?_eq_some_iff.1 HVr.out).1).trans HVr.out)
             have HVw := Lib.hid (HV0.out.trans (hvw.mono HV0.out.size))
             have HS4 := Lib.hid (HS.out.below (HB3.out.trans (hb.mono HB3.out.size)))
             clear hp hb hvw)
          | (fail "no arm"))
        obtain ⟨-, -, -, q3, q4, q5⟩ := three_cells (.bool false) (.slice so xl sc) (.slice po (digs (10 ^ 0)).length pc) c0 c1 c2
        have HF1 := Lib.hid (result_num (v1 := .slice so xl sc) (v2 := .slice po (digs (10 ^ 0)).length pc) (b' := false) HS4.out c0 c1 c2)
        have HF2 := Lib.hid (result_num (v1 := .slice so xl sc) (v2 := .slice po (digs (10 ^ 0)).length pc) (b' := false) HPw.out c0 c1 c2)
        refine bodyPost_ret (v := .tuple #[.agg #[.bool false, .slice so xl sc, .slice po (digs (10 ^ 0)).length pc], .int .i64 0, .bool true]) ?_ rfl ?_
        · simp [results, Tryz.results79, go_sem, q3, q4, q5] <;> decide
        · exact ⟨_, _, _, rfl, fun _ => ⟨false, X, 0, rfl, HEnd.out, IsQ.of HDp.out (by rw [show Int.natAbs (if false = true then -(X : Int) else (X : Int)) = X by simp]; exact HF1.out) HF2.out⟩, (fun h => by cases h), result_below HVw.out (Nat.le_refl _) _ _ _⟩
end Go.Proofs.YtfpooimjjpamoaaGreatDoor.ref
