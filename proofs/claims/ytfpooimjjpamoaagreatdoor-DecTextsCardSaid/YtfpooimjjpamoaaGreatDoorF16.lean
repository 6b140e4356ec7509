/-
  The steps of the walks, part 16: RefGetDec2.
-/
import Derived.Test.YtfpooimjjpamoaaGreatDoorF15
import Derived.Test.YtfpooimjjpamoaaGreatDoorS23
import Derived.Test.YtfpooimjjpamoaaGreatDoorS01
namespace Go.Proofs.YtfpooimjjpamoaaGreatDoor.ref
open Go.RowKit
theorem no_point {a b : List UInt8} (hn : ∀ c ∈ a, c ≠ 46) {i : Nat} (h : i < a.length) : ch (a ++ 46 :: b) i ≠ 46 := fun e => by
  have hc : ch (a ++ 46 :: b) i = a[i].toNat := by
    unfold ch
    rw [List.getD_eq_getElem?_getD, List.getElem?_append_left h, List.getElem?_eq_getElem h]
    rfl
  refine hn a[i] (List.getElem_mem h) ?_
  rw [← UInt8.ofNat_toNat (x := a[i]), ← hc, e]
  rfl
theorem ch_point (a b : List UInt8) : ch (a ++ 46 :: b) a.length = 46 := by
  unfold ch
  rw [List.getD_eq_getElem?_getD, List.getElem?_append_right (Nat.le_refl _), Nat.sub_self]
  rfl
theorem ch_behind (a b : List UInt8) (i : Nat) : ch (a ++ 46 :: b) (a.length + 1 + i) = ch b i := by
  unfold ch
  rw [List.getD_eq_getElem?_getD, List.getD_eq_getElem?_getD, List.getElem?_append_right (by omega), show a.length + 1 + i - a.length = i + 1 by omega, List.getElem?_cons_succ]
theorem wrap_digit {c : Nat} (h1 : 48 ≤ c) (h2 : c ≤ 57) : IntKind.u64.wrap (IntKind.u8.wrap ((c : Int) - 48)) = (c : Int) - 48 := by
  rcases (show c = 48 ∨ c = 49 ∨ c = 50 ∨ c = 51 ∨ c = 52 ∨ c = 53 ∨ c = 54 ∨ c = 55 ∨ c = 56 ∨ c = 57 by omega) with rfl | rfl | rfl | rfl | rfl | rfl | rfl | rfl | rfl | rfl <;> rfl
theorem bel_tr {a b c : World} (h : Below a.heap.size a b) (k : Below b.heap.size b c) : Below a.heap.size a c := h.trans (k.mono h.size)
def PointRel (V : World) (b : List UInt8) (X k P : Nat) (nv iv : Value) (wr : World) : Prop :=
  ∃ i Y : Nat, i ≤ P ∧ iv = .int .i64 ((k : Int) + 1 + i) ∧ (IsN wr nv Y ∧ Y = X * 10 ^ i + seg b 0 i ∧ Y < 10 ^ (60 + i)) ∧ (∀ j, j < i → IsDig b j) ∧ Below V.heap.size V wr
theorem len10 {x n : Nat} (h : x < 10 ^ n) : (digs x).length ≤ n := digs_len_of_lt (Nat.lt_of_lt_of_le h (Nat.pow_le_pow_left (by omega) n))
theorem dec_step {b : List UInt8} {X i Y c : Nat} (hY : Y = X * 10 ^ i + seg b 0 i) (hc : ch b i = c) : Y * 10 + (c - 48) = X * 10 ^ (i + 1) + seg b 0 (i + 1) := by
  have h : seg b 0 (i + 1) = seg b 0 i * 10 + (ch b (0 + i) - 48) := rfl
  rw [h, Nat.zero_add, hc, hY, Nat.pow_succ, Nat.add_mul, Nat.mul_assoc, Nat.add_assoc]
theorem dec_low {Y i d : Nat} (h : Y < 10 ^ (60 + i)) (hd : d ≤ 9) : Y * 10 + d < 10 ^ (60 + (i + 1)) := by
  rw [show 60 + (i + 1) = (60 + i) + 1 by omega, Nat.pow_succ]
  omega
theorem ext_point (a b : List UInt8) : (str (a ++ 46 :: b)).extract 0 a.length = str a := by apply ByteArray.ext; simp [str]
set_option maxRecDepth 100000 in
set_option maxHeartbeats 4000000 in
theorem GetDec_point_minus_long (a b : List UInt8) (w : World) (hl : (a ++ 46 :: b).length ≤ 9000) (hn : ∀ c ∈ a, c ≠ 46) (h6 : 60 < a.length + 1 + b.length + 1) :
    Calls Tryz.prog 79 #[.string (str (45 :: (a ++ 46 :: b)))] w fun e w' => GetDecEnd (45 :: (a ++ 46 :: b)) w e w' := by
  have HEnd := Lib.hid (fun neg n m (h : DecForm (45 :: (a ++ 46 :: b)) neg n m) => (show False from by have := h.1; simp at this; omega))
  have HNo := Lib.hid (fun i (h : i < a.length) => no_point (b := b) hn h)
  have HSt := Lib.hid (ch_point a b)
  have HBt := Lib.hid (ch_behind a b)
  have hx := ext_point a b
  have hAN : (a ++ 46 :: b).length = a.length + 1 + b.length := by simp; omega
  generalize a ++ 46 :: b = t at *
  have hzt : (str t).size = t.length := str_size _
  have HG := Lib.hid (fun i (h : i < (str t).size) => ch_get (l := t) h)
  have hzl : (str (45 :: t)).size = t.length + 1 := str_size _
  have hem : (str (45 :: t)).toList.isEmpty = false := by rw [ByteArray.toList_eq]; rfl
  have hg : ∀ h : 0 < (str (45 :: t)).size, ((str (45 :: t))[0]'h).toNat = 45 := fun _ => rfl
  have ht := str_tail 45 t
  rw [hzl] at ht
  generalize hsl : str (45 :: t) = s at *
  generalize str t = st at *
  generalize str a = sa at *
  obtain ⟨N, hNN⟩ : ∃ N, t.length = N := ⟨_, rfl⟩
  obtain ⟨A, hAA⟩ : ∃ A, a.length = A := ⟨_, rfl⟩
  obtain ⟨P, hPP⟩ : ∃ P, b.length = P := ⟨_, rfl⟩
  rw [hNN] at hAN hzt hl hzl ht
  rw [hAA] at HNo HSt HBt hx hAN h6
  rw [hPP] at hAN h6
  have hpl : (N : Int) - A - 1 = (P : Int) := by omega
  have hNI : (N : Int) = (A : Int) + 1 + P := by omega
  have hAI : (A : Int) < (N : Int) := by omega
  have h66 : 60 < (N : Int) + 1 := by omega
  clear h6
  have HNI := Lib.hid hNI
  clear hNN hAA hPP hAN hn hNI hsl
  go_enter Tryz.func79, Tryz.ntmps79
  go_wp2
  go_quiet (fail)
  go_wp2
  obtain ⟨V, hV⟩ : ∃ V, V = (w.alloc (.cells #[.bool false, .slice none 0 0, .slice none 0 0] 86)).drewN nq := ⟨_, rfl⟩
  rw [← hV]
  have HV0 := Lib.hid (show Below w.heap.size w V from by rw [hV]; exact nat.drewN_below ((Below.refl _ _).alloc (Nat.le_refl _) _) nq)
  have HVr := Lib.hid (show V.heap[w.heap.size]? = some (.cells #[.bool false, .slice none 0 0, .slice none 0 0] 86 (0, 0)) from by rw [hV]; exact heap_alloc_new _ _)
  clear hV
  go_loopw [7] (fun kv wr => (∃ k : Nat, k ≤ A ∧ kv = .int .i64 k) ∧ V = wr) (fun kv _ => A - (intOf kv).toNat)
  case atStart => exact ⟨⟨0, Nat.zero_le _, rfl⟩, rfl⟩
  case round =>
    obtain ⟨⟨k, hk, rfl⟩, rfl⟩ := hrel
    have hkN : (k : Int) < (N : Int) := by omega
    by_cases hlt : k < A
    · have hgk : ∀ h : k < st.size, (st[k]'h).toNat = ch t k := fun h => HG.out _ h
      have hc := HNo.out k hlt
      generalize ch t k = c at *
      have hcb : ((c : Int) == 46) = false := by simp only [beq_eq_false_iff_ne, ne_eq]; omega
      go_wp2
      refine ⟨?_, ?_⟩
      · exact ⟨⟨k + 1, by omega, by go_num⟩, by first | trivial | rfl⟩
      · simp [intOf]; omega
    · obtain rfl : k = A := by omega
      have hgk : ∀ h : k < st.size, (st[k]'h).toNat = 46 := fun h => (HG.out _ h).trans HSt.out
      obtain ⟨c0, c1, c2, f0, f1, f2⟩ := row3 HVr.out
      go_wp2
      all_goals
        obtain ⟨-, -, -, q3, q4, q5⟩ := three_cells (.bool false) (.slice none 0 0) (.slice none 0 0) c0 c1 c2
        refine bodyPost_ret (v := .tuple #[.agg #[.bool false, .slice none 0 0, .slice none 0 0], .int .i64 0, .bool false]) ?_ rfl ?_
        · simp [results, Tryz.results79, go_sem, q3, q4, q5]
        · exact ⟨_, _, _, rfl, (fun h => by cases h), fun _ => ⟨rfl, rfl, HEnd.out⟩, result_below (HV0.out.trans ((Below.refl _ _).mono HV0.out.size)) (Nat.le_refl _) _ _ _⟩
set_option maxRecDepth 100000 in
set_option maxHeartbeats 4000000 in
theorem GetDec_point_minus_short (a b : List UInt8) (w : World) (hl : (a ++ 46 :: b).length ≤ 9000) (hn : ∀ c ∈ a, c ≠ 46) (h6 : a.length + 1 + b.length + 1 ≤ 60) (h7 : b.length = 0) :
    Calls Tryz.prog 79 #[.string (str (45 :: (a ++ 46 :: b)))] w fun e w' => GetDecEnd (45 :: (a ++ 46 :: b)) w e w' := by
  have HEnd := Lib.hid (fun neg n m (h : DecForm (45 :: (a ++ 46 :: b)) neg n m) => (show False from by have := (h.minus.2.2.parts hn).2; omega))
  have HNo := Lib.hid (fun i (h : i < a.length) => no_point (b := b) hn h)
  have HSt := Lib.hid (ch_point a b)
  have HBt := Lib.hid (ch_behind a b)
  have hx := ext_point a b
  have hAN : (a ++ 46 :: b).length = a.length + 1 + b.length := by simp; omega
  generalize a ++ 46 :: b = t at *
  have hzt : (str t).size = t.length := str_size _
  have HG := Lib.hid (fun i (h : i < (str t).size) => ch_get (l := t) h)
  have hzl : (str (45 :: t)).size = t.length + 1 := str_size _
  have hem : (str (45 :: t)).toList.isEmpty = false := by rw [ByteArray.toList_eq]; rfl
  have hg : ∀ h : 0 < (str (45 :: t)).size, ((str (45 :: t))[0]'h).toNat = 45 := fun _ => rfl
  have ht := str_tail 45 t
  rw [hzl] at ht
  generalize hsl : str (45 :: t) = s at *
  generalize str t = st at *
  generalize str a = sa at *
  obtain ⟨N, hNN⟩ : ∃ N, t.length = N := ⟨_, rfl⟩
  obtain ⟨A, hAA⟩ : ∃ A, a.length = A := ⟨_, rfl⟩
  obtain ⟨P, hPP⟩ : ∃ P, b.length = P := ⟨_, rfl⟩
  rw [hNN] at hAN hzt hl hzl ht
  rw [hAA] at HNo HSt HBt hx hAN h6
  rw [hPP] at hAN h6 h7
  have hpl : (N : Int) - A - 1 = (P : Int) := by omega
  have hNI : (N : Int) = (A : Int) + 1 + P := by omega
  have hAI : (A : Int) < (N : Int) := by omega
  have h66 : ¬ 60 < (N : Int) + 1 := by omega
  clear h6
  have hp1 : (P : Int) < 1 := by omega
  have HNI := Lib.hid hNI
  clear hNN hAA hPP hAN hn hNI hsl
  go_enter Tryz.func79, Tryz.ntmps79
  go_wp2
  go_quiet (fail)
  go_wp2
  obtain ⟨V, hV⟩ : ∃ V, V = (w.alloc (.cells #[.bool false, .slice none 0 0, .slice none 0 0] 86)).drewN nq := ⟨_, rfl⟩
  rw [← hV]
  have HV0 := Lib.hid (show Below w.heap.size w V from by rw [hV]; exact nat.drewN_below ((Below.refl _ _).alloc (Nat.le_refl _) _) nq)
  have HVr := Lib.hid (show V.heap[w.heap.size]? = some (.cells #[.bool false, .slice none 0 0, .slice none 0 0] 86 (0, 0)) from by rw [hV]; exact heap_alloc_new _ _)
  clear hV
  go_loopw [7] (fun kv wr => (∃ k : Nat, k ≤ A ∧ kv = .int .i64 k) ∧ V = wr) (fun kv _ => A - (intOf kv).toNat)
  case atStart => exact ⟨⟨0, Nat.zero_le _, rfl⟩, rfl⟩
  case round =>
    obtain ⟨⟨k, hk, rfl⟩, rfl⟩ := hrel
    have hkN : (k : Int) < (N : Int) := by omega
    by_cases hlt : k < A
    · have hgk : ∀ h : k < st.size, (st[k]'h).toNat = ch t k := fun h => HG.out _ h
      have hc := HNo.out k hlt
      generalize ch t k = c at *
      have hcb : ((c : Int) == 46) = false := by simp only [beq_eq_false_iff_ne, ne_eq]; omega
      go_wp2
      refine ⟨?_, ?_⟩
      · exact ⟨⟨k + 1, by omega, by go_num⟩, by first | trivial | rfl⟩
      · simp [intOf]; omega
    · obtain rfl : k = A := by omega
      have hgk : ∀ h : k < st.size, (st[k]'h).toNat = 46 := fun h => (HG.out _ h).trans HSt.out
      obtain ⟨c0, c1, c2, f0, f1, f2⟩ := row3 HVr.out
      go_wp2
      all_goals
        obtain ⟨-, -, -, q3, q4, q5⟩ := three_cells (.bool false) (.slice none 0 0) (.slice none 0 0) c0 c1 c2
        refine bodyPost_ret (v := .tuple #[.agg #[.bool false, .slice none 0 0, .slice none 0 0], .int .i64 0, .bool false]) ?_ rfl ?_
        · simp [results, Tryz.results79, go_sem, q3, q4, q5]
        · exact ⟨_, _, _, rfl, (fun h => by cases h), fun _ => ⟨rfl, rfl, HEnd.out⟩, result_below (HV0.out.trans ((Below.refl _ _).mono HV0.out.size)) (Nat.le_refl _) _ _ _⟩
set_option maxRecDepth 100000 in
set_option maxHeartbeats 4000000 in
theorem GetDec_point_minus_many (a b : List UInt8) (w : World) (hl : (a ++ 46 :: b).length ≤ 9000) (hn : ∀ c ∈ a, c ≠ 46) (h6 : a.length + 1 + b.length + 1 ≤ 60) (h7 : 20 < b.length) :
    Calls Tryz.prog 79 #[.string (str (45 :: (a ++ 46 :: b)))] w fun e w' => GetDecEnd (45 :: (a ++ 46 :: b)) w e w' := by
  have HEnd := Lib.hid (fun neg n m (h : DecForm (45 :: (a ++ 46 :: b)) neg n m) => (show False from by have := (h.minus.2.2.parts hn).2; omega))
  have HNo := Lib.hid (fun i (h : i < a.length) => no_point (b := b) hn h)
  have HSt := Lib.hid (ch_point a b)
  have HBt := Lib.hid (ch_behind a b)
  have hx := ext_point a b
  have hAN : (a ++ 46 :: b).length = a.length + 1 + b.length := by simp; omega
  generalize a ++ 46 :: b = t at *
  have hzt : (str t).size = t.length := str_size _
  have HG := Lib.hid (fun i (h : i < (str t).size) => ch_get (l := t) h)
  have hzl : (str (45 :: t)).size = t.length + 1 := str_size _
  have hem : (str (45 :: t)).toList.isEmpty = false := by rw [ByteArray.toList_eq]; rfl
  have hg : ∀ h : 0 < (str (45 :: t)).size, ((str (45 :: t))[0]'h).toNat = 45 := fun _ => rfl
  have ht := str_tail 45 t
  rw [hzl] at ht
  generalize hsl : str (45 :: t) = s at *
  generalize str t = st at *
  generalize str a = sa at *
  obtain ⟨N, hNN⟩ : ∃ N, t.length = N := ⟨_, rfl⟩
  obtain ⟨A, hAA⟩ : ∃ A, a.length = A := ⟨_, rfl⟩
  obtain ⟨P, hPP⟩ : ∃ P, b.length = P := ⟨_, rfl⟩
  rw [hNN] at hAN hzt hl hzl ht
  rw [hAA] at HNo HSt HBt hx hAN h6
  rw [hPP] at hAN h6 h7
  have hpl : (N : Int) - A - 1 = (P : Int) := by omega
  have hNI : (N : Int) = (A : Int) + 1 + P := by omega
  have hAI : (A : Int) < (N : Int) := by omega
  have h66 : ¬ 60 < (N : Int) + 1 := by omega
  clear h6
  have hp1 : ¬ (P : Int) < 1 := by omega
  have hp2 : (20 : Int) < P := by omega
  have HNI := Lib.hid hNI
  clear hNN hAA hPP hAN hn hNI hsl
  go_enter Tryz.func79, Tryz.ntmps79
  go_wp2
  go_quiet (fail)
  go_wp2
  obtain ⟨V, hV⟩ : ∃ V, V = (w.alloc (.cells #[.bool false, .slice none 0 0, .slice none 0 0] 86)).drewN nq := ⟨_, rfl⟩
  rw [← hV]
  have HV0 := Lib.hid (show Below w.heap.size w V from by rw [hV]; exact nat.drewN_below ((Below.refl _ _).alloc (Nat.le_refl _) _) nq)
  have HVr := Lib.hid (show V.heap[w.heap.size]? = some (.cells #[.bool false, .slice none 0 0, .slice none 0 0] 86 (0, 0)) from by rw [hV]; exact heap_alloc_new _ _)
  clear hV
  go_loopw [7] (fun kv wr => (∃ k : Nat, k ≤ A ∧ kv = .int .i64 k) ∧ V = wr) (fun kv _ => A - (intOf kv).toNat)
  case atStart => exact ⟨⟨0, Nat.zero_le _, rfl⟩, rfl⟩
  case round =>
    obtain ⟨⟨k, hk, rfl⟩, rfl⟩ := hrel
    have hkN : (k : Int) < (N : Int) := by omega
    by_cases hlt : k < A
    · have hgk : ∀ h : k < st.size, (st[k]'h).toNat = ch t k := fun h => HG.out _ h
      have hc := HNo.out k hlt
      generalize ch t k = c at *
      have hcb : ((c : Int) == 46) = false := by simp only [beq_eq_false_iff_ne, ne_eq]; omega
      go_wp2
      refine ⟨?_, ?_⟩
      · exact ⟨⟨k + 1, by omega, by go_num⟩, by first | trivial | rfl⟩
      · simp [intOf]; omega
    · obtain rfl : k = A := by omega
      have hgk : ∀ h : k < st.size, (st[k]'h).toNat = 46 := fun h => (HG.out _ h).trans HSt.out
      obtain ⟨c0, c1, c2, f0, f1, f2⟩ := row3 HVr.out
      go_wp2
      all_goals
        obtain ⟨-, -, -, q3, q4, q5⟩ := three_cells (.bool false) (.slice none 0 0) (.slice none 0 0) c0 c1 c2
        refine bodyPost_ret (v := .tuple #[.agg #[.bool false, .slice none 0 0, .slice none 0 0], .int .i64 0, .bool false]) ?_ rfl ?_
        · simp [results, Tryz.results79, go_sem, q3, q4, q5]
        · exact ⟨_, _, _, rfl, (fun h => by cases h), fun _ => ⟨rfl, rfl, HEnd.out⟩, result_below (HV0.out.trans ((Below.refl _ _).mono HV0.out.size)) (Nat.le_refl _) _ _ _⟩
set_option maxRecDepth 100000 in
set_option maxHeartbeats 4000000 in
theorem GetDec_point_minus_bad (a b : List UInt8) (w : World) (hl : (a ++ 46 :: b).length ≤ 9000) (hn : ∀ c ∈ a, c ≠ 46) (h6 : a.length + 1 + b.length + 1 ≤ 60) (h7 : 1 ≤ b.length) (h8 : b.length ≤ 20) (hN : ¬ Numeral a) :
    Calls Tryz.prog 79 #[.string (str (45 :: (a ++ 46 :: b)))] w fun e w' => GetDecEnd (45 :: (a ++ 46 :: b)) w e w' := by
  have HEnd := Lib.hid (fun neg n m (h : DecForm (45 :: (a ++ 46 :: b)) neg n m) => (show False from hN (h.minus.2.2.parts hn).1))
  have HNo := Lib.hid (fun i (h : i < a.length) => no_point (b := b) hn h)
  have HSt := Lib.hid (ch_point a b)
  have HBt := Lib.hid (ch_behind a b)
  have hx := ext_point a b
  have hAN : (a ++ 46 :: b).length = a.length + 1 + b.length := by simp; omega
  have HGN := Lib.hid (fun W => GetN_no a W (by omega) hN)
  generalize a ++ 46 :: b = t at *
  have hzt : (str t).size = t.length := str_size _
  have HG := Lib.hid (fun i (h : i < (str t).size) => ch_get (l := t) h)
  have hzl : (str (45 :: t)).size = t.length + 1 := str_size _
  have hem : (str (45 :: t)).toList.isEmpty = false := by rw [ByteArray.toList_eq]; rfl
  have hg : ∀ h : 0 < (str (45 :: t)).size, ((str (45 :: t))[0]'h).toNat = 45 := fun _ => rfl
  have ht := str_tail 45 t
  rw [hzl] at ht
  generalize hsl : str (45 :: t) = s at *
  generalize str t = st at *
  generalize str a = sa at *
  obtain ⟨N, hNN⟩ : ∃ N, t.length = N := ⟨_, rfl⟩
  obtain ⟨A, hAA⟩ : ∃ A, a.length = A := ⟨_, rfl⟩
  obtain ⟨P, hPP⟩ : ∃ P, b.length = P := ⟨_, rfl⟩
  rw [hNN] at hAN hzt hl hzl ht
  rw [hAA] at HNo HSt HBt hx hAN h6
  rw [hPP] at hAN h6 h7
  rw [hPP] at h8
  have hpl : (N : Int) - A - 1 = (P : Int) := by omega
  have hNI : (N : Int) = (A : Int) + 1 + P := by omega
  have hAI : (A : Int) < (N : Int) := by omega
  have h66 : ¬ 60 < (N : Int) + 1 := by omega
  clear h6
  have hp1 : ¬ (P : Int) < 1 := by omega
  have hp2 : ¬ (20 : Int) < P := by omega
  have HNI := Lib.hid hNI
  clear hNN hAA hPP hAN hn hNI hN hsl
  go_enter Tryz.func79, Tryz.ntmps79
  go_wp2
  go_quiet (fail)
  go_wp2
  obtain ⟨V, hV⟩ : ∃ V, V = (w.alloc (.cells #[.bool false, .slice none 0 0, .slice none 0 0] 86)).drewN nq := ⟨_, rfl⟩
  rw [← hV]
  have HV0 := Lib.hid (show Below w.heap.size w V from by rw [hV]; exact nat.drewN_below ((Below.refl _ _).alloc (Nat.le_refl _) _) nq)
  have HVr := Lib.hid (show V.heap[w.heap.size]? = some (.cells #[.bool false, .slice none 0 0, .slice none 0 0] 86 (0, 0)) from by rw [hV]; exact heap_alloc_new _ _)
  clear hV
  go_loopw [7] (fun kv wr => (∃ k : Nat, k ≤ A ∧ kv = .int .i64 k) ∧ V = wr) (fun kv _ => A - (intOf kv).toNat)
  case atStart => exact ⟨⟨0, Nat.zero_le _, rfl⟩, rfl⟩
  case round =>
    obtain ⟨⟨k, hk, rfl⟩, rfl⟩ := hrel
    have hkN : (k : Int) < (N : Int) := by omega
    by_cases hlt : k < A
    · have hgk : ∀ h : k < st.size, (st[k]'h).toNat = ch t k := fun h => HG.out _ h
      have hc := HNo.out k hlt
      generalize ch t k = c at *
      have hcb : ((c : Int) == 46) = false := by simp only [beq_eq_false_iff_ne, ne_eq]; omega
      go_wp2
      refine ⟨?_, ?_⟩
      · exact ⟨⟨k + 1, by omega, by go_num⟩, by first | trivial | rfl⟩
      · simp [intOf]; omega
    · obtain rfl : k = A := by omega
      have hgk : ∀ h : k < st.size, (st[k]'h).toNat = 46 := fun h => (HG.out _ h).trans HSt.out
      go_wp2_with (first
        | (go_at_call 45; (with_reducible refine (HGN.out _).mono ?_); rintro e w2 ⟨rfl, hb⟩
           obtain ⟨c0, c1, c2, f0, f1, f2⟩ := row3 ((hb.block w.heap.size (Array.getElem?_eq_some_iff.1 HVr.out).1).trans HVr.out)
           have HB2 := Lib.hid hb
           clear hb)
        | (fail "no arm"))
      obtain ⟨-, -, -, q3, q4, q5⟩ := three_cells (.bool false) (.slice none 0 0) (.slice none 0 0) c0 c1 c2
      refine bodyPost_ret (v := .tuple #[.agg #[.bool false, .slice none 0 0, .slice none 0 0], .int .i64 0, .bool false]) ?_ rfl ?_
      · simp [results, Tryz.results79, go_sem, q3, q4, q5]
      · exact ⟨_, _, _, rfl, (fun h => by cases h), fun _ => ⟨rfl, rfl, HEnd.out⟩, result_below (HV0.out.trans (HB2.out.mono HV0.out.size)) (Nat.le_refl _) _ _ _⟩
set_option maxRecDepth 100000 in
set_option maxHeartbeats 4000000 in
theorem GetDec_point_minus_go (a b : List UInt8) (w : World) (hl : (a ++ 46 :: b).length ≤ 9000) (hn : ∀ c ∈ a, c ≠ 46) (h6 : a.length + 1 + b.length + 1 ≤ 60) (h7 : 1 ≤ b.length) (h8 : b.length ≤ 20) (hN : Numeral a) :
    Calls Tryz.prog 79 #[.string (str (45 :: (a ++ 46 :: b)))] w fun e w' => GetDecEnd (45 :: (a ++ 46 :: b)) w e w' := by
  have HBad := Lib.hid (fun neg n m (h : DecForm (45 :: (a ++ 46 :: b)) neg n m) i (hi : i < b.length) => (show IsDig b i from (h.minus.2.2.parts hn).2.2.2.2.1 i (by have := (h.minus.2.2.parts hn).2.1; omega)))
  have hxl : seg a 0 a.length < 10 ^ 60 := Nat.lt_of_lt_of_le (seg_lt (l := a) (st := 0) (m := a.length) fun i _ hi => hN.2.2.2 i (by omega)) (Nat.pow_le_pow_right (by omega) (by omega))
  have HYes := fun (Y : Nat) (hY : Y = seg a 0 a.length * 10 ^ b.length + seg b 0 b.length) (h0 : Y ≠ 0) (hd : ∀ j, j < b.length → IsDig b j) => (show DecForm (45 :: (a ++ 46 :: b)) true Y b.length from ⟨by simp; omega, _, rfl, fun _ => h0, Or.inr ⟨a, b, rfl, hN, rfl, h7, h8, hd, hY⟩⟩)
  have HNo0 := fun neg n m (h : DecForm (45 :: (a ++ 46 :: b)) neg n m) (h0 : seg a 0 a.length * 10 ^ b.length + seg b 0 b.length = 0) => (show False from h.minus.2.1 ((h.minus.2.2.parts hn).2.2.2.2.2.trans (by rw [← (h.minus.2.2.parts hn).2.1]; exact h0)))
  have HNo := Lib.hid (fun i (h : i < a.length) => no_point (b := b) hn h)
  have HSt := Lib.hid (ch_point a b)
  have HBt := Lib.hid (ch_behind a b)
  have hx := ext_point a b
  have hAN : (a ++ 46 :: b).length = a.length + 1 + b.length := by simp; omega
  have HGN := Lib.hid (fun W => GetN_yes a W hN)
  generalize a ++ 46 :: b = t at *
  have hzt : (str t).size = t.length := str_size _
  have HG := Lib.hid (fun i (h : i < (str t).size) => ch_get (l := t) h)
  have hzl : (str (45 :: t)).size = t.length + 1 := str_size _
  have hem : (str (45 :: t)).toList.isEmpty = false := by rw [ByteArray.toList_eq]; rfl
  have hg : ∀ h : 0 < (str (45 :: t)).size, ((str (45 :: t))[0]'h).toNat = 45 := fun _ => rfl
  have ht := str_tail 45 t
  rw [hzl] at ht
  generalize hsl : str (45 :: t) = s at *
  generalize str t = st at *
  generalize str a = sa at *
  obtain ⟨N, hNN⟩ : ∃ N, t.length = N := ⟨_, rfl⟩
  obtain ⟨A, hAA⟩ : ∃ A, a.length = A := ⟨_, rfl⟩
  obtain ⟨P, hPP⟩ : ∃ P, b.length = P := ⟨_, rfl⟩
  rw [hNN] at hAN hzt hl hzl ht
  rw [hAA] at HNo HSt HBt hx hAN h6 HGN
  rw [hPP] at hAN h6 h7
  rw [hPP] at h8
  have hpl : (N : Int) - A - 1 = (P : Int) := by omega
  have hNI : (N : Int) = (A : Int) + 1 + P := by omega
  have hAI : (A : Int) < (N : Int) := by omega
  have h66 : ¬ 60 < (N : Int) + 1 := by omega
  clear h6
  have hp1 : ¬ (P : Int) < 1 := by omega
  have hp2 : ¬ (20 : Int) < P := by omega
  obtain ⟨X0, hX0⟩ : ∃ X, seg a 0 A = X := ⟨_, rfl⟩
  rw [hX0] at HGN
  rw [hAA, hX0] at hxl HYes HNo0
  rw [hPP] at HYes HNo0
  have HYes := Lib.hid HYes
  have HNo0 := Lib.hid HNo0
  have HXl := Lib.hid (show X0 < 10 ^ (60 + 0) from hxl)
  rw [hPP] at HBad
  clear hX0 hxl
  have HU := Lib.hid (fun W => OfU_int 10 10 rfl (by decide) W)
  have HNI := Lib.hid hNI
  clear hNN hAA hPP hAN hn hNI hN hsl
  go_enter Tryz.func79, Tryz.ntmps79
  go_wp2
  go_quiet (fail)
  go_wp2
  obtain ⟨V, hV⟩ : ∃ V, V = (w.alloc (.cells #[.bool false, .slice none 0 0, .slice none 0 0] 86)).drewN nq := ⟨_, rfl⟩
  rw [← hV]
  have HV0 := Lib.hid (show Below w.heap.size w V from by rw [hV]; exact nat.drewN_below ((Below.refl _ _).alloc (Nat.le_refl _) _) nq)
  have HVr := Lib.hid (show V.heap[w.heap.size]? = some (.cells #[.bool false, .slice none 0 0, .slice none 0 0] 86 (0, 0)) from by rw [hV]; exact heap_alloc_new _ _)
  clear hV
  go_loopw [7] (fun kv wr => (∃ k : Nat, k ≤ A ∧ kv = .int .i64 k) ∧ V = wr) (fun kv _ => A - (intOf kv).toNat)
  case atStart => exact ⟨⟨0, Nat.zero_le _, rfl⟩, rfl⟩
  case round =>
    obtain ⟨⟨k, hk, rfl⟩, rfl⟩ := hrel
    have hkN : (k : Int) < (N : Int) := by omega
    by_cases hlt : k < A
    · have hgk : ∀ h : k < st.size, (st[k]'h).toNat = ch t k := fun h => HG.out _ h
      have hc := HNo.out k hlt
      generalize ch t k = c at *
      have hcb : ((c : Int) == 46) = false := by simp only [beq_eq_false_iff_ne, ne_eq]; omega
      go_wp2
      refine ⟨?_, ?_⟩
      · exact ⟨⟨k + 1, by omega, by go_num⟩, by first | trivial | rfl⟩
      · simp [intOf]; omega
    · obtain rfl : k = A := by omega
      have hgk : ∀ h : k < st.size, (st[k]'h).toNat = 46 := fun h => (HG.out _ h).trans HSt.out
      go_wp2_with (first
        | (go_at_call 45; (with_reducible refine (HGN.out _).mono ?_); rintro e w2 ⟨sv, rfl, hs, hb⟩
           obtain ⟨so, sc, rfl, -⟩ := id hs
           have HS := Lib.hid hs
           have HB2 := Lib.hid hb
           clear hb hs)
        | (fail "no arm"))
      go_loopw [9, 11] (fun nv iv wr => PointRel V b X0 k P nv iv wr) (fun _ iv _ => P - (intOf iv - (k : Int) - 1).toNat)
      case atStart => exact ⟨0, X0, by omega, by go_num, ⟨HS.out, by simp [seg], HXl.out⟩, fun i h => by omega, HB2.out⟩
      case round =>
        obtain ⟨i, Y, hi, rfl, ⟨hs, hY, hYl⟩, hd, hb⟩ := hrel
        obtain ⟨so2, sc2, rfl, -⟩ := id hs
        have HSi := Lib.hid hs
        have HDi := Lib.hid hd
        have HBi := Lib.hid hb
        have HYe := Lib.hid hY
        have HYl := Lib.hid hYl
        clear hs hd hb hY hYl
        by_cases hiP : i < P
        · have hch := HBt.out i
          have hgk2 : ∀ h : k + 1 + i < st.size, (st[k + 1 + i]'h).toNat = ch b i := fun h => (HG.out _ h).trans hch
          have hti : (k : Int) + 1 + i < (N : Int) := by have := HNI.out; omega
          obtain ⟨cc, hcc⟩ : ∃ cc, ch b i = cc := ⟨_, rfl⟩
          rw [hcc] at hgk2
          have HCc := Lib.hid hcc
          clear hch hcc
          by_cases hdg : 48 ≤ cc ∧ cc ≤ 57
          · have hc1 : ¬ (cc : Int) < 48 := by omega
            have hc2 : ¬ (57 : Int) < cc := by omega
            have HDg := Lib.hid hdg
            have HD1 := Lib.hid (fun W z (hz : z = (cc : Int) - 48) => OfU_int z (cc - 48) (by omega) (by omega) W)
            have HG3 := Lib.hid (fun (h : ((k : Int) + 1 + (i : Int)).toNat < st.size) => (show (st[((k : Int) + 1 + (i : Int)).toNat]'h).toNat = cc from by
              have e : ((k : Int) + 1 + (i : Int)).toNat = k + 1 + i := by omega
              simp only [e]
              exact hgk2 _))
            have HM := Lib.hid (fun W v u (hv : IsN W v Y) (hu : IsN W u 10) => Mul_any v u Y 10 W hv hu (Nat.le_trans (len10 HYl.out) (by omega)) (Nat.le_trans (len_ten 1) (by omega)))
            have HA := Lib.hid (fun W v u (hv : IsN W v (Y * 10)) (hu : IsN W u (cc - 48)) => Add_any v u (Y * 10) (cc - 48) W hv hu (Nat.le_trans (len10 (n := 61 + i) (by have := dec_low (d := 0) HYl.out (by omega); rw [show 61 + i = 60 + (i + 1) by omega]; omega)) (by omega)) (Nat.le_trans (len10 (n := 1) (by omega)) (by omega)))
            clear hdg
            go_wp2
            go_region_held3 (fun w' => Below wr.heap.size wr w')
              (first
                | exact (Below.refl _ _).drew
                | exact HR6.out
                | exact HR5.out
                | exact HR4.out
                | exact HR3.out)
              (first
                | (go_at_call 48; (with_reducible refine (HU.out _).mono ?_); rintro e' w3 ⟨ten, rfl, ho, hb⟩
                   have HO := Lib.hid ho
                   have HR3 := Lib.hid (bel_tr (Below.refl wr.heap.size wr).drew hb)
                   clear ho hb)
                | (go_at_call 38; (with_reducible refine (HM.out _ _ _ (HSi.out.below HR3.out) HO.out).mono ?_); rintro e' w4 ⟨v4, rfl, h4, hb⟩
                   have H4 := Lib.hid h4
                   have HR4 := Lib.hid (bel_tr HR3.out hb)
                   clear h4 hb)
                | (go_at_call 48; (with_reducible refine (HD1.out _ _ (by rw [HG3.out]; exact wrap_digit HDg.out.1 HDg.out.2)).mono ?_); rintro e' w5 ⟨v5, rfl, h5, hb⟩
                   have H5 := Lib.hid h5
                   have HB5 := Lib.hid hb
                   have HR5 := Lib.hid (bel_tr HR4.out hb)
                   clear h5 hb)
                | (go_at_call 36; (with_reducible refine (HA.out _ _ _ (H4.out.below HB5.out) H5.out).mono ?_); rintro e' w6 ⟨v6, rfl, h6, hb⟩
                   have H6 := Lib.hid h6
                   have HR6 := Lib.hid (bel_tr HR5.out hb)
                   clear h6 hb)
                | (fail "no arm"))
            go_wp2
            all_goals
              refine ⟨?_, ?_⟩
              · exact ⟨i + 1, _, by omega, by go_num, ⟨H6.out, dec_step HYe.out HCc.out, dec_low HYl.out (by have := HDg.out; omega)⟩, (fun j hj => by
                  rcases Nat.lt_or_ge j i with h | h
                  · exact HDi.out j h
                  · obtain rfl : j = i := by omega
                    unfold IsDig
                    rw [HCc.out]
                    exact HDg.out), bel_tr HBi.out HR6.out⟩
              · simp [intOf]; omega
          · have hpc : (cc : Int) < 48 ∨ (57 : Int) < cc := by omega
            have HEnd := Lib.hid (fun neg n m (h : DecForm (45 :: t) neg n m) => (show False from hdg (by
              have hq := HBad.out neg n m h i hiP
              unfold IsDig at hq
              rw [HCc.out] at hq
              exact hq)))
            clear hdg
            obtain ⟨c0, c1, c2, f0, f1, f2⟩ := row3 ((HBi.out.block w.heap.size (Array.getElem?_eq_some_iff.1 HVr.out).1).trans HVr.out)
            rcases hpc with hc1 | hc2
            · go_wp2
              obtain ⟨-, -, -, q3, q4, q5⟩ := three_cells (.bool false) (.slice none 0 0) (.slice none 0 0) c0 c1 c2
              refine bodyPost_ret (v := .tuple #[.agg #[.bool false, .slice none 0 0, .slice none 0 0], .int .i64 0, .bool false]) ?_ rfl ?_
              · simp [results, Tryz.results79, go_sem, q3, q4, q5]
              · exact ⟨_, _, _, rfl, (fun h => by cases h), fun _ => ⟨rfl, rfl, HEnd.out⟩, result_below (HV0.out.trans (HBi.out.mono HV0.out.size)) (Nat.le_refl _) _ _ _⟩
            · have hc1 : ¬ (cc : Int) < 48 := by omega
              go_wp2
              obtain ⟨-, -, -, q3, q4, q5⟩ := three_cells (.bool false) (.slice none 0 0) (.slice none 0 0) c0 c1 c2
              refine bodyPost_ret (v := .tuple #[.agg #[.bool false, .slice none 0 0, .slice none 0 0], .int .i64 0, .bool false]) ?_ rfl ?_
              · simp [results, Tryz.results79, go_sem, q3, q4, q5]
              · exact ⟨_, _, _, rfl, (fun h => by cases h), fun _ => ⟨rfl, rfl, HEnd.out⟩, result_below (HV0.out.trans (HBi.out.mono HV0.out.size)) (Nat.le_refl _) _ _ _⟩
        · obtain rfl : i = P := by omega
          have htN : (k : Int) + 1 + i = (N : Int) := by have := HNI.out; omega
          by_cases hY0 : Y = 0
          · have HEnd := Lib.hid (fun neg n m (h : DecForm (45 :: t) neg n m) => (show False from HNo0.out neg n m h (by rw [← HYe.out]; exact hY0)))
            have hm0 : (digs Y).length = 0 := (digs_len_zero Y).2 hY0
            rw [hm0]
            clear hY0
            obtain ⟨c0, c1, c2, f0, f1, f2⟩ := row3 ((HBi.out.block w.heap.size (Array.getElem?_eq_some_iff.1 HVr.out).1).trans HVr.out)
            go_wp2
            obtain ⟨-, -, -, q3, q4, q5⟩ := three_cells (.bool false) (.slice none 0 0) (.slice none 0 0) c0 c1 c2
            refine bodyPost_ret (v := .tuple #[.agg #[.bool false, .slice none 0 0, .slice none 0 0], .int .i64 0, .bool false]) ?_ rfl ?_
            · simp [results, Tryz.results79, go_sem, q3, q4, q5]
            · exact ⟨_, _, _, rfl, (fun h => by cases h), fun _ => ⟨rfl, rfl, HEnd.out⟩, result_below (HV0.out.trans (HBi.out.mono HV0.out.size)) (Nat.le_refl _) _ _ _⟩
          · have HForm := Lib.hid (HYes.out Y HYe.out hY0 HDi.out)
            have hm0 : (((digs Y).length : Int) == 0) = false := by have := digs_len_zero Y; simp only [beq_eq_false_iff_ne, ne_eq]; omega
            have HDp := Lib.hid (show decide (-(Y : Int) < 0) = true from decide_eq_true (by omega))
            generalize (digs Y).length = xl at *
            clear hY0
            have HP := Lib.hid (TenPow i (by omega) (i : Int) rfl)
            go_wp2_with (first
              | (go_at_call 48; (with_reducible refine (HU.out _).mono ?_); rintro e' w3 ⟨ten, rfl, ho, hb⟩
                 have HO := Lib.hid ho
                 have HB3 := Lib.hid hb
                 clear ho hb)
              | (go_at_call 87; (with_reducible refine (HP.out _ _ HO.out).mono ?_); rintro e' w4 ⟨pw, rfl, hp, hb⟩
                 obtain ⟨po, pc, rfl, -⟩ := id hp
                 have HPw := Lib.hid hp
                 have hvw : Below V.heap.size V w4 := bel_tr HBi.out (bel_tr HB3.out hb)
                 obtain ⟨c0, c1, c2, f0, f1, f2⟩ := row3 ((hvw.block w.heap.size (Array.getElem?_eq_some_iff.1 HVr.out).1).trans HVr.out)
                 have HVw := Lib.hid (HV0.out.trans (hvw.mono HV0.out.size))
                 have HS4 := Lib.hid (HSi.out.below (bel_tr HB3.out hb))
                 clear hp hb hvw)
              | (fail "no arm"))
            obtain ⟨-, -, -, q3, q4, q5⟩ := three_cells (.bool true) (.slice so2 xl sc2) (.slice po (digs (10 ^ i)).length pc) c0 c1 c2
            have HF1 := Lib.hid (result_num (v1 := .slice so2 xl sc2) (v2 := .slice po (digs (10 ^ i)).length pc) (b' := true) HS4.out c0 c1 c2)
            have HF2 := Lib.hid (result_num (v1 := .slice so2 xl sc2) (v2 := .slice po (digs (10 ^ i)).length pc) (b' := true) HPw.out c0 c1 c2)
            refine bodyPost_ret (v := .tuple #[.agg #[.bool true, .slice so2 xl sc2, .slice po (digs (10 ^ i)).length pc], .int .i64 (i : Int), .bool true]) ?_ rfl ?_
            · simp [results, Tryz.results79, go_sem, q3, q4, q5]
            · exact ⟨_, _, _, rfl, fun _ => ⟨true, Y, i, rfl, HForm.out, IsQ.of HDp.out (by rw [show Int.natAbs (if true = true then -(Y : Int) else (Y : Int)) = Y by simp]; exact HF1.out) HF2.out⟩, (fun h => by cases h), result_below HVw.out (Nat.le_refl _) _ _ _⟩
set_option maxRecDepth 100000 in
set_option maxHeartbeats 4000000 in
theorem GetDec_point_plain_long (a b : List UInt8) (w : World) (hl : (a ++ 46 :: b).length ≤ 9000) (hn : ∀ c ∈ a, c ≠ 46) (h6 : 60 < a.length + 1 + b.length) (hm : ∀ u, a ++ 46 :: b ≠ 45 :: u) :
    Calls Tryz.prog 79 #[.string (str (a ++ 46 :: b))] w fun e w' => GetDecEnd (a ++ 46 :: b) w e w' := by
  have HEnd := Lib.hid (fun neg n m (h : DecForm (a ++ 46 :: b) neg n m) => (show False from by have := h.1; simp at this; omega))
  have HNo := Lib.hid (fun i (h : i < a.length) => no_point (b := b) hn h)
  have HSt := Lib.hid (ch_point a b)
  have HBt := Lib.hid (ch_behind a b)
  have hx := ext_point a b
  have hAN : (a ++ 46 :: b).length = a.length + 1 + b.length := by simp; omega
  have hne : a ++ 46 :: b ≠ [] := by simp
  generalize a ++ 46 :: b = t at *
  have hzt : (str t).size = t.length := str_size _
  have HG := Lib.hid (fun i (h : i < (str t).size) => ch_get (l := t) h)
  obtain ⟨c0, u0, hcu⟩ : ∃ c u, t = c :: u := by
    rcases t with _ | ⟨c, u⟩
    · exact absurd rfl hne
    · exact ⟨c, u, rfl⟩
  have hem : (str t).toList.isEmpty = false := by rw [hcu, ByteArray.toList_eq]; rfl
  have hcb0 : ((c0.toNat : Int) == 45) = false := by
    simp only [beq_eq_false_iff_ne, ne_eq]
    intro h
    refine hm u0 (hcu.trans ?_)
    rw [show c0 = 45 from UInt8.toNat_inj.1 (by simpa using (show c0.toNat = 45 by omega))]
  have hg : ∀ h : 0 < (str t).size, ((str t)[0]'h).toNat = c0.toNat := fun h => by rw [HG.out 0 h, hcu]; rfl
  have hpos : 0 < t.length := by rw [hcu]; simp
  generalize c0.toNat = d0 at *
  generalize str t = st at *
  generalize str a = sa at *
  obtain ⟨N, hNN⟩ : ∃ N, t.length = N := ⟨_, rfl⟩
  obtain ⟨A, hAA⟩ : ∃ A, a.length = A := ⟨_, rfl⟩
  obtain ⟨P, hPP⟩ : ∃ P, b.length = P := ⟨_, rfl⟩
  rw [hNN] at hAN hzt hl hpos
  rw [hAA] at HNo HSt HBt hx hAN h6
  rw [hPP] at hAN h6
  have hpl : (N : Int) - A - 1 = (P : Int) := by omega
  have hNI : (N : Int) = (A : Int) + 1 + P := by omega
  have hAI : (A : Int) < (N : Int) := by omega
  have h66 : 60 < (N : Int) := by omega
  clear h6
  have HNI := Lib.hid hNI
  clear hNN hAA hPP hAN hn hNI hm hne hcu
  go_enter Tryz.func79, Tryz.ntmps79
  go_wp2
  go_quiet (fail)
  go_wp2
  obtain ⟨V, hV⟩ : ∃ V, V = (w.alloc (.cells #[.bool false, .slice none 0 0, .slice none 0 0] 86)).drewN nq := ⟨_, rfl⟩
  rw [← hV]
  have HV0 := Lib.hid (show Below w.heap.size w V from by rw [hV]; exact nat.drewN_below ((Below.refl _ _).alloc (Nat.le_refl _) _) nq)
  have HVr := Lib.hid (show V.heap[w.heap.size]? = some (.cells #[.bool false, .slice none 0 0, .slice none 0 0] 86 (0, 0)) from by rw [hV]; exact heap_alloc_new _ _)
  clear hV
  go_loopw [7] (fun kv wr => (∃ k : Nat, k ≤ A ∧ kv = .int .i64 k) ∧ V = wr) (fun kv _ => A - (intOf kv).toNat)
  case atStart => exact ⟨⟨0, Nat.zero_le _, rfl⟩, rfl⟩
  case round =>
    obtain ⟨⟨k, hk, rfl⟩, rfl⟩ := hrel
    have hkN : (k : Int) < (N : Int) := by omega
    by_cases hlt : k < A
    · have hgk : ∀ h : k < st.size, (st[k]'h).toNat = ch t k := fun h => HG.out _ h
      have hc := HNo.out k hlt
      generalize ch t k = c at *
      have hcb : ((c : Int) == 46) = false := by simp only [beq_eq_false_iff_ne, ne_eq]; omega
      go_wp2
      refine ⟨?_, ?_⟩
      · exact ⟨⟨k + 1, by omega, by go_num⟩, by first | trivial | rfl⟩
      · simp [intOf]; omega
    · obtain rfl : k = A := by omega
      have hgk : ∀ h : k < st.size, (st[k]'h).toNat = 46 := fun h => (HG.out _ h).trans HSt.out
      obtain ⟨c0, c1, c2, f0, f1, f2⟩ := row3 HVr.out
      go_wp2
      all_goals
        obtain ⟨-, -, -, q3, q4, q5⟩ := three_cells (.bool false) (.slice none 0 0) (.slice none 0 0) c0 c1 c2
        refine bodyPost_ret (v := .tuple #[.agg #[.bool false, .slice none 0 0, .slice none 0 0], .int .i64 0, .bool false]) ?_ rfl ?_
        · simp [results, Tryz.results79, go_sem, q3, q4, q5]
        · exact ⟨_, _, _, rfl, (fun h => by cases h), fun _ => ⟨rfl, rfl, HEnd.out⟩, result_below (HV0.out.trans ((Below.refl _ _).mono HV0.out.size)) (Nat.le_refl _) _ _ _⟩
set_option maxRecDepth 100000 in
set_option maxHeartbeats 4000000 in
theorem GetDec_point_plain_short (a b : List UInt8) (w : World) (hl : (a ++ 46 :: b).length ≤ 9000) (hn : ∀ c ∈ a, c ≠ 46) (h6 : a.length + 1 + b.length ≤ 60) (h7 : b.length = 0) (hm : ∀ u, a ++ 46 :: b ≠ 45 :: u) :
    Calls Tryz.prog 79 #[.string (str (a ++ 46 :: b))] w fun e w' => GetDecEnd (a ++ 46 :: b) w e w' := by
  have HEnd := Lib.hid (fun neg n m (h : DecForm (a ++ 46 :: b) neg n m) => (show False from by have := ((h.plain hm).2.parts hn).2; omega))
  have HNo := Lib.hid (fun i (h : i < a.length) => no_point (b := b) hn h)
  have HSt := Lib.hid (ch_point a b)
  have HBt := Lib.hid (ch_behind a b)
  have hx := ext_point a b
  have hAN : (a ++ 46 :: b).length = a.length + 1 + b.length := by simp; omega
  have hne : a ++ 46 :: b ≠ [] := by simp
  generalize a ++ 46 :: b = t at *
  have hzt : (str t).size = t.length := str_size _
  have HG := Lib.hid (fun i (h : i < (str t).size) => ch_get (l := t) h)
  obtain ⟨c0, u0, hcu⟩ : ∃ c u, t = c :: u := by
    rcases t with _ | ⟨c, u⟩
    · exact absurd rfl hne
    · exact ⟨c, u, rfl⟩
  have hem : (str t).toList.isEmpty = false := by rw [hcu, ByteArray.toList_eq]; rfl
  have hcb0 : ((c0.toNat : Int) == 45) = false := by
    simp only [beq_eq_false_iff_ne, ne_eq]
    intro h
    refine hm u0 (hcu.trans ?_)
    rw [show c0 = 45 from UInt8.toNat_inj.1 (by simpa using (show c0.toNat = 45 by omega))]
  have hg : ∀ h : 0 < (str t).size, ((str t)[0]'h).toNat = c0.toNat := fun h => by rw [HG.out 0 h, hcu]; rfl
  have hpos : 0 < t.length := by rw [hcu]; simp
  generalize c0.toNat = d0 at *
  generalize str t = st at *
  generalize str a = sa at *
  obtain ⟨N, hNN⟩ : ∃ N, t.length = N := ⟨_, rfl⟩
  obtain ⟨A, hAA⟩ : ∃ A, a.length = A := ⟨_, rfl⟩
  obtain ⟨P, hPP⟩ : ∃ P, b.length = P := ⟨_, rfl⟩
  rw [hNN] at hAN hzt hl hpos
  rw [hAA] at HNo HSt HBt hx hAN h6
  rw [hPP] at hAN h6 h7
  have hpl : (N : Int) - A - 1 = (P : Int) := by omega
  have hNI : (N : Int) = (A : Int) + 1 + P := by omega
  have hAI : (A : Int) < (N : Int) := by omega
  have h66 : ¬ 60 < (N : Int) := by omega
  clear h6
  have hp1 : (P : Int) < 1 := by omega
  have HNI := Lib.hid hNI
  clear hNN hAA hPP hAN hn hNI hm hne hcu
  go_enter Tryz.func79, Tryz.ntmps79
  go_wp2
  go_quiet (fail)
  go_wp2
  obtain ⟨V, hV⟩ : ∃ V, V = (w.alloc (.cells #[.bool false, .slice none 0 0, .slice none 0 0] 86)).drewN nq := ⟨_, rfl⟩
  rw [← hV]
  have HV0 := Lib.hid (show Below w.heap.size w V from by rw [hV]; exact nat.drewN_below ((Below.refl _ _).alloc (Nat.le_refl _) _) nq)
  have HVr := Lib.hid (show V.heap[w.heap.size]? = some (.cells #[.bool false, .slice none 0 0, .slice none 0 0] 86 (0, 0)) from by rw [hV]; exact heap_alloc_new _ _)
  clear hV
  go_loopw [7] (fun kv wr => (∃ k : Nat, k ≤ A ∧ kv = .int .i64 k) ∧ V = wr) (fun kv _ => A - (intOf kv).toNat)
  case atStart => exact ⟨⟨0, Nat.zero_le _, rfl⟩, rfl⟩
  case round =>
    obtain ⟨⟨k, hk, rfl⟩, rfl⟩ := hrel
    have hkN : (k : Int) < (N : Int) := by omega
    by_cases hlt : k < A
    · have hgk : ∀ h : k < st.size, (st[k]'h).toNat = ch t k := fun h => HG.out _ h
      have hc := HNo.out k hlt
      generalize ch t k = c at *
      have hcb : ((c : Int) == 46) = false := by simp only [beq_eq_false_iff_ne, ne_eq]; omega
      go_wp2
      refine ⟨?_, ?_⟩
      · exact ⟨⟨k + 1, by omega, by go_num⟩, by first | trivial | rfl⟩
      · simp [intOf]; omega
    · obtain rfl : k = A := by omega
      have hgk : ∀ h : k < st.size, (st[k]'h).toNat = 46 := fun h => (HG.out _ h).trans HSt.out
      obtain ⟨c0, c1, c2, f0, f1, f2⟩ := row3 HVr.out
      go_wp2
      all_goals
        obtain ⟨-, -, -, q3, q4, q5⟩ := three_cells (.bool false) (.slice none 0 0) (.slice none 0 0) c0 c1 c2
        refine bodyPost_ret (v := .tuple #[.agg #[.bool false, .slice none 0 0, .slice none 0 0], .int .i64 0, .bool false]) ?_ rfl ?_
        · simp [results, Tryz.results79, go_sem, q3, q4, q5]
        · exact ⟨_, _, _, rfl, (fun h => by cases h), fun _ => ⟨rfl, rfl, HEnd.out⟩, result_below (HV0.out.trans ((Below.refl _ _).mono HV0.out.size)) (Nat.le_refl _) _ _ _⟩
set_option maxRecDepth 100000 in
set_option maxHeartbeats 4000000 in
theorem GetDec_point_plain_many (a b : List UInt8) (w : World) (hl : (a ++ 46 :: b).length ≤ 9000) (hn : ∀ c ∈ a, c ≠ 46) (h6 : a.length + 1 + b.length ≤ 60) (h7 : 20 < b.length) (hm : ∀ u, a ++ 46 :: b ≠ 45 :: u) :
    Calls Tryz.prog 79 #[.string (str (a ++ 46 :: b))] w fun e w' => GetDecEnd (a ++ 46 :: b) w e w' := by
  have HEnd := Lib.hid (fun neg n m (h : DecForm (a ++ 46 :: b) neg n m) => (show False from by have := ((h.plain hm).2.parts hn).2; omega))
  have HNo := Lib.hid (fun i (h : i < a.length) => no_point (b := b) hn h)
  have HSt := Lib.hid (ch_point a b)
  have HBt := Lib.hid (ch_behind a b)
  have hx := ext_point a b
  have hAN : (a ++ 46 :: b).length = a.length + 1 + b.length := by simp; omega
  have hne : a ++ 46 :: b ≠ [] := by simp
  generalize a ++ 46 :: b = t at *
  have hzt : (str t).size = t.length := str_size _
  have HG := Lib.hid (fun i (h : i < (str t).size) => ch_get (l := t) h)
  obtain ⟨c0, u0, hcu⟩ : ∃ c u, t = c :: u := by
    rcases t with _ | ⟨c, u⟩
    · exact absurd rfl hne
    · exact ⟨c, u, rfl⟩
  have hem : (str t).toList.isEmpty = false := by rw [hcu, ByteArray.toList_eq]; rfl
  have hcb0 : ((c0.toNat : Int) == 45) = false := by
    simp only [beq_eq_false_iff_ne, ne_eq]
    intro h
    refine hm u0 (hcu.trans ?_)
    rw [show c0 = 45 from UInt8.toNat_inj.1 (by simpa using (show c0.toNat = 45 by omega))]
  have hg : ∀ h : 0 < (str t).size, ((str t)[0]'h).toNat = c0.toNat := fun h => by rw [HG.out 0 h, hcu]; rfl
  have hpos : 0 < t.length := by rw [hcu]; simp
  generalize c0.toNat = d0 at *
  generalize str t = st at *
  generalize str a = sa at *
  obtain ⟨N, hNN⟩ : ∃ N, t.length = N := ⟨_, rfl⟩
  obtain ⟨A, hAA⟩ : ∃ A, a.length = A := ⟨_, rfl⟩
  obtain ⟨P, hPP⟩ : ∃ P, b.length = P := ⟨_, rfl⟩
  rw [hNN] at hAN hzt hl hpos
  rw [hAA] at HNo HSt HBt hx hAN h6
  rw [hPP] at hAN h6 h7
  have hpl : (N : Int) - A - 1 = (P : Int) := by omega
  have hNI : (N : Int) = (A : Int) + 1 + P := by omega
  have hAI : (A : Int) < (N : Int) := by omega
  have h66 : ¬ 60 < (N : Int) := by omega
  clear h6
  have hp1 : ¬ (P : Int) < 1 := by omega
  have hp2 : (20 : Int) < P := by omega
  have HNI := Lib.hid hNI
  clear hNN hAA hPP hAN hn hNI hm hne hcu
  go_enter Tryz.func79, Tryz.ntmps79
  go_wp2
  go_quiet (fail)
  go_wp2
  obtain ⟨V, hV⟩ : ∃ V, V = (w.alloc (.cells #[.bool false, .slice none 0 0, .slice none 0 0] 86)).drewN nq := ⟨_, rfl⟩
  rw [← hV]
  have HV0 := Lib.hid (show Below w.heap.size w V from by rw [hV]; exact nat.drewN_below ((Below.refl _ _).alloc (Nat.le_refl _) _) nq)
  have HVr := Lib.hid (show V.heap[w.heap.size]? = some (.cells #[.bool false, .slice none 0 0, .slice none 0 0] 86 (0, 0)) from by rw [hV]; exact heap_alloc_new _ _)
  clear hV
  go_loopw [7] (fun kv wr => (∃ k : Nat, k ≤ A ∧ kv = .int .i64 k) ∧ V = wr) (fun kv _ => A - (intOf kv).toNat)
  case atStart => exact ⟨⟨0, Nat.zero_le _, rfl⟩, rfl⟩
  case round =>
    obtain ⟨⟨k, hk, rfl⟩, rfl⟩ := hrel
    have hkN : (k : Int) < (N : Int) := by omega
    by_cases hlt : k < A
    · have hgk : ∀ h : k < st.size, (st[k]'h).toNat = ch t k := fun h => HG.out _ h
      have hc := HNo.out k hlt
      generalize ch t k = c at *
      have hcb : ((c : Int) == 46) = false := by simp only [beq_eq_false_iff_ne, ne_eq]; omega
      go_wp2
      refine ⟨?_, ?_⟩
      · exact ⟨⟨k + 1, by omega, by go_num⟩, by first | trivial | rfl⟩
      · simp [intOf]; omega
    · obtain rfl : k = A := by omega
      have hgk : ∀ h : k < st.size, (st[k]'h).toNat = 46 := fun h => (HG.out _ h).trans HSt.out
      obtain ⟨c0, c1, c2, f0, f1, f2⟩ := row3 HVr.out
      go_wp2
      all_goals
        obtain ⟨-, -, -, q3, q4, q5⟩ := three_cells (.bool false) (.slice none 0 0) (.slice none 0 0) c0 c1 c2
        refine bodyPost_ret (v := .tuple #[.agg #[.bool false, .slice none 0 0, .slice none 0 0], .int .i64 0, .bool false]) ?_ rfl ?_
        · simp [results, Tryz.results79, go_sem, q3, q4, q5]
        · exact ⟨_, _, _, rfl, (fun h => by cases h), fun _ => ⟨rfl, rfl, HEnd.out⟩, result_below (HV0.out.trans ((Below.refl _ _).mono HV0.out.size)) (Nat.le_refl _) _ _ _⟩
set_option maxRecDepth 100000 in
set_option maxHeartbeats 4000000 in
theorem GetDec_point_plain_bad (a b : List UInt8) (w : World) (hl : (a ++ 46 :: b).length ≤ 9000) (hn : ∀ c ∈ a, c ≠ 46) (h6 : a.length + 1 + b.length ≤ 60) (h7 : 1 ≤ b.length) (h8 : b.length ≤ 20) (hN : ¬ Numeral a) (hm : ∀ u, a ++ 46 :: b ≠ 45 :: u) :
    Calls Tryz.prog 79 #[.string (str (a ++ 46 :: b))] w fun e w' => GetDecEnd (a ++ 46 :: b) w e w' := by
  have HEnd := Lib.hid (fun neg n m (h : DecForm (a ++ 46 :: b) neg n m) => (show False from hN ((h.plain hm).2.parts hn).1))
  have HNo := Lib.hid (fun i (h : i < a.length) => no_point (b := b) hn h)
  have HSt := Lib.hid (ch_point a b)
  have HBt := Lib.hid (ch_behind a b)
  have hx := ext_point a b
  have hAN : (a ++ 46 :: b).length = a.length + 1 + b.length := by simp; omega
  have hne : a ++ 46 :: b ≠ [] := by simp
  have HGN := Lib.hid (fun W => GetN_no a W (by omega) hN)
  generalize a ++ 46 :: b = t at *
  have hzt : (str t).size = t.length := str_size _
  have HG := Lib.hid (fun i (h : i < (str t).size) => ch_get (l := t) h)
  obtain ⟨c0, u0, hcu⟩ : ∃ c u, t = c :: u := by
    rcases t with _ | ⟨c, u⟩
    · exact absurd rfl hne
    · exact ⟨c, u, rfl⟩
  have hem : (str t).toList.isEmpty = false := by rw [hcu, ByteArray.toList_eq]; rfl
  have hcb0 : ((c0.toNat : Int) == 45) = false := by
    simp only [beq_eq_false_iff_ne, ne_eq]
    intro h
    refine hm u0 (hcu.trans ?_)
    rw [show c0 = 45 from UInt8.toNat_inj.1 (by simpa using (show c0.toNat = 45 by omega))]
  have hg : ∀ h : 0 < (str t).size, ((str t)[0]'h).toNat = c0.toNat := fun h => by rw [HG.out 0 h, hcu]; rfl
  have hpos : 0 < t.length := by rw [hcu]; simp
  generalize c0.toNat = d0 at *
  generalize str t = st at *
  generalize str a = sa at *
  obtain ⟨N, hNN⟩ : ∃ N, t.length = N := ⟨_, rfl⟩
  obtain ⟨A, hAA⟩ : ∃ A, a.length = A := ⟨_, rfl⟩
  obtain ⟨P, hPP⟩ : ∃ P, b.length = P := ⟨_, rfl⟩
  rw [hNN] at hAN hzt hl hpos
  rw [hAA] at HNo HSt HBt hx hAN h6
  rw [hPP] at hAN h6 h7
  rw [hPP] at h8
  have hpl : (N : Int) - A - 1 = (P : Int) := by omega
  have hNI : (N : Int) = (A : Int) + 1 + P := by omega
  have hAI : (A : Int) < (N : Int) := by omega
  have h66 : ¬ 60 < (N : Int) := by omega
  clear h6
  have hp1 : ¬ (P : Int) < 1 := by omega
  have hp2 : ¬ (20 : Int) < P := by omega
  have HNI := Lib.hid hNI
  clear hNN hAA hPP hAN hn hNI hN hm hne hcu
  go_enter Tryz.func79, Tryz.ntmps79
  go_wp2
  go_quiet (fail)
  go_wp2
  obtain ⟨V, hV⟩ : ∃ V, V = (w.alloc (.cells #[.bool false, .slice none 0 0, .slice none 0 0] 86)).drewN nq := ⟨_, rfl⟩
  rw [← hV]
  have HV0 := Lib.hid (show Below w.heap.size w V from by rw [hV]; exact nat.drewN_below ((Below.refl _ _).alloc (Nat.le_refl _) _) nq)
  have HVr := Lib.hid (show V.heap[w.heap.size]? = some (.cells #[.bool false, .slice none 0 0, .slice none 0 0] 86 (0, 0)) from by rw [hV]; exact heap_alloc_new _ _)
  clear hV
  go_loopw [7] (fun kv wr => (∃ k : Nat, k ≤ A ∧ kv = .int .i64 k) ∧ V = wr) (fun kv _ => A - (intOf kv).toNat)
  case atStart => exact ⟨⟨0, Nat.zero_le _, rfl⟩, rfl⟩
  case round =>
    obtain ⟨⟨k, hk, rfl⟩, rfl⟩ := hrel
    have hkN : (k : Int) < (N : Int) := by omega
    by_cases hlt : k < A
    · have hgk : ∀ h : k < st.size, (st[k]'h).toNat = ch t k := fun h => HG.out _ h
      have hc := HNo.out k hlt
      generalize ch t k = c at *
      have hcb : ((c : Int) == 46) = false := by simp only [beq_eq_false_iff_ne, ne_eq]; omega
      go_wp2
      refine ⟨?_, ?_⟩
      · exact ⟨⟨k + 1, by omega, by go_num⟩, by first | trivial | rfl⟩
      · simp [intOf]; omega
    · obtain rfl : k = A := by omega
      have hgk : ∀ h : k < st.size, (st[k]'h).toNat = 46 := fun h => (HG.out _ h).trans HSt.out
      go_wp2_with (first
        | (go_at_call 45; (with_reducible refine (HGN.out _).mono ?_); rintro e w2 ⟨rfl, hb⟩
           obtain ⟨c0, c1, c2, f0, f1, f2⟩ := row3 ((hb.block w.heap.size (Array.getElem?_eq_some_iff.1 HVr.out).1).trans HVr.out)
           have HB2 := Lib.hid hb
           clear hb)
        | (fail "no arm"))
      obtain ⟨-, -, -, q3, q4, q5⟩ := three_cells (.bool false) (.slice none 0 0) (.slice none 0 0) c0 c1 c2
      refine bodyPost_ret (v := .tuple #[.agg #[.bool false, .slice none 0 0, .slice none 0 0], .int .i64 0, .bool false]) ?_ rfl ?_
      · simp [results, Tryz.results79, go_sem, q3, q4, q5]
      · exact ⟨_, _, _, rfl, (fun h => by cases h), fun _ => ⟨rfl, rfl, HEnd.out⟩, result_below (HV0.out.trans (HB2.out.mono HV0.out.size)) (Nat.le_refl _) _ _ _⟩
set_option maxRecDepth 100000 in
set_option maxHeartbeats 4000000 in
theorem GetDec_point_plain_go (a b : List UInt8) (w : World) (hl : (a ++ 46 :: b).length ≤ 9000) (hn : ∀ c ∈ a, c ≠ 46) (h6 : a.length + 1 + b.length ≤ 60) (h7 : 1 ≤ b.length) (h8 : b.length ≤ 20) (hN : Numeral a) (hm : ∀ u, a ++ 46 :: b ≠ 45 :: u) :
    Calls Tryz.prog 79 #[.string (str (a ++ 46 :: b))] w fun e w' => GetDecEnd (a ++ 46 :: b) w e w' := by
  have HBad := Lib.hid (fun neg n m (h : DecForm (a ++ 46 :: b) neg n m) i (hi : i < b.length) => (show IsDig b i from ((h.plain hm).2.parts hn).2.2.2.2.1 i (by have := ((h.plain hm).2.parts hn).2.1; omega)))
  have hxl : seg a 0 a.length < 10 ^ 60 := Nat.lt_of_lt_of_le (seg_lt (l := a) (st := 0) (m := a.length) fun i _ hi => hN.2.2.2 i (by omega)) (Nat.pow_le_pow_right (by omega) (by omega))
  have HYes := fun (Y : Nat) (hY : Y = seg a 0 a.length * 10 ^ b.length + seg b 0 b.length) (hd : ∀ j, j < b.length → IsDig b j) => (show DecForm (a ++ 46 :: b) false Y b.length from ⟨by simp; omega, _, rfl, (fun h => by cases h), Or.inr ⟨a, b, rfl, hN, rfl, h7, h8, hd, hY⟩⟩)
  have HNo := Lib.hid (fun i (h : i < a.length) => no_point (b := b) hn h)
  have HSt := Lib.hid (ch_point a b)
  have HBt := Lib.hid (ch_behind a b)
  have hx := ext_point a b
  have hAN : (a ++ 46 :: b).length = a.length + 1 + b.length := by simp; omega
  have hne : a ++ 46 :: b ≠ [] := by simp
  have HGN := Lib.hid (fun W => GetN_yes a W hN)
  generalize a ++ 46 :: b = t at *
  have hzt : (str t).size = t.length := str_size _
  have HG := Lib.hid (fun i (h : i < (str t).size) => ch_get (l := t) h)
  obtain ⟨c0, u0, hcu⟩ : ∃ c u, t = c :: u := by
    rcases t with _ | ⟨c, u⟩
    · exact absurd rfl hne
    · exact ⟨c, u, rfl⟩
  have hem : (str t).toList.isEmpty = false := by rw [hcu, ByteArray.toList_eq]; rfl
  have hcb0 : ((c0.toNat : Int) == 45) = false := by
    simp only [beq_eq_false_iff_ne, ne_eq]
    intro h
    refine hm u0 (hcu.trans ?_)
    rw [show c0 = 45 from UInt8.toNat_inj.1 (by simpa using (show c0.toNat = 45 by omega))]
  have hg : ∀ h : 0 < (str t).size, ((str t)[0]'h).toNat = c0.toNat := fun h => by rw [HG.out 0 h, hcu]; rfl
  have hpos : 0 < t.length := by rw [hcu]; simp
  generalize c0.toNat = d0 at *
  generalize str t = st at *
  generalize str a = sa at *
  obtain ⟨N, hNN⟩ : ∃ N, t.length = N := ⟨_, rfl⟩
  obtain ⟨A, hAA⟩ : ∃ A, a.length = A := ⟨_, rfl⟩
  obtain ⟨P, hPP⟩ : ∃ P, b.length = P := ⟨_, rfl⟩
  rw [hNN] at hAN hzt hl hpos
  rw [hAA] at HNo HSt HBt hx hAN h6 HGN
  rw [hPP] at hAN h6 h7
  rw [hPP] at h8
  have hpl : (N : Int) - A - 1 = (P : Int) := by omega
  have hNI : (N : Int) = (A : Int) + 1 + P := by omega
  have hAI : (A : Int) < (N : Int) := by omega
  have h66 : ¬ 60 < (N : Int) := by omega
  clear h6
  have hp1 : ¬ (P : Int) < 1 := by omega
  have hp2 : ¬ (20 : Int) < P := by omega
  obtain ⟨X0, hX0⟩ : ∃ X, seg a 0 A = X := ⟨_, rfl⟩
  rw [hX0] at HGN
  rw [hAA, hX0] at hxl HYes
  rw [hPP] at HYes
  have HYes := Lib.hid HYes
  have HXl := Lib.hid (show X0 < 10 ^ (60 + 0) from hxl)
  rw [hPP] at HBad
  clear hX0 hxl
  have HU := Lib.hid (fun W => OfU_int 10 10 rfl (by decide) W)
  have HNI := Lib.hid hNI
  clear hNN hAA hPP hAN hn hNI hN hm hne hcu
  go_enter Tryz.func79, Tryz.ntmps79
  go_wp2
  go_quiet (fail)
  go_wp2
  obtain ⟨V, hV⟩ : ∃ V, V = (w.alloc (.cells #[.bool false, .slice none 0 0, .slice none 0 0] 86)).drewN nq := ⟨_, rfl⟩
  rw [← hV]
  have HV0 := Lib.hid (show Below w.heap.size w V from by rw [hV]; exact nat.drewN_below ((Below.refl _ _).alloc (Nat.le_refl _) _) nq)
  have HVr := Lib.hid (show V.heap[w.heap.size]? = some (.cells #[.bool false, .slice none 0 0, .slice none 0 0] 86 (0, 0)) from by rw [hV]; exact heap_alloc_new _ _)
  clear hV
  go_loopw [7] (fun kv wr => (∃ k : Nat, k ≤ A ∧ kv = .int .i64 k) ∧ V = wr) (fun kv _ => A - (intOf kv).toNat)
  case atStart => exact ⟨⟨0, Nat.zero_le _, rfl⟩, rfl⟩
  case round =>
    obtain ⟨⟨k, hk, rfl⟩, rfl⟩ := hrel
    have hkN : (k : Int) < (N : Int) := by omega
    by_cases hlt : k < A
    · have hgk : ∀ h : k < st.size, (st[k]'h).toNat = ch t k := fun h => HG.out _ h
      have hc := HNo.out k hlt
      generalize ch t k = c at *
      have hcb : ((c : Int) == 46) = false := by simp only [beq_eq_false_iff_ne, ne_eq]; omega
      go_wp2
      refine ⟨?_, ?_⟩
      · exact ⟨⟨k + 1, by omega, by go_num⟩, by first | trivial | rfl⟩
      · simp [intOf]; omega
    · obtain rfl : k = A := by omega
      have hgk : ∀ h : k < st.size, (st[k]'h).toNat = 46 := fun h => (HG.out _ h).trans HSt.out
      go_wp2_with (first
        | (go_at_call 45; (with_reducible refine (HGN.out _).mono ?_); rintro e w2 ⟨sv, rfl, hs, hb⟩
           obtain ⟨so, sc, rfl, -⟩ := id hs
           have HS := Lib.hid hs
           have HB2 := Lib.hid hb
           clear hb hs)
        | (fail "no arm"))
      go_loopw [9, 11] (fun nv iv wr => PointRel V b X0 k P nv iv wr) (fun _ iv _ => P - (intOf iv - (k : Int) - 1).toNat)
      case atStart => exact ⟨0, X0, by omega, by go_num, ⟨HS.out, by simp [seg], HXl.out⟩, fun i h => by omega, HB2.out⟩
      case round =>
        obtain ⟨i, Y, hi, rfl, ⟨hs, hY, hYl⟩, hd, hb⟩ := hrel
        obtain ⟨so2, sc2, rfl, -⟩ := id hs
        have HSi := Lib.hid hs
        have HDi := Lib.hid hd
        have HBi := Lib.hid hb
        have HYe := Lib.hid hY
        have HYl := Lib.hid hYl
        clear hs hd hb hY hYl
        by_cases hiP : i < P
        · have hch := HBt.out i
          have hgk2 : ∀ h : k + 1 + i < st.size, (st[k + 1 + i]'h).toNat = ch b i := fun h => (HG.out _ h).trans hch
          have hti : (k : Int) + 1 + i < (N : Int) := by have := HNI.out; omega
          obtain ⟨cc, hcc⟩ : ∃ cc, ch b i = cc := ⟨_, rfl⟩
          rw [hcc] at hgk2
          have HCc := Lib.hid hcc
          clear hch hcc
          by_cases hdg : 48 ≤ cc ∧ cc ≤ 57
          · have hc1 : ¬ (cc : Int) < 48 := by omega
            have hc2 : ¬ (57 : Int) < cc := by omega
            have HDg := Lib.hid hdg
            have HD1 := Lib.hid (fun W z (hz : z = (cc : Int) - 48) => OfU_int z (cc - 48) (by omega) (by omega) W)
            have HG3 := Lib.hid (fun (h : ((k : Int) + 1 + (i : Int)).toNat < st.size) => (show (st[((k : Int) + 1 + (i : Int)).toNat]'h).toNat = cc from by
              have e : ((k : Int) + 1 + (i : Int)).toNat = k + 1 + i := by omega
              simp only [e]
              exact hgk2 _))
            have HM := Lib.hid (fun W v u (hv : IsN W v Y) (hu : IsN W u 10) => Mul_any v u Y 10 W hv hu (Nat.le_trans (len10 HYl.out) (by omega)) (Nat.le_trans (len_ten 1) (by omega)))
            have HA := Lib.hid (fun W v u (hv : IsN W v (Y * 10)) (hu : IsN W u (cc - 48)) => Add_any v u (Y * 10) (cc - 48) W hv hu (Nat.le_trans (len10 (n := 61 + i) (by have := dec_low (d := 0) HYl.out (by omega); rw [show 61 + i = 60 + (i + 1) by omega]; omega)) (by omega)) (Nat.le_trans (len10 (n := 1) (by omega)) (by omega)))
            clear hdg
            go_wp2
            go_region_held3 (fun w' => Below wr.heap.size wr w')
              (first
                | exact (Below.refl _ _).drew
                | exact HR6.out
                | exact HR5.out
                | exact HR4.out
                | exact HR3.out)
              (first
                | (go_at_call 48; (with_reducible refine (HU.out _).mono ?_); rintro e' w3 ⟨ten, rfl, ho, hb⟩
                   have HO := Lib.hid ho
                   have HR3 := Lib.hid (bel_tr (Below.refl wr.heap.size wr).drew hb)
                   clear ho hb)
                | (go_at_call 38; (with_reducible refine (HM.out _ _ _ (HSi.out.below HR3.out) HO.out).mono ?_); rintro e' w4 ⟨v4, rfl, h4, hb⟩
                   have H4 := Lib.hid h4
                   have HR4 := Lib.hid (bel_tr HR3.out hb)
                   clear h4 hb)
                | (go_at_call 48; (with_reducible refine (HD1.out _ _ (by rw [HG3.out]; exact wrap_digit HDg.out.1 HDg.out.2)).mono ?_); rintro e' w5 ⟨v5, rfl, h5, hb⟩
                   have H5 := Lib.hid h5
                   have HB5 := Lib.hid hb
                   have HR5 := Lib.hid (bel_tr HR4.out hb)
                   clear h5 hb)
                | (go_at_call 36; (with_reducible refine (HA.out _ _ _ (H4.out.below HB5.out) H5.out).mono ?_); rintro e' w6 ⟨v6, rfl, h6, hb⟩
                   have H6 := Lib.hid h6
                   have HR6 := Lib.hid (bel_tr HR5.out hb)
                   clear h6 hb)
                | (fail "no arm"))
            go_wp2
            all_goals
              refine ⟨?_, ?_⟩
              · exact ⟨i + 1, _, by omega, by go_num, ⟨H6.out, dec_step HYe.out HCc.out, dec_low HYl.out (by have := HDg.out; omega)⟩, (fun j hj => by
                  rcases Nat.lt_or_ge j i with h | h
                  · exact HDi.out j h
                  · obtain rfl : j = i := by omega
                    unfold IsDig
                    rw [HCc.out]
                    exact HDg.out), bel_tr HBi.out HR6.out⟩
              · simp [intOf]; omega
          · have hpc : (cc : Int) < 48 ∨ (57 : Int) < cc := by omega
            have HEnd := Lib.hid (fun neg n m (h : DecForm t neg n m) => (show False from hdg (by
              have hq := HBad.out neg n m h i hiP
              unfold IsDig at hq
              rw [HCc.out] at hq
              exact hq)))
            clear hdg
            obtain ⟨c0, c1, c2, f0, f1, f2⟩ := row3 ((HBi.out.block w.heap.size (Array.getElem?_eq_some_iff.1 HVr.out).1).trans HVr.out)
            rcases hpc with hc1 | hc2
            · go_wp2
              obtain ⟨-, -, -, q3, q4, q5⟩ := three_cells (.bool false) (.slice none 0 0) (.slice none 0 0) c0 c1 c2
              refine bodyPost_ret (v := .tuple #[.agg #[.bool false, .slice none 0 0, .slice none 0 0], .int .i64 0, .bool false]) ?_ rfl ?_
              · simp [results, Tryz.results79, go_sem, q3, q4, q5]
              · exact ⟨_, _, _, rfl, (fun h => by cases h), fun _ => ⟨rfl, rfl, HEnd.out⟩, result_below (HV0.out.trans (HBi.out.mono HV0.out.size)) (Nat.le_refl _) _ _ _⟩
            · have hc1 : ¬ (cc : Int) < 48 := by omega
              go_wp2
              obtain ⟨-, -, -, q3, q4, q5⟩ := three_cells (.bool false) (.slice none 0 0) (.slice none 0 0) c0 c1 c2
              refine bodyPost_ret (v := .tuple #[.agg #[.bool false, .slice none 0 0, .slice none 0 0], .int .i64 0, .bool false]) ?_ rfl ?_
              · simp [results, Tryz.results79, go_sem, q3, q4, q5]
              · exact ⟨_, _, _, rfl, (fun h => by cases h), fun _ => ⟨rfl, rfl, HEnd.out⟩, result_below (HV0.out.trans (HBi.out.mono HV0.out.size)) (Nat.le_refl _) _ _ _⟩
        · obtain rfl : i = P := by omega
          have htN : (k : Int) + 1 + i = (N : Int) := by have := HNI.out; omega
          have HForm := Lib.hid (HYes.out Y HYe.out HDi.out)
          have HDp := Lib.hid (show decide ((Y : Int) < 0) = false from decide_eq_false (by omega))
          generalize (digs Y).length = xl at *
          have HP := Lib.hid (TenPow i (by omega) (i : Int) rfl)
          go_wp2_with (first
            | (go_at_call 48; (with_reducible refine (HU.out _).mono ?_); rintro e' w3 ⟨ten, rfl, ho, hb⟩
               have HO := Lib.hid ho
               have HB3 := Lib.hid hb
               clear ho hb)
            | (go_at_call 87; (with_reducible refine (HP.out _ _ HO.out).mono ?_); rintro e' w4 ⟨pw, rfl, hp, hb⟩
               obtain ⟨po, pc, rfl, -⟩ := id hp
               have HPw := Lib.hid hp
               have hvw : Below V.heap.size V w4 := bel_tr HBi.out (bel_tr HB3.out hb)
               obtain ⟨c0, c1, c2, f0, f1, f2⟩ := row3 ((hvw.block w.heap.size (Array.getElem?_eq_some_iff.1 HVr.out).1).trans HVr.out)
               have HVw := Lib.hid (HV0.out.trans (hvw.mono HV0.out.size))
               have HS4 := Lib.hid (HSi.out.below (bel_tr HB3.out hb))
               clear hp hb hvw)
            | (fail "no arm"))
          obtain ⟨-, -, -, q3, q4, q5⟩ := three_cells (.bool false) (.slice so2 xl sc2) (.slice po (digs (10 ^ i)).length pc) c0 c1 c2
          have HF1 := Lib.hid (result_num (v1 := .slice so2 xl sc2) (v2 := .slice po (digs (10 ^ i)).length pc) (b' := false) HS4.out c0 c1 c2)
          have HF2 := Lib.hid (result_num (v1 := .slice so2 xl sc2) (v2 := .slice po (digs (10 ^ i)).length pc) (b' := false) HPw.out c0 c1 c2)
          refine bodyPost_ret (v := .tuple #[.agg #[.bool false, .slice so2 xl sc2, .slice po (digs (10 ^ i)).length pc], .int .i64 (i : Int), .bool true]) ?_ rfl ?_
          · simp [results, Tryz.results79, go_sem, q3, q4, q5]
          · exact ⟨_, _, _, rfl, fun _ => ⟨false, Y, i, rfl, HForm.out, IsQ.of HDp.out (by rw [show Int.natAbs (if false = true then -(Y : Int) else (Y : Int)) = Y by simp]; exact HF1.out) HF2.out⟩, (fun h => by cases h), result_below HVw.out (Nat.le_refl _) _ _ _⟩
end Go.Proofs.YtfpooimjjpamoaaGreatDoor.ref
