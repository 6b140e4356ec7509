/-
  The steps of the walks, part 36: DecT.
-/
import Derived.Test.YtlhmfgbaefaneabGreatDoorB34
import Derived.Test.YtlhmfgbaefaneabGreatDoorB29
namespace Go.Proofs.YtlhmfgbaefaneabGreatDoor.dec
open Go.RowKit Go.Proofs.YtlhmfgbaefaneabGreatDoor.nat Go.Proofs.YtlhmfgbaefaneabGreatDoor.num
open Go.Proofs.YtlhmfgbaefaneabGreatDoor.rat (IsR Lr)
open Go.Proofs.YtlhmfgbaefaneabGreatDoor.ref (str str_size str_append nearN nearUp signed decText)
theorem dec_pos (x : Nat) : 1 ≤ (Lib.decDigits x).length := by
  rw [Lib.decDigits_length]
  by_cases h : x < 10
  · rw [Lib.nDigits_small h]; exact Nat.le_refl _
  · rw [Lib.nDigits_big (by omega)]; omega
set_option maxRecDepth 100000 in
set_option maxHeartbeats 4000000 in
theorem text_pad_plain (a : Value) (x k : Nat) (w : World) (ha : nat.IsN w a x) (hx : Ln x 40000) (hk : k ≤ 20) (hm : (Lib.decDigits x).length ≤ k) (hk0 : 0 < k) :
    Calls Tryz.prog 154 #[.bool false, a, .int .i64 (k : Nat)] w fun e w' => e = .returned (.string (str (decText (signed false x) k))) ∧ Below w.heap.size w w' := by
  have HT := Lib.hid (nat.Text_any a x w ha hx)
  have HA := Lib.hid ha
  have hl1 := dec_pos x
  have hl2 := dec_size hx
  rw [str_size] at hl2
  rw [text_of, if_neg (by simp)]
  unfold ref.decBody
  rw [if_neg (by omega)]
  clear ha hx
  generalize Lib.decDigits x = L at *
  obtain ⟨l, hl⟩ : ∃ l, L.length = l := ⟨_, rfl⟩
  rw [hl] at hl1 hl2 hm
  have hsl : (str L).size = l := by rw [str_size, hl]
  obtain ⟨m, hmm⟩ : ∃ m, m = k + 1 - l := ⟨_, rfl⟩
  have hpad : ref.padTo L k = List.replicate m 48 ++ L := by unfold ref.padTo; rw [hl, hmm]
  have hrs : (str (List.replicate m 48)).size = m := by rw [str_size, List.length_replicate]
  have hcat : str (List.replicate m 48) ++ str L = str (ref.padTo L k) := by rw [hpad, str_append]
  have hNL : (ref.padTo L k).length = k + 1 := by rw [ref.padTo_length]; omega
  have HRp := Lib.hid (fun z (hz : z = (m : Int)) W => Repeat_nought z m hz W (by omega) (by omega))
  have hmi : (0 : Int) < (k : Int) + 1 - (l : Int) := by omega
  have hz1 : ¬ 9223372036854775807 < (str (List.replicate m 48)).size + (str L).size := by omega
  have HMM := Lib.hid (show (k : Int) + 1 - (l : Int) = (m : Int) by omega)
  obtain ⟨N, hN⟩ : ∃ N, N = k + 1 := ⟨_, rfl⟩
  rw [← hN] at hNL
  clear hpad
  generalize ref.padTo L k = D at *
  generalize str (List.replicate m 48) = sr at *
  have hNk : k < N := by omega
  have hNb : N ≤ 900000 := by omega
  have hDl : D.length = N := by exact hNL
  have hx1 : (str D).extract 0 (N - k) = str (D.take (N - k)) := by apply ByteArray.ext; simp [str]
  have hx2 : (str D).extract (N - k) N = str (D.drop (N - k)) := by
    apply ByteArray.ext
    simp [str, List.take_of_length_le, hDl]
  have hy1 : (str (D.take (N - k))).size = N - k := by rw [str_size, List.length_take]; omega
  have hy2 : (str (D.drop (N - k))).size = k := by rw [str_size, List.length_drop]; omega
  rw [hDl]
  have hS : str (D.take (N - k)) ++ ({ data := #[46] } : ByteArray) ++ str (D.drop (N - k)) = str (D.take (N - k) ++ 46 :: D.drop (N - k)) := by
    rw [show ({ data := #[46] } : ByteArray) = str [46] from rfl, str_append, str_append, List.append_assoc]
    rfl
  have hsD : (str D).size = N := by rw [str_size, hDl]
  generalize D.take (N - k) ++ 46 :: D.drop (N - k) = T at *
  generalize str (D.take (N - k)) = a1 at *
  generalize str (D.drop (N - k)) = a2 at *
  obtain ⟨M, hM⟩ : ∃ M, M = N - k := ⟨_, rfl⟩
  rw [← hM] at hx1 hx2 hy1
  have hMi : (N : Int) - (k : Int) = (M : Int) := by omega
  have hM1 : (M : Int) ≤ (N : Int) := by omega
  have hk0b : (0 : Int) < (k : Int) := by omega
  have h46 : ({ data := #[46] } : ByteArray).size = 1 := rfl
  have hs1 : ¬ 9223372036854775807 < a1.size + ({ data := #[46] } : ByteArray).size := by omega
  have hs2 : ¬ 9223372036854775807 < (a1 ++ ({ data := #[46] } : ByteArray)).size + a2.size := by rw [ByteArray.size_append]; omega
  have hs3 : ¬ 9223372036854775807 < a1.size + 1 := by omega
  have hs4 : ¬ 9223372036854775807 < a1.size + 1 + a2.size := by omega
  have HS := Lib.hid hS
  generalize hsDD : str D = sD at *
  have HM := Lib.hid hM
  clear hS hM hDl hm hsDD hk hNL hN hl hmm
  generalize str L = sL at *
  generalize str T = sT at *
  go_enter Tryz.func154, Tryz.ntmps154
  go_wp2_with (first
    | (go_at_call 127; (with_reducible refine (HT.out).mono ?_); rintro e W1 ⟨rfl, hb⟩
       have HA1 := Lib.hid (HA.out.below hb)
       have HB1 := Lib.hid hb
       clear hb)
    | (go_at_call 101; (with_reducible refine (HRp.out _ HMM.out _).mono ?_); rintro e W2 ⟨rfl, hb⟩
       have HA2 := Lib.hid (HA1.out.below hb)
       have HB2 := Lib.hid (nat.below_tr HB1.out hb)
       clear hb)
    | (fail "no arm"))
  go_quiet (fail)
  go_wp2_with (first
    | (go_at_call 127; (with_reducible refine (HT.out).mono ?_); rintro e W1 ⟨rfl, hb⟩
       have HA1 := Lib.hid (HA.out.below hb)
       have HB1 := Lib.hid hb
       clear hb)
    | (go_at_call 101; (with_reducible refine (HRp.out _ HMM.out _).mono ?_); rintro e W2 ⟨rfl, hb⟩
       have HA2 := Lib.hid (HA1.out.below hb)
       have HB2 := Lib.hid (nat.below_tr HB1.out hb)
       clear hb)
    | (fail "no arm"))
  go_ret
  exact ⟨by rw [← HS.out]; rfl, nat.drewN_below HB2.out _⟩
set_option maxRecDepth 100000 in
set_option maxHeartbeats 4000000 in
theorem text_pad_nought (a : Value) (x k : Nat) (w : World) (ha : nat.IsN w a x) (hx : Ln x 40000) (hk : k ≤ 20) (hm : (Lib.decDigits x).length ≤ k) (hk0 : 0 < k) (h0 : x = 0) :
    Calls Tryz.prog 154 #[.bool true, a, .int .i64 (k : Nat)] w fun e w' => e = .returned (.string (str (decText (signed true x) k))) ∧ Below w.heap.size w w' := by
  have HT := Lib.hid (nat.Text_any a x w ha hx)
  have HA := Lib.hid ha
  have HZ := Lib.hid (fun W (h : nat.IsN W a x) => nat.Zero_any a x W h)
  rw [decide_eq_true h0] at HZ
  have hl1 := dec_pos x
  have hl2 := dec_size hx
  rw [str_size] at hl2
  rw [text_of, if_neg (fun h => h.2 h0)]
  unfold ref.decBody
  rw [if_neg (by omega)]
  clear ha hx h0
  generalize Lib.decDigits x = L at *
  obtain ⟨l, hl⟩ : ∃ l, L.length = l := ⟨_, rfl⟩
  rw [hl] at hl1 hl2 hm
  have hsl : (str L).size = l := by rw [str_size, hl]
  obtain ⟨m, hmm⟩ : ∃ m, m = k + 1 - l := ⟨_, rfl⟩
  have hpad : ref.padTo L k = List.replicate m 48 ++ L := by unfold ref.padTo; rw [hl, hmm]
  have hrs : (str (List.replicate m 48)).size = m := by rw [str_size, List.length_replicate]
  have hcat : str (List.replicate m 48) ++ str L = str (ref.padTo L k) := by rw [hpad, str_append]
  have hNL : (ref.padTo L k).length = k + 1 := by rw [ref.padTo_length]; omega
  have HRp := Lib.hid (fun z (hz : z = (m : Int)) W => Repeat_nought z m hz W (by omega) (by omega))
  have hmi : (0 : Int) < (k : Int) + 1 - (l : Int) := by omega
  have hz1 : ¬ 9223372036854775807 < (str (List.replicate m 48)).size + (str L).size := by omega
  have HMM := Lib.hid (show (k : Int) + 1 - (l : Int) = (m : Int) by omega)
  obtain ⟨N, hN⟩ : ∃ N, N = k + 1 := ⟨_, rfl⟩
  rw [← hN] at hNL
  clear hpad
  generalize ref.padTo L k = D at *
  generalize str (List.replicate m 48) = sr at *
  have hNk : k < N := by omega
  have hNb : N ≤ 900000 := by omega
  have hDl : D.length = N := by exact hNL
  have hx1 : (str D).extract 0 (N - k) = str (D.take (N - k)) := by apply ByteArray.ext; simp [str]
  have hx2 : (str D).extract (N - k) N = str (D.drop (N - k)) := by
    apply ByteArray.ext
    simp [str, List.take_of_length_le, hDl]
  have hy1 : (str (D.take (N - k))).size = N - k := by rw [str_size, List.length_take]; omega
  have hy2 : (str (D.drop (N - k))).size = k := by rw [str_size, List.length_drop]; omega
  rw [hDl]
  have hS : str (D.take (N - k)) ++ ({ data := #[46] } : ByteArray) ++ str (D.drop (N - k)) = str (D.take (N - k) ++ 46 :: D.drop (N - k)) := by
    rw [show ({ data := #[46] } : ByteArray) = str [46] from rfl, str_append, str_append, List.append_assoc]
    rfl
  have hsD : (str D).size = N := by rw [str_size, hDl]
  generalize D.take (N - k) ++ 46 :: D.drop (N - k) = T at *
  generalize str (D.take (N - k)) = a1 at *
  generalize str (D.drop (N - k)) = a2 at *
  obtain ⟨M, hM⟩ : ∃ M, M = N - k := ⟨_, rfl⟩
  rw [← hM] at hx1 hx2 hy1
  have hMi : (N : Int) - (k : Int) = (M : Int) := by omega
  have hM1 : (M : Int) ≤ (N : Int) := by omega
  have hk0b : (0 : Int) < (k : Int) := by omega
  have h46 : ({ data := #[46] } : ByteArray).size = 1 := rfl
  have hs1 : ¬ 9223372036854775807 < a1.size + ({ data := #[46] } : ByteArray).size := by omega
  have hs2 : ¬ 9223372036854775807 < (a1 ++ ({ data := #[46] } : ByteArray)).size + a2.size := by rw [ByteArray.size_append]; omega
  have hs3 : ¬ 9223372036854775807 < a1.size + 1 := by omega
  have hs4 : ¬ 9223372036854775807 < a1.size + 1 + a2.size := by omega
  have HS := Lib.hid hS
  generalize hsDD : str D = sD at *
  have HM := Lib.hid hM
  clear hS hM hDl hm hsDD hk hNL hN hl hmm
  generalize str L = sL at *
  generalize str T = sT at *
  go_enter Tryz.func154, Tryz.ntmps154
  go_wp2_with (first
    | (go_at_call 127; (with_reducible refine (HT.out).mono ?_); rintro e W1 ⟨rfl, hb⟩
       have HA1 := Lib.hid (HA.out.below hb)
       have HB1 := Lib.hid hb
       clear hb)
    | (go_at_call 101; (with_reducible refine (HRp.out _ HMM.out _).mono ?_); rintro e W2 ⟨rfl, hb⟩
       have HA2 := Lib.hid (HA1.out.below hb)
       have HB2 := Lib.hid (nat.below_tr HB1.out hb)
       clear hb)
    | (go_at_call 109; (with_reducible refine (HZ.out _ (HA2.out.below (nat.drew_below _ _))).mono ?_); rintro e W3 ⟨rfl, rfl⟩)
    | (fail "no arm"))
  go_quiet (fail)
  go_wp2_with (first
    | (go_at_call 127; (with_reducible refine (HT.out).mono ?_); rintro e W1 ⟨rfl, hb⟩
       have HA1 := Lib.hid (HA.out.below hb)
       have HB1 := Lib.hid hb
       clear hb)
    | (go_at_call 101; (with_reducible refine (HRp.out _ HMM.out _).mono ?_); rintro e W2 ⟨rfl, hb⟩
       have HA2 := Lib.hid (HA1.out.below hb)
       have HB2 := Lib.hid (nat.below_tr HB1.out hb)
       clear hb)
    | (go_at_call 109; (with_reducible refine (HZ.out _ (HA2.out.below (nat.drew_below _ _))).mono ?_); rintro e W3 ⟨rfl, rfl⟩)
    | (fail "no arm"))
  go_ret
  exact ⟨by rw [← HS.out]; rfl, nat.drewN_below HB2.out _⟩
set_option maxRecDepth 100000 in
set_option maxHeartbeats 4000000 in
theorem text_pad_minus (a : Value) (x k : Nat) (w : World) (ha : nat.IsN w a x) (hx : Ln x 40000) (hk : k ≤ 20) (hm : (Lib.decDigits x).length ≤ k) (hk0 : 0 < k) (h0 : ¬ x = 0) :
    Calls Tryz.prog 154 #[.bool true, a, .int .i64 (k : Nat)] w fun e w' => e = .returned (.string (str (decText (signed true x) k))) ∧ Below w.heap.size w w' := by
  have HT := Lib.hid (nat.Text_any a x w ha hx)
  have HA := Lib.hid ha
  have HZ := Lib.hid (fun W (h : nat.IsN W a x) => nat.Zero_any a x W h)
  rw [decide_eq_false h0] at HZ
  have hl1 := dec_pos x
  have hl2 := dec_size hx
  rw [str_size] at hl2
  rw [text_of, if_pos ⟨rfl, h0⟩]
  unfold ref.decBody
  rw [if_neg (by omega)]
  clear ha hx h0
  generalize Lib.decDigits x = L at *
  obtain ⟨l, hl⟩ : ∃ l, L.length = l := ⟨_, rfl⟩
  rw [hl] at hl1 hl2 hm
  have hsl : (str L).size = l := by rw [str_size, hl]
  obtain ⟨m, hmm⟩ : ∃ m, m = k + 1 - l := ⟨_, rfl⟩
  have hpad : ref.padTo L k = List.replicate m 48 ++ L := by unfold ref.padTo; rw [hl, hmm]
  have hrs : (str (List.replicate m 48)).size = m := by rw [str_size, List.length_replicate]
  have hcat : str (List.replicate m 48) ++ str L = str (ref.padTo L k) := by rw [hpad, str_append]
  have hNL : (ref.padTo L k).length = k + 1 := by rw [ref.padTo_length]; omega
  have HRp := Lib.hid (fun z (hz : z = (m : Int)) W => Repeat_nought z m hz W (by omega) (by omega))
  have hmi : (0 : Int) < (k : Int) + 1 - (l : Int) := by omega
  have hz1 : ¬ 9223372036854775807 < (str (List.replicate m 48)).size + (str L).size := by omega
  have HMM := Lib.hid (show (k : Int) + 1 - (l : Int) = (m : Int) by omega)
  obtain ⟨N, hN⟩ : ∃ N, N = k + 1 := ⟨_, rfl⟩
  rw [← hN] at hNL
  clear hpad
  generalize ref.padTo L k = D at *
  generalize str (List.replicate m 48) = sr at *
  have hNk : k < N := by omega
  have hNb : N ≤ 900000 := by omega
  have hDl : D.length = N := by exact hNL
  have hx1 : (str D).extract 0 (N - k) = str (D.take (N - k)) := by apply ByteArray.ext; simp [str]
  have hx2 : (str D).extract (N - k) N = str (D.drop (N - k)) := by
    apply ByteArray.ext
    simp [str, List.take_of_length_le, hDl]
  have hy1 : (str (D.take (N - k))).size = N - k := by rw [str_size, List.length_take]; omega
  have hy2 : (str (D.drop (N - k))).size = k := by rw [str_size, List.length_drop]; omega
  rw [hDl]
  have hS : str (D.take (N - k)) ++ ({ data := #[46] } : ByteArray) ++ str (D.drop (N - k)) = str (D.take (N - k) ++ 46 :: D.drop (N - k)) := by
    rw [show ({ data := #[46] } : ByteArray) = str [46] from rfl, str_append, str_append, List.append_assoc]
    rfl
  have hsD : (str D).size = N := by rw [str_size, hDl]
  generalize D.take (N - k) ++ 46 :: D.drop (N - k) = T at *
  generalize str (D.take (N - k)) = a1 at *
  generalize str (D.drop (N - k)) = a2 at *
  obtain ⟨M, hM⟩ : ∃ M, M = N - k := ⟨_, rfl⟩
  rw [← hM] at hx1 hx2 hy1
  have hMi : (N : Int) - (k : Int) = (M : Int) := by omega
  have hM1 : (M : Int) ≤ (N : Int) := by omega
  have hk0b : (0 : Int) < (k : Int) := by omega
  have h46 : ({ data := #[46] } : ByteArray).size = 1 := rfl
  have hs1 : ¬ 9223372036854775807 < a1.size + ({ data := #[46] } : ByteArray).size := by omega
  have hs2 : ¬ 9223372036854775807 < (a1 ++ ({ data := #[46] } : ByteArray)).size + a2.size := by rw [ByteArray.size_append]; omega
  have hs3 : ¬ 9223372036854775807 < a1.size + 1 := by omega
  have hs4 : ¬ 9223372036854775807 < a1.size + 1 + a2.size := by omega
  have HS := Lib.hid hS
  generalize hsDD : str D = sD at *
  have HM := Lib.hid hM
  clear hS hM hDl hm hsDD hk hNL hN hl hmm
  generalize str L = sL at *
  have HR : Hid (({ data := #[45] } : ByteArray) ++ str T = str (45 :: T)) := Lib.hid (by rw [show ({ data := #[45] } : ByteArray) = str [45] from rfl, str_append]; rfl)
  generalize str (45 :: T) = sR at *
  generalize str T = sT at *
  have h45 : ({ data := #[45] } : ByteArray).size = 1 := rfl
  have hs5 : ¬ 9223372036854775807 < ({ data := #[45] } : ByteArray).size + (a1 ++ ({ data := #[46] } : ByteArray) ++ a2).size := by rw [ByteArray.size_append, ByteArray.size_append]; omega
  go_enter Tryz.func154, Tryz.ntmps154
  go_wp2_with (first
    | (go_at_call 127; (with_reducible refine (HT.out).mono ?_); rintro e W1 ⟨rfl, hb⟩
       have HA1 := Lib.hid (HA.out.below hb)
       have HB1 := Lib.hid hb
       clear hb)
    | (go_at_call 101; (with_reducible refine (HRp.out _ HMM.out _).mono ?_); rintro e W2 ⟨rfl, hb⟩
       have HA2 := Lib.hid (HA1.out.below hb)
       have HB2 := Lib.hid (nat.below_tr HB1.out hb)
       clear hb)
    | (go_at_call 109; (with_reducible refine (HZ.out _ (HA2.out.below (nat.drew_below _ _))).mono ?_); rintro e W3 ⟨rfl, rfl⟩)
    | (fail "no arm"))
  go_quiet (fail)
  go_wp2_with (first
    | (go_at_call 127; (with_reducible refine (HT.out).mono ?_); rintro e W1 ⟨rfl, hb⟩
       have HA1 := Lib.hid (HA.out.below hb)
       have HB1 := Lib.hid hb
       clear hb)
    | (go_at_call 101; (with_reducible refine (HRp.out _ HMM.out _).mono ?_); rintro e W2 ⟨rfl, hb⟩
       have HA2 := Lib.hid (HA1.out.below hb)
       have HB2 := Lib.hid (nat.below_tr HB1.out hb)
       clear hb)
    | (go_at_call 109; (with_reducible refine (HZ.out _ (HA2.out.below (nat.drew_below _ _))).mono ?_); rintro e W3 ⟨rfl, rfl⟩)
    | (fail "no arm"))
  go_ret
  exact ⟨by rw [← HR.out, ← HS.out]; rfl, nat.drewN_below HB2.out _⟩
set_option maxRecDepth 100000 in
set_option maxHeartbeats 4000000 in
theorem text_long0_plain (a : Value) (x k : Nat) (w : World) (ha : nat.IsN w a x) (hx : Ln x 40000) (hk : k ≤ 20) (hm : k < (Lib.decDigits x).length) (hk0 : k = 0) :
    Calls Tryz.prog 154 #[.bool false, a, .int .i64 (k : Nat)] w fun e w' => e = .returned (.string (str (decText (signed false x) k))) ∧ Below w.heap.size w w' := by
  have HT := Lib.hid (nat.Text_any a x w ha hx)
  have HA := Lib.hid ha
  have hl1 := dec_pos x
  have hl2 := dec_size hx
  rw [str_size] at hl2
  rw [text_of, if_neg (by simp)]
  unfold ref.decBody
  subst hk0
  rw [if_pos rfl]
  clear ha hx
  generalize Lib.decDigits x = L at *
  obtain ⟨l, hl⟩ : ∃ l, L.length = l := ⟨_, rfl⟩
  rw [hl] at hl1 hl2 hm
  have hsl : (str L).size = l := by rw [str_size, hl]
  have hpad : ref.padTo L 0 = L := by unfold ref.padTo; rw [hl, show 0 + 1 - l = 0 by omega]; rfl
  rw [hpad]
  have hmi : ¬ (0 : Int) < 0 + 1 - (l : Int) := by omega
  clear hpad
  clear hl hm
  generalize str L = sD at *
  go_enter Tryz.func154, Tryz.ntmps154
  go_wp2_with (first
    | (go_at_call 127; (with_reducible refine (HT.out).mono ?_); rintro e W1 ⟨rfl, hb⟩
       have HA1 := Lib.hid (HA.out.below hb)
       have HB1 := Lib.hid hb
       clear hb)
    | (fail "no arm"))
  go_ret
  exact ⟨rfl, HB1.out⟩
set_option maxRecDepth 100000 in
set_option maxHeartbeats 4000000 in
theorem text_long0_nought (a : Value) (x k : Nat) (w : World) (ha : nat.IsN w a x) (hx : Ln x 40000) (hk : k ≤ 20) (hm : k < (Lib.decDigits x).length) (hk0 : k = 0) (h0 : x = 0) :
    Calls Tryz.prog 154 #[.bool true, a, .int .i64 (k : Nat)] w fun e w' => e = .returned (.string (str (decText (signed true x) k))) ∧ Below w.heap.size w w' := by
  have HT := Lib.hid (nat.Text_any a x w ha hx)
  have HA := Lib.hid ha
  have HZ := Lib.hid (fun W (h : nat.IsN W a x) => nat.Zero_any a x W h)
  rw [decide_eq_true h0] at HZ
  have hl1 := dec_pos x
  have hl2 := dec_size hx
  rw [str_size] at hl2
  rw [text_of, if_neg (fun h => h.2 h0)]
  unfold ref.decBody
  subst hk0
  rw [if_pos rfl]
  clear ha hx h0
  generalize Lib.decDigits x = L at *
  obtain ⟨l, hl⟩ : ∃ l, L.length = l := ⟨_, rfl⟩
  rw [hl] at hl1 hl2 hm
  have hsl : (str L).size = l := by rw [str_size, hl]
  have hpad : ref.padTo L 0 = L := by unfold ref.padTo; rw [hl, show 0 + 1 - l = 0 by omega]; rfl
  rw [hpad]
  have hmi : ¬ (0 : Int) < 0 + 1 - (l : Int) := by omega
  clear hpad
  clear hl hm
  generalize str L = sD at *
  go_enter Tryz.func154, Tryz.ntmps154
  go_wp2_with (first
    | (go_at_call 127; (with_reducible refine (HT.out).mono ?_); rintro e W1 ⟨rfl, hb⟩
       have HA1 := Lib.hid (HA.out.below hb)
       have HB1 := Lib.hid hb
       clear hb)
    | (go_at_call 109; (with_reducible refine (HZ.out _ (HA1.out)).mono ?_); rintro e W3 ⟨rfl, rfl⟩)
    | (fail "no arm"))
  go_ret
  exact ⟨rfl, HB1.out⟩
set_option maxRecDepth 100000 in
set_option maxHeartbeats 4000000 in
theorem text_long0_minus (a : Value) (x k : Nat) (w : World) (ha : nat.IsN w a x) (hx : Ln x 40000) (hk : k ≤ 20) (hm : k < (Lib.decDigits x).length) (hk0 : k = 0) (h0 : ¬ x = 0) :
    Calls Tryz.prog 154 #[.bool true, a, .int .i64 (k : Nat)] w fun e w' => e = .returned (.string (str (decText (signed true x) k))) ∧ Below w.heap.size w w' := by
  have HT := Lib.hid (nat.Text_any a x w ha hx)
  have HA := Lib.hid ha
  have HZ := Lib.hid (fun W (h : nat.IsN W a x) => nat.Zero_any a x W h)
  rw [decide_eq_false h0] at HZ
  have hl1 := dec_pos x
  have hl2 := dec_size hx
  rw [str_size] at hl2
  rw [text_of, if_pos ⟨rfl, h0⟩]
  unfold ref.decBody
  subst hk0
  rw [if_pos rfl]
  clear ha hx h0
  generalize Lib.decDigits x = L at *
  obtain ⟨l, hl⟩ : ∃ l, L.length = l := ⟨_, rfl⟩
  rw [hl] at hl1 hl2 hm
  have hsl : (str L).size = l := by rw [str_size, hl]
  have hpad : ref.padTo L 0 = L := by unfold ref.padTo; rw [hl, show 0 + 1 - l = 0 by omega]; rfl
  rw [hpad]
  have hmi : ¬ (0 : Int) < 0 + 1 - (l : Int) := by omega
  clear hpad
  have HR : Hid (({ data := #[45] } : ByteArray) ++ str L = str (45 :: L)) := Lib.hid (by rw [show ({ data := #[45] } : ByteArray) = str [45] from rfl, str_append]; rfl)
  generalize str (45 :: L) = sR at *
  clear hl hm
  generalize str L = sD at *
  have h45 : ({ data := #[45] } : ByteArray).size = 1 := rfl
  have hs5 : ¬ 9223372036854775807 < ({ data := #[45] } : ByteArray).size + sD.size := by omega
  go_enter Tryz.func154, Tryz.ntmps154
  go_wp2_with (first
    | (go_at_call 127; (with_reducible refine (HT.out).mono ?_); rintro e W1 ⟨rfl, hb⟩
       have HA1 := Lib.hid (HA.out.below hb)
       have HB1 := Lib.hid hb
       clear hb)
    | (go_at_call 109; (with_reducible refine (HZ.out _ (HA1.out)).mono ?_); rintro e W3 ⟨rfl, rfl⟩)
    | (fail "no arm"))
  go_ret
  exact ⟨by rw [← HR.out]; rfl, HB1.out⟩
set_option maxRecDepth 100000 in
set_option maxHeartbeats 4000000 in
theorem text_long_plain (a : Value) (x k : Nat) (w : World) (ha : nat.IsN w a x) (hx : Ln x 40000) (hk : k ≤ 20) (hm : k < (Lib.decDigits x).length) (hk0 : 0 < k) :
    Calls Tryz.prog 154 #[.bool false, a, .int .i64 (k : Nat)] w fun e w' => e = .returned (.string (str (decText (signed false x) k))) ∧ Below w.heap.size w w' := by
  have HT := Lib.hid (nat.Text_any a x w ha hx)
  have HA := Lib.hid ha
  have hl1 := dec_pos x
  have hl2 := dec_size hx
  rw [str_size] at hl2
  rw [text_of, if_neg (by simp)]
  unfold ref.decBody
  rw [if_neg (by omega)]
  clear ha hx
  generalize Lib.decDigits x = L at *
  obtain ⟨l, hl⟩ : ∃ l, L.length = l := ⟨_, rfl⟩
  rw [hl] at hl1 hl2 hm
  have hsl : (str L).size = l := by rw [str_size, hl]
  have hpad : ref.padTo L k = L := by unfold ref.padTo; rw [hl, show k + 1 - l = 0 by omega]; rfl
  rw [hpad]
  have hmi : ¬ (0 : Int) < (k : Int) + 1 - (l : Int) := by omega
  clear hpad
  have hNk : k < l := by omega
  have hNb : l ≤ 900000 := by omega
  have hDl : L.length = l := by exact hl
  have hx1 : (str L).extract 0 (l - k) = str (L.take (l - k)) := by apply ByteArray.ext; simp [str]
  have hx2 : (str L).extract (l - k) l = str (L.drop (l - k)) := by
    apply ByteArray.ext
    simp [str, List.take_of_length_le, hDl]
  have hy1 : (str (L.take (l - k))).size = l - k := by rw [str_size, List.length_take]; omega
  have hy2 : (str (L.drop (l - k))).size = k := by rw [str_size, List.length_drop]; omega
  rw [hDl]
  have hS : str (L.take (l - k)) ++ ({ data := #[46] } : ByteArray) ++ str (L.drop (l - k)) = str (L.take (l - k) ++ 46 :: L.drop (l - k)) := by
    rw [show ({ data := #[46] } : ByteArray) = str [46] from rfl, str_append, str_append, List.append_assoc]
    rfl
  have hsD : (str L).size = l := by rw [str_size, hDl]
  generalize L.take (l - k) ++ 46 :: L.drop (l - k) = T at *
  generalize str (L.take (l - k)) = a1 at *
  generalize str (L.drop (l - k)) = a2 at *
  obtain ⟨M, hM⟩ : ∃ M, M = l - k := ⟨_, rfl⟩
  rw [← hM] at hx1 hx2 hy1
  have hMi : (l : Int) - (k : Int) = (M : Int) := by omega
  have hM1 : (M : Int) ≤ (l : Int) := by omega
  have hk0b : (0 : Int) < (k : Int) := by omega
  have h46 : ({ data := #[46] } : ByteArray).size = 1 := rfl
  have hs1 : ¬ 9223372036854775807 < a1.size + ({ data := #[46] } : ByteArray).size := by omega
  have hs2 : ¬ 9223372036854775807 < (a1 ++ ({ data := #[46] } : ByteArray)).size + a2.size := by rw [ByteArray.size_append]; omega
  have hs3 : ¬ 9223372036854775807 < a1.size + 1 := by omega
  have hs4 : ¬ 9223372036854775807 < a1.size + 1 + a2.size := by omega
  have HS := Lib.hid hS
  generalize hsDD : str L = sD at *
  have HM := Lib.hid hM
  clear hS hM hDl hm hsDD hk hl
  generalize str T = sT at *
  go_enter Tryz.func154, Tryz.ntmps154
  go_wp2_with (first
    | (go_at_call 127; (with_reducible refine (HT.out).mono ?_); rintro e W1 ⟨rfl, hb⟩
       have HA1 := Lib.hid (HA.out.below hb)
       have HB1 := Lib.hid hb
       clear hb)
    | (fail "no arm"))
  go_quiet (fail)
  go_wp2_with (first
    | (go_at_call 127; (with_reducible refine (HT.out).mono ?_); rintro e W1 ⟨rfl, hb⟩
       have HA1 := Lib.hid (HA.out.below hb)
       have HB1 := Lib.hid hb
       clear hb)
    | (fail "no arm"))
  go_ret
  exact ⟨by rw [← HS.out]; rfl, nat.drewN_below HB1.out _⟩
set_option maxRecDepth 100000 in
set_option maxHeartbeats 4000000 in
theorem text_long_nought (a : Value) (x k : Nat) (w : World) (ha : nat.IsN w a x) (hx : Ln x 40000) (hk : k ≤ 20) (hm : k < (Lib.decDigits x).length) (hk0 : 0 < k) (h0 : x = 0) :
    Calls Tryz.prog 154 #[.bool true, a, .int .i64 (k : Nat)] w fun e w' => e = .returned (.string (str (decText (signed true x) k))) ∧ Below w.heap.size w w' := by
  have HT := Lib.hid (nat.Text_any a x w ha hx)
  have HA := Lib.hid ha
  have HZ := Lib.hid (fun W (h : nat.IsN W a x) => nat.Zero_any a x W h)
  rw [decide_eq_true h0] at HZ
  have hl1 := dec_pos x
  have hl2 := dec_size hx
  rw [str_size] at hl2
  rw [text_of, if_neg (fun h => h.2 h0)]
  unfold ref.decBody
  rw [if_neg (by omega)]
  clear ha hx h0
  generalize Lib.decDigits x = L at *
  obtain ⟨l, hl⟩ : ∃ l, L.length = l := ⟨_, rfl⟩
  rw [hl] at hl1 hl2 hm
  have hsl : (str L).size = l := by rw [str_size, hl]
  have hpad : ref.padTo L k = L := by unfold ref.padTo; rw [hl, show k + 1 - l = 0 by omega]; rfl
  rw [hpad]
  have hmi : ¬ (0 : Int) < (k : Int) + 1 - (l : Int) := by omega
  clear hpad
  have hNk : k < l := by omega
  have hNb : l ≤ 900000 := by omega
  have hDl : L.length = l := by exact hl
  have hx1 : (str L).extract 0 (l - k) = str (L.take (l - k)) := by apply ByteArray.ext; simp [str]
  have hx2 : (str L).extract (l - k) l = str (L.drop (l - k)) := by
    apply ByteArray.ext
    simp [str, List.take_of_length_le, hDl]
  have hy1 : (str (L.take (l - k))).size = l - k := by rw [str_size, List.length_take]; omega
  have hy2 : (str (L.drop (l - k))).size = k := by rw [str_size, List.length_drop]; omega
  rw [hDl]
  have hS : str (L.take (l - k)) ++ ({ data := #[46] } : ByteArray) ++ str (L.drop (l - k)) = str (L.take (l - k) ++ 46 :: L.drop (l - k)) := by
    rw [show ({ data := #[46] } : ByteArray) = str [46] from rfl, str_append, str_append, List.append_assoc]
    rfl
  have hsD : (str L).size = l := by rw [str_size, hDl]
  generalize L.take (l - k) ++ 46 :: L.drop (l - k) = T at *
  generalize str (L.take (l - k)) = a1 at *
  generalize str (L.drop (l - k)) = a2 at *
  obtain ⟨M, hM⟩ : ∃ M, M = l - k := ⟨_, rfl⟩
  rw [← hM] at hx1 hx2 hy1
  have hMi : (l : Int) - (k : Int) = (M : Int) := by omega
  have hM1 : (M : Int) ≤ (l : Int) := by omega
  have hk0b : (0 : Int) < (k : Int) := by omega
  have h46 : ({ data := #[46] } : ByteArray).size = 1 := rfl
  have hs1 : ¬ 9223372036854775807 < a1.size + ({ data := #[46] } : ByteArray).size := by omega
  have hs2 : ¬ 9223372036854775807 < (a1 ++ ({ data := #[46] } : ByteArray)).size + a2.size := by rw [ByteArray.size_append]; omega
  have hs3 : ¬ 9223372036854775807 < a1.size + 1 := by omega
  have hs4 : ¬ 9223372036854775807 < a1.size + 1 + a2.size := by omega
  have HS := Lib.hid hS
  generalize hsDD : str L = sD at *
  have HM := Lib.hid hM
  clear hS hM hDl hm hsDD hk hl
  generalize str T = sT at *
  go_enter Tryz.func154, Tryz.ntmps154
  go_wp2_with (first
    | (go_at_call 127; (with_reducible refine (HT.out).mono ?_); rintro e W1 ⟨rfl, hb⟩
       have HA1 := Lib.hid (HA.out.below hb)
       have HB1 := Lib.hid hb
       clear hb)
    | (go_at_call 109; (with_reducible refine (HZ.out _ (HA1.out.below (nat.drew_below _ _))).mono ?_); rintro e W3 ⟨rfl, rfl⟩)
    | (fail "no arm"))
  go_quiet (fail)
  go_wp2_with (first
    | (go_at_call 127; (with_reducible refine (HT.out).mono ?_); rintro e W1 ⟨rfl, hb⟩
       have HA1 := Lib.hid (HA.out.below hb)
       have HB1 := Lib.hid hb
       clear hb)
    | (go_at_call 109; (with_reducible refine (HZ.out _ (HA1.out.below (nat.drew_below _ _))).mono ?_); rintro e W3 ⟨rfl, rfl⟩)
    | (fail "no arm"))
  go_ret
  exact ⟨by rw [← HS.out]; rfl, nat.drewN_below HB1.out _⟩
set_option maxRecDepth 100000 in
set_option maxHeartbeats 4000000 in
theorem text_long_minus (a : Value) (x k : Nat) (w : World) (ha : nat.IsN w a x) (hx : Ln x 40000) (hk : k ≤ 20) (hm : k < (Lib.decDigits x).length) (hk0 : 0 < k) (h0 : ¬ x = 0) :
    Calls Tryz.prog 154 #[.bool true, a, .int .i64 (k : Nat)] w fun e w' => e = .returned (.string (str (decText (signed true x) k))) ∧ Below w.heap.size w w' := by
  have HT := Lib.hid (nat.Text_any a x w ha hx)
  have HA := Lib.hid ha
  have HZ := Lib.hid (fun W (h : nat.IsN W a x) => nat.Zero_any a x W h)
  rw [decide_eq_false h0] at HZ
  have hl1 := dec_pos x
  have hl2 := dec_size hx
  rw [str_size] at hl2
  rw [text_of, if_pos ⟨rfl, h0⟩]
  unfold ref.decBody
  rw [if_neg (by omega)]
  clear ha hx h0
  generalize Lib.decDigits x = L at *
  obtain ⟨l, hl⟩ : ∃ l, L.length = l := ⟨_, rfl⟩
  rw [hl] at hl1 hl2 hm
  have hsl : (str L).size = l := by rw [str_size, hl]
  have hpad : ref.padTo L k = L := by unfold ref.padTo; rw [hl, show k + 1 - l = 0 by omega]; rfl
  rw [hpad]
  have hmi : ¬ (0 : Int) < (k : Int) + 1 - (l : Int) := by omega
  clear hpad
  have hNk : k < l := by omega
  have hNb : l ≤ 900000 := by omega
  have hDl : L.length = l := by exact hl
  have hx1 : (str L).extract 0 (l - k) = str (L.take (l - k)) := by apply ByteArray.ext; simp [str]
  have hx2 : (str L).extract (l - k) l = str (L.drop (l - k)) := by
    apply ByteArray.ext
    simp [str, List.take_of_length_le, hDl]
  have hy1 : (str (L.take (l - k))).size = l - k := by rw [str_size, List.length_take]; omega
  have hy2 : (str (L.drop (l - k))).size = k := by rw [str_size, List.length_drop]; omega
  rw [hDl]
  have hS : str (L.take (l - k)) ++ ({ data := #[46] } : ByteArray) ++ str (L.drop (l - k)) = str (L.take (l - k) ++ 46 :: L.drop (l - k)) := by
    rw [show ({ data := #[46] } : ByteArray) = str [46] from rfl, str_append, str_append, List.append_assoc]
    rfl
  have hsD : (str L).size = l := by rw [str_size, hDl]
  generalize L.take (l - k) ++ 46 :: L.drop (l - k) = T at *
  generalize str (L.take (l - k)) = a1 at *
  generalize str (L.drop (l - k)) = a2 at *
  obtain ⟨M, hM⟩ : ∃ M, M = l - k := ⟨_, rfl⟩
  rw [← hM] at hx1 hx2 hy1
  have hMi : (l : Int) - (k : Int) = (M : Int) := by omega
  have hM1 : (M : Int) ≤ (l : Int) := by omega
  have hk0b : (0 : Int) < (k : Int) := by omega
  have h46 : ({ data := #[46] } : ByteArray).size = 1 := rfl
  have hs1 : ¬ 9223372036854775807 < a1.size + ({ data := #[46] } : ByteArray).size := by omega
  have hs2 : ¬ 9223372036854775807 < (a1 ++ ({ data := #[46] } : ByteArray)).size + a2.size := by rw [ByteArray.size_append]; omega
  have hs3 : ¬ 9223372036854775807 < a1.size + 1 := by omega
  have hs4 : ¬ 9223372036854775807 < a1.size + 1 + a2.size := by omega
  have HS := Lib.hid hS
  generalize hsDD : str L = sD at *
  have HM := Lib.hid hM
  clear hS hM hDl hm hsDD hk hl
  have HR : Hid (({ data := #[45] } : ByteArray) ++ str T = str (45 :: T)) := Lib.hid (by rw [show ({ data := #[45] } : ByteArray) = str [45] from rfl, str_append]; rfl)
  generalize str (45 :: T) = sR at *
  generalize str T = sT at *
  have h45 : ({ data := #[45] } : ByteArray).size = 1 := rfl
  have hs5 : ¬ 9223372036854775807 < ({ data := #[45] } : ByteArray).size + (a1 ++ ({ data := #[46] } : ByteArray) ++ a2).size := by rw [ByteArray.size_append, ByteArray.size_append]; omega
  go_enter Tryz.func154, Tryz.ntmps154
  go_wp2_with (first
    | (go_at_call 127; (with_reducible refine (HT.out).mono ?_); rintro e W1 ⟨rfl, hb⟩
       have HA1 := Lib.hid (HA.out.below hb)
       have HB1 := Lib.hid hb
       clear hb)
    | (go_at_call 109; (with_reducible refine (HZ.out _ (HA1.out.below (nat.drew_below _ _))).mono ?_); rintro e W3 ⟨rfl, rfl⟩)
    | (fail "no arm"))
  go_quiet (fail)
  go_wp2_with (first
    | (go_at_call 127; (with_reducible refine (HT.out).mono ?_); rintro e W1 ⟨rfl, hb⟩
       have HA1 := Lib.hid (HA.out.below hb)
       have HB1 := Lib.hid hb
       clear hb)
    | (go_at_call 109; (with_reducible refine (HZ.out _ (HA1.out.below (nat.drew_below _ _))).mono ?_); rintro e W3 ⟨rfl, rfl⟩)
    | (fail "no arm"))
  go_ret
  exact ⟨by rw [← HR.out, ← HS.out]; rfl, nat.drewN_below HB1.out _⟩
theorem text_any (below : Bool) (a : Value) (x k : Nat) (w : World) (ha : nat.IsN w a x) (hx : Ln x 40000) (hk : k ≤ 20) :
    Calls Tryz.prog 154 #[.bool below, a, .int .i64 (k : Nat)] w fun e w' => e = .returned (.string (str (decText (signed below x) k))) ∧ Below w.heap.size w w' := by
  have h1 := dec_pos x
  cases below
  · by_cases hm : (Lib.decDigits x).length ≤ k
    · exact text_pad_plain a x k w ha hx hk hm (by omega)
    · by_cases hk0 : k = 0
      · exact text_long0_plain a x k w ha hx hk (by omega) hk0
      · exact text_long_plain a x k w ha hx hk (by omega) (by omega)
  · by_cases h0 : x = 0
    · by_cases hm : (Lib.decDigits x).length ≤ k
      · exact text_pad_nought a x k w ha hx hk hm (by omega) h0
      · by_cases hk0 : k = 0
        · exact text_long0_nought a x k w ha hx hk (by omega) hk0 h0
        · exact text_long_nought a x k w ha hx hk (by omega) (by omega) h0
    · by_cases hm : (Lib.decDigits x).length ≤ k
      · exact text_pad_minus a x k w ha hx hk hm (by omega) h0
      · by_cases hk0 : k = 0
        · exact text_long0_minus a x k w ha hx hk (by omega) hk0 h0
        · exact text_long_minus a x k w ha hx hk (by omega) (by omega) h0
end Go.Proofs.YtlhmfgbaefaneabGreatDoor.dec
