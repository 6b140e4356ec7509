/-
  FaultDeep answers true for every two numbers and every text. Conditions: errors.errorType holds its handle; the text is no longer than a string may be.
-/
import Derived.Test.YtglcmbpgnehinaaDoorLawOther
namespace Go.Proofs.YtglcmbpgnehinaaDoor.flt
open Go.RowKit Go.Extern.Stop Go.Stop Go.Extern

theorem ats_cons_empty (b : Nat) (c : Int) (l : List (Nat × Int × ByteArray)) : ats ((b, c, ⟨#[]⟩) :: l) = ats l := by
  have h : (⟨#[]⟩ : ByteArray).toList = [] := by decide +kernel
  simp [ats, h]
theorem ats_one_empty (b : Nat) (c : Int) (s : ByteArray) (h : s.toList.isEmpty = true) : ats [(b, c, s)] = [] := by simp [ats, h]
theorem ats_one_some (b : Nat) (c : Int) (s : ByteArray) (h : s.toList.isEmpty = false) : ats [(b, c, s)] = [s] := by simp [ats, h]
theorem ats_one (b b' : Nat) (c : Int) (s : ByteArray) : ats [(b, c, s)] = ats [(b', c, s)] := by simp [ats]

/-- Where's answer, where one place is told. -/
theorem Places.one {w w' : World} {x : ByteArray} {e : Ending} (h : Places w [x] e w') : ∃ ao cap, e = .returned (.slice ao 1 cap) ∧ Below w.heap.size w w' := by
  obtain ⟨sv, rfl, hown, hb⟩ := h
  obtain ⟨ao, cap, rfl⟩ := own_shape hown
  exact ⟨ao, cap, rfl, hb⟩

/-- After k wraps without a place. -/
def DRel (W : World) (K : Nat) (c : Int) (s : ByteArray) (e i : Value) (wr : World) : Prop :=
  ∃ (k b : Nat) (s' : ByteArray) (l : List (Nat × Int × ByteArray)), k ≤ K ∧ i = .int .i64 k ∧ e = .iface 40 (.pointer (some ⟨b, 0, none⟩)) ∧ Chain wr (.iface 40 (.pointer (some ⟨b, 0, none⟩))) wr.heap.size ((b, c, s') :: l) ∧ l.length = k ∧
    (∀ x ∈ (b, c, s') :: l, x.2.2.size ≤ 100000) ∧ ats ((b, c, s') :: l) = ats [(0, c, s)] ∧ Below W.heap.size W wr

theorem chain_head {w : World} {b B : Nat} {c : Int} {s : ByteArray} {l : List (Nat × Int × ByteArray)} (h : Chain w (.iface 40 (.pointer (some ⟨b, 0, none⟩))) B ((b, c, s) :: l)) : ∃ e, FaultAt w b c s e := by
  cases h with
  | link _ _ _ e _ _ hf _ _ => exact ⟨e, hf⟩

set_option maxRecDepth 100000 in
set_option maxHeartbeats 4000000 in
theorem FaultDeep_walk (n deep : Int) (a : ByteArray) (w : World) (hg : Handle w) (ha : a.size ≤ maxLen) : Calls Tryd.prog 7 #[.int .i64 n, .int .i64 deep, .string a] w fun e w' => e = .returned (.bool true) ∧ Below w.heap.size w w' := by
  have HG := Lib.hid hg
  have HN := Lib.hid (code_any n)
  have n0 := codeOf_ne n
  have HLo := Lib.hid (codeOf_low n)
  have HHi := Lib.hid (codeOf_high n)
  have HTA := Lib.hid (Text10 a ha)
  have HSz := Lib.hid (cut_size a 10)
  generalize codeOf n = c at *
  generalize cut a 10 = s at *
  have N0 := Lib.hid n0
  have t1 : -30 < deep.tmod 30 := Int.lt_tmod_of_pos deep (by decide)
  have t2 : deep.tmod 30 < 30 := Int.tmod_lt_of_pos deep (by decide)
  obtain ⟨K, hK⟩ : ∃ K : Nat, deep.tmod 30 % 30 = K := ⟨(deep.tmod 30 % 30).toNat, by omega⟩
  have hK29 : K ≤ 29 := by omega
  have HK := Lib.hid hK
  clear hg n0 ha hK
  have mE := methodError
  go_enter Tryd.func7, Tryd.ntmps7
  go_wp2_with (go_at_call 9; refine (begun_any w HG.out).mono ?_; rintro e' W ⟨rfl, hb⟩; have HB := Lib.hid hb; clear hb)
  have HGW := Lib.hid (HG.out.below HB.out HG.out.pos)
  have HNw := Lib.hid (New_some c s W N0.out)
  have HB1 := Lib.hid (show Below W.heap.size W (W.alloc (.cells #[.int .i64 c, .string s, .nilIface] 51)) from (Below.refl _ _).alloc (Nat.le_refl _) _)
  have HF1 := Lib.hid (show FaultAt (W.alloc (.cells #[.int .i64 c, .string s, .nilIface] 51)) W.heap.size c s .nilIface from by show (W.heap.push _)[W.heap.size]? = _; simp)
  go_wp2_with (first | (go_at_call 10; refine (HN.out _).mono ?_; rintro e' w' ⟨rfl, rfl⟩; clear HN) | (go_at_call 11; refine (HTA.out _).mono ?_; rintro e' w' ⟨rfl, rfl⟩; clear HTA) | (go_at_call 15; refine (HNw.out).mono ?_; rintro e' w' ⟨rfl, rfl⟩; clear HNw))
  rw [HK.out]
  go_loopw [9, 10] (fun e i wr => DRel W K c s e i wr) (fun _ i _ => K - (intOf i).toNat)
  case atStart =>
    refine ⟨0, W.heap.size, s, [], by omega, rfl, rfl, .link W.heap.size c s _ _ [] HF1.out (by simp) (.none _), rfl, ?_, ats_one _ _ _ _, HB1.out⟩
    intro x hx
    rw [List.mem_singleton.1 hx]
    have := HSz.out
    show s.size ≤ 100000
    omega
  case round =>
    obtain ⟨k, b, s', l, hk, rfl, rfl, hch, hlen, hsz, hats, hbel⟩ := hrel
    obtain ⟨ee, hf⟩ := chain_head hch
    by_cases hlt : k < K
    · have HW := Lib.hid (Wrap_of ⟨#[]⟩ _ _ c wr (Code_fault b c wr (HGW.out.below hbel HGW.out.pos) hf.cell0))
      have HCh := Lib.hid hch
      have HSs := Lib.hid hsz
      have HAt := Lib.hid hats
      have HBe := Lib.hid hbel
      have HLn := Lib.hid hlen
      clear hch hsz hats hbel hf hlen
      go_wp2_with (go_at_call 13; refine (HW.out).mono ?_; rintro e' w2 ⟨b', rfl, hle, hF2, hB2⟩; have HLE := Lib.hid hle; have HF2 := Lib.hid hF2; have HB2 := Lib.hid hB2; clear hle hF2 hB2 HW)
      go_roundw
      case rel =>
        refine ⟨k + 1, b', ⟨#[]⟩, (b, c, s') :: l, by omega, by go_num, rfl, .link b' c _ _ _ _ HF2.out HF2.out.lt ((HCh.out.keep HB2.out (Nat.le_refl _)).mono HLE.out), by simp [HLn.out], ?_, by rw [ats_cons_empty]; exact HAt.out, HBe.out.trans (HB2.out.mono HBe.out.size)⟩
        intro x hx
        rcases List.mem_cons.1 hx with rfl | hx
        · exact (show (0 : Nat) ≤ 100000 by omega)
        · exact HSs.out x hx
      case measure => simp [intOf]; omega
    · have hkK : k = K := by omega
      subst hkK
      have HCh := Lib.hid hch
      have HSs := Lib.hid hsz
      have HAt := Lib.hid hats
      have HBe := Lib.hid hbel
      have HLn := Lib.hid hlen
      have HC := Lib.hid (Code_fault b c wr (HGW.out.below hbel HGW.out.pos) hf.cell0)
      clear hch hsz hats hbel hf hlen hlt
      obtain ⟨R, hR⟩ : ∃ R : ByteArray, R = ⟨(render (ats [(0, c, s)]) ++ (msg c).data.toList).toArray⟩ := ⟨_, rfl⟩
      have HR := Lib.hid hR
      clear hR
      by_cases hs : s.toList.isEmpty = true
      · go_wp2_with (go_at_call 16; refine (HC.out).mono ?_; rintro e' W2 ⟨rfl, hb2⟩; have HB2 := Lib.hid hb2; clear hb2 HC)
        have HB02 := Lib.hid (show Below W.heap.size W W2 from HBe.out.trans (HB2.out.mono HBe.out.size))
        have HI := Lib.hid (eIs_ans _ _ _ _ true W2 compPlain (isAns_code (HCh.out.keep HB2.out (Nat.le_refl _)) N0.out))
        have HWh := Lib.hid (Where_chain _ _ _ W2 (HGW.out.below HB02.out HGW.out.pos) (HCh.out.keep HB2.out (Nat.le_refl _)) HB2.out.size (by simp [HLn.out]; omega))
        rw [HAt.out, ats_one_empty _ _ _ hs] at HWh
        go_wp2_with (first | (go_at_call 19; refine (Of_some c _ N0.out).mono ?_; rintro e' w' ⟨rfl, rfl⟩) | (go_at_call 18; refine (HI.out).mono ?_; rintro e' w' ⟨rfl, rfl⟩; clear HI) | (go_at_call 17; refine (HWh.out).mono ?_; rintro e' W3 hp; obtain ⟨ao, cap, rfl, hb3⟩ := hp.zero; have HB3 := Lib.hid hb3; clear hb3 hp HWh))
        have HBr3 := Lib.hid (show Below wr.heap.size wr W3 from HB2.out.trans (HB3.out.mono HB2.out.size))
        have HB03 := Lib.hid (show Below W.heap.size W W3 from HBe.out.trans (HBr3.out.mono HBe.out.size))
        have HE1 := Lib.hid (Error_chain b c s' wr.heap.size l W3 (HGW.out.below HB03.out HGW.out.pos) (HCh.out.keep HBr3.out (Nat.le_refl _)) HBr3.out.size (by simp [HLn.out]; omega) HSs.out HLo.out HHi.out)
        rw [HAt.out, ← HR.out] at HE1
        go_wp2_with (go_at_call 21; refine (HE1.out).mono ?_; rintro e' W4 ⟨rfl, hb4⟩; have HB4 := Lib.hid hb4; clear hb4 HE1)
        have HB04 := Lib.hid (show Below W.heap.size W W4 from HB03.out.trans (HB4.out.mono HB03.out.size))
        have HN5 := Lib.hid (New_some c s W4 N0.out)
        have HB5 := Lib.hid (show Below W4.heap.size W4 (W4.alloc (.cells #[.int .i64 c, .string s, .nilIface] 51)) from (Below.refl _ _).alloc (Nat.le_refl _) _)
        have HF5 := Lib.hid (show FaultAt (W4.alloc (.cells #[.int .i64 c, .string s, .nilIface] 51)) W4.heap.size c s .nilIface from by show (W4.heap.push _)[W4.heap.size]? = _; simp)
        have HE2 := Lib.hid (Error_chain W4.heap.size c s (W4.heap.size + 1) [] (W4.alloc (.cells #[.int .i64 c, .string s, .nilIface] 51)) (HGW.out.below (HB04.out.trans (HB5.out.mono HB04.out.size)) HGW.out.pos) (.link _ c s _ _ [] HF5.out (by omega) (.none _)) (by simp) (by simp) (by
          intro x hx
          rw [List.mem_singleton.1 hx]
          have := HSz.out
          show s.size ≤ 100000
          omega) HLo.out HHi.out)
        rw [ats_one W4.heap.size 0, ← HR.out] at HE2
        go_wp2_with (first | (go_at_call 15; refine (HN5.out).mono ?_; rintro e' w' ⟨rfl, rfl⟩; clear HN5) | (go_at_call 21; refine (HE2.out).mono ?_; rintro e' W6 ⟨rfl, hb6⟩; have HB6 := Lib.hid hb6; clear hb6 HE2))
        go_ret
        exact ⟨rfl, HB.out.trans ((HB04.out.trans ((HB5.out.trans (HB6.out.mono HB5.out.size)).mono HB04.out.size)).mono HB.out.size)⟩
      · have hs' : s.toList.isEmpty = false := by simpa using hs
        clear hs
        go_wp2_with (go_at_call 16; refine (HC.out).mono ?_; rintro e' W2 ⟨rfl, hb2⟩; have HB2 := Lib.hid hb2; clear hb2 HC)
        have HB02 := Lib.hid (show Below W.heap.size W W2 from HBe.out.trans (HB2.out.mono HBe.out.size))
        have HI := Lib.hid (eIs_ans _ _ _ _ true W2 compPlain (isAns_code (HCh.out.keep HB2.out (Nat.le_refl _)) N0.out))
        have HWh := Lib.hid (Where_chain _ _ _ W2 (HGW.out.below HB02.out HGW.out.pos) (HCh.out.keep HB2.out (Nat.le_refl _)) HB2.out.size (by simp [HLn.out]; omega))
        rw [HAt.out, ats_one_some _ _ _ hs'] at HWh
        go_wp2_with (first | (go_at_call 19; refine (Of_some c _ N0.out).mono ?_; rintro e' w' ⟨rfl, rfl⟩) | (go_at_call 18; refine (HI.out).mono ?_; rintro e' w' ⟨rfl, rfl⟩; clear HI) | (go_at_call 17; refine (HWh.out).mono ?_; rintro e' W3 hp; obtain ⟨ao, cap, rfl, hb3⟩ := hp.one; have HB3 := Lib.hid hb3; clear hb3 hp HWh))
        have HBr3 := Lib.hid (show Below wr.heap.size wr W3 from HB2.out.trans (HB3.out.mono HB2.out.size))
        have HB03 := Lib.hid (show Below W.heap.size W W3 from HBe.out.trans (HBr3.out.mono HBe.out.size))
        have HE1 := Lib.hid (Error_chain b c s' wr.heap.size l W3 (HGW.out.below HB03.out HGW.out.pos) (HCh.out.keep HBr3.out (Nat.le_refl _)) HBr3.out.size (by simp [HLn.out]; omega) HSs.out HLo.out HHi.out)
        rw [HAt.out, ← HR.out] at HE1
        go_wp2_with (go_at_call 21; refine (HE1.out).mono ?_; rintro e' W4 ⟨rfl, hb4⟩; have HB4 := Lib.hid hb4; clear hb4 HE1)
        have HB04 := Lib.hid (show Below W.heap.size W W4 from HB03.out.trans (HB4.out.mono HB03.out.size))
        have HN5 := Lib.hid (New_some c s W4 N0.out)
        have HB5 := Lib.hid (show Below W4.heap.size W4 (W4.alloc (.cells #[.int .i64 c, .string s, .nilIface] 51)) from (Below.refl _ _).alloc (Nat.le_refl _) _)
        have HF5 := Lib.hid (show FaultAt (W4.alloc (.cells #[.int .i64 c, .string s, .nilIface] 51)) W4.heap.size c s .nilIface from by show (W4.heap.push _)[W4.heap.size]? = _; simp)
        have HE2 := Lib.hid (Error_chain W4.heap.size c s (W4.heap.size + 1) [] (W4.alloc (.cells #[.int .i64 c, .string s, .nilIface] 51)) (HGW.out.below (HB04.out.trans (HB5.out.mono HB04.out.size)) HGW.out.pos) (.link _ c s _ _ [] HF5.out (by omega) (.none _)) (by simp) (by simp) (by
          intro x hx
          rw [List.mem_singleton.1 hx]
          have := HSz.out
          show s.size ≤ 100000
          omega) HLo.out HHi.out)
        rw [ats_one W4.heap.size 0, ← HR.out] at HE2
        go_wp2_with (first | (go_at_call 15; refine (HN5.out).mono ?_; rintro e' w' ⟨rfl, rfl⟩; clear HN5) | (go_at_call 21; refine (HE2.out).mono ?_; rintro e' W6 ⟨rfl, hb6⟩; have HB6 := Lib.hid hb6; clear hb6 HE2))
        go_ret
        exact ⟨rfl, HB.out.trans ((HB04.out.trans ((HB5.out.trans (HB6.out.mono HB5.out.size)).mono HB04.out.size)).mono HB.out.size)⟩
end Go.Proofs.YtglcmbpgnehinaaDoor.flt
