/-
  The steps of the walks, part 27: Get, Meth3, IntC, IntD, IntE.
-/
import Derived.Laws.MakeOwn
import Derived.Test.YtlhmfgbaefaneabGreatDoorB26
import Derived.Test.YtlhmfgbaefaneabGreatDoorB21
import Derived.Test.YtlhmfgbaefaneabGreatDoorB02
namespace Go.Proofs.YtlhmfgbaefaneabGreatDoor.nat
open Go.RowKit
open Go.Proofs.YtlhmfgbaefaneabGreatDoor.ref (str str_size ch seg IsDig Numeral seg_lt seg_add)
theorem ch_part {l : List UInt8} {k m i : Nat} (h : i < m) : ch ((l.drop k).take m) i = ch l (k + i) := by
  unfold ch
  rw [List.getD_eq_getElem?_getD, List.getD_eq_getElem?_getD, List.getElem?_take_of_lt h, List.getElem?_drop]
theorem seg_part {l : List UInt8} {k m : Nat} : ∀ j, j ≤ m → seg ((l.drop k).take m) 0 j = seg l k j
  | 0, _ => rfl
  | j + 1, h => by rw [seg, seg, seg_part j (by omega), Nat.zero_add, ch_part (by omega)]
theorem str_extract (l : List UInt8) (m : Nat) : (str l).extract 0 m = str (l.take m) := by
  apply ByteArray.ext
  simp [str]
theorem str_from (l : List UInt8) (m : Nat) : (str l).extract m l.length = str (l.drop m) := by
  apply ByteArray.ext
  simp [str, List.take_of_length_le]
theorem scale_ten {B : Nat} (sv : Value) (z : List Nat) (more : Nat) (w : World) (hO : w.ownsRow B 80 1 sv z.length (z.map fun d => Value.int .u64 (d : Nat))) (hdz : Dig z) (hm : more < 18446744073709551616) (hn : z.length ≤ 4000000) :
    Calls Tryz.prog 149 #[sv, .int .u64 10000000000000000000, .int .u64 (more : Nat)] w fun e w' => ∃ (z' : List Nat) (a : Nat), e = .returned (.int .u64 (a : Nat)) ∧ (z'.length = z.length ∧ Dig z' ∧ val z' + 18446744073709551616 ^ z.length * a = val z * 10 ^ 19 + more ∧ a < 18446744073709551616 ∧ w'.ownsRow B 80 1 sv z'.length (z'.map fun d => Value.int .u64 (d : Nat))) ∧ w.grownBy w' sv.ownBlock := by
  have h := scale_own sv z 9999999999999999999 more w hO hdz (by omega) hm hn
  rw [show ((9999999999999999999 : Nat) : Int) + 1 = 10000000000000000000 from rfl, show 9999999999999999999 + 1 = 10 ^ 19 from rfl] at h
  exact h
def KRel (w : World) (l : List UInt8) (sv nv : Value) (wr : World) : Prop :=
  ∃ (k : Nat) (z : List Nat), sv = .string (str (l.drop k)) ∧ k ≤ l.length ∧ z.length ≤ k ∧ (k = 0 ∨ (l.length - k) % 19 = 0) ∧ wr.ownsRow w.heap.size 80 1 nv z.length (z.map fun d => Value.int .u64 (d : Nat)) ∧ Below w.heap.size w wr ∧ Dig z ∧ val z = seg l 0 k
theorem KRel.next {w wr : World} {l : List UInt8} {nv : Value} {k m n : Nat} {z z' : List Nat} {a : Nat} (hk : k + m ≤ l.length) (hm : 0 < m) (hz : z.length ≤ k) (hl : z'.length = z.length) (hd : Dig z') (ha : a < 18446744073709551616)
    (h1 : k = 0 ∨ m = 19) (h2 : (l.length - (k + m)) % 19 = 0) (hv : val z = seg l 0 k) (he : val z' + 18446744073709551616 ^ z.length * a = val z * 10 ^ 19 + seg l k m) (hn : n = z'.length + 1)
    (ho : wr.ownsRow w.heap.size 80 1 nv n ((z' ++ [a]).map fun d => Value.int .u64 (d : Nat))) (hb : Below w.heap.size w wr) : KRel w l (.string (str ((l.drop k).drop m))) nv wr := by
  refine ⟨k + m, z' ++ [a], by rw [List.drop_drop], hk, by simp; omega, Or.inr h2, by rw [show (z' ++ [a]).length = n by simp [hn]]; exact ho, hb, hd.append (Dig.nil.cons ha), ?_⟩
  rw [val_snoc, hl, he, seg_add, Nat.zero_add, hv]
  rcases h1 with rfl | rfl
  · simp [seg]
  · rfl
set_option maxRecDepth 100000 in
set_option maxHeartbeats 4000000 in
theorem Get_ok (l : List UInt8) (w : World) (h : Numeral l) :
    Calls Tryz.prog 119 #[.string (str l)] w fun e w' => ∃ v, e = .returned (.tuple #[v, .nilIface]) ∧ (IsN w' v (seg l 0 l.length) ∧ v ≠ .pointer none) ∧ Below w.heap.size w w' := by
  have hdec : (@decide (Numeral l) (Classical.propDecidable _)) = true := @decide_eq_true _ (Classical.propDecidable _) h
  have hNu := isNumber_any l w (by have := h.2.1; omega)
  rw [hdec] at hNu
  have HNu := Lib.hid hNu
  obtain ⟨h1, h2, h3, h4⟩ := h
  have HD := Lib.hid h4
  have hz : (str l).size = l.length := str_size l
  obtain ⟨n, hn⟩ : ∃ n, l.length = n := ⟨_, rfl⟩
  have HN := Lib.hid hn
  have HS := Lib.hid (show str l = str (l.drop 0) from rfl)
  rw [hn] at hz h1 h2
  generalize hs : str l = s at hz HNu HS
  clear hNu hdec h3 h4 hn hs
  obtain ⟨i0, hi0, hz0, hz1, hz2⟩ := info_parts infoU64
  obtain ⟨w1, hmk, hown, hgr⟩ := run_make_own (P := Tryz.prog) w w.heap.size 114 80 i0 (.int .u64 0) 1 Tryz.underlying114 hi0 hz0 hz1 .i64 .i64 (n / 19 + 1) (by rw [hz2]; omega) (by unfold maxLen; omega) (Nat.le_refl _)
  rw [show (((n / 19 + 1 : Nat)) : Int) = (n : Int) / 19 + 1 by omega] at hmk
  generalize hc : n / 19 + 1 = C at hmk hown
  have HK := Lib.hid (show KRel w l (.string s) (.slice (some ⟨w.heap.size, 0, none⟩) 0 C) w1 from ⟨0, [], by rw [HS.out], Nat.zero_le _, Nat.le_refl _, Or.inl rfl, hown, (Below.refl _ _).grown hgr (Nat.le_refl _) (fun k hk => by cases hk), Dig.nil, rfl⟩)
  clear hown hgr i0 hi0 hz0 hz1 hz2 hc
  go_enter Tryz.func119, Tryz.ntmps119
  go_wp2_with (go_at_call 148; refine (HNu.out).mono ?_; rintro e w1 ⟨rfl, rfl⟩)
  go_loopw [0, 4] (fun sv nv wr => KRel w l sv nv wr) (fun sv _ _ => match sv with | .string b => b.size | _ => 0)
  case atStart => exact HK.out
  case round =>
    obtain ⟨k, z, rfl, hk, hz1, h19, hown, hbe, hdz, hv⟩ := hrel
    have hsz : (str (l.drop k)).size = n - k := by rw [str_size, List.length_drop, HN.out]
    rw [HN.out] at hk h19
    by_cases hlt : k < n
    · obtain ⟨r, hr⟩ : ∃ r, r = n - k := ⟨_, rfl⟩
      obtain ⟨m, hm⟩ : ∃ m, m = (r - 1) % 19 + 1 := ⟨_, rfl⟩
      have hmi : ((r : Int) - 1) % 19 + 1 = (m : Int) := by omega
      have hkl : (l.drop k).length = r := by rw [List.length_drop, HN.out]; omega
      have hml : ((l.drop k).take m).length = m := by rw [List.length_take, hkl]; omega
      have hval := value_any ((l.drop k).take m) wr (by rw [hml]; omega) (fun i hi => by
        rw [hml] at hi
        unfold IsDig
        rw [ch_part hi]
        exact HD.out (k + i) (by rw [HN.out]; omega))
      rw [hml, seg_part m (Nat.le_refl _), ← str_extract] at hval
      have hvl := seg_lt (l := l) (st := k) (m := m) fun i h1 h2 => HD.out i (by rw [HN.out]; omega)
      have hp : 10 ^ m ≤ 10 ^ 19 := Nat.pow_le_pow_right (by omega) (by omega)
      have hvb : seg l k m < 18446744073709551616 := by omega
      have hfrom := str_from (l.drop k) m
      rw [hkl] at hfrom
      have HSc := Lib.hid (scale_ten u4 z (seg l k m) wr hown hdz hvb (by omega))
      have HNX := Lib.hid (fun nv n z' a wr' hl hd ha he hn ho hb => KRel.next (w := w) (wr := wr') (l := l) (nv := nv) (k := k) (m := m) (n := n) (z := z) (z' := z') (a := a) (by rw [HN.out]; omega) (by omega) hz1 hl hd ha (by omega) (by rw [HN.out]; omega) hv he hn ho hb)
      have HB := Lib.hid hbe
      have HZ := Lib.hid hz1
      have HVal := Lib.hid hval
      have HFrom := Lib.hid hfrom
      have hts : (str (l.drop k)).size = r := by rw [hsz, hr]
      have hr0 : (0 : Int) < (r : Int) := by omega
      have hmr : m ≤ r := by omega
      have hr4 : r ≤ 4000 := by omega
      have hr1 : (0 : Int) ≤ (r : Int) - 1 := by omega
      have hm19 : m ≤ 19 := by omega
      have hm0 : 0 < m := by omega
      generalize str (l.drop k) = t at *
      generalize seg l k m = v at *
      have HM := Lib.hid hm
      have HRr := Lib.hid hr
      clear hval hfrom hkl hml hv hown hbe hdz hvl hp hvb hsz hz1 h19 hm HK hmk HS hr
      have hwb := HB.out.size
      go_wp2_with (first
        | (go_at_call 150; with_reducible refine (HVal.out).mono ?_; rintro e w2 ⟨rfl, rfl⟩)
        | (go_at_call 149; with_reducible refine (HSc.out).mono ?_; rintro e w2 ⟨z', a, rfl, ⟨hl, hd, he, ha, ho⟩, hg⟩
           have HHg := Lib.hid hg
           have HL := Lib.hid hl
           have HD' := Lib.hid hd
           have HE := Lib.hid he
           have HA := Lib.hid ha
           have HO := Lib.hid ho
           have hb2 := HB.out.grown hg hwb (fun b hb => (World.ownsRow.lt ho b hb).1)
           have HB2 := Lib.hid hb2
           have hwb2 := hb2.size
           have HO2 := Lib.hid (ho.alloc (.cells #[Value.int .u64 (a : Nat)] 80))
           have HLit := Lib.hid (word_own (w := w2) (d := a) (B := w2.heap.size) (Nat.le_refl _)).rd
           clear hg hl hd he ha ho hb2 HSc)
        | (at_builtin; refine wpList_append_rd rfl _ _ rfl w.heap.size _ _ z' [a] rfl HO2.out rfl HLit.out ?c1 ?c2 ?_))
      case c1 => rw [HL.out]; have := HZ.out; simp; omega
      case c2 => simp; omega
      intro v' w3 hown hg3
      have hb3 := (HB2.out.alloc hwb2 (.cells #[Value.int .u64 (a : Nat)] 80)).grown hg3 (by simp; omega) (fun b hb => (World.ownsRow.lt HO2.out b hb).1)
      have HK3 := Lib.hid (HNX.out v' (z'.length + 1) z' a w3 HL.out HD'.out HA.out HE.out rfl (by simpa using hown) hb3)
      clear hown hg3 hb3 HLit HO2 HO HHg
      go_wp2
      refine ⟨?_, ?_⟩
      · have := HK3.out
        rw [← HFrom.out] at this
        exact this
      · simp [ByteArray.size_extract]
        omega
    · obtain rfl : k = n := by omega
      have HT := Lib.hid (own_any u4 z wr (Own.of_owns hown).rd hdz (by omega))
      have HV := Lib.hid hv
      have HB := Lib.hid hbe
      clear hv hbe hown hdz HK hmk h19
      have hts : (str (l.drop k)).size = 0 := by omega
      generalize str (l.drop k) = t at *
      clear hsz
      go_wp2_with (go_at_call 116; with_reducible refine (HT.out).mono ?_; rintro e w2 ⟨v, rfl, ⟨hi, hnv⟩, hb⟩; have HI := Lib.hid hi; have HNv := Lib.hid hnv; have HB2 := Lib.hid (below_trans' HB.out HB.out.size hb); clear hi hb hnv)
      go_ret2
      refine ⟨_, rfl, ⟨?_, HNv.out⟩, HB2.out⟩
      have := HI.out
      rw [HV.out] at this
      rw [HN.out]
      exact this
end Go.Proofs.YtlhmfgbaefaneabGreatDoor.nat
namespace Go.Proofs.YtlhmfgbaefaneabGreatDoor.nat
open Go.RowKit
open Go.Proofs.YtlhmfgbaefaneabGreatDoor.ref (str str_size Numeral)
set_option maxRecDepth 100000 in
theorem Div_ok (a b : Value) (X Y : Nat) (w : World) (ha : IsN w a X) (hb : IsN w b Y) (h0 : 0 < Y) (hx : (digs X).length ≤ 900000) (hy : (digs Y).length ≤ 900000) :
    Calls Tryz.prog 120 #[a, b] w fun e w' => ∃ q r, e = .returned (.tuple #[q, r, .nilIface]) ∧ (IsN w' q (X / Y) ∧ q ≠ .pointer none) ∧ (IsN w' r (X % Y) ∧ r ≠ .pointer none) ∧ Below w.heap.size w w' := by
  have Z := Zero_any b Y w hb
  rw [decide_eq_false (by omega : ¬ Y = 0)] at Z
  have HZ := Lib.hid Z
  have L1 := Lib.hid (list_any a X w ha)
  have L2 := Lib.hid (list_any b Y w hb)
  have hyn : digs Y ≠ [] := by
    intro h
    have := val_digs Y
    rw [h] at this
    simp [val] at this
    omega
  have hq : (digs (X / Y)).length ≤ 900000 := digs_le_len (Nat.div_le_self _ _) hx
  have hr : (digs (X % Y)).length ≤ 900000 := digs_le_len (Nat.mod_le _ _) hx
  clear ha hb Z h0
  go_enter Tryz.func120, Tryz.ntmps120
  go_wp2_with (first
    | (go_at_call 109; refine (HZ.out).mono ?_; rintro e w1 ⟨rfl, rfl⟩; clear HZ)
    | (go_at_call 118; refine (L1.out).mono ?_; rintro e w1 ⟨sa, rfl, ha, rfl⟩; have HA := Lib.hid ha; clear L1 ha)
    | (go_at_call 118; refine (L2.out).mono ?_; rintro e w1 ⟨sb, rfl, hb, rfl⟩
       have C := Lib.hid (divide_any sa sb _ _ _ HA.out hb (norm_digs X) (norm_digs Y) hyn hx hy)
       rw [val_digs, val_digs] at C
       clear L2 hb)
    | (go_at_call 151; refine (C.out).mono ?_; rintro e w2 ⟨sq, sr, rfl, ⟨hoq, hor⟩, hb2⟩
       have O1 := Lib.hid (own_any sq _ w2 hoq.rd (norm_digs _).1 (by omega))
       have O2 := Lib.hid (fun w3 (h3 : Below w2.heap.size w2 w3) => own_any sr _ w3 (hor.rd.below h3) (norm_digs _).1 (by omega))
       rw [val_digs] at O1
       rw [val_digs] at O2
       have HB2 := Lib.hid hb2
       clear C hoq hor hb2)
    | (go_at_call 116; refine (O1.out).mono ?_; rintro e w3 ⟨q, rfl, ⟨hi, hn⟩, hb3⟩
       have HI := Lib.hid hi
       have HN := Lib.hid hn
       have O3 := Lib.hid (O2.out w3 hb3)
       have HB3 := Lib.hid (HB2.out.trans (hb3.mono HB2.out.size))
       clear O1 O2 hi hn hb3)
    | (go_at_call 116; refine (O3.out).mono ?_; rintro e w4 ⟨r, rfl, ⟨hi, hn⟩, hb4⟩
       have HI2 := Lib.hid (HI.out.below hb4)
       have HB4 := Lib.hid (HB3.out.trans (hb4.mono HB3.out.size))
       have HJ := Lib.hid (And.intro hi hn)
       clear O3 hi hn hb4))
  go_ret3
  exact ⟨_, _, rfl, ⟨HI2.out, HN.out⟩, HJ.out, HB4.out⟩
end Go.Proofs.YtlhmfgbaefaneabGreatDoor.nat
namespace Go.Proofs.YtlhmfgbaefaneabGreatDoor.num
open Go.RowKit Go.Proofs.YtlhmfgbaefaneabGreatDoor.nat
theorem cmp_signs {z y : Int} (h : sg z ≠ sg y) : cmp3 (sg z) (sg y) = cmp3 z y := by
  unfold sg cmp3 at *
  (repeat' split at h) <;> (repeat' split) <;> omega
theorem cmp_low {z y : Int} (h : sg z = sg y) (h1 : z < 0) : cmp3 (y.natAbs : Nat) (z.natAbs : Nat) = cmp3 z y := by
  unfold sg cmp3 at *
  (repeat' split at h) <;> (repeat' split) <;> omega
theorem cmp_high {z y : Int} (h : sg z = sg y) (h1 : ¬ z < 0) : cmp3 (z.natAbs : Nat) (y.natAbs : Nat) = cmp3 z y := by
  unfold sg cmp3 at *
  (repeat' split at h) <;> (repeat' split) <;> omega
set_option maxRecDepth 100000 in
set_option maxHeartbeats 2000000 in
theorem Cmp_any (a b : Value) (z y : Int) (w : World) (ha : IsZ w a z) (hb : IsZ w b y) (hx : (digs z.natAbs).length ≤ 800000) (hy : (digs y.natAbs).length ≤ 800000) :
    Calls Tryz.prog 86 #[a, b] w fun e w' => e = .returned (.int .i64 (cmp3 z y)) ∧ ∃ m, w' = w.drewN m := by
  have S1 := Lib.hid (Sign_any a z w ha)
  have S2 := Lib.hid (Sign_any b y w hb)
  by_cases hs : sg z = sg y
  · have B1 := isBelow_any a z w ha
    have A1 := Lib.hid (amount_any a z w ha)
    have A2 := Lib.hid (amount_any b y w hb)
    have hee : (sg z == sg y) = true := by simp [hs]
    by_cases hz : z < 0
    · have C := Lib.hid (fun na nb h1 h2 => nat.Cmp_any nb na y.natAbs z.natAbs w h2 h1 (by omega) (by omega))
      rw [cmp_low hs hz] at C
      rw [decide_eq_true hz] at B1
      have HB1 := Lib.hid B1
      clear ha hb B1 hz
      generalize sg z = s1 at *
      generalize sg y = s2 at *
      subst hs
      go_enter Tryz.func86, Tryz.ntmps86
      go_wp2_with (first
        | (go_at_call 88; (with_reducible refine (S1.out).mono ?_); rintro e w1 ⟨rfl, rfl⟩)
        | (go_at_call 88; (with_reducible refine (S2.out).mono ?_); rintro e w1 ⟨rfl, rfl⟩)
        | (go_at_call 94; (with_reducible refine (HB1.out).mono ?_); rintro e w1 ⟨rfl, rfl⟩)
        | (go_at_call 95; (with_reducible refine (A1.out).mono ?_); rintro e w1 ⟨na, rfl, hn, rfl⟩; have HN1 := Lib.hid hn; clear A1 hn)
        | (go_at_call 95; (with_reducible refine (A2.out).mono ?_); rintro e w1 ⟨nb, rfl, hn, rfl⟩; have HN2 := Lib.hid hn; clear A2 hn)
        | (go_at_call 108; (with_reducible refine (C.out _ _ HN1.out HN2.out).mono ?_); rintro e w2 ⟨rfl, m, rfl⟩; clear C))
      go_ret
      exact ⟨rfl, m, rfl⟩
    · have C := Lib.hid (fun na nb h1 h2 => nat.Cmp_any na nb z.natAbs y.natAbs w h1 h2 (by omega) (by omega))
      rw [cmp_high hs hz] at C
      rw [decide_eq_false hz] at B1
      have HB1 := Lib.hid B1
      clear ha hb B1 hz
      generalize sg z = s1 at *
      generalize sg y = s2 at *
      subst hs
      go_enter Tryz.func86, Tryz.ntmps86
      go_wp2_with (first
        | (go_at_call 88; (with_reducible refine (S1.out).mono ?_); rintro e w1 ⟨rfl, rfl⟩)
        | (go_at_call 88; (with_reducible refine (S2.out).mono ?_); rintro e w1 ⟨rfl, rfl⟩)
        | (go_at_call 94; (with_reducible refine (HB1.out).mono ?_); rintro e w1 ⟨rfl, rfl⟩)
        | (go_at_call 95; (with_reducible refine (A1.out).mono ?_); rintro e w1 ⟨na, rfl, hn, rfl⟩; have HN1 := Lib.hid hn; clear A1 hn)
        | (go_at_call 95; (with_reducible refine (A2.out).mono ?_); rintro e w1 ⟨nb, rfl, hn, rfl⟩; have HN2 := Lib.hid hn; clear A2 hn)
        | (go_at_call 108; (with_reducible refine (C.out _ _ HN1.out HN2.out).mono ?_); rintro e w2 ⟨rfl, m, rfl⟩; clear C))
      go_ret
      exact ⟨rfl, m, rfl⟩
  · have hee : (sg z == sg y) = false := by simp [hs]
    rw [← cmp_signs hs]
    clear ha hb
    generalize sg z = s1 at *
    generalize sg y = s2 at *
    have C := Lib.hid (CmpI_any s1 s2 w)
    clear hs
    go_enter Tryz.func86, Tryz.ntmps86
    go_wp2_with (first
      | (go_at_call 88; (with_reducible refine (S1.out).mono ?_); rintro e w1 ⟨rfl, rfl⟩)
      | (go_at_call 88; (with_reducible refine (S2.out).mono ?_); rintro e w1 ⟨rfl, rfl⟩)
      | (go_at_call 107; (with_reducible refine (C.out).mono ?_); rintro e w1 ⟨rfl, rfl⟩))
    go_ret
    exact ⟨rfl, 0, rfl⟩
set_option maxRecDepth 100000 in
theorem Of_any (z : Int) (w : World) (h1 : -9223372036854775808 ≤ z) (h2 : z < 9223372036854775808) :
    Calls Tryz.prog 89 #[.int .i64 z] w fun e w' => ∃ u, e = .returned u ∧ (IsZ w' u z ∧ u ≠ .pointer none) ∧ Below w.heap.size w w' := by
  have O := Lib.hid (nat.Of_any z.natAbs w (by omega))
  by_cases h0 : z < 0
  · have N := Lib.hid (fun (w' : World) nv hn => New_any true nv z.natAbs w' hn)
    rw [show sgn true z.natAbs = z by unfold sgn; simp; omega] at N
    have e1 : ((z.natAbs : Nat) : Int) = -z := by omega
    have e2 : IntKind.u64.wrap (-IntKind.u64.wrap z) = -z := by rw [IntKind.wrap_u64, IntKind.wrap_u64]; omega
    rw [e1] at O
    go_enter Tryz.func89, Tryz.ntmps89
    go_wp2_with (first
      | (go_at_call 110; (with_reducible refine (O.out).mono ?_); rintro e w2 ⟨m, rfl, ⟨hm, -⟩, hb2⟩; have HM := Lib.hid hm; have HBl := Lib.hid hb2; clear O hm hb2)
      | (go_at_call 93; (with_reducible refine (N.out _ _ HM.out).mono ?_); rintro e w3 ⟨u, rfl, hu, hb⟩; have HU := Lib.hid hu; have HB := Lib.hid (HBl.out.trans (hb.mono HBl.out.size)); clear hu hb))
    go_ret
    exact ⟨_, rfl, HU.out, HB.out⟩
  · have N := Lib.hid (fun (w' : World) nv hn => New_any false nv z.natAbs w' hn)
    rw [show sgn false z.natAbs = z by unfold sgn; simp; omega] at N
    have e1 : ((z.natAbs : Nat) : Int) = z := by omega
    rw [e1] at O
    go_enter Tryz.func89, Tryz.ntmps89
    go_wp2_with (first
      | (go_at_call 110; (with_reducible refine (O.out).mono ?_); rintro e w2 ⟨m, rfl, ⟨hm, -⟩, hb2⟩; have HM := Lib.hid hm; have HBl := Lib.hid hb2; clear O hm hb2)
      | (go_at_call 93; (with_reducible refine (N.out _ _ HM.out).mono ?_); rintro e w3 ⟨u, rfl, hu, hb⟩; have HU := Lib.hid hu; have HB := Lib.hid (HBl.out.trans (hb.mono HBl.out.size)); clear hu hb))
    go_ret
    exact ⟨_, rfl, HU.out, HB.out⟩
end Go.Proofs.YtlhmfgbaefaneabGreatDoor.num
namespace Go.Proofs.YtlhmfgbaefaneabGreatDoor.num
open Go.RowKit Go.Proofs.YtlhmfgbaefaneabGreatDoor.nat
theorem fdiv_of {z y q r : Int} (h : r + y * q = z) (hr : (0 < y ∧ 0 ≤ r ∧ r < y) ∨ (y < 0 ∧ y < r ∧ r ≤ 0)) : z.fdiv y = q ∧ z.fmod y = r := by
  rcases hr with ⟨h1, h2⟩ | ⟨h1, h2⟩
  · exact (Int.fdiv_fmod_unique h1).2 ⟨h, h2⟩
  · exact (Int.fdiv_fmod_unique' h1).2 ⟨h, h2⟩
theorem floor_near {z y : Int} (hy : y ≠ 0) (h : decide (z < 0) = decide (y < 0) ∨ z.natAbs % y.natAbs = 0) :
    z.fdiv y = sgn (decide (z < 0) != decide (y < 0)) (z.natAbs / y.natAbs) ∧ z.fmod y = sgn (decide (y < 0)) (z.natAbs % y.natAbs) := by
  have hd : ((z.natAbs % y.natAbs : Nat) : Int) + (y.natAbs : Int) * ((z.natAbs / y.natAbs : Nat) : Int) = (z.natAbs : Int) := by
    rw [← Int.natCast_mul, ← Int.natCast_add, Nat.add_comm, Nat.div_add_mod]
  have hm : z.natAbs % y.natAbs < y.natAbs := Nat.mod_lt _ (by omega)
  generalize z.natAbs / y.natAbs = Q at *
  generalize z.natAbs % y.natAbs = R at *
  refine fdiv_of ?_ ?_
  · unfold sgn
    rcases Int.lt_or_le z 0 with h1 | h1 <;> rcases Int.lt_or_le y 0 with h2 | h2
    · have e1 : (y.natAbs : Int) = -y := by omega
      rw [e1] at hd
      simp [h1, h2]
      rw [Int.neg_mul] at hd
      omega
    · have e1 : (y.natAbs : Int) = y := by omega
      have h2' : ¬ y < 0 := by omega
      rw [e1] at hd
      simp [h1, h2'] at h ⊢
      rw [Int.mul_neg]
      omega
    · have e1 : (y.natAbs : Int) = -y := by omega
      have h1' : ¬ z < 0 := by omega
      rw [e1] at hd
      simp [h1', h2] at h ⊢
      rw [Int.neg_mul] at hd
      rw [Int.mul_neg]
      omega
    · have e1 : (y.natAbs : Int) = y := by omega
      have h1' : ¬ z < 0 := by omega
      have h2' : ¬ y < 0 := by omega
      rw [e1] at hd
      simp [h1', h2'] at h ⊢
      omega
  · unfold sgn
    by_cases h2 : y < 0 <;> simp [h2] <;> omega
theorem floor_past {z y : Int} (hy : y ≠ 0) (h : decide (z < 0) ≠ decide (y < 0)) (h0 : z.natAbs % y.natAbs ≠ 0) :
    z.fdiv y = sgn true (z.natAbs / y.natAbs + 1) ∧ z.fmod y = sgn (decide (y < 0)) (y.natAbs - z.natAbs % y.natAbs) := by
  have hd : ((z.natAbs % y.natAbs : Nat) : Int) + (y.natAbs : Int) * ((z.natAbs / y.natAbs : Nat) : Int) = (z.natAbs : Int) := by
    rw [← Int.natCast_mul, ← Int.natCast_add, Nat.add_comm, Nat.div_add_mod]
  have hm : z.natAbs % y.natAbs < y.natAbs := Nat.mod_lt _ (by omega)
  generalize z.natAbs / y.natAbs = Q at *
  generalize z.natAbs % y.natAbs = R at *
  refine fdiv_of ?_ ?_
  · unfold sgn
    by_cases h1 : z < 0 <;> by_cases h2 : y < 0
    · simp [h1, h2] at h
    · have e1 : (y.natAbs : Int) = y := by omega
      rw [e1] at hd
      simp [h2]
      rw [Int.mul_neg, Int.mul_add, Int.mul_one]
      omega
    · have e1 : (y.natAbs : Int) = -y := by omega
      rw [e1] at hd
      simp [h2]
      rw [Int.neg_mul] at hd
      rw [Int.mul_neg, Int.mul_add, Int.mul_one]
      omega
    · simp [h1, h2] at h
  · unfold sgn
    by_cases h2 : y < 0 <;> simp [h2] <;> omega
set_option maxRecDepth 100000 in
set_option maxHeartbeats 2000000 in
theorem Div_near (a b : Value) (z y : Int) (w : World) (ha : IsZ w a z) (hb : IsZ w b y) (hx : (digs z.natAbs).length ≤ 700000) (hy : (digs y.natAbs).length ≤ 700000) (h0 : y ≠ 0) (h : decide (z < 0) = decide (y < 0) ∨ z.natAbs % y.natAbs = 0) :
    Calls Tryz.prog 115 #[a, b] w fun e w' => ∃ q r, e = .returned (.tuple #[q, r, .nilIface]) ∧ (IsZ w' q (z.fdiv y) ∧ q ≠ .pointer none) ∧ (IsZ w' r (z.fmod y) ∧ r ≠ .pointer none) ∧ Below w.heap.size w w' := by
  have B1 := fun w' (h : Below w.heap.size w w') => isBelow_any a z w' (ha.below h)
  have B2 := fun w' (h : Below w.heap.size w w') => isBelow_any b y w' (hb.below h)
  have A1 := Lib.hid (amount_any a z w ha)
  have A2 := Lib.hid (amount_any b y w hb)
  have D := Lib.hid (fun na nb h1 h2 => nat.Div_ok na nb z.natAbs y.natAbs w h1 h2 (by omega) (by omega) (by omega))
  have Z := Lib.hid (fun (w' : World) r hr => Zero_any r (z.natAbs % y.natAbs) w' hr)
  have N1 := fun (w' : World) nv hn => New_any (decide (z < 0) != decide (y < 0)) nv (z.natAbs / y.natAbs) w' hn
  have N2 := fun (w' : World) nv hn => New_any (decide (y < 0)) nv (z.natAbs % y.natAbs) w' hn
  rw [← (floor_near h0 h).1] at N1
  rw [← (floor_near h0 h).2] at N2
  have HQ := Lib.hid h
  obtain ⟨b1, hb1⟩ : ∃ b1, decide (z < 0) = b1 := ⟨_, rfl⟩
  obtain ⟨b2, hb2⟩ : ∃ b2, decide (y < 0) = b2 := ⟨_, rfl⟩
  rw [hb1] at B1 N1 HQ
  rw [hb2] at B2 N1 N2 HQ
  have HB1 := Lib.hid B1
  have HB2 := Lib.hid B2
  have HN1 := Lib.hid N1
  have HN2 := Lib.hid N2
  generalize z.fdiv y = Q at *
  generalize z.fmod y = R at *
  have hbn : (!(b1 == b2)) = (b1 != b2) := rfl
  have hcase : (b1 != b2) = false ∨ ((b1 != b2) = true ∧ decide (z.natAbs % y.natAbs = 0) = true) := by
    rcases HQ.out with h | h
    · left; rw [h]; cases b2 <;> rfl
    · cases hc : (b1 != b2)
      · exact Or.inl rfl
      · exact Or.inr ⟨rfl, decide_eq_true h⟩
  clear ha hb B1 B2 N1 N2 hb1 hb2 h HQ
  generalize (b1 != b2) = d at *
  rcases hcase with rfl | ⟨rfl, hz0⟩
  · go_enter Tryz.func115, Tryz.ntmps115
    go_wp2_with (first
      | (go_at_call 95; (with_reducible refine (A1.out).mono ?_); rintro e w1 ⟨na, rfl, hn, rfl⟩; have HA1 := Lib.hid hn; clear A1 hn)
      | (go_at_call 95; (with_reducible refine (A2.out).mono ?_); rintro e w1 ⟨nb, rfl, hn, rfl⟩; have HA2 := Lib.hid hn; clear A2 hn)
      | (go_at_call 120; (with_reducible refine (D.out _ _ HA1.out HA2.out).mono ?_); rintro e w2 ⟨q, r, rfl, ⟨hq, -⟩, ⟨hr, -⟩, hb2⟩; have Hq := Lib.hid hq; have Hr := Lib.hid hr; have HBl := Lib.hid hb2; clear D hq hr hb2)
      | (go_at_call 94; (with_reducible refine (HB1.out _ HBl.out).mono ?_); rintro e w1 ⟨rfl, rfl⟩)
      | (go_at_call 94; (with_reducible refine (HB2.out _ HBl.out).mono ?_); rintro e w1 ⟨rfl, rfl⟩)
      | (go_at_call 93; (with_reducible refine (HN1.out _ _ Hq.out).mono ?_); rintro e w3 ⟨u, rfl, ⟨hu, hun⟩, hb⟩; have HU := Lib.hid hu; have HUn := Lib.hid hun; have HB3 := Lib.hid hb; have HBm := Lib.hid (HBl.out.trans (hb.mono HBl.out.size)); clear hu hun hb HN1)
      | (go_at_call 94; (with_reducible refine (HB2.out _ HBm.out).mono ?_); rintro e w1 ⟨rfl, rfl⟩)
      | (go_at_call 93; (with_reducible refine (HN2.out _ _ (Hr.out.below HB3.out)).mono ?_); rintro e w4 ⟨v, rfl, hv, hb⟩; have HV := Lib.hid hv; have HU4 := Lib.hid (HU.out.below hb); have HB := Lib.hid (HBm.out.trans (hb.mono HBm.out.size)); clear hv hb))
    go_ret3
    exact ⟨_, _, rfl, ⟨HU4.out, HUn.out⟩, HV.out, HB.out⟩
  · rw [hz0] at Z
    go_enter Tryz.func115, Tryz.ntmps115
    go_wp2_with (first
      | (go_at_call 95; (with_reducible refine (A1.out).mono ?_); rintro e w1 ⟨na, rfl, hn, rfl⟩; have HA1 := Lib.hid hn; clear A1 hn)
      | (go_at_call 95; (with_reducible refine (A2.out).mono ?_); rintro e w1 ⟨nb, rfl, hn, rfl⟩; have HA2 := Lib.hid hn; clear A2 hn)
      | (go_at_call 120; (with_reducible refine (D.out _ _ HA1.out HA2.out).mono ?_); rintro e w2 ⟨q, r, rfl, ⟨hq, -⟩, ⟨hr, -⟩, hb2⟩; have Hq := Lib.hid hq; have Hr := Lib.hid hr; have HBl := Lib.hid hb2; clear D hq hr hb2)
      | (go_at_call 94; (with_reducible refine (HB1.out _ HBl.out).mono ?_); rintro e w1 ⟨rfl, rfl⟩)
      | (go_at_call 94; (with_reducible refine (HB2.out _ HBl.out).mono ?_); rintro e w1 ⟨rfl, rfl⟩)
      | (go_at_call 109; (with_reducible refine (Z.out _ _ Hr.out).mono ?_); rintro e w1 ⟨rfl, rfl⟩; clear Z)
      | (go_at_call 93; (with_reducible refine (HN1.out _ _ Hq.out).mono ?_); rintro e w3 ⟨u, rfl, ⟨hu, hun⟩, hb⟩; have HU := Lib.hid hu; have HUn := Lib.hid hun; have HB3 := Lib.hid hb; have HBm := Lib.hid (HBl.out.trans (hb.mono HBl.out.size)); clear hu hun hb HN1)
      | (go_at_call 94; (with_reducible refine (HB2.out _ HBm.out).mono ?_); rintro e w1 ⟨rfl, rfl⟩)
      | (go_at_call 93; (with_reducible refine (HN2.out _ _ (Hr.out.below HB3.out)).mono ?_); rintro e w4 ⟨v, rfl, hv, hb⟩; have HV := Lib.hid hv; have HU4 := Lib.hid (HU.out.below hb); have HB := Lib.hid (HBm.out.trans (hb.mono HBm.out.size)); clear hv hb))
    go_ret3
    exact ⟨_, _, rfl, ⟨HU4.out, HUn.out⟩, HV.out, HB.out⟩
theorem Of_one (w : World) : Calls Tryz.prog 110 #[.int .u64 1] w fun e w' => ∃ v, e = .returned v ∧ (IsN w' v 1 ∧ v ≠ .pointer none) ∧ Below w.heap.size w w' := nat.Of_any 1 w (by omega)
set_option maxRecDepth 100000 in
set_option maxHeartbeats 2000000 in
theorem Div_past (a b : Value) (z y : Int) (w : World) (ha : IsZ w a z) (hb : IsZ w b y) (hx : (digs z.natAbs).length ≤ 700000) (hy : (digs y.natAbs).length ≤ 700000) (h0 : y ≠ 0) (h : decide (z < 0) ≠ decide (y < 0)) (hr0 : z.natAbs % y.natAbs ≠ 0) :
    Calls Tryz.prog 115 #[a, b] w fun e w' => ∃ q r, e = .returned (.tuple #[q, r, .nilIface]) ∧ (IsZ w' q (z.fdiv y) ∧ q ≠ .pointer none) ∧ (IsZ w' r (z.fmod y) ∧ r ≠ .pointer none) ∧ Below w.heap.size w w' := by
  have B1 := fun w' (h : Below w.heap.size w w') => isBelow_any a z w' (ha.below h)
  have B2 := fun w' (h : Below w.heap.size w w') => isBelow_any b y w' (hb.below h)
  have A1 := Lib.hid (amount_any a z w ha)
  have A2 := Lib.hid (fun w' (h : Below w.heap.size w w') => amount_any b y w' (hb.below h))
  have hq9 : (digs (z.natAbs / y.natAbs)).length ≤ 700000 := digs_le_len (Nat.div_le_self _ _) hx
  have D := Lib.hid (fun na nb h1 h2 => nat.Div_ok na nb z.natAbs y.natAbs w h1 h2 (by omega) (by omega) (by omega))
  have Z := Lib.hid (fun (w' : World) r hr => Zero_any r (z.natAbs % y.natAbs) w' hr)
  rw [decide_eq_false hr0] at Z
  have O := Lib.hid Of_one
  have P := Lib.hid (fun (w' : World) q o hq ho => nat.Add_any q o (z.natAbs / y.natAbs) 1 w' hq ho (by omega) (by rw [show digs 1 = [1] by decide +kernel]; simp))
  have S := Lib.hid (fun (w' : World) nb r hb hr => nat.Sub_ok nb r y.natAbs (z.natAbs % y.natAbs) w' hb hr (Nat.le_of_lt (Nat.mod_lt _ (by omega))) (by omega))
  have N1 := fun (w' : World) nv hn => New_any true nv (z.natAbs / y.natAbs + 1) w' hn
  have N2 := fun (w' : World) nv hn => New_any (decide (y < 0)) nv (y.natAbs - z.natAbs % y.natAbs) w' hn
  rw [← (floor_past h0 h hr0).1] at N1
  rw [← (floor_past h0 h hr0).2] at N2
  obtain ⟨b1, hb1⟩ : ∃ b1, decide (z < 0) = b1 := ⟨_, rfl⟩
  obtain ⟨b2, hb2⟩ : ∃ b2, decide (y < 0) = b2 := ⟨_, rfl⟩
  rw [hb1] at B1 h
  rw [hb2] at B2 N2 h
  have HB1 := Lib.hid B1
  have HB2 := Lib.hid B2
  have HN1 := Lib.hid N1
  have HN2 := Lib.hid N2
  generalize z.fdiv y = Q at *
  generalize z.fmod y = R at *
  have hbn : (!(b1 == b2)) = true := by simp [h]
  have hbb : (b1 == b2) = false := by simp [h]
  clear ha hb B1 B2 N1 N2 hb1 hb2 h hr0 hq9
  go_enter Tryz.func115, Tryz.ntmps115
  go_wp2_with (first
    | (go_at_call 95; (with_reducible refine (A1.out).mono ?_); rintro e w1 ⟨na, rfl, hn, rfl⟩; have HA1 := Lib.hid hn; clear A1 hn)
    | (go_at_call 95; (with_reducible refine (A2.out _ (Below.refl _ _)).mono ?_); rintro e w1 ⟨nb, rfl, hn, rfl⟩; have HA2 := Lib.hid hn; clear hn)
    | (go_at_call 120; (with_reducible refine (D.out _ _ HA1.out HA2.out).mono ?_); rintro e w2 ⟨q, r, rfl, ⟨hq, -⟩, ⟨hr, -⟩, hb2⟩; have Hq := Lib.hid hq; have Hr := Lib.hid hr; have HBl := Lib.hid hb2; clear D hq hr hb2 HA2)
    | (go_at_call 94; (with_reducible refine (HB1.out _ HBl.out).mono ?_); rintro e w1 ⟨rfl, rfl⟩)
    | (go_at_call 94; (with_reducible refine (HB2.out _ HBl.out).mono ?_); rintro e w1 ⟨rfl, rfl⟩)
    | (go_at_call 109; (with_reducible refine (Z.out _ _ Hr.out).mono ?_); rintro e w1 ⟨rfl, rfl⟩; clear Z)
    | (go_at_call 110; (with_reducible refine (O.out _).mono ?_); rintro e w3 ⟨o, rfl, ⟨ho, -⟩, hb⟩; have Ho := Lib.hid ho; have Hq3 := Lib.hid (Hq.out.below hb); have Hr3 := Lib.hid (Hr.out.below hb); have HB3 := Lib.hid (HBl.out.trans (hb.mono HBl.out.size)); clear ho hb O)
    | (go_at_call 126; (with_reducible refine (P.out _ _ _ Hq3.out Ho.out).mono ?_); rintro e w4 ⟨q4, rfl, ⟨hq, -⟩, hb⟩; have Hq4 := Lib.hid hq; have Hr4 := Lib.hid (Hr3.out.below hb); have HB4 := Lib.hid (HB3.out.trans (hb.mono HB3.out.size)); clear hq hb P)
    | (go_at_call 95; (with_reducible refine (A2.out _ HB4.out).mono ?_); rintro e w1 ⟨nb, rfl, hn, rfl⟩; have HA4 := Lib.hid hn; clear hn)
    | (go_at_call 143; (with_reducible refine (S.out _ _ _ HA4.out Hr4.out).mono ?_); rintro e w5 ⟨r5, rfl, ⟨hr, -⟩, hb⟩; have Hr5 := Lib.hid hr; have Hq5 := Lib.hid (Hq4.out.below hb); have HB5 := Lib.hid (HB4.out.trans (hb.mono HB4.out.size)); clear hr hb S)
    | (go_at_call 93; (with_reducible refine (HN1.out _ _ Hq5.out).mono ?_); rintro e w6 ⟨u, rfl, ⟨hu, hun⟩, hb⟩; have HU := Lib.hid hu; have HUn := Lib.hid hun; have Hr6 := Lib.hid (Hr5.out.below hb); have HB6 := Lib.hid (HB5.out.trans (hb.mono HB5.out.size)); clear hu hun hb HN1)
    | (go_at_call 94; (with_reducible refine (HB2.out _ HB6.out).mono ?_); rintro e w1 ⟨rfl, rfl⟩)
    | (go_at_call 93; (with_reducible refine (HN2.out _ _ Hr6.out).mono ?_); rintro e w7 ⟨v, rfl, hv, hb⟩; have HV := Lib.hid hv; have HU7 := Lib.hid (HU.out.below hb); have HB := Lib.hid (HB6.out.trans (hb.mono HB6.out.size)); clear hv hb))
  go_ret3
  exact ⟨_, _, rfl, ⟨HU7.out, HUn.out⟩, HV.out, HB.out⟩
theorem Div_any (a b : Value) (z y : Int) (w : World) (ha : IsZ w a z) (hb : IsZ w b y) (hx : (digs z.natAbs).length ≤ 700000) (hy : (digs y.natAbs).length ≤ 700000) (h0 : y ≠ 0) :
    Calls Tryz.prog 115 #[a, b] w fun e w' => ∃ q r, e = .returned (.tuple #[q, r, .nilIface]) ∧ (IsZ w' q (z.fdiv y) ∧ q ≠ .pointer none) ∧ (IsZ w' r (z.fmod y) ∧ r ≠ .pointer none) ∧ Below w.heap.size w w' := by
  by_cases h : decide (z < 0) = decide (y < 0) ∨ z.natAbs % y.natAbs = 0
  · exact Div_near a b z y w ha hb hx hy h0 h
  · exact Div_past a b z y w ha hb hx hy h0 (fun e => h (Or.inl e)) (fun e => h (Or.inr e))
end Go.Proofs.YtlhmfgbaefaneabGreatDoor.num
namespace Go.Proofs.YtlhmfgbaefaneabGreatDoor.num
open Go.RowKit Go.Proofs.YtlhmfgbaefaneabGreatDoor.nat
set_option maxRecDepth 100000 in
set_option maxHeartbeats 2000000 in
theorem Small_in (a : Value) (z : Int) (w : World) (ha : IsZ w a z) (h1 : -9223372036854775808 ≤ z) (h2 : z < 9223372036854775808) :
    Calls Tryz.prog 159 #[a] w fun e w' => e = .returned (.tuple #[.int .i64 z, .bool true]) ∧ w = w' := by
  have B := isBelow_any a z w ha
  have A := Lib.hid (amount_any a z w ha)
  have S := fun na hn => nat.Small_any na z.natAbs w hn
  rw [if_pos (by omega), decide_eq_true (by omega : z.natAbs < 18446744073709551616)] at S
  by_cases h0 : z < 0
  · have e1 : ((z.natAbs : Nat) : Int) = -z := by omega
    have E2 := Lib.hid (show wrap64 (IntKind.u64.wrap z) = z by rw [IntKind.wrap_u64]; unfold wrap64; omega)
    rw [e1] at S
    rw [decide_eq_true h0] at B
    have HB := Lib.hid B
    have HS := Lib.hid S
    clear ha B S e1
    go_enter Tryz.func159, Tryz.ntmps159
    go_wp2_with (first
      | (go_at_call 95; (with_reducible refine (A.out).mono ?_); rintro e w1 ⟨na, rfl, hn, rfl⟩; have HN := Lib.hid hn; clear A hn)
      | (go_at_call 194; (with_reducible refine (HS.out _ HN.out).mono ?_); rintro e w1 ⟨rfl, rfl⟩; clear HS)
      | (go_at_call 94; (with_reducible refine (HB.out).mono ?_); rintro e w1 ⟨rfl, rfl⟩))
    go_ret2
    refine ⟨?_, rfl⟩
    show Ending.returned (.tuple #[.int .i64 (wrap64 (IntKind.u64.wrap z)), .bool true]) = _
    rw [E2.out]
  · have e1 : ((z.natAbs : Nat) : Int) = z := by omega
    rw [e1] at S
    rw [decide_eq_false h0] at B
    have HB := Lib.hid B
    have HS := Lib.hid S
    clear ha B S e1
    go_enter Tryz.func159, Tryz.ntmps159
    go_wp2_with (first
      | (go_at_call 95; (with_reducible refine (A.out).mono ?_); rintro e w1 ⟨na, rfl, hn, rfl⟩; have HN := Lib.hid hn; clear A hn)
      | (go_at_call 194; (with_reducible refine (HS.out _ HN.out).mono ?_); rintro e w1 ⟨rfl, rfl⟩; clear HS)
      | (go_at_call 94; (with_reducible refine (HB.out).mono ?_); rintro e w1 ⟨rfl, rfl⟩))
    go_ret2
    exact ⟨rfl, rfl⟩
end Go.Proofs.YtlhmfgbaefaneabGreatDoor.num
