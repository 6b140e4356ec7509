/-
  The steps of the walks, part 16: Get, Meth3, Facts, As, AsJoin, AsTop.
-/
import Derived.Laws.MakeOwn
import Derived.Test.YtfpooimjjpamoaaGreatDoorProg
import Derived.WalkKit
import Derived.LaidEql
import Derived.LaidEqlPtr
import Derived.Lib.IfaceEq
import Derived.Stop.Asserts
import Derived.Stop.IfaceNil
import Derived.WalkSpells
import Derived.RowKitTokens
import Derived.Below
import Derived.Carry
import Derived.Lib.Hide
import Derived.Outline
import Derived.Test.YtfpooimjjpamoaaGreatDoorS15
import Derived.Test.YtfpooimjjpamoaaGreatDoorS10
import Derived.Test.YtfpooimjjpamoaaGreatDoorS14
namespace Go.Proofs.YtfpooimjjpamoaaGreatDoor.nat
open Go.RowKit
open Go.Proofs.YtfpooimjjpamoaaGreatDoor.ref (str str_size ch seg IsDig Numeral seg_lt seg_add)
theorem ch_part {l : List UInt8} {k m i : Nat} (h : i < m) : ch ((l.drop k).take m) i = ch l (k + i) := by
  unfold ch
  rw [List.getD_eq_getElem?_getD, List.getD_eq_getElem?_getD, List.getElem?_take_of_lt h, List.getElem?_drop]
theorem seg_part {l : List UInt8} {k m : Nat} : ∀ j, j ≤ m → seg ((l.drop k).take m) 0 j = seg l k j
  | 0, _ => rfl
  | j + 1, h => by rw [seg, seg, seg_part j (by omega), Nat.zero_add, ch_part (by omega)]
theorem str_extract (l : List UInt8) (m : Nat) : (str l).extract 0 m = str (l.take m) := by
  apply ByteArray.ext
  simp [str]
theorem str_from (l : List UInt8) (m : Nat) : (str l).extract m l.length = str (l.drop m) := by
  apply ByteArray.ext
  simp [str, List.take_of_length_le]
theorem scale_ten {B : Nat} (sv : Value) (z : List Nat) (more : Nat) (w : World) (hO : w.ownsRow B 45 1 sv z.length (z.map fun d => Value.int .u64 (d : Nat))) (hdz : Dig z) (hm : more < 18446744073709551616) (hn : z.length ≤ 4000000) :
    Calls Tryz.prog 119 #[sv, .int .u64 10000000000000000000, .int .u64 (more : Nat)] w fun e w' => ∃ (z' : List Nat) (a : Nat), e = .returned (.int .u64 (a : Nat)) ∧ (z'.length = z.length ∧ Dig z' ∧ val z' + 18446744073709551616 ^ z.length * a = val z * 10 ^ 19 + more ∧ a < 18446744073709551616 ∧ w'.ownsRow B 45 1 sv z'.length (z'.map fun d => Value.int .u64 (d : Nat))) ∧ w.grownBy w' sv.ownBlock := by
  have h := scale_own sv z 9999999999999999999 more w hO hdz (by omega) hm hn
  rw [show ((9999999999999999999 : Nat) : Int) + 1 = 10000000000000000000 from rfl, show 9999999999999999999 + 1 = 10 ^ 19 from rfl] at h
  exact h
def KRel (w : World) (l : List UInt8) (sv nv : Value) (wr : World) : Prop :=
  ∃ (k : Nat) (z : List Nat), sv = .string (str (l.drop k)) ∧ k ≤ l.length ∧ z.length ≤ k ∧ (k = 0 ∨ (l.length - k) % 19 = 0) ∧ wr.ownsRow w.heap.size 45 1 nv z.length (z.map fun d => Value.int .u64 (d : Nat)) ∧ Below w.heap.size w wr ∧ Dig z ∧ val z = seg l 0 k
theorem KRel.next {w wr : World} {l : List UInt8} {nv : Value} {k m n : Nat} {z z' : List Nat} {a : Nat} (hk : k + m ≤ l.length) (hm : 0 < m) (hz : z.length ≤ k) (hl : z'.length = z.length) (hd : Dig z') (ha : a < 18446744073709551616)
    (h1 : k = 0 ∨ m = 19) (h2 : (l.length - (k + m)) % 19 = 0) (hv : val z = seg l 0 k) (he : val z' + 18446744073709551616 ^ z.length * a = val z * 10 ^ 19 + seg l k m) (hn : n = z'.length + 1)
    (ho : wr.ownsRow w.heap.size 45 1 nv n ((z' ++ [a]).map fun d => Value.int .u64 (d : Nat))) (hb : Below w.heap.size w wr) : KRel w l (.string (str ((l.drop k).drop m))) nv wr := by
  refine ⟨k + m, z' ++ [a], by rw [List.drop_drop], hk, by simp; omega, Or.inr h2, by rw [show (z' ++ [a]).length = n by simp [hn]]; exact ho, hb, hd.append (Dig.nil.cons ha), ?_⟩
  rw [val_snoc, hl, he, seg_add, Nat.zero_add, hv]
  rcases h1 with rfl | rfl
  · simp [seg]
  · rfl
set_option maxRecDepth 100000 in
set_option maxHeartbeats 4000000 in
theorem Get_ok (l : List UInt8) (w : World) (h : Numeral l) :
    Calls Tryz.prog 44 #[.string (str l)] w fun e w' => ∃ v, e = .returned (.tuple #[v, .nilIface]) ∧ (IsN w' v (seg l 0 l.length) ∧ v ≠ .pointer none) ∧ Below w.heap.size w w' := by
  have hdec : (@decide (Numeral l) (Classical.propDecidable _)) = true := @decide_eq_true _ (Classical.propDecidable _) h
  have hNu := isNumber_any l w (by have := h.2.1; omega)
  rw [hdec] at hNu
  have HNu := Lib.hid hNu
  obtain ⟨h1, h2, h3, h4⟩ := h
  have HD := Lib.hid h4
  have hz : (str l).size = l.length := str_size l
  obtain ⟨n, hn⟩ : ∃ n, l.length = n := ⟨_, rfl⟩
  have HN := Lib.hid hn
  have HS := Lib.hid (show str l = str (l.drop 0) from rfl)
  rw [hn] at hz h1 h2
  generalize hs : str l = s at hz HNu HS
  clear hNu hdec h3 h4 hn hs
  obtain ⟨i0, hi0, hz0, hz1, hz2⟩ := info_parts infoU64
  obtain ⟨w1, hmk, hown, hgr⟩ := run_make_own (P := Tryz.prog) w w.heap.size 24 45 i0 (.int .u64 0) 1 Tryz.underlying24 hi0 hz0 hz1 .i64 .i64 (n / 19 + 1) (by rw [hz2]; omega) (by unfold maxLen; omega) (Nat.le_refl _)
  rw [show (((n / 19 + 1 : Nat)) : Int) = (n : Int) / 19 + 1 by omega] at hmk
  generalize hc : n / 19 + 1 = C at hmk hown
  have HK := Lib.hid (show KRel w l (.string s) (.slice (some ⟨w.heap.size, 0, none⟩) 0 C) w1 from ⟨0, [], by rw [HS.out], Nat.zero_le _, Nat.le_refl _, Or.inl rfl, hown, (Below.refl _ _).grown hgr (Nat.le_refl _) (fun k hk => by cases hk), Dig.nil, rfl⟩)
  clear hown hgr i0 hi0 hz0 hz1 hz2 hc
  go_enter Tryz.func44, Tryz.ntmps44
  go_wp2_with (go_at_call 118; refine (HNu.out).mono ?_; rintro e w1 ⟨rfl, rfl⟩)
  go_loopw [0, 4] (fun sv nv wr => KRel w l sv nv wr) (fun sv _ _ => match sv with | .string b => b.size | _ => 0)
  case atStart => exact HK.out
  case round =>
    obtain ⟨k, z, rfl, hk, hz1, h19, hown, hbe, hdz, hv⟩ := hrel
    have hsz : (str (l.drop k)).size = n - k := by rw [str_size, List.length_drop, HN.out]
    rw [HN.out] at hk h19
    by_cases hlt : k < n
    · obtain ⟨r, hr⟩ : ∃ r, r = n - k := ⟨_, rfl⟩
      obtain ⟨m, hm⟩ : ∃ m, m = (r - 1) % 19 + 1 := ⟨_, rfl⟩
      have hmi : ((r : Int) - 1) % 19 + 1 = (m : Int) := by omega
      have hkl : (l.drop k).length = r := by rw [List.length_drop, HN.out]; omega
      have hml : ((l.drop k).take m).length = m := by rw [List.length_take, hkl]; omega
      have hval := value_any ((l.drop k).take m) wr (by rw [hml]; omega) (fun i hi => by
        rw [hml] at hi
        unfold IsDig
        rw [ch_part hi]
        exact HD.out (k + i) (by rw [HN.out]; omega))
      rw [hml, seg_part m (Nat.le_refl _), ← str_extract] at hval
      have hvl := seg_lt (l := l) (st := k) (m := m) fun i h1 h2 => HD.out i (by rw [HN.out]; omega)
      have hp : 10 ^ m ≤ 10 ^ 19 := Nat.pow_le_pow_right (by omega) (by omega)
      have hvb : seg l k m < 18446744073709551616 := by omega
      have hfrom := str_from (l.drop k) m
      rw [hkl] at hfrom
      have HSc := Lib.hid (scale_ten u4 z (seg l k m) wr hown hdz hvb (by omega))
      have HNX := Lib.hid (fun nv n z' a wr' hl hd ha he hn ho hb => KRel.next (w := w) (wr := wr') (l := l) (nv := nv) (k := k) (m := m) (n := n) (z := z) (z' := z') (a := a) (by rw [HN.out]; omega) (by omega) hz1 hl hd ha (by omega) (by rw [HN.out]; omega) hv he hn ho hb)
      have HB := Lib.hid hbe
      have HZ := Lib.hid hz1
      have HVal := Lib.hid hval
      have HFrom := Lib.hid hfrom
      have hts : (str (l.drop k)).size = r := by rw [hsz, hr]
      have hr0 : (0 : Int) < (r : Int) := by omega
      have hmr : m ≤ r := by omega
      have hr4 : r ≤ 4000 := by omega
      have hr1 : (0 : Int) ≤ (r : Int) - 1 := by omega
      have hm19 : m ≤ 19 := by omega
      have hm0 : 0 < m := by omega
      generalize str (l.drop k) = t at *
      generalize seg l k m = v at *
      have HM := Lib.hid hm
      have HRr := Lib.hid hr
      clear hval hfrom hkl hml hv hown hbe hdz hvl hp hvb hsz hz1 h19 hm HK hmk HS hr
      have hwb := HB.out.size
      go_wp2_with (first
        | (go_at_call 120; with_reducible refine (HVal.out).mono ?_; rintro e w2 ⟨rfl, rfl⟩)
        | (go_at_call 119; with_reducible refine (HSc.out).mono ?_; rintro e w2 ⟨z', a, rfl, ⟨hl, hd, he, ha, ho⟩, hg⟩
           have HHg := Lib.hid hg
           have HL := Lib.hid hl
           have HD' := Lib.hid hd
           have HE := Lib.hid he
           have HA := Lib.hid ha
           have HO := Lib.hid ho
           have hb2 := HB.out.grown hg hwb (fun b hb => (World.ownsRow.lt ho b hb).1)
           have HB2 := Lib.hid hb2
           have hwb2 := hb2.size
           have HO2 := Lib.hid (ho.alloc (.cells #[Value.int .u64 (a : Nat)] 45))
           have HLit := Lib.hid (word_own (w := w2) (d := a) (B := w2.heap.size) (Nat.le_refl _)).rd
           clear hg hl hd he ha ho hb2 HSc)
        | (at_builtin; refine wpList_append_rd rfl _ _ rfl w.heap.size _ _ z' [a] rfl HO2.out rfl HLit.out ?c1 ?c2 ?_))
      case c1 => rw [HL.out]; have := HZ.out; simp; omega
      case c2 => simp; omega
      intro v' w3 hown hg3
      have hb3 := (HB2.out.alloc hwb2 (.cells #[Value.int .u64 (a : Nat)] 45)).grown hg3 (by simp; omega) (fun b hb => (World.ownsRow.lt HO2.out b hb).1)
      have HK3 := Lib.hid (HNX.out v' (z'.length + 1) z' a w3 HL.out HD'.out HA.out HE.out rfl (by simpa using hown) hb3)
      clear hown hg3 hb3 HLit HO2 HO HHg
      go_wp2
      refine ⟨?_, ?_⟩
      · have := HK3.out
        rw [← HFrom.out] at this
        exact this
      · simp [ByteArray.size_extract]
        omega
    · obtain rfl : k = n := by omega
      have HT := Lib.hid (own_any u4 z wr (Own.of_owns hown).rd hdz (by omega))
      have HV := Lib.hid hv
      have HB := Lib.hid hbe
      clear hv hbe hown hdz HK hmk h19
      have hts : (str (l.drop k)).size = 0 := by omega
      generalize str (l.drop k) = t at *
      clear hsz
      go_wp2_with (go_at_call 104; with_reducible refine (HT.out).mono ?_; rintro e w2 ⟨v, rfl, ⟨hi, hnv⟩, hb⟩; have HI := Lib.hid hi; have HNv := Lib.hid hnv; have HB2 := Lib.hid (below_trans' HB.out HB.out.size hb); clear hi hb hnv)
      go_ret2
      refine ⟨_, rfl, ⟨?_, HNv.out⟩, HB2.out⟩
      have := HI.out
      rw [HV.out] at this
      rw [HN.out]
      exact this
end Go.Proofs.YtfpooimjjpamoaaGreatDoor.nat
namespace Go.Proofs.YtfpooimjjpamoaaGreatDoor.nat
open Go.RowKit
open Go.Proofs.YtfpooimjjpamoaaGreatDoor.ref (str str_size Numeral)
def OfC (c : Int) (P : World → Value → World → Prop) : Prop := ∀ w, Calls Tryz.prog 103 #[.int .i64 c] w fun e w' => ∃ v, e = .returned v ∧ P w v w'
set_option maxRecDepth 100000 in
theorem Get_bad {P : World → Value → World → Prop} (hP : OfC 1 P) (l : List UInt8) (w : World) (h : ¬ Numeral l) (hl : l.length ≤ 4611686018427387904) :
    Calls Tryz.prog 44 #[.string (str l)] w fun e w' => ∃ v, e = .returned (.tuple #[.pointer none, v]) ∧ P w v w' := by
  have hdec : (@decide (Numeral l) (Classical.propDecidable _)) = false := @decide_eq_false _ (Classical.propDecidable _) h
  have hNu := isNumber_any l w hl
  rw [hdec] at hNu
  have HNu := Lib.hid hNu
  have HP := Lib.hid (hP w)
  generalize str l = s at *
  clear hNu hdec h
  go_enter Tryz.func44, Tryz.ntmps44
  go_wp2_with (first
    | (go_at_call 118; refine (HNu.out).mono ?_; rintro e w1 ⟨rfl, rfl⟩)
    | (go_at_call 103; refine (HP.out).mono ?_; rintro e w2 ⟨v, rfl, hp⟩))
  go_ret2
  exact ⟨_, rfl, hp⟩
set_option maxRecDepth 100000 in
theorem Sub_bad {P : World → Value → World → Prop} (hP : OfC 2 P) (a b : Value) (X Y : Nat) (w : World) (ha : IsN w a X) (hb : IsN w b Y) (hlt : X < Y) (hx : (digs X).length ≤ 900000) (hy : (digs Y).length ≤ 900000) :
    Calls Tryz.prog 27 #[a, b] w fun e w' => ∃ v m, e = .returned (.tuple #[.pointer none, v]) ∧ P (w.drewN m) v w' := by
  have CM := Lib.hid (Cmp_any a b X Y w ha hb (by omega) (by omega))
  obtain ⟨c, hc⟩ : ∃ c, c = cmp3 (X : Nat) (Y : Nat) := ⟨_, rfl⟩
  have hc0 : c < 0 := by
    rw [hc]
    unfold cmp3
    rw [if_pos (by omega)]
    omega
  rw [← hc] at CM
  have HP := Lib.hid hP
  clear ha hb hc
  go_enter Tryz.func27, Tryz.ntmps27
  go_wp2_with (first
    | (go_at_call 39; refine (CM.out).mono ?_; rintro e w1 ⟨rfl, m, rfl⟩; clear CM)
    | (go_at_call 103; refine (HP.out _).mono ?_; rintro e w2 ⟨v, rfl, hp⟩))
  go_ret2
  exact ⟨_, m, rfl, hp⟩
set_option maxRecDepth 100000 in
theorem Div_bad {P : World → Value → World → Prop} (hP : OfC 3 P) (a b : Value) (w : World) (hb : IsN w b 0) :
    Calls Tryz.prog 33 #[a, b] w fun e w' => ∃ v, e = .returned (.tuple #[.pointer none, .pointer none, v]) ∧ P w v w' := by
  have Z := Lib.hid (Zero_any b 0 w hb)
  have HP := Lib.hid (hP w)
  clear hb
  go_enter Tryz.func33, Tryz.ntmps33
  go_wp2_with (first
    | (go_at_call 42; refine (Z.out).mono ?_; rintro e w1 ⟨rfl, rfl⟩; clear Z)
    | (go_at_call 103; refine (HP.out).mono ?_; rintro e w2 ⟨v, rfl, hp⟩))
  go_ret3
  exact ⟨_, rfl, hp⟩
set_option maxRecDepth 100000 in
theorem Div_ok (a b : Value) (X Y : Nat) (w : World) (ha : IsN w a X) (hb : IsN w b Y) (h0 : 0 < Y) (hx : (digs X).length ≤ 900000) (hy : (digs Y).length ≤ 900000) :
    Calls Tryz.prog 33 #[a, b] w fun e w' => ∃ q r, e = .returned (.tuple #[q, r, .nilIface]) ∧ (IsN w' q (X / Y) ∧ q ≠ .pointer none) ∧ (IsN w' r (X % Y) ∧ r ≠ .pointer none) ∧ Below w.heap.size w w' := by
  have Z := Zero_any b Y w hb
  rw [decide_eq_false (by omega : ¬ Y = 0)] at Z
  have HZ := Lib.hid Z
  have L1 := Lib.hid (list_any a X w ha)
  have L2 := Lib.hid (list_any b Y w hb)
  have hyn : digs Y ≠ [] := by
    intro h
    have := val_digs Y
    rw [h] at this
    simp [val] at this
    omega
  have hq : (digs (X / Y)).length ≤ 900000 := digs_le_len (Nat.div_le_self _ _) hx
  have hr : (digs (X % Y)).length ≤ 900000 := digs_le_len (Nat.mod_le _ _) hx
  clear ha hb Z h0
  go_enter Tryz.func33, Tryz.ntmps33
  go_wp2_with (first
    | (go_at_call 42; refine (HZ.out).mono ?_; rintro e w1 ⟨rfl, rfl⟩; clear HZ)
    | (go_at_call 106; refine (L1.out).mono ?_; rintro e w1 ⟨sa, rfl, ha, rfl⟩; have HA := Lib.hid ha; clear L1 ha)
    | (go_at_call 106; refine (L2.out).mono ?_; rintro e w1 ⟨sb, rfl, hb, rfl⟩
       have C := Lib.hid (divide_any sa sb _ _ _ HA.out hb (norm_digs X) (norm_digs Y) hyn hx hy)
       rw [val_digs, val_digs] at C
       clear L2 hb)
    | (go_at_call 112; refine (C.out).mono ?_; rintro e w2 ⟨sq, sr, rfl, ⟨hoq, hor⟩, hb2⟩
       have O1 := Lib.hid (own_any sq _ w2 hoq.rd (norm_digs _).1 (by omega))
       have O2 := Lib.hid (fun w3 (h3 : Below w2.heap.size w2 w3) => own_any sr _ w3 (hor.rd.below h3) (norm_digs _).1 (by omega))
       rw [val_digs] at O1
       rw [val_digs] at O2
       have HB2 := Lib.hid hb2
       clear C hoq hor hb2)
    | (go_at_call 104; refine (O1.out).mono ?_; rintro e w3 ⟨q, rfl, ⟨hi, hn⟩, hb3⟩
       have HI := Lib.hid hi
       have HN := Lib.hid hn
       have O3 := Lib.hid (O2.out w3 hb3)
       have HB3 := Lib.hid (HB2.out.trans (hb3.mono HB2.out.size))
       clear O1 O2 hi hn hb3)
    | (go_at_call 104; refine (O3.out).mono ?_; rintro e w4 ⟨r, rfl, ⟨hi, hn⟩, hb4⟩
       have HI2 := Lib.hid (HI.out.below hb4)
       have HB4 := Lib.hid (HB3.out.trans (hb4.mono HB3.out.size))
       have HJ := Lib.hid (And.intro hi hn)
       clear O3 hi hn hb4))
  go_ret3
  exact ⟨_, _, rfl, ⟨HI2.out, HN.out⟩, HJ.out, HB4.out⟩
end Go.Proofs.YtfpooimjjpamoaaGreatDoor.nat
namespace Go.Proofs.YtfpooimjjpamoaaGreatDoor.flt
open Go.RowKit Go.Extern.Stop Go.Stop Go.Extern
theorem valueOfPP (t : Addr) (w : World) : (ReflectliteValue.unpack (.iface 205 (.pointer (some t)))).run Tryz.prog w
    = .ok (.agg #[.pointer (some ⟨9, 205, none⟩), .pointer (some ⟨w.heap.size, 0, none⟩), .int .u64 150]) (w.alloc (.cells #[.pointer (some t)] 205)) := by kernel_rfl
theorem typePP (a : Addr) (w : World) : (ReflectliteValue.methodAny (ReflectliteValue.valueError "reflectlite.Value.Type" 0) (fun t _ _ _ => ReflectliteType.toType t) #[.agg #[.pointer (some ⟨9, 205, none⟩), .pointer (some a), .int .u64 150]]).run Tryz.prog w
    = .ok (.iface 251 (.agg #[.pointer (some ⟨9, 205, none⟩)])) w := by kernel_rfl
theorem methodKind (h : Value) (w : World) : (Go.method 417 251 (.agg #[h]) "Kind").run Tryz.prog w = .ok (247, h) w := by kernel_rfl
theorem kindPP (w : World) : ((ReflectliteType.abiMethod fun t => (fun a : Nat => Value.int IntKind.u8 (a : Int)) <$> Rtype.kind t) #[.pointer (some ⟨9, 205, none⟩)]).run Tryz.prog w = .ok (.int .u8 22) w := by kernel_rfl
theorem kindP (w : World) : ((ReflectliteType.abiMethod fun t => (fun a : Nat => Value.int IntKind.u8 (a : Int)) <$> Rtype.kind t) #[.pointer (some ⟨9, 173, none⟩)]).run Tryz.prog w = .ok (.int .u8 22) w := by kernel_rfl
theorem rlm (z : Sem Value) (f : TypeId → Addr → Nat → Nat → Sem Value) (v : Value) :
    ReflectliteValue.method z f #[v] = (do match ← ReflectliteValue.parts v with | none => z | some (t, a, fl) => f t a fl (fl % 32)) := rfl
theorem partsPP (a : Addr) (w : World) : (ReflectliteValue.parts (.agg #[.pointer (some ⟨9, 205, none⟩), .pointer (some a), .int .u64 150])).run Tryz.prog w = .ok (some (205, a, 150)) w := by kernel_rfl
theorem isNilPP (a p : Addr) (W : World) (ha : W.cell? a = some (.pointer (some p))) :
    (ReflectliteValue.method (ReflectliteValue.valueError "reflectlite.Value.IsNil" 0) ReflectliteValue.isNil #[.agg #[.pointer (some ⟨9, 205, none⟩), .pointer (some a), .int .u64 150]]).run Tryz.prog W = .ok (.bool false) W := by
  rw [rlm]
  simp only [Sem.run_bind, partsPP, Result.andThen]
  simp [ReflectliteValue.isNil, loadVar, isAgg, underlying, Tryz.underlying205, ha, Result.andThen]
theorem methodElem (h : Value) (w : World) : (Go.method 417 251 (.agg #[h]) "Elem").run Tryz.prog w = .ok (277, .agg #[h]) w := by kernel_rfl
theorem methodImplements (h : Value) (w : World) : (Go.method 417 251 (.agg #[h]) "Implements").run Tryz.prog w = .ok (278, .agg #[h]) w := by kernel_rfl
theorem methodAssignableTo (h : Value) (w : World) : (Go.method 417 251 (.agg #[h]) "AssignableTo").run Tryz.prog w = .ok (275, .agg #[h]) w := by kernel_rfl
theorem methodComparable (h : Value) (w : World) : (Go.method 417 251 (.agg #[h]) "Comparable").run Tryz.prog w = .ok (276, .agg #[h]) w := by kernel_rfl
theorem elemPP (w : World) : (ReflectliteType.method ReflectliteType.elem #[.agg #[.pointer (some ⟨9, 205, none⟩)]]).run Tryz.prog w = .ok (.iface 251 (.agg #[.pointer (some ⟨9, 173, none⟩)])) w := by kernel_rfl
theorem implementsP (w : World) : (ReflectliteType.relation "Implements" ReflectliteType.implements_ #[.agg #[.pointer (some ⟨9, 173, none⟩)], .iface 251 (.agg #[.pointer (some ⟨9, 29, none⟩)])]).run Tryz.prog w = .ok (.bool true) w := by kernel_rfl
theorem typeOfP (v : Value) (w : World) : (ReflectliteType.typeOf #[.iface 173 v]).run Tryz.prog w = .ok (.iface 251 (.agg #[.pointer (some ⟨9, 173, none⟩)])) w := by kernel_rfl
theorem typeOfL (v : Value) (w : World) : (ReflectliteType.typeOf #[.iface 171 v]).run Tryz.prog w = .ok (.iface 251 (.agg #[.pointer (some ⟨9, 171, none⟩)])) w := by kernel_rfl
theorem typeOfS (v : Value) (w : World) : (ReflectliteType.typeOf #[.iface 275 v]).run Tryz.prog w = .ok (.iface 251 (.agg #[.pointer (some ⟨9, 275, none⟩)])) w := by kernel_rfl
theorem assignP (w : World) : (ReflectliteType.relation "AssignableTo" ReflectliteType.assignableTo #[.agg #[.pointer (some ⟨9, 173, none⟩)], .iface 251 (.agg #[.pointer (some ⟨9, 173, none⟩)])]).run Tryz.prog w = .ok (.bool true) w := by kernel_rfl
theorem assignL (w : World) : (ReflectliteType.relation "AssignableTo" ReflectliteType.assignableTo #[.agg #[.pointer (some ⟨9, 171, none⟩)], .iface 251 (.agg #[.pointer (some ⟨9, 173, none⟩)])]).run Tryz.prog w = .ok (.bool false) w := by kernel_rfl
theorem assignS (w : World) : (ReflectliteType.relation "AssignableTo" ReflectliteType.assignableTo #[.agg #[.pointer (some ⟨9, 275, none⟩)], .iface 251 (.agg #[.pointer (some ⟨9, 173, none⟩)])]).run Tryz.prog w = .ok (.bool false) w := by kernel_rfl
theorem valueOfP (e : Addr) (w : World) : (ReflectliteValue.unpack (.iface 173 (.pointer (some e)))).run Tryz.prog w
    = .ok (.agg #[.pointer (some ⟨9, 173, none⟩), .pointer (some ⟨w.heap.size, 0, none⟩), .int .u64 150]) (w.alloc (.cells #[.pointer (some e)] 173)) := by kernel_rfl
theorem elemOfPP (w : World) : (Rtype.elem? 205).run Tryz.prog w = .ok (some 173) w := by kernel_rfl
theorem mkP (p : Addr) (w : World) : (ReflectliteValue.mk 173 p ReflectliteValue.flagAddr).run Tryz.prog w = .ok (.agg #[.pointer (some ⟨9, 173, none⟩), .pointer (some p), .int .u64 406]) w := by kernel_rfl
theorem elemV (a p : Addr) (W : World) (ha : W.cell? a = some (.pointer (some p))) :
    (ReflectliteValue.method (ReflectliteValue.valueError "reflectlite.Value.Elem" 0) ReflectliteValue.elem #[.agg #[.pointer (some ⟨9, 205, none⟩), .pointer (some a), .int .u64 150]]).run Tryz.prog W
      = .ok (.agg #[.pointer (some ⟨9, 173, none⟩), .pointer (some p), .int .u64 406]) W := by
  rw [rlm]
  simp only [Sem.run_bind, partsPP, Result.andThen]
  simp [ReflectliteValue.elem, loadVar, isAgg, underlying, Tryz.underlying205, ha, Result.andThen, elemOfPP, mkP]
theorem rls (v x : Value) : ReflectliteValue.set #[v, x] = (do
    let (some (dst, a, fl), some (src, b, _)) := (← ReflectliteValue.parts v, ← ReflectliteValue.parts x)
      | unsupported (.noEntry "extern/(internal/reflectlite.Value).Set.zeroValue")
    if fl / ReflectliteValue.flagAddr % 2 == 0 then unsupported (.noEntry "extern/(internal/reflectlite.Value).Set.unaddressable")
    let val ← loadVar src b
    if ← Rtype.directlyAssignable dst src then storeVar dst a val
    else if ← Rtype.implements dst src then
      if (← Rtype.kind src) == 20 then
        match val with
        | .nilIface => unsupported (.noEntry "extern/reflectlite: a nil value of one interface type handed on as a value of another")
        | _ => storeVar dst a val
      else storeVar dst a (.iface src val)
    else panicString ("reflectlite.Set: value of type " ++ (← Rtype.spelt src) ++ " is not assignable to type " ++ (← Rtype.spelt dst))
    pure (.tuple #[])) := rfl
theorem partsPa (a : Addr) (w : World) : (ReflectliteValue.parts (.agg #[.pointer (some ⟨9, 173, none⟩), .pointer (some a), .int .u64 406])).run Tryz.prog w = .ok (some (173, a, 406)) w := by kernel_rfl
theorem partsP (a : Addr) (w : World) : (ReflectliteValue.parts (.agg #[.pointer (some ⟨9, 173, none⟩), .pointer (some a), .int .u64 150])).run Tryz.prog w = .ok (some (173, a, 150)) w := by kernel_rfl
theorem directP (w : World) : (Rtype.directlyAssignable 173 173).run Tryz.prog w = .ok true w := by kernel_rfl
theorem setP (ta b e : Addr) (old : Value) (W : World) (hb : W.cell? b = some (.pointer (some e))) (ht : W.cell? ta = some old) (hf : W.frozen? ta = false) :
    (ReflectliteValue.set #[.agg #[.pointer (some ⟨9, 173, none⟩), .pointer (some ta), .int .u64 406], .agg #[.pointer (some ⟨9, 173, none⟩), .pointer (some b), .int .u64 150]]).run Tryz.prog W
      = .ok (.tuple #[]) (W.setCell ta (.pointer (some e))) := by
  rw [rls]
  simp only [Sem.run_bind, partsPa, partsP, Result.andThen]
  simp [ReflectliteValue.flagAddr, loadVar, isAgg, underlying, Tryz.underlying173, hb, Result.andThen, directP, storeVar, Value.cells, storeCells, Addr.add]
  rw [run_store Tryz.prog W ta _ _ (by rfl)]
  simp [ht, hf]
theorem hasIsP (v : Value) (xT : TypeId) (w : World) : (Instr.typeAssert (.iface 173 v) xT 253 true).run Tryz.prog w = .ok (.tuple #[.iface 173 v, .bool true]) w := run_typeAssert_hasB Tryz.underlying253 (by kernel_rfl) v xT w
theorem noIsL (v : Value) (xT : TypeId) (w : World) : (Instr.typeAssert (.iface 171 v) xT 253 true).run Tryz.prog w = .ok (.tuple #[.nilIface, .bool false]) w := run_typeAssert_lacksB Tryz.underlying253 (by kernel_rfl) (by kernel_rfl) v xT w
theorem noIsS (v : Value) (xT : TypeId) (w : World) : (Instr.typeAssert (.iface 275 v) xT 253 true).run Tryz.prog w = .ok (.tuple #[.nilIface, .bool false]) w := run_typeAssert_lacksB Tryz.underlying253 (by kernel_rfl) (by kernel_rfl) v xT w
theorem hasUnP (v : Value) (xT : TypeId) (w : World) : (Instr.typeAssert (.iface 173 v) xT 256 true).run Tryz.prog w = .ok (.tuple #[.iface 173 v, .bool true]) w := run_typeAssert_hasB Tryz.underlying256 (by kernel_rfl) v xT w
theorem noUnL (v : Value) (xT : TypeId) (w : World) : (Instr.typeAssert (.iface 171 v) xT 256 true).run Tryz.prog w = .ok (.tuple #[.nilIface, .bool false]) w := run_typeAssert_lacksB Tryz.underlying256 (by kernel_rfl) (by kernel_rfl) v xT w
theorem noUnS (v : Value) (xT : TypeId) (w : World) : (Instr.typeAssert (.iface 275 v) xT 256 true).run Tryz.prog w = .ok (.tuple #[.nilIface, .bool false]) w := run_typeAssert_lacksB Tryz.underlying256 (by kernel_rfl) (by kernel_rfl) v xT w
theorem noUnsL (v : Value) (xT : TypeId) (w : World) : (Instr.typeAssert (.iface 171 v) xT 258 true).run Tryz.prog w = .ok (.tuple #[.nilIface, .bool false]) w := run_typeAssert_lacksB Tryz.underlying258 (by kernel_rfl) (by kernel_rfl) v xT w
theorem noUnsS (v : Value) (xT : TypeId) (w : World) : (Instr.typeAssert (.iface 275 v) xT 258 true).run Tryz.prog w = .ok (.tuple #[.nilIface, .bool false]) w := run_typeAssert_lacksB Tryz.underlying258 (by kernel_rfl) (by kernel_rfl) v xT w
theorem hasAsL (v : Value) (xT : TypeId) (w : World) : (Instr.typeAssert (.iface 171 v) xT 263 true).run Tryz.prog w = .ok (.tuple #[.iface 171 v, .bool true]) w := run_typeAssert_hasB Tryz.underlying263 (by kernel_rfl) v xT w
theorem noAsS (v : Value) (xT : TypeId) (w : World) : (Instr.typeAssert (.iface 275 v) xT 263 true).run Tryz.prog w = .ok (.tuple #[.nilIface, .bool false]) w := run_typeAssert_lacksB Tryz.underlying263 (by kernel_rfl) (by kernel_rfl) v xT w
theorem assertPP (v : Value) (w : World) : (Instr.typeAssert (.iface 205 v) 20 205 true).run Tryz.prog w = .ok (.tuple #[v, .bool true]) w := by kernel_rfl
theorem methodIs (v : Value) (w : World) : (Go.method 417 173 v "Is").run Tryz.prog w = .ok (268, v) w := by kernel_rfl
theorem methodUnwrap (v : Value) (w : World) : (Go.method 417 173 v "Unwrap").run Tryz.prog w = .ok (269, v) w := by kernel_rfl
theorem methodError (v : Value) (w : World) : (Go.method 417 173 v "Error").run Tryz.prog w = .ok (267, v) w := by kernel_rfl
theorem methodAs (v : Value) (w : World) : (Go.method 417 171 v "As").run Tryz.prog w = .ok (251, v) w := by kernel_rfl
theorem compP : (Tryz.prog.info? 173).map (·.comparable) = some true := by kernel_rfl
theorem compL : (Tryz.prog.info? 171).map (·.comparable) = some true := by kernel_rfl
theorem sizeF : (Tryz.prog.info? 176).map (·.size) = some 3 := by kernel_rfl
end Go.Proofs.YtfpooimjjpamoaaGreatDoor.flt
namespace Go.Proofs.YtfpooimjjpamoaaGreatDoor.flt
open Go.RowKit Go.Extern.Stop Go.Stop Go.Extern
def Handle (w : World) : Prop := w.cell? ⟨0, 0, none⟩ = some (.iface 251 (.agg #[.pointer (some ⟨9, 29, none⟩)]))
theorem cell_lt {w : World} {a : Addr} {v : Value} (h : w.cell? a = some v) : a.block < w.heap.size := by
  rcases Nat.lt_or_ge a.block w.heap.size with h' | h'
  · exact h'
  · simp [World.cell?, Array.getElem?_eq_none h'] at h
theorem Handle.below {w w' : World} {B : Nat} (h : Handle w) (hb : Below B w w') (hB : 0 < B) : Handle w' := by
  unfold Handle at *
  rw [hb.cell (p := ⟨0, 0, none⟩) hB]; exact h
theorem Handle.pos {w : World} (h : Handle w) : 0 < w.heap.size := cell_lt (a := ⟨0, 0, none⟩) h
def SetAt (t : Addr) (v : Value) (w w' : World) : Prop := ∃ w1, Below w.heap.size w w1 ∧ w' = w1.setCell t v
set_option maxRecDepth 100000 in
theorem pAs_any (c : Int) (t : Addr) (old : Value) (w : World) (ht : w.cell? t = some old) (hf : w.frozen? t = false) :
    Calls Tryz.prog 251 #[.int .i64 c, .iface 205 (.pointer (some t))] w fun e w' => e = .returned (.bool true) ∧
      w' = (w.alloc (.cells #[.int .i64 c, .string ⟨#[]⟩, .nilIface] 176)).setCell t (.pointer (some ⟨w.heap.size, 0, none⟩)) := by
  have hlt := cell_lt ht
  have ht' : (w.alloc (.cells #[.int .i64 c, .string ⟨#[]⟩, .nilIface] 176)).cell? t = some old := by rw [World.cell?_alloc_lt _ _ t hlt]; exact ht
  have hf' : (w.alloc (.cells #[.int .i64 c, .string ⟨#[]⟩, .nilIface] 176)).frozen? t = false := by rw [World.frozen?_alloc_old _ _ t (Nat.ne_of_lt hlt)]; exact hf
  have aPP := assertPP
  go_enter Tryz.func251, Tryz.ntmps251
  go_wp2
  go_ret
  exact ⟨rfl, rfl⟩
structure Ext : Prop where
  tyOf : ∀ (args : Array Value) (w : World), (callFunc 206 args).run Tryz.prog w = ((ReflectliteType.typeOf args).run Tryz.prog w).andThen fun v w' => .ok (.value v) w'
  asg : ∀ (args : Array Value) (w : World), (callFunc 275 args).run Tryz.prog w = ((ReflectliteType.relation "AssignableTo" ReflectliteType.assignableTo args).run Tryz.prog w).andThen fun v w' => .ok (.value v) w'
  elm : ∀ (args : Array Value) (w : World), (callFunc 225 args).run Tryz.prog w = ((ReflectliteValue.method (ReflectliteValue.valueError "reflectlite.Value.Elem" 0) ReflectliteValue.elem args).run Tryz.prog w).andThen fun v w' => .ok (.value v) w'
  vOf : ∀ (args : Array Value) (w : World), (callFunc 208 args).run Tryz.prog w = ((ReflectliteValue.unpack (args.getD 0 (.tuple #[]))).run Tryz.prog w).andThen fun v w' => .ok (.value v) w'
  set : ∀ (args : Array Value) (w : World), (callFunc 226 args).run Tryz.prog w = ((ReflectliteValue.set args).run Tryz.prog w).andThen fun v w' => .ok (.value v) w'
  typ : ∀ (args : Array Value) (w : World), (callFunc 209 args).run Tryz.prog w = ((ReflectliteValue.methodAny (ReflectliteValue.valueError "reflectlite.Value.Type" 0) (fun t _ _ _ => ReflectliteType.toType t) args).run Tryz.prog w).andThen fun v w' => .ok (.value v) w'
  nil : ∀ (args : Array Value) (w : World), (callFunc 210 args).run Tryz.prog w = ((ReflectliteValue.method (ReflectliteValue.valueError "reflectlite.Value.IsNil" 0) ReflectliteValue.isNil args).run Tryz.prog w).andThen fun v w' => .ok (.value v) w'
  knd : ∀ (args : Array Value) (w : World), (callFunc 247 args).run Tryz.prog w = (((ReflectliteType.abiMethod fun t => (fun a : Nat => Value.int IntKind.u8 (a : Int)) <$> Rtype.kind t) args).run Tryz.prog w).andThen fun v w' => .ok (.value v) w'
  rel : ∀ (args : Array Value) (w : World), (callFunc 277 args).run Tryz.prog w = ((ReflectliteType.method ReflectliteType.elem args).run Tryz.prog w).andThen fun v w' => .ok (.value v) w'
  imp : ∀ (args : Array Value) (w : World), (callFunc 278 args).run Tryz.prog w = ((ReflectliteType.relation "Implements" ReflectliteType.implements_ args).run Tryz.prog w).andThen fun v w' => .ok (.value v) w'
  cmp : ∀ (args : Array Value) (w : World), (callFunc 276 args).run Tryz.prog w = ((ReflectliteType.method (fun t => do Rtype.noPackHeld "Comparable" t; pure (.bool (← typeInfo t).comparable)) args).run Tryz.prog w).andThen fun v w' => .ok (.value v) w'
theorem ext : Ext where
  tyOf := @run_callFunc_extern Tryz.prog 206 _ ReflectliteType.typeOf Tryz.func206 (by kernel_rfl) (by kernel_rfl) (by kernel_rfl) (by kernel_rfl)
  asg := @run_callFunc_extern Tryz.prog 275 _ (ReflectliteType.relation "AssignableTo" ReflectliteType.assignableTo) Tryz.func275 (by kernel_rfl) (by kernel_rfl) (by kernel_rfl) (by kernel_rfl)
  elm := @run_callFunc_extern Tryz.prog 225 _ (ReflectliteValue.method (ReflectliteValue.valueError "reflectlite.Value.Elem" 0) ReflectliteValue.elem) Tryz.func225 (by kernel_rfl) (by kernel_rfl) (by kernel_rfl) (by kernel_rfl)
  vOf := @run_callFunc_extern Tryz.prog 208 _ (fun args => ReflectliteValue.unpack (args.getD 0 (.tuple #[]))) Tryz.func208 (by kernel_rfl) (by kernel_rfl) (by kernel_rfl) (by kernel_rfl)
  set := @run_callFunc_extern Tryz.prog 226 _ ReflectliteValue.set Tryz.func226 (by kernel_rfl) (by kernel_rfl) (by kernel_rfl) (by kernel_rfl)
  typ := @run_callFunc_extern Tryz.prog 209 _ (ReflectliteValue.methodAny (ReflectliteValue.valueError "reflectlite.Value.Type" 0) (fun t _ _ _ => ReflectliteType.toType t)) Tryz.func209 (by kernel_rfl) (by kernel_rfl) (by kernel_rfl) (by kernel_rfl)
  nil := @run_callFunc_extern Tryz.prog 210 _ (ReflectliteValue.method (ReflectliteValue.valueError "reflectlite.Value.IsNil" 0) ReflectliteValue.isNil) Tryz.func210 (by kernel_rfl) (by kernel_rfl) (by kernel_rfl) (by kernel_rfl)
  knd := @run_callFunc_extern Tryz.prog 247 _ (ReflectliteType.abiMethod fun t => do pure (.int .u8 (← Rtype.kind t))) Tryz.func247 (by kernel_rfl) (by kernel_rfl) (by kernel_rfl) (by kernel_rfl)
  rel := @run_callFunc_extern Tryz.prog 277 _ (ReflectliteType.method ReflectliteType.elem) Tryz.func277 (by kernel_rfl) (by kernel_rfl) (by kernel_rfl) (by kernel_rfl)
  imp := @run_callFunc_extern Tryz.prog 278 _ (ReflectliteType.relation "Implements" ReflectliteType.implements_) Tryz.func278 (by kernel_rfl) (by kernel_rfl) (by kernel_rfl) (by kernel_rfl)
  cmp := @run_callFunc_extern Tryz.prog 276 _ (ReflectliteType.method (fun t => do Rtype.noPackHeld "Comparable" t; pure (.bool (← typeInfo t).comparable))) Tryz.func276 (by kernel_rfl) (by kernel_rfl) (by kernel_rfl) (by kernel_rfl)
set_option maxRecDepth 100000 in
set_option maxHeartbeats 1000000 in
theorem eas_fault (e t a : Addr) (old : Value) (w : World) (ha : w.cell? a = some (.pointer (some t))) (ht : w.cell? t = some old) (hf : w.frozen? t = false) :
    Calls Tryz.prog 211 #[.iface 173 (.pointer (some e)), .iface 205 (.pointer (some t)), .agg #[.pointer (some ⟨9, 205, none⟩), .pointer (some a), .int .u64 150], .iface 251 (.agg #[.pointer (some ⟨9, 173, none⟩)])] w
      fun ev w' => ev = .returned (.bool true) ∧ SetAt t (.pointer (some e)) w w' := by
  obtain ⟨h1, h2, h3, h4, h5, -, -, -, -, -, -⟩ := ext
  have hla := cell_lt ha
  have hlt := cell_lt ht
  have tO := typeOfP
  have mA := methodAssignableTo
  have aP := assignP
  have vP := valueOfP
  have el := elemV a t (w.alloc (.cells #[.pointer (some ⟨9, 205, none⟩), .pointer (some a), .int .u64 150] 237)) (by rw [World.cell?_alloc_lt _ _ a hla]; exact ha)
  have st := setP t ⟨w.heap.size + 1, 0, none⟩ e old ((w.alloc (.cells #[.pointer (some ⟨9, 205, none⟩), .pointer (some a), .int .u64 150] 237)).alloc (.cells #[.pointer (some e)] 173))
    (by rw [World.cell?_alloc_at _ _ _ _ (by simp)]; rfl)
    (by rw [World.cell?_alloc_lt _ _ t (by simp; omega), World.cell?_alloc_lt _ _ t hlt]; exact ht)
    (by rw [World.frozen?_alloc_old _ _ t (by simp; omega), World.frozen?_alloc_old _ _ t (Nat.ne_of_lt hlt)]; exact hf)
  go_enter Tryz.func211, Tryz.ntmps211
  go_wp2
  refine wp_loop_rounds 1 ?_
  rw [rounds_succ]
  go_wp2
  go_ret
  exact ⟨rfl, _, ((Below.refl _ _).alloc (Nat.le_refl _) _).alloc (by simp) _, rfl⟩
set_option maxRecDepth 100000 in
set_option maxHeartbeats 1000000 in
theorem eas_plain (c : Int) (t a : Addr) (old : Value) (w : World) (ht : w.cell? t = some old) (hf : w.frozen? t = false) :
    Calls Tryz.prog 211 #[.iface 171 (.int .i64 c), .iface 205 (.pointer (some t)), .agg #[.pointer (some ⟨9, 205, none⟩), .pointer (some a), .int .u64 150], .iface 251 (.agg #[.pointer (some ⟨9, 173, none⟩)])] w
      fun ev w' => ev = .returned (.bool true) ∧ ∃ b, w.heap.size ≤ b ∧ SetAt t (.pointer (some ⟨b, 0, none⟩)) w w' ∧ w'.heap[b]? = some (.cells #[.int .i64 c, .string ⟨#[]⟩, .nilIface] 176 (0, 0)) := by
  obtain ⟨h1, h2, -, -, -, -, -, -, -, -, -⟩ := ext
  have hlt := cell_lt ht
  have tO := typeOfL
  have mA := methodAssignableTo
  have aL := assignL
  have hA := hasAsL
  have mAs := methodAs
  have hP := pAs_any c t old (w.alloc (.cells #[.pointer (some ⟨9, 205, none⟩), .pointer (some a), .int .u64 150] 237)) (by rw [World.cell?_alloc_lt _ _ t hlt]; exact ht) (by rw [World.frozen?_alloc_old _ _ t (Nat.ne_of_lt hlt)]; exact hf)
  have HP := Lib.hid hP
  clear hP
  go_enter Tryz.func211, Tryz.ntmps211
  go_wp2
  refine wp_loop_rounds 1 ?_
  rw [rounds_succ]
  go_wp2_with (go_at_call 251; refine (HP.out).mono ?_; rintro e w' ⟨rfl, rfl⟩)
  go_ret
  refine ⟨rfl, w.heap.size + 1, by omega, ⟨_, ((Below.refl _ _).alloc (Nat.le_refl _) _).alloc (by simp) _, rfl⟩, ?_⟩
  rw [Below.heap_setCell _ _ _ _ (by omega)]
  show ((w.heap.push _).push _)[w.heap.size + 1]? = _
  rw [Array.getElem?_push, if_pos (by simp)]
set_option maxRecDepth 100000 in
set_option maxHeartbeats 1000000 in
theorem eas_other (x : Value) (t a : Addr) (w : World) :
    Calls Tryz.prog 211 #[.iface 275 x, .iface 205 (.pointer (some t)), .agg #[.pointer (some ⟨9, 205, none⟩), .pointer (some a), .int .u64 150], .iface 251 (.agg #[.pointer (some ⟨9, 173, none⟩)])] w
      fun ev w' => ev = .returned (.bool false) ∧ Below w.heap.size w w' := by
  obtain ⟨h1, h2, -, -, -, -, -, -, -, -, -⟩ := ext
  have tO := typeOfS
  have mA := methodAssignableTo
  have aS := assignS
  have hA := noAsS
  have hU := noUnS
  have hUs := noUnsS
  go_enter Tryz.func211, Tryz.ntmps211
  go_wp2
  refine wp_loop_rounds 1 ?_
  rw [rounds_succ]
  go_wp2
  go_ret
  exact ⟨rfl, (Below.refl _ _).alloc (Nat.le_refl _) _⟩
end Go.Proofs.YtfpooimjjpamoaaGreatDoor.flt
namespace Go.Proofs.YtfpooimjjpamoaaGreatDoor.flt
open Go.RowKit Go.Extern.Stop Go.Stop Go.Extern
theorem SetAt.of_below {t : Addr} {v : Value} {w W w' : World} (hb : Below w.heap.size w W) (h : SetAt t v W w') : SetAt t v w w' := by
  obtain ⟨w1, h1, rfl⟩ := h
  exact ⟨w1, hb.trans (h1.mono hb.size), rfl⟩
theorem cell_alloc {w : World} {a : Addr} {v : Value} (o : Obj) (h : w.cell? a = some v) : (w.alloc o).cell? a = some v := by
  rw [World.cell?_alloc_lt _ _ a (cell_lt h)]; exact h
theorem frozen_alloc {w : World} {a : Addr} {v : Value} (o : Obj) (h : w.cell? a = some v) (hf : w.frozen? a = false) : (w.alloc o).frozen? a = false := by
  rw [World.frozen?_alloc_old _ _ a (Nat.ne_of_lt (cell_lt h))]; exact hf
end Go.Proofs.YtfpooimjjpamoaaGreatDoor.flt
namespace Go.Proofs.YtfpooimjjpamoaaGreatDoor.flt
open Go.RowKit Go.Extern.Stop Go.Stop Go.Extern
theorem eAs_nil (t : Value) (w : World) : Calls Tryz.prog 184 #[.nilIface, t] w fun e w' => e = .returned (.bool false) ∧ w = w' := by
  go_enter Tryz.func184, Tryz.ntmps184
  go_wp2
  go_ret
  exact ⟨rfl, rfl⟩
def asWorld (t : Addr) (w : World) : World := (w.alloc (.cells #[.pointer (some t)] 205)).alloc (.cells #[.pointer (some ⟨9, 205, none⟩), .pointer (some ⟨w.heap.size, 0, none⟩), .int .u64 150] 237)
theorem asWorld_below (t : Addr) (w : World) : Below w.heap.size w (asWorld t w) := ((Below.refl _ _).alloc (Nat.le_refl _) _).alloc (by simp) _
theorem asWorld_cell (t : Addr) (w : World) : (asWorld t w).cell? ⟨w.heap.size, 0, none⟩ = some (.pointer (some t)) :=
  cell_alloc _ (by rw [World.cell?_alloc_at _ _ _ _ rfl]; rfl)
set_option maxRecDepth 100000 in
set_option maxHeartbeats 1000000 in
theorem eAs_of (u : TypeId) (x : Value) (t : Addr) (b : Bool) (S : World → Prop) (w : World) (hg : Handle w)
    (hsub : Calls Tryz.prog 211 #[.iface u x, .iface 205 (.pointer (some t)), .agg #[.pointer (some ⟨9, 205, none⟩), .pointer (some ⟨w.heap.size, 0, none⟩), .int .u64 150], .iface 251 (.agg #[.pointer (some ⟨9, 173, none⟩)])] (asWorld t w)
      fun ev w' => ev = .returned (.bool b) ∧ S w') :
    Calls Tryz.prog 184 #[.iface u x, .iface 205 (.pointer (some t))] w fun ev w' => ev = .returned (.bool b) ∧ S w' := by
  have HS := Lib.hid hsub
  clear hsub
  unfold asWorld at HS
  obtain ⟨-, -, -, h4, -, h6, h7, h8, h9, h10, -⟩ := ext
  have f6 := valueOfPP
  have f7 := typePP
  have mK := methodKind
  have mE := methodElem
  have mI := methodImplements
  have kPP := kindPP
  have kP := kindP
  have eP := elemPP
  have iP := implementsP
  have n8 := isNilPP ⟨w.heap.size, 0, none⟩ t ((w.alloc (.cells #[.pointer (some t)] 205)).alloc (.cells #[.pointer (some ⟨9, 205, none⟩), .pointer (some ⟨w.heap.size, 0, none⟩), .int .u64 150] 237)) (asWorld_cell t w)
  have hg2 : ((w.alloc (.cells #[.pointer (some t)] 205)).alloc (.cells #[.pointer (some ⟨9, 205, none⟩), .pointer (some ⟨w.heap.size, 0, none⟩), .int .u64 150] 237)).cell? ⟨0, 0, none⟩ = some (.iface 251 (.agg #[.pointer (some ⟨9, 29, none⟩)])) := hg.below (asWorld_below t w) hg.pos
  clear hg
  go_enter Tryz.func184, Tryz.ntmps184
  go_wp2_with (go_at_call 211; refine (HS.out).mono ?_; rintro e' w' ⟨rfl, hs⟩)
  go_ret
  exact ⟨rfl, hs⟩
end Go.Proofs.YtfpooimjjpamoaaGreatDoor.flt
