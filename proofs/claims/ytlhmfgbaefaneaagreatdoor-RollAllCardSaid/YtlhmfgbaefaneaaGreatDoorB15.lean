/-
  The steps of the walks, part 15: WriteS, Tens, TenP, Write, Trim, NatText, IntF, Size, RatM, Rat.
-/
import Derived.Deep.RegionHeld3
import Derived.Laws.IdiomStrings
import Derived.BigRegion
import Derived.Test.YtlhmfgbaefaneaaGreatDoorB14
import Derived.Test.YtlhmfgbaefaneaaGreatDoorB11
import Derived.Test.YtlhmfgbaefaneaaGreatDoorB03
namespace Go.Proofs.YtlhmfgbaefaneaaGreatDoor.nat
open Go.RowKit
open Go.Proofs.YtlhmfgbaefaneaaGreatDoor.ref (str str_size str_append pad pad_length pad_cons pad_append pad_nought pad_dec pad_head)
theorem grown_below {w a b : World} {row : Option Nat} (h : w.grownBy a row) (k : Below w.heap.size a b) : w.grownBy b row :=
  ⟨k.os.trans h.os, k.tape.trans h.tape, k.output.trans h.output, Nat.le_trans h.size k.size, fun i hi hne => (k.block i hi).trans (h.block i hi hne)⟩
def WrRel (w : World) (g o n : Nat) (X : Nat) (L0 : List UInt8) (lv ev : Value) (wr : World) : Prop :=
  ∃ E : Nat, ev = .int .i64 E ∧ E ≤ n ∧ E % 19 = 0 ∧ Own wr w.heap.size lv (digs (X / 10 ^ (n - E))) ∧ From wr g L0 (o + E) (pad (n - E) X ++ L0.drop (o + n)) ∧ w.grownBy wr (some g)
def WrIn (w : World) (g o E r : Nat) (L0 D : List UInt8) (lv : Value) (Y : Nat) (dv av : Value) (wi : World) : Prop :=
  ∃ k : Nat, k ≤ 19 ∧ av = .int .i64 ((E : Int) - 1 - k) ∧ dv = .int .u64 (r / 10 ^ k : Nat) ∧ Own wi w.heap.size lv (digs Y) ∧ From wi g L0 (o + E - k) (pad k r ++ D) ∧ w.grownBy wi (some g)
theorem divide_ten {B : Nat} (sv : Value) (z : List Nat) (w : World) (hO : Own w B sv z) (hdz : Dig z) (hn : z.length ≤ 4000000) :
    Calls Tryz.prog 221 #[sv, .int .u64 10000000000000000000] w fun e w' => ∃ (z' : List Nat) (r : Nat), e = .returned (.int .u64 (r : Nat)) ∧ (z'.length = z.length ∧ Dig z' ∧ val z' * 10 ^ 19 + r = val z ∧ r < 10 ^ 19 ∧ Own w' B sv z') ∧ Below B w w' := by
  have h := divideByWord_own sv z 10000000000000000000 w hO hdz (by omega) (by omega) hn
  exact h
set_option maxRecDepth 100000 in
set_option maxHeartbeats 4000000 in
theorem writeShort_any (g o n c : Nat) (L0 : List UInt8) (sx : Value) (X : Nat) (w : World) (hr : RowB w g L0) (hl : o + n ≤ L0.length) (hnc : n ≤ c) (hcm : c ≤ 1000000000) (h19 : n % 19 = 0) (hx : Rd w sx (digs X)) (hxl : (digs X).length ≤ 400000) :
    Calls Tryz.prog 214 #[.slice (some ⟨g, o, none⟩) n c, sx] w fun e w' => e = .returned (.tuple #[]) ∧ RowB w' g (L0.take o ++ (pad n X ++ L0.drop (o + n))) ∧ w.grownBy w' (some g) := by
  have hgB := hr.lt
  have HO := Lib.hid (show (w.alloc (.cells #[] 104)).ownsRow w.heap.size 104 1 (.slice (some ⟨w.heap.size, 0, none⟩) 0 0) ([] : List Nat).length (([] : List Nat).map fun d => Value.int .u64 (d : Nat)) from World.ownsRow_lit w #[] 0 (Nat.le_refl _) (by unfold maxLen; omega) rfl)
  have HX2 := Lib.hid (hx.below (w' := w.alloc (.cells #[] 104)) ((Below.refl _ _).alloc (Nat.le_refl _) _))
  have HR := Lib.hid hr
  have HL := Lib.hid hl
  have HXL := Lib.hid hxl
  clear hr hl hx hxl
  go_enter Tryz.func214, Tryz.ntmps214
  go_wp2_with (at_builtin; refine wpList_append_rd rfl _ _ rfl w.heap.size _ _ [] (digs X) rfl HO.out rfl HX2.out ?c1 ?c2 ?_)
  case c1 => have := HXL.out; simp; omega
  case c2 => simp
  intro v' w3 hown hg3
  have hB3 : Below w.heap.size w w3 := ((Below.refl _ _).alloc (Nat.le_refl _) _).grown hg3 (by simp) (fun k hk => by simp [Value.ownBlock] at hk; omega)
  have HO3 := Lib.hid (Own.of_owns (l := digs X) (by simpa using hown))
  have HG3 := Lib.hid (grown_of_below hB3 (some g))
  have HF3 := Lib.hid ((HR.out.below hB3 hgB).start (o + n))
  clear hown hg3 hB3 HO HX2 HR
  go_wp2
  go_loopw [4, 5] (fun lv ev wr => WrRel w g o n X L0 lv ev wr) (fun _ ev _ => (intOf ev).toNat)
  case atStart => exact ⟨n, rfl, Nat.le_refl _, h19, by rw [Nat.sub_self, Nat.pow_zero, Nat.div_one]; exact HO3.out, by rw [Nat.sub_self]; exact HF3.out, HG3.out⟩
  case round =>
    obtain ⟨E, rfl, hE, hE19, ho, hf, hg⟩ := hrel
    by_cases hE0 : E = 0
    · subst hE0
      have HF := Lib.hid hf
      have HG := Lib.hid hg
      clear hf hg ho
      go_wp2
      go_end0
      refine ⟨rfl, ?_, HG.out⟩
      have := HF.out.row
      simpa using this
    · have hE2 : 19 ≤ E := by omega
      obtain ⟨V, hV⟩ : ∃ V, V = X / 10 ^ (n - E) := ⟨_, rfl⟩
      rw [← hV] at ho
      have hwl : w.heap.size ≤ wr.heap.size := hg.size
      have hlen : (digs V).length ≤ 400000 := digs_le_len (by rw [hV]; exact Nat.div_le_self _ _) HXL.out
      have HD := Lib.hid (divide_ten (B := w.heap.size) u4 (digs V) wr ho (norm_digs V).1 (by omega))
      rw [val_digs] at HD
      have HF := Lib.hid hf
      have HG := Lib.hid hg
      have HV := Lib.hid hV
      have HLen := Lib.hid hlen
      clear hf hg ho hV hlen HO3 HG3 HF3
      go_wp2_with (first
        | (go_at_call 221; with_reducible refine (HD.out).mono ?_; rintro e w4 ⟨z', r, rfl, ⟨hz1, hz2, hz3, hz4, hz5⟩, hb4⟩
           have HT := Lib.hid (trim_own (B := w.heap.size) _ z' w4 hz5 (by have := HLen.out; omega) hz2)
           have HR := Lib.hid (And.intro hz3 hz4)
           have HB4 := Lib.hid hb4
           have HF4 := Lib.hid (HF.out.below hb4 hgB)
           have HG4 := Lib.hid (grown_below HG.out hb4)
           clear hz1 hz2 hz3 hz4 hz5 hb4 HD HF HG)
        | (go_at_call 209; with_reducible refine (HT.out).mono ?_; rintro e w5 ⟨lv, rfl, ho5, rfl⟩; have HO5 := Lib.hid ho5; clear ho5 HT))
      have hr19 : r < 10 ^ 19 := HR.out.2
      have HY := Lib.hid (show X / 10 ^ (n - (E - 19)) = val z' ∧ pad 19 r = pad 19 (X / 10 ^ (n - E)) by
        have h1 := HR.out.1
        have h2 := HV.out
        refine ⟨?_, ?_⟩
        · rw [show n - (E - 19) = (n - E) + 19 by omega, Nat.pow_add, ← Nat.div_div_eq_div_mul, ← h2, ← h1, Nat.mul_comm, Nat.mul_add_div (by omega), Nat.div_eq_of_lt hr19, Nat.add_zero]
        · rw [← h2, ← h1, pad_low hr19])
      have hrb : r < 18446744073709551616 := by omega
      clear hr19 HLen HR
      go_loopw [6, 7] (fun dv av wi => WrIn w g o E r L0 (pad (n - E) X ++ L0.drop (o + n)) lv (val z') dv av wi) (fun _ av _ => (intOf av + 20 - E).toNat)
      case atStart => exact ⟨0, by omega, by simp, by simp, HO5.out, by rw [Nat.sub_zero]; exact HF4.out, HG4.out⟩
      case round =>
        obtain ⟨k, hk, rfl, rfl, ho, hf, hg⟩ := hrel
        by_cases hk19 : k = 19
        · subst hk19
          have HO6 := Lib.hid ho
          have HF6 := Lib.hid hf
          have HG6 := Lib.hid hg
          clear ho hf hg HO5 HF4 HG4
          go_wp2
          go_roundw
          case rel =>
            refine ⟨E - 19, by go_num, by omega, by omega, ?_, ?_, HG6.out⟩
            · rw [HY.out.1]; exact HO6.out
            · have h1 := HF6.out
              rw [show o + (E - 19) = o + E - 19 by omega, show n - (E - 19) = 19 + (n - E) by omega, pad_split, ← HY.out.2, List.append_assoc]
              exact h1
          case measure => simp [intOf]; omega
        · have hk2 : k < 19 := by omega
          obtain ⟨p, hp⟩ : ∃ p, p = o + E - k - 1 := ⟨_, rfl⟩
          have hp1 : p + 1 = o + E - k := by omega
          have hpl : p < L0.length := by have := HL.out; omega
          rw [← hp1] at hf
          obtain ⟨u, c1⟩ := hf.cell p hpl
          have f1 := hf.free p
          obtain ⟨e, he⟩ : ∃ e, e = r / 10 ^ k := ⟨_, rfl⟩
          have heb : e < 18446744073709551616 := by rw [he]; exact Nat.lt_of_le_of_lt (Nat.div_le_self _ _) hrb
          have HNX := Lib.hid (hf.set hpl (u := 48 + (e : Int) % 10) (d := UInt8.ofNat (48 + e % 10)) (by rw [UInt8.toNat_ofNat']; omega))
          have HOX := Lib.hid (ho.low (k := p) (u := .int .u8 (48 + (e : Int) % 10)) hgB)
          have HGX := Lib.hid (grown_trans hg (grown_set _ g p (.int .u8 (48 + (e : Int) % 10))))
          have HE := Lib.hid he
          have HP := Lib.hid hp
          rw [← he]
          have e1 : ((E : Int) - 1 - (k : Int)).toNat = E - 1 - k := by omega
          have e2 : o + (E - 1 - k) = p := by omega
          have e3 : (E : Int) - 1 - (k : Int) < (n : Int) := by omega
          have e4 : (0 : Int) ≤ (E : Int) - 1 - (k : Int) := by omega
          clear ho hf hg HO5 HF4 HG4 he hp hp1
          go_wp2
          refine ⟨?_, ?_⟩
          · refine ⟨k + 1, by omega, by go_num, by rw [Nat.pow_succ, ← Nat.div_div_eq_div_mul, ← HE.out]; go_num, HOX.out, ?_, HGX.out⟩
            have := HNX.out
            rw [pad_cons, ← HE.out, show o + E - (k + 1) = p by omega]
            exact this
          · simp [intOf]; omega
end Go.Proofs.YtlhmfgbaefaneaaGreatDoor.nat
namespace Go.Proofs.YtlhmfgbaefaneaaGreatDoor.nat
open Go.RowKit
theorem infoU64s : (Tryz.prog.info? 78).map (fun i => (i.zero, i.size, i.bytes)) = some (some (.slice none 0 0), 1, 24) := by kernel_rfl
theorem wpList_append_slice {w : World} {ops : Array Oper} {rest : List Oper} {o : Oper} {a : Act} {Q : Exit → Act → World → Prop} (hgd : o.guard = none) (s x : Operand)
    (ho : o.op = .call { callee := .builtin .append, args := #[s, x], argTypes := #[178, 178] })
    (base : Nat) (v u : Value) (ad : Addr) (l1 : List Value) (hs : a.eval s = v) (hown : w.ownsRow base 78 1 v l1.length l1) (hx : a.eval x = .slice (some ad) 1 1) (hr : w.cell? (ad.add 0) = some u) (hu : ∃ ao n c, u = .slice ao n c)
    (hlen : l1.length ≤ 100000000) (hbase : base ≤ w.heap.size)
    (h : ∀ v' w', w'.ownsRow base 78 1 v' (l1.length + 1) (l1 ++ [u]) → w.grownBy w' v.ownBlock → wpList Tryz.prog ops Q rest (a.put o.dst v') w') :
    wpList Tryz.prog ops Q (o :: rest) a w := by
  obtain ⟨i0, hi0, hz0, hz1, hz2⟩ := info_parts infoU64s
  refine wpList_append_own w hgd s x 178 ho base 78 i0 (.slice none 0 0) 1 24 Tryz.underlying178 hi0 hz0 hz1 hz2 rfl (by decide) v l1.length _ hs hown ad 1 1 [u] hx (by simp) ?_ ?_ (by unfold maxLen; omega) (by omega) hbase ?_
  · intro j u' hj
    rcases j with _ | j
    · obtain rfl : u = u' := by simpa using hj
      exact hr
    · simp at hj
  · intro u' hu'
    obtain rfl := List.mem_singleton.1 hu'
    obtain ⟨_, _, _, rfl⟩ := hu
    rfl
  · intro v' w' ho hg _
    exact h v' w' ho hg
def tp (i : Nat) : Nat := 10 ^ (304 * 2 ^ i)
theorem tp_next (i : Nat) : tp i * tp i = tp (i + 1) := by
  unfold tp
  rw [← Nat.pow_add, Nat.pow_succ]
  congr 1
  omega
theorem tp_one (i : Nat) : 2 ^ (2 ^ i) ≤ tp i := by
  unfold tp
  refine Nat.le_trans (Nat.pow_le_pow_left (by omega : 2 ≤ 10) _) (Nat.pow_le_pow_right (by omega) ?_)
  have : 0 < 2 ^ i := Nat.pow_pos (by omega)
  omega
theorem tp_pos (i : Nat) : 0 < tp i := Nat.pow_pos (by omega)
def Tens (w : World) (B : Nat) (pv : Value) (p : Nat) : Prop :=
  ∃ ss : List Value, ss.length = p ∧ w.ownsRow B 78 1 pv ss.length ss ∧ ∀ i u, ss[i]? = some u → Own w B u (digs (tp i))
theorem owns_below {w w' : World} {B n : Nat} {e : TypeId} {v : Value} {xs : List Value} (h : w.ownsRow B e 1 v n xs) (hb : Below w.heap.size w w') : w'.ownsRow B e 1 v n xs := by
  refine ⟨h.1, ?_⟩
  rcases h.2 with hn | ⟨g, cap, cur, rfl, h1, h2, rest⟩
  · exact Or.inl hn
  · exact Or.inr ⟨g, cap, cur, rfl, h1, (hb.block g (Array.getElem?_eq_some_iff.1 h2).1).trans h2, rest⟩
theorem Own.past {w w' : World} {B B' n : Nat} {pv u : Value} {l : List Nat} {ss : List Value} (h : Own w B u l) (ho : w.ownsRow B' 78 1 pv n ss) (hg : w.grownBy w' pv.ownBlock) : Own w' B u l := by
  obtain ⟨ao, cap, h0, h1, h2, h3⟩ := h
  refine ⟨ao, cap, h0, h1, h2, h3.imp id fun ⟨g, e1, h4, hr⟩ => ⟨g, e1, h4, hr.kept hg fun e => ?_⟩⟩
  rcases ho.2 with ⟨rfl, _⟩ | ⟨g', cap', cur, rfl, _, hc, _⟩
  · simp [Value.ownBlock] at e
  · obtain rfl : g = g' := by simpa [Value.ownBlock] using e
    obtain ⟨R, hR⟩ := hr
    rw [hR] at hc
    simp at hc
theorem Tens.nil (w : World) (B : Nat) : Tens w B (.slice none 0 0) 0 := ⟨[], rfl, World.ownsRow_nil _ _ _ _, fun i u h => by simp at h⟩
theorem Tens.below {w w' : World} {B p : Nat} {pv : Value} (h : Tens w B pv p) (hb : Below w.heap.size w w') : Tens w' B pv p := by
  obtain ⟨ss, h1, h2, h3⟩ := h
  exact ⟨ss, h1, owns_below h2 hb, fun i u hi => (h3 i u hi).below hb⟩
theorem Tens.next {B p : Nat} {w' : World} {pv' u : Value} {ss : List Value} (hl : ss.length = p) (h : ∀ i u, ss[i]? = some u → Own w' B u (digs (tp i))) (hu : Own w' B u (digs (tp p)))
    (ho : w'.ownsRow B 78 1 pv' (ss.length + 1) (ss ++ [u])) : Tens w' B pv' (p + 1) := by
  refine ⟨ss ++ [u], by simp [hl], by simpa using ho, fun i u' hi => ?_⟩
  by_cases h1 : i < ss.length
  · rw [List.getElem?_append_left h1] at hi
    exact h i u' hi
  · rw [List.getElem?_append_right (by omega)] at hi
    have h2 : i - ss.length = 0 := by
      have := (List.getElem?_eq_some_iff.1 hi).1
      simp at this
      omega
    rw [h2] at hi
    obtain rfl : u = u' := by simpa using hi
    have : i = p := by omega
    rw [this]
    exact hu
theorem tp_past {x : List Nat} (hd : Dig x) (p : Nat) (h : x.length < 2 * (digs (tp p)).length - 1) : val x < tp (p + 1) := by
  have hne : digs (tp p) ≠ [] := by
    intro e
    have h1 := val_digs (tp p)
    rw [e] at h1
    have h2 := tp_pos p
    have h3 : val [] = 0 := rfl
    omega
  have h1 := (norm_digs (tp p)).low hne
  rw [val_digs] at h1
  have h2 := val_lt' hd (n := ((digs (tp p)).length - 1) + ((digs (tp p)).length - 1)) (by omega)
  rw [Nat.pow_add] at h2
  rw [← tp_next]
  exact Nat.lt_of_lt_of_le h2 (Nat.mul_le_mul h1 h1)
theorem tp_len {n p : Nat} (h : 2 * (digs (tp p)).length - 1 ≤ n) : (digs (tp (p + 1))).length ≤ n + 16 := by
  have h1 := val_lt (norm_digs (tp p)).1
  rw [val_digs] at h1
  refine Nat.le_trans (digs_len (n := (digs (tp p)).length + (digs (tp p)).length) ?_) (by omega)
  rw [← tp_next, Nat.pow_add]
  exact Nat.mul_lt_mul'' h1 h1
theorem tp_few {x : List Nat} (hd : Dig x) {p : Nat} (h : tp p ≤ val x) : p < 64 * x.length := by
  have h1 := val_lt hd
  have h2 := Nat.lt_of_le_of_lt (Nat.le_trans (tp_one p) h) h1
  rw [show 18446744073709551616 = 2 ^ 64 from rfl, ← Nat.pow_mul] at h2
  have h3 := (Nat.pow_lt_pow_iff_right (by omega : 1 < 2)).1 h2
  have h4 : p < 2 ^ p := Nat.lt_two_pow_self
  omega
end Go.Proofs.YtlhmfgbaefaneaaGreatDoor.nat
namespace Go.Proofs.YtlhmfgbaefaneaaGreatDoor.nat
open Go.RowKit
def TensEnd (w : World) (X : Nat) (e : Ending) (w' : World) : Prop :=
  ∃ pv p, e = .returned pv ∧ Tens w' w.heap.size pv p ∧ X < tp p ∧ (∀ i, i < p → tp i ≤ X) ∧ Below w.heap.size w w'
def TPRel (w : World) (X n : Nat) (pv nv : Value) (wr : World) : Prop :=
  ∃ p, Tens wr w.heap.size pv p ∧ Own wr w.heap.size nv (digs (tp p)) ∧ (digs (tp p)).length ≤ n + 16 ∧ (∀ i, i < p → tp i ≤ X) ∧ Below w.heap.size w wr
theorem Tens.len {w : World} {B p : Nat} {pv : Value} (h : Tens w B pv p) : ∃ ao cap, pv = .slice ao p cap := by
  obtain ⟨ss, h1, h2, _⟩ := h
  rcases h2.2 with ⟨rfl, h3⟩ | ⟨g, cap, cur, rfl, _⟩
  · exact ⟨_, _, by rw [← h1, h3]⟩
  · exact ⟨_, _, by rw [h1]⟩
set_option exponentiation.threshold 400 in
theorem power_ten (sx : Value) (w : World) (hx : Rd w sx [10]) :
    Calls Tryz.prog 194 #[sx, .int .i64 304] w fun e w' => ∃ sv, e = .returned sv ∧ Own w' w.heap.size sv (digs (tp 0)) ∧ Below w.heap.size w w' := by
  have e : val [10] = 10 := rfl
  have hb : (digs (val [10] ^ 304)).length ≤ 16 := digs_len (by rw [e]; decide)
  have h := power_pos sx [10] 304 w hx ⟨Dig.nil.cons (by omega), by simp⟩ (by simp) (by omega) (by omega)
  rw [e] at h
  exact h
set_option exponentiation.threshold 400 in
theorem tp_zero_len : (digs (tp 0)).length ≤ 16 := digs_len (by decide)
theorem cell_new (w : World) (v : Value) (t : TypeId) : (w.alloc (.cells #[v] t)).cell? ⟨w.heap.size, 0, none⟩ = some v := by
  unfold World.cell?
  rw [heap_alloc_new]
  rfl
set_option maxRecDepth 100000 in
set_option maxHeartbeats 4000000 in
theorem tenPowers_any (sx : Value) (x : List Nat) (w : World) (hx : Rd w sx x) (hnx : Norm x) (hs : x.length ≤ 400000) :
    Calls Tryz.prog 171 #[sx] w fun e w' => TensEnd w (val x) e w' := by
  obtain ⟨ao, cap, rfl, ⟨h1, h4⟩, h2, h3⟩ := id hx
  obtain ⟨n, hn⟩ : ∃ n, x.length = n := ⟨_, rfl⟩
  have HN := Lib.hid hn
  have HX := Lib.hid hx
  have HNx := Lib.hid hnx
  rw [hn] at hs h1 HX ⊢
  clear hx hnx hn h3 h4 h1 h2
  have hal := (Below.refl w.heap.size w).alloc (Nat.le_refl _) (.cells #[Value.int .u64 10] 104)
  have HAl := Lib.hid hal
  have HTen := Lib.hid (power_ten (.slice (some ⟨w.heap.size, 0, none⟩) 1 1) (w.alloc (.cells #[Value.int .u64 10] 104)) (word_own (w := w) (d := 10) (B := w.heap.size) (Nat.le_refl _)).rd)
  clear hal
  go_enter Tryz.func171, Tryz.ntmps171
  go_wp2_with (go_at_call 194; with_reducible refine (HTen.out).mono ?_; rintro e w2 ⟨nv, rfl, ho, hb⟩; have HO := Lib.hid ho; have HB := Lib.hid hb; clear ho hb HTen)
  go_loopw [3, 4] (fun pv nv wr => TPRel w (val x) n pv nv wr) (fun pv _ _ => match pv with | .slice _ p _ => 64 * n + 1 - p | _ => 0)
  case atStart => exact ⟨0, Tens.nil _ _, HO.out.mono HAl.out.size, by have := tp_zero_len; omega, fun i hi => by omega, HAl.out.trans (HB.out.mono HAl.out.size)⟩
  case round =>
    obtain ⟨p, ht, ho, hl, hle, hb⟩ := hrel
    obtain ⟨N, hN⟩ : ∃ N, (digs (tp p)).length = N := ⟨_, rfl⟩
    have hNl : N ≤ n + 16 := by omega
    have HC := Lib.hid (compare_any u4 (.slice ao n cap) (digs (tp p)) x wr ho.rd (HX.out.below hb) (norm_digs _) HNx.out (by omega) (by rw [HN.out]; omega))
    rw [val_digs] at HC
    obtain ⟨c, hc⟩ : ∃ c, c = cmp3 (tp p : Nat) (val x : Nat) := ⟨_, rfl⟩
    rw [← hc] at HC
    have HT := Lib.hid ht
    have HO' := Lib.hid ho
    have HLe := Lib.hid hle
    have HB' := Lib.hid hb
    have HNN := Lib.hid hN
    obtain ⟨pao, pcap, rfl⟩ := ht.len
    obtain ⟨nao, ncap, rfl, -⟩ := id ho
    rw [hN] at HO' HC ⊢
    clear hle hb ht ho hl hN HAl HB HO
    by_cases hcc : c ≤ 0
    · have hpX : tp p ≤ val x := by
        rw [hc] at hcc
        unfold cmp3 at hcc
        split at hcc
        · omega
        · split at hcc <;> omega
      have HF := Lib.hid (tp_few HNx.out.1 hpX)
      have HPX := Lib.hid hpX
      have hwb := HB'.out.size
      clear hc hpX
      obtain ⟨ss, hs1, hs2, hs3⟩ := HT.out
      have HS1 := Lib.hid hs1
      have HS2 := Lib.hid hs2
      have HS3 := Lib.hid hs3
      clear hs1 hs2 hs3
      have HA1 := Lib.hid (fun m => (owns_below HS2.out (drew_below wr m)).alloc (.cells #[.slice nao N ncap] 78))
      have HA2 := Lib.hid (fun m => (show ((wr.drewN m).alloc (.cells #[Value.slice nao N ncap] 78)).cell? ((⟨wr.heap.size, 0, none⟩ : Addr).add 0) = some (.slice nao N ncap) from by
        exact cell_new (wr.drewN m) _ _))
      go_wp2_with (first
        | (go_at_call 170; with_reducible refine (HC.out).mono ?_; rintro e w3 ⟨rfl, m, rfl⟩)
        | (at_builtin; refine wpList_append_slice rfl _ _ rfl w.heap.size (.slice pao p pcap) (.slice nao N ncap) ⟨wr.heap.size, 0, none⟩ ss rfl (HA1.out m) rfl (HA2.out m) ⟨_, _, _, rfl⟩ ?c3 ?c4 ?_))
      case c3 => rw [HS1.out]; have := HF.out; rw [HN.out] at this; omega
      case c4 => have : (wr.drewN m).heap.size = wr.heap.size := rfl; simp; omega
      intro v' w4 hown hg4
      have hbd := (drew_below wr m)
      have hba := ((drew_below wr m).alloc (Nat.le_refl _) (.cells #[Value.slice nao N ncap] 78))
      have hsz4 : w.heap.size ≤ ((wr.drewN m).alloc (.cells #[Value.slice nao N ncap] 78)).heap.size := Nat.le_trans hwb hba.size
      have hb4 : Below w.heap.size w w4 := (HB'.out.trans (hba.mono hwb)).grown hg4 hsz4 (fun b hb => (World.ownsRow.lt (HA1.out m) b hb).1)
      have hn4 : Own w4 w.heap.size (.slice nao N ncap) (digs (tp p)) := (HO'.out.below hba).past (HA1.out m) hg4
      have hT4 := Tens.next HS1.out (fun i u hi => ((HS3.out i u hi).below hba).past (HA1.out m) hg4) hn4 hown
      have hle4 : ∀ i, i < p + 1 → tp i ≤ val x := fun i hi => by
        rcases Nat.lt_or_ge i p with h | h
        · exact HLe.out i h
        · obtain rfl : i = p := by omega
          exact HPX.out
      obtain ⟨ao4, cap4, rfl⟩ := hT4.len
      have HB4 := Lib.hid hb4
      have HN4 := Lib.hid hn4
      have HT4 := Lib.hid hT4
      have HLe4 := Lib.hid hle4
      have hw4 := hb4.size
      clear hown hg4 hbd hba hb4 hn4 hT4 hle4 HA1 HA2 HS1 HS2 HS3 HT HC HO' HLe HB'
      by_cases hbr : n < 2 * N - 1
      · have HE := Lib.hid (tp_past HNx.out.1 p (by rw [HN.out, HNN.out]; exact hbr))
        go_wp2
        go_ret
        exact ⟨_, p + 1, rfl, HT4.out, HE.out, HLe4.out, HB4.out⟩
      · have HL4 := Lib.hid (tp_len (n := n) (p := p) (by rw [HNN.out]; omega))
        have HP := Lib.hid (product_any _ _ _ _ w4 HN4.out.rd HN4.out.rd (norm_digs (tp p)).1 (norm_digs (tp p)).1 (by rw [HNN.out]; omega) (by rw [HNN.out]; omega))
        have HF' := Lib.hid (show p < 64 * n by have := HF.out; rw [HN.out] at this; exact this)
        rw [val_digs, tp_next] at HP
        go_wp2_with (go_at_call 167; with_reducible refine (HP.out).mono ?_; rintro e w5 ⟨sv, rfl, ho5, hb5⟩; have HO5 := Lib.hid (ho5.mono hw4); have HT5 := Lib.hid (HT4.out.below hb5); have HB5 := Lib.hid (HB4.out.trans (hb5.mono hw4)); clear ho5 hb5)
        refine ⟨?_, ?_⟩
        · exact ⟨p + 1, HT5.out, HO5.out, HL4.out, HLe4.out, HB5.out⟩
        · have := HF'.out
          simp
          omega
    · have hpX : val x < tp p := by
        rw [hc] at hcc
        unfold cmp3 at hcc
        split at hcc
        · omega
        · split at hcc <;> omega
      have HPX := Lib.hid hpX
      clear hc hpX
      go_wp2_with (go_at_call 170; with_reducible refine (HC.out).mono ?_; rintro e w3 ⟨rfl, m, rfl⟩)
      go_ret
      exact ⟨_, p, rfl, HT.out.below (drew_below _ _), HPX.out, HLe.out, HB'.out.trans ((drew_below _ _).mono HB'.out.size)⟩
end Go.Proofs.YtlhmfgbaefaneaaGreatDoor.nat
namespace Go.Proofs.YtlhmfgbaefaneaaGreatDoor.nat
open Go.RowKit
open Go.Proofs.YtlhmfgbaefaneaaGreatDoor.ref (str str_size str_append pad pad_length pad_cons pad_append pad_nought pad_dec pad_head)
def Pows (w : World) (g : Nat) (pv : Value) (p : Nat) : Prop :=
  ∃ ao cap, pv = .slice ao p cap ∧ (p ≤ cap ∧ cap ≤ maxLen) ∧ (p = 0 ∨ ∃ b off, ao = some ⟨b, off, none⟩ ∧ b ≠ g ∧ ∀ i, i < p → ∃ u, w.cell? ⟨b, off + i, none⟩ = some u ∧ Rd w u (digs (tp i)) ∧ Apart g u ∧ (digs (tp i)).length ≤ 400000)
theorem Pows.kept {w w' : World} {g p : Nat} {pv : Value} (h : Pows w g pv p) (hg : w.grownBy w' (some g)) : Pows w' g pv p := by
  obtain ⟨ao, cap, h1, h2, h3⟩ := h
  refine ⟨ao, cap, h1, h2, h3.imp id fun ⟨b, off, h4, h5, h6⟩ => ⟨b, off, h4, h5, fun i hi => ?_⟩⟩
  obtain ⟨u, c, r, a, l⟩ := h6 i hi
  exact ⟨u, hg.cell c (by simpa using h5), r.kept hg a, a, l⟩
theorem Pows.fewer {w : World} {g p cap : Nat} {ao : Option Addr} (h : Pows w g (.slice ao (p + 1) cap) (p + 1)) : Pows w g (.slice ao p cap) p := by
  obtain ⟨ao', cap', h1, h2, h3⟩ := h
  simp only [Value.slice.injEq] at h1
  obtain ⟨rfl, -, rfl⟩ := h1
  refine ⟨_, _, rfl, ⟨by omega, h2.2⟩, ?_⟩
  rcases h3 with h3 | ⟨b, off, h4, h5, h6⟩
  · omega
  · exact Or.inr ⟨b, off, h4, h5, fun i hi => h6 i (by omega)⟩
theorem Pows.drew {w : World} {g p : Nat} {pv : Value} (h : Pows w g pv p) (n : Nat) : Pows (w.drewN n) g pv p := h.kept (grown_of_below (drew_below w n) _)
theorem halves_row {L0 : List UInt8} {o h X : Nat} (hl : o + (h + h) ≤ L0.length) :
    (L0.take o ++ (pad h (X / 10 ^ h) ++ L0.drop (o + h))).take (o + h) ++ (pad h (X % 10 ^ h) ++ (L0.take o ++ (pad h (X / 10 ^ h) ++ L0.drop (o + h))).drop (o + h + h)) = L0.take o ++ (pad (h + h) X ++ L0.drop (o + (h + h))) := by
  have h1 : (L0.take o).length = o := by rw [List.length_take]; omega
  have h2 : (L0.take o ++ pad h (X / 10 ^ h)).length = o + h := by rw [List.length_append, h1, pad_length]
  rw [pad_mod, pad_split, ← List.append_assoc (L0.take o), List.take_left' h2, show o + h + h = (o + h) + h from rfl, ← List.drop_drop, List.drop_left' h2, List.drop_drop, List.append_assoc, List.append_assoc, Nat.add_assoc]
def WriteC (p : Nat) : Prop := ∀ (g o n c : Nat) (L0 : List UInt8) (sx pv : Value) (X : Nat) (w : World), RowB w g L0 → o + n ≤ L0.length → n ≤ c → c ≤ 1000000000 → n = 304 * 2 ^ p → Rd w sx (digs X) → Apart g sx → (digs X).length ≤ 400000 → Pows w g pv p →
    Calls Tryz.prog 172 #[.slice (some ⟨g, o, none⟩) n c, sx, pv] w fun e w' => e = .returned (.tuple #[]) ∧ RowB w' g (L0.take o ++ (pad n X ++ L0.drop (o + n))) ∧ w.grownBy w' (some g)
set_option maxRecDepth 100000 in
set_option maxHeartbeats 4000000 in
theorem write_short (g o n c p : Nat) (L0 : List UInt8) (sx pv : Value) (X : Nat) (w : World) (hr : RowB w g L0) (hl : o + n ≤ L0.length) (hnc : n ≤ c) (hcm : c ≤ 1000000000) (h19 : n % 19 = 0) (hx : Rd w sx (digs X)) (hxl : (digs X).length ≤ 400000) (hp : Pows w g pv p) (h0 : p = 0 ∨ X = 0) :
    Calls Tryz.prog 172 #[.slice (some ⟨g, o, none⟩) n c, sx, pv] w fun e w' => e = .returned (.tuple #[]) ∧ RowB w' g (L0.take o ++ (pad n X ++ L0.drop (o + n))) ∧ w.grownBy w' (some g) := by
  have HS := Lib.hid (writeShort_any g o n c L0 sx X w hr hl hnc hcm h19 hx hxl)
  obtain ⟨ao, cap, rfl, -, -⟩ := hp
  obtain ⟨xo, xcap, rfl, -⟩ := hx
  obtain ⟨m, hm⟩ : ∃ m, (digs X).length = m := ⟨_, rfl⟩
  have hm0 : p = 0 ∨ m = 0 := by
    rcases h0 with h | h
    · exact Or.inl h
    · right
      rw [← hm, h, digs_zero]
      rfl
  rw [hm] at HS ⊢
  clear hr hl hm hxl h0
  by_cases hp0 : p = 0
  · subst hp0
    go_enter Tryz.func172, Tryz.ntmps172
    go_wp2_with (go_at_call 214; with_reducible refine (HS.out).mono ?_; rintro e w2 ⟨rfl, h⟩; have HH := Lib.hid h; clear h HS)
    (try simp only [Exit.inBlock, Exit.then])
    refine bodyPost_ret (results_none rfl _ _ _) rfl ?_
    exact ⟨rfl, HH.out⟩
  · obtain rfl : m = 0 := by omega
    have hpb : ((p : Int) == 0) = false := by simp; omega
    go_enter Tryz.func172, Tryz.ntmps172
    go_wp2_with (go_at_call 214; with_reducible refine (HS.out).mono ?_; rintro e w2 ⟨rfl, h⟩; have HH := Lib.hid h; clear h HS)
    (try simp only [Exit.inBlock, Exit.then])
    refine bodyPost_ret (results_none rfl _ _ _) rfl ?_
    exact ⟨rfl, HH.out⟩
set_option maxRecDepth 100000 in
set_option maxHeartbeats 4000000 in
theorem write_halves (p : Nat) (IH : WriteC p) (g o n h c : Nat) (L0 : List UInt8) (sx pv : Value) (X : Nat) (w : World) (hn : n = h + h) (hr : RowB w g L0) (hl : o + (h + h) ≤ L0.length) (hnc : n ≤ c) (hcm : c ≤ 1000000000) (hh : h = 304 * 2 ^ p) (hx : Rd w sx (digs X)) (hax : Apart g sx) (hxl : (digs X).length ≤ 400000) (hp : Pows w g pv (p + 1)) (h0 : 0 < X) :
    Calls Tryz.prog 172 #[.slice (some ⟨g, o, none⟩) n c, sx, pv] w fun e w' => e = .returned (.tuple #[]) ∧ RowB w' g (L0.take o ++ (pad (h + h) X ++ L0.drop (o + (h + h)))) ∧ w.grownBy w' (some g) := by
  have HP := Lib.hid hp
  obtain ⟨ao, cap, rfl, ⟨hp1, hp2⟩, hp3⟩ := hp
  obtain ⟨b, off, rfl, hbg, hpc⟩ := hp3.resolve_left (by omega)
  obtain ⟨u, cu, ru, au, lu⟩ := hpc p (by omega)
  have hT : tp p = 10 ^ h := by unfold tp; rw [hh]
  have hgB := hr.lt
  have hDn := digs_le_len (Nat.div_le_self X (tp p)) hxl
  have hDm := digs_le_len (Nat.mod_le X (tp p)) hxl
  have hne : digs (tp p) ≠ [] := by
    intro e
    have h1 := val_digs (tp p)
    rw [e] at h1
    have h2 := tp_pos p
    have h3 : val [] = 0 := rfl
    omega
  have HD := divide_any sx u (digs X) (digs (tp p)) w hx ru (norm_digs _) (norm_digs _) hne (by omega) (by omega)
  rw [val_digs, val_digs, hT] at HD
  rw [hT] at hDn hDm
  obtain ⟨uo, ucap, rfl, -⟩ := id ru
  obtain ⟨N, hN⟩ : ∃ N, (digs (tp p)).length = N := ⟨_, rfl⟩
  rw [hN] at HD cu
  have HDv := Lib.hid HD
  have HR := Lib.hid hr
  have HL := Lib.hid hl
  have HI := Lib.hid IH
  have HH := Lib.hid hh
  have HDn := Lib.hid hDn
  have HDm := Lib.hid hDm
  obtain ⟨xo, xcap, rfl, -⟩ := id hx
  obtain ⟨m, hm⟩ : ∃ m, (digs X).length = m := ⟨_, rfl⟩
  have hm0 : 0 < m := by
    rw [← hm]
    refine Nat.pos_of_ne_zero fun e => ?_
    have h1 := val_digs X
    rw [List.eq_nil_of_length_eq_zero e] at h1
    have h3 : val [] = 0 := rfl
    omega
  have hmb : ((m : Int) == 0) = false := by simp; omega
  rw [hm] at hxl HDv ⊢
  have hh0 : 0 < h := by rw [hh]; have : 0 < 2 ^ p := Nat.pow_pos (by omega); omega
  clear hpc ru au lu hN hT hne HD hr hl hx hax IH hh hp3 hDn hDm hm h0
  go_enter Tryz.func172, Tryz.ntmps172
  have q1 : (n : Int) / 2 = (h : Int) := by omega
  have q2 : (h : Int) ≤ (c : Int) := by omega
  have q3 : (h : Int) ≤ (n : Int) := by omega
  have q4 : ¬ c = h := by omega
  have q5 : n - h = h := by omega
  have q6 : (p : Int) ≤ (cap : Int) := by omega
  have q7 : ((p : Int) + 1 == 0) = false := by simp; omega
  unfold maxLen at hp2
  have q8 : n ≤ 1000000000 := by omega
  have HN := Lib.hid hn
  clear hn
  go_wp2_with (first
    | (go_at_call 184; with_reducible refine (HDv.out).mono ?_; rintro e w2 ⟨sq, sr, rfl, ⟨hoq, hor⟩, hb2⟩
       have HQ := Lib.hid hoq
       have HS := Lib.hid hor
       have HB2 := Lib.hid hb2
       clear hoq hor hb2 HDv))
  obtain ⟨qo, qcap, rfl, -⟩ := id HQ.out
  obtain ⟨so, scap, rfl, -⟩ := id HS.out
  have W1 := Lib.hid (fun w' (hd : Below w2.heap.size w2 w') => HI.out g o h c L0 (.slice qo (digs (X / 10 ^ h)).length qcap) (.slice (some ⟨b, off, none⟩) p cap) (X / 10 ^ h) w' ((HR.out.below HB2.out hgB).below hd (Nat.lt_of_lt_of_le hgB HB2.out.size)) (by have := HL.out; omega) (by omega) hcm HH.out ((HQ.out.below hd).rd) (HQ.out.apart hgB) HDn.out ((HP.out.kept (grown_of_below HB2.out _)).fewer.kept (grown_of_below hd _)))
  have HP2 := Lib.hid (HP.out.kept (grown_of_below HB2.out (some g))).fewer
  have hg2 := Nat.lt_of_lt_of_le hgB HB2.out.size
  obtain ⟨N1, hN1⟩ : ∃ N1, (digs (X / 10 ^ h)).length = N1 := ⟨_, rfl⟩
  obtain ⟨N2, hN2⟩ : ∃ N2, (digs (X % 10 ^ h)).length = N2 := ⟨_, rfl⟩
  rw [hN1] at W1
  rw [hN1, hN2]
  have HN2 := Lib.hid hN2
  clear hN1 hN2 HQ
  go_region_held3 (fun _ => True) (trivial)
    (first
      | (go_at_call 172; with_reducible refine (W1.out _ (Below.refl _ _).drew).mono ?_; rintro e w3 ⟨rfl, hr3, hg3⟩
         have HR3 := Lib.hid hr3
         have HG3 := Lib.hid (grown_trans (grown_of_below (Below.refl w2.heap.size w2).drew (some g)) hg3)
         clear hr3 hg3 W1))
  obtain ⟨L1, hL1⟩ : ∃ L1, L1 = L0.take o ++ (pad h (X / 10 ^ h) ++ L0.drop (o + h)) := ⟨_, rfl⟩
  have hLl : L1.length = L0.length := by
    have := HL.out
    rw [hL1, List.length_append, List.length_append, pad_length, List.length_take, List.length_drop]
    omega
  have hg3b := HR3.out.lt
  have W2 := Lib.hid (fun w' (hd : Below w3.heap.size w3 w') => HI.out g (o + h) h (c - h) L1 (.slice so (digs (X % 10 ^ h)).length scap) (.slice (some ⟨b, off, none⟩) p cap) (X % 10 ^ h) w' ((by rw [hL1]; exact HR3.out : RowB w3 g L1).below hd hg3b) (by have := HL.out; omega) (by omega) (by omega) HH.out (((HS.out.rd).kept HG3.out (HS.out.apart hgB)).below hd) (HS.out.apart hgB) HDm.out ((HP2.out.kept HG3.out).kept (grown_of_below hd _)))
  have HL1 := Lib.hid hL1
  rw [HN2.out] at W2
  clear hL1 hLl
  go_wp2
  go_region_held3 (fun _ => True) (trivial)
    (first
      | (go_at_call 172; with_reducible refine (W2.out _ (Below.refl _ _).drew).mono ?_; rintro e w4 ⟨rfl, hr4, hg4⟩
         have HR4 := Lib.hid hr4
         have HG4 := Lib.hid (grown_trans (grown_of_below (Below.refl w3.heap.size w3).drew (some g)) hg4)
         clear hr4 hg4 W2))
  go_wp2
  go_end0
  refine ⟨rfl, ?_, ?_⟩
  · have h1 := HR4.out
    rw [HL1.out, halves_row HL.out] at h1
    exact h1
  · exact grown_trans (grown_trans (grown_of_below HB2.out _) HG3.out) HG4.out
theorem write_any : ∀ p, WriteC p
  | 0 => fun g o n c L0 sx pv X w hr hl hnc hcm hn hx _ hxl hp => write_short g o n c 0 L0 sx pv X w hr hl hnc hcm (by rw [hn]) hx hxl hp (Or.inl rfl)
  | p + 1 => fun g o n c L0 sx pv X w hr hl hnc hcm hn hx hax hxl hp => by
    have hn2 : n = 304 * 2 ^ p + 304 * 2 ^ p := by rw [hn, Nat.pow_succ]; omega
    rcases Nat.eq_zero_or_pos X with h0 | h0
    · exact write_short g o n c (p + 1) L0 sx pv X w hr hl hnc hcm (by omega) hx hxl hp (Or.inr h0)
    · have h := write_halves p (write_any p) g o n (304 * 2 ^ p) c L0 sx pv X w hn2 hr (by omega) hnc hcm rfl hx hax hxl hp h0
      rw [← hn2] at h
      exact h
end Go.Proofs.YtlhmfgbaefaneaaGreatDoor.nat
namespace Go.Proofs.YtlhmfgbaefaneaaGreatDoor.nat
open Go.RowKit
open Go.Proofs.YtlhmfgbaefaneaaGreatDoor.ref (str str_size str_append str_tail pad pad_length pad_cons pad_append pad_nought pad_dec pad_head)
def sizeOf' : Value → Nat
  | .string s => s.size
  | _ => 0
set_option maxRecDepth 100000 in
set_option maxHeartbeats 4000000 in
theorem trimLeftByte_any (M x : Nat) (w : World) (hx : x < 10 ^ M) (h0 : 0 < x) (hM : M ≤ 100000000) :
    Calls Tryz.prog 215 #[.string (str (pad M x)), .int .u8 48] w fun e w' => e = .returned (.string (str (Lib.decDigits x))) ∧ w = w' := by
  have HX := Lib.hid hx
  clear hx
  go_enter Tryz.func215, Tryz.ntmps215
  go_wp2
  go_loopw [0] (fun sv wr => w = wr ∧ ∃ m : Nat, m ≤ M ∧ x < 10 ^ m ∧ sv = .string (str (pad m x))) (fun sv _ => sizeOf' sv)
  case atStart => exact ⟨rfl, M, Nat.le_refl _, HX.out, rfl⟩
  case round =>
    obtain ⟨rfl, m, hm, hxm, rfl⟩ := hrel
    rcases m with _ | m
    · simp at hxm
      omega
    · have hz : (str (pad (m + 1) x)).size = m + 1 := by rw [str_size, pad_length]
      have hem : (str (pad (m + 1) x)).toList.isEmpty = false := by
        rw [ByteArray.toList_eq, pad_cons]
        rfl
      have ht := str_tail (UInt8.ofNat (48 + x / 10 ^ m % 10)) (pad m x)
      have hg : ∀ h : 0 < (str (pad (m + 1) x)).size, ((str (pad (m + 1) x))[0]'h).toNat = (UInt8.ofNat (48 + x / 10 ^ m % 10)).toNat := by
        rw [pad_cons m]
        intro h
        rfl
      rw [← pad_cons] at ht
      by_cases hh : x < 10 ^ m
      · rw [Nat.div_eq_of_lt hh] at hg
        have HT := Lib.hid ht
        have HH := Lib.hid hh
        generalize hss : str (pad (m + 1) x) = s at *
        have HSs := Lib.hid hss
        have hg' : ∀ h : 0 < s.size, (s[0]'h).toNat = 48 := hg
        clear ht hh hg hxm hss
        go_wp2
        go_roundw
        case rel => exact ⟨trivial, m, by omega, HH.out, by rw [← hz, HT.out]⟩
        case measure => simp [sizeOf']; omega
      · have he := Lib.hid (congrArg str (pad_dec m x hxm (Or.inr (by omega))))
        have hne := pad_head hxm (by omega)
        generalize (UInt8.ofNat (48 + x / 10 ^ m % 10)).toNat = c at *
        have hcb : ((c : Int) == 48) = false := by simp; omega
        generalize str (pad (m + 1) x) = s at *
        clear ht hh hxm
        go_wp2
        go_ret
        exact ⟨by rw [he.out]; rfl, rfl⟩
set_option maxRecDepth 100000 in
set_option maxHeartbeats 4000000 in
theorem TrimLeft_any (M x : Nat) (w : World) (hx : x < 10 ^ M) (h0 : 0 < x) (hM : M ≤ 100000000) :
    Calls Tryz.prog 173 #[.string (str (pad M x)), .string ⟨#[48]⟩] w fun e w' => e = .returned (.string (str (Lib.decDigits x))) ∧ w = w' := by
  have HT := Lib.hid (trimLeftByte_any M x w hx h0 hM)
  have hz : (str (pad M x)).size = M := by rw [str_size, pad_length]
  have hem : (str (pad M x)).toList.isEmpty = false := by
    rcases M with _ | m
    · simp at hx
      omega
    · rw [ByteArray.toList_eq, pad_cons]
      rfl
  obtain ⟨k, hk⟩ : ∃ k : ByteArray, k = ⟨#[48]⟩ := ⟨_, rfl⟩
  have kz : k.size = 1 := by rw [hk]; rfl
  have kg : ∀ h : 0 < k.size, (k[0]'h).toNat = 48 := by subst hk; intro _; rfl
  have ke : k.toList.isEmpty = false := by rw [ByteArray.toList_eq, hk]; rfl
  rw [← hk]
  clear hk
  generalize str (pad M x) = s at *
  clear hx h0
  go_enter Tryz.func173, Tryz.ntmps173
  go_wp2_with (go_at_call 215; with_reducible refine (HT.out).mono ?_; rintro e w2 ⟨rfl, rfl⟩)
  go_ret
  exact ⟨rfl, rfl⟩
end Go.Proofs.YtlhmfgbaefaneaaGreatDoor.nat
namespace Go.Proofs.YtlhmfgbaefaneaaGreatDoor.nat
open Go.RowKit
open Go.Proofs.YtlhmfgbaefaneaaGreatDoor.ref (str str_size str_append str_tail pad pad_length pad_cons pad_append pad_nought pad_dec pad_head)
theorem Tens.pows {w w' : World} {B p g X : Nat} {pv : Value} (h : Tens w B pv p) (hb : Below w.heap.size w w') (hg : w.heap.size ≤ g) (hX : (digs X).length ≤ 400000) (hle : ∀ i, i < p → tp i ≤ X) : Pows w' g pv p := by
  obtain ⟨ss, h1, h2, h3⟩ := h
  have hl := h1
  subst h1
  rcases h2.2 with ⟨rfl, h4⟩ | ⟨b, cap, cur, rfl, h5, h6, h7, h8, h9, h10⟩
  · exact ⟨_, _, by rw [h4], ⟨by omega, by unfold maxLen; omega⟩, Or.inl h4⟩
  · refine ⟨_, _, rfl, ⟨h7, h8⟩, Or.inr ⟨b, 0, rfl, ?_, fun i hi => ?_⟩⟩
    · have := (Array.getElem?_eq_some_iff.1 h6).1
      omega
    · have h2' : w.ownsRow B 78 1 (.slice (some ⟨b, 0, none⟩) ss.length cap) ss.length ss := h2
      have hc := h2'.cellAt i (by omega)
      rw [List.getElem?_eq_getElem hi] at hc
      have ho := h3 i _ (List.getElem?_eq_getElem hi)
      refine ⟨_, ?_, (ho.below hb).rd, ?_, digs_le_len (hle i hi) hX⟩
      · rw [Nat.zero_add, hb.cell (p := ⟨b, i, none⟩) (cell_lt hc)]
        exact hc
      · exact ho.rd.apart hg
theorem pows_few {X p n : Nat} (hX : (digs X).length ≤ n) (hn : n ≤ 40000) (hle : ∀ i, i < p → tp i ≤ X) : 304 * 2 ^ p ≤ 4000000 := by
  rcases p with _ | p
  · omega
  · have h1 := hle p (by omega)
    have h2 := val_lt' (norm_digs X).1 hX
    rw [val_digs] at h2
    have h3 : 8 ^ (304 * 2 ^ p) ≤ tp p := Nat.pow_le_pow_left (by omega) _
    have h4 : (2 : Nat) ^ (3 * (304 * 2 ^ p)) < 2 ^ (64 * n) := by
      rw [Nat.pow_mul 2 3, Nat.pow_mul 2 64]
      exact Nat.lt_of_le_of_lt (Nat.le_trans h3 h1) h2
    have h5 := (Nat.pow_lt_pow_iff_right (by omega : 1 < 2)).1 h4
    rw [Nat.pow_succ]
    omega
theorem shift_few {n p : Nat} (hn : n = 304 * 2 ^ p) (hb : n ≤ 4000000) : wrap64 (304 * 2 ^ min p 64) = (n : Int) := by
  have h1 : p < 2 ^ p := Nat.lt_two_pow_self
  have h2 : p < 64 := by
    rcases Nat.lt_or_ge p 64 with h | h
    · exact h
    · have h3 : 2 ^ 64 ≤ 2 ^ p := Nat.pow_le_pow_right (by omega) h
      omega
  have h4 : (304 * 2 ^ min p 64 : Int) = (n : Int) := by
    rw [Nat.min_eq_left (by omega), hn]
    simp
  rw [h4]
  unfold wrap64
  omega
set_option maxRecDepth 100000 in
theorem list_at (b o : Nat) (sv : Value) (l : List Nat) (w : World) (h : w.cell? ⟨b, o, none⟩ = some sv) (hr : Rd w sv l) :
    Calls Tryz.prog 168 #[.pointer (some ⟨b, o, none⟩)] w fun e w' => e = .returned sv ∧ w = w' := by
  obtain ⟨ao, cap, rfl, -⟩ := hr
  go_enter Tryz.func168, Tryz.ntmps168
  go_wp2
  go_ret
  exact ⟨rfl, rfl⟩
theorem conv_row {g n : Nat} {l : List UInt8} {w : World} (h : RowB w g l) (hn : l.length = n) :
    (convert 130 9 (.slice (some ⟨g, 0, none⟩) n n)).run Tryz.prog w = .ok (.string (str l)) w := by
  subst hn
  have h := run_convert_bytes_back (P := Tryz.prog) w 130 9 5 ⟨g, 0, none⟩ l.length l Tryz.underlying130 Tryz.underlying5 Tryz.underlying9 (fun j hj => by
    have h2 : (⟨g, 0, none⟩ : Addr).add j = ⟨g, j, none⟩ := by unfold Addr.add; split <;> simp_all
    rw [h2, h.cell j hj])
  exact h
set_option maxRecDepth 100000 in
set_option maxHeartbeats 4000000 in
theorem Text_any (a : Value) (X : Nat) (w : World) (ha : IsN w a X) (hx : (digs X).length ≤ 40000) :
    Calls Tryz.prog 135 #[a] w fun e w' => e = .returned (.string (str (Lib.decDigits X))) ∧ Below w.heap.size w w' := by
  have Z := Lib.hid (Zero_any a X w ha)
  by_cases h0 : X = 0
  · subst h0
    rw [decide_eq_true rfl] at Z
    clear ha hx
    go_enter Tryz.func135, Tryz.ntmps135
    go_wp2_with (go_at_call 164; refine (Z.out).mono ?_; rintro e w1 ⟨rfl, rfl⟩; clear Z)
    go_ret
    exact ⟨by rw [Lib.decDigits_one (by omega)]; rfl, Below.refl _ _⟩
  · rw [decide_eq_false h0] at Z
    rcases ha with ⟨-, rfl⟩ | ⟨b, o, sx, rfl, h2, h3⟩
    · exact absurd rfl h0
    have L1 := Lib.hid (list_at b o sx _ w h2 h3)
    have L2 := Lib.hid (fun w' (hb : Below w.heap.size w w') => list_at b o sx _ w' ((hb.cell (p := ⟨b, o, none⟩) (cell_lt h2)).trans h2) (h3.below hb))
    have HX := Lib.hid hx
    have HS := Lib.hid h3
    obtain ⟨so, scap, rfl, -⟩ := id h3
    have HT := Lib.hid (tenPowers_any (.slice so (digs X).length scap) (digs X) w h3 (norm_digs X) (by omega))
    rw [val_digs] at HT
    obtain ⟨N, hN⟩ : ∃ N, (digs X).length = N := ⟨_, rfl⟩
    rw [hN] at L1 L2 HT HS
    clear hx h3 h2 hN
    have h0' : 0 < X := by omega
    clear h0
    go_enter Tryz.func135, Tryz.ntmps135
    go_wp2_with (first
      | (go_at_call 164; with_reducible refine (Z.out).mono ?_; rintro e w1 ⟨rfl, rfl⟩; clear Z)
      | (go_at_call 168; with_reducible refine (L1.out).mono ?_; rintro e w1 ⟨rfl, rfl⟩; clear L1)
      | (go_at_call 171; with_reducible refine (HT.out).mono ?_; intro e w2 hh; unfold TensEnd at hh; obtain ⟨pv, p, rfl, ht, hlt, hle, hb2⟩ := hh
         have HFew := Lib.hid (pows_few HX.out (Nat.le_refl _) hle)
         obtain ⟨pao, pcap, rfl⟩ := ht.len
         obtain ⟨n, hn⟩ : ∃ n, n = 304 * 2 ^ p := ⟨_, rfl⟩
         have hnb : n ≤ 4000000 := by rw [hn]; exact HFew.out
         have hsh : wrap64 (304 * 2 ^ min p 64) = (n : Int) := shift_few hn hnb
         obtain ⟨W1, hmk, hrow, hbm⟩ := make_bytes w2 n (by omega)
         have hbw : Below w.heap.size w W1 := hb2.trans (hbm.mono hb2.size)
         have HB := Lib.hid hbw
         have hsz := hb2.size
         have HL2 := Lib.hid (L2.out W1 hbw)
         have HW := Lib.hid (write_any p w2.heap.size 0 n n (List.replicate n 0) _ _ X W1 hrow (by simp) (Nat.le_refl _) (by omega) hn (HS.out.below hbw) (HS.out.apart hb2.size) (by have := HX.out; omega) (ht.pows hbm (Nat.le_refl _) (by have := HX.out; omega) hle))
         rw [show (List.replicate n (0 : UInt8)).take 0 ++ (pad n X ++ (List.replicate n (0 : UInt8)).drop (0 + n)) = pad n X by simp] at HW
         have HTr := Lib.hid (fun w' => TrimLeft_any n X w' (by rw [hn]; exact hlt) h0' (by omega))
         clear hn hrow hbm hbw ht hlt hle hb2 L2 HT HFew)
      | (go_at_call 168; with_reducible refine (HL2.out).mono ?_; rintro e w3 ⟨rfl, rfl⟩; clear HL2)
      | (go_at_call 172; with_reducible refine (HW.out).mono ?_; rintro e w4 ⟨rfl, hr4, hg4⟩
         have hcv := conv_row hr4 (pad_length _ _)
         have HG4 := Lib.hid hg4
         clear HW hr4 hg4)
      | (go_at_call 173; with_reducible refine (HTr.out _).mono ?_; rintro e w5 ⟨rfl, rfl⟩; clear HTr))
    go_ret
    refine ⟨rfl, ?_⟩
    exact below_grown HB.out HG4.out HB.out.size hsz
end Go.Proofs.YtlhmfgbaefaneaaGreatDoor.nat
namespace Go.Proofs.YtlhmfgbaefaneaaGreatDoor.num
open Go.RowKit Go.Proofs.YtlhmfgbaefaneaaGreatDoor.nat
open Go.Proofs.YtlhmfgbaefaneaaGreatDoor.ref (str str_size str_tail str_append ch seg IsDig Numeral seg_lt IntText numeral_head)
set_option maxRecDepth 100000 in
theorem Cut_minus (t : List UInt8) (w : World) (hl : t.length ≤ 4611686018427387904) :
    Calls Tryz.prog 189 #[.string (str (45 :: t)), .string ⟨#[45]⟩] w fun e w' => e = .returned (.tuple #[.string (str t), .bool true]) ∧ w = w' := by
  have hz : (str (45 :: t)).size = t.length + 1 := rfl
  have hx : (str (45 :: t)).extract 0 1 = ⟨#[45]⟩ := by apply ByteArray.ext; simp [str]
  have ht : (str (45 :: t)).extract 1 (t.length + 1) = str t := str_tail 45 t
  have kz : (⟨#[45]⟩ : ByteArray).size = 1 := rfl
  generalize (⟨#[45]⟩ : ByteArray) = k at *
  generalize str (45 :: t) = s at *
  have HT := Lib.hid ht
  clear ht
  go_enter Tryz.func189, Tryz.ntmps189
  go_wp2
  go_ret2
  refine ⟨?_, rfl⟩
  rw [← HT.out]
  rfl
set_option maxRecDepth 100000 in
theorem Cut_none (l : List UInt8) (w : World) (hl : l.length ≤ 4611686018427387904) (h : ∀ t, l ≠ 45 :: t) :
    Calls Tryz.prog 189 #[.string (str l), .string ⟨#[45]⟩] w fun e w' => e = .returned (.tuple #[.string (str l), .bool false]) ∧ w = w' := by
  rcases l with _ | ⟨c, t⟩
  · have hz : (str []).size = 0 := rfl
    have kz : (⟨#[45]⟩ : ByteArray).size = 1 := rfl
    generalize (⟨#[45]⟩ : ByteArray) = k at *
    generalize str [] = s at *
    go_enter Tryz.func189, Tryz.ntmps189
    go_wp2
    go_ret2
    exact ⟨rfl, rfl⟩
  · have hc : c ≠ 45 := fun e => h t (by rw [e])
    have hz : (str (c :: t)).size = t.length + 1 := rfl
    have hx : (str (c :: t)).extract 0 1 = str [c] := by apply ByteArray.ext; simp [str]
    have hk : ((str [c]).toList == (⟨#[45]⟩ : ByteArray).toList) = false := by
      rw [ByteArray.toList_eq, ByteArray.toList_eq]
      simp [str, hc]
    have kz : (⟨#[45]⟩ : ByteArray).size = 1 := rfl
    generalize (⟨#[45]⟩ : ByteArray) = k at *
    generalize str [c] = p at *
    generalize str (c :: t) = s at *
    clear h
    go_enter Tryz.func189, Tryz.ntmps189
    go_wp2
    go_ret2
    exact ⟨rfl, rfl⟩
theorem nDigits_le : ∀ (n x : Nat), x < 10 ^ (n + 1) → Lib.nDigits x ≤ n + 1
  | 0, x, h => by rw [Lib.nDigits_small (by simpa using h)]; exact Nat.le_refl _
  | n + 1, x, h => by
    by_cases h1 : x < 10
    · rw [Lib.nDigits_small h1]; omega
    · rw [Lib.nDigits_big (by omega)]
      have := nDigits_le n (x / 10) (by rw [Nat.pow_succ] at h; omega)
      omega
theorem dec_size {x m : Nat} (h : (digs x).length ≤ m) : (str (Lib.decDigits x)).size ≤ 20 * m + 1 := by
  rw [str_size, Lib.decDigits_length]
  have h1 := val_lt' (norm_digs x).1 h
  rw [val_digs] at h1
  have h2 : x < 10 ^ (20 * m + 1) := by
    refine Nat.lt_of_lt_of_le h1 ?_
    rw [Nat.pow_add, Nat.pow_mul]
    refine Nat.le_trans (Nat.pow_le_pow_left (show 18446744073709551616 ≤ 10 ^ 20 by decide) m) (Nat.le_mul_of_pos_right _ (by decide))
  exact nDigits_le _ _ (Nat.lt_of_lt_of_le h2 (Nat.pow_le_pow_right (by omega) (by omega)))
set_option maxRecDepth 100000 in
set_option maxHeartbeats 2000000 in
theorem Text_any (a : Value) (z : Int) (w : World) (ha : IsZ w a z) (hx : (digs z.natAbs).length ≤ 40000) :
    Calls Tryz.prog 105 #[a] w fun e w' => e = .returned (.string (str (Lib.itoa z))) ∧ Below w.heap.size w w' := by
  have B := isBelow_any a z w ha
  have A := Lib.hid (amount_any a z w ha)
  have T := Lib.hid (fun na hn => nat.Text_any na z.natAbs w hn hx)
  have hlen := dec_size hx
  by_cases h : z < 0
  · have hz2 : str (Lib.itoa z) = str [45] ++ str (Lib.decDigits z.natAbs) := by
      unfold Lib.itoa
      rw [if_pos h, str_append]
      rfl
    rw [decide_eq_true h] at B
    rw [hz2]
    have HB := Lib.hid B
    generalize str (Lib.decDigits z.natAbs) = s at *
    have h45 : ({ data := #[45] } : ByteArray) = str [45] := rfl
    have hsz : ¬ 9223372036854775807 < ({ data := #[45] } : ByteArray).size + s.size := by
      have : ({ data := #[45] } : ByteArray).size = 1 := rfl
      omega
    clear ha B hz2 h hx hlen
    go_enter Tryz.func105, Tryz.ntmps105
    go_wp2_with (first
      | (go_at_call 129; (with_reducible refine (HB.out).mono ?_); rintro e w1 ⟨rfl, rfl⟩)
      | (go_at_call 130; (with_reducible refine (A.out).mono ?_); rintro e w1 ⟨na, rfl, hn, rfl⟩; have HN := Lib.hid hn; clear A hn)
      | (go_at_call 135; (with_reducible refine (T.out _ HN.out).mono ?_); rintro e w1 ⟨rfl, hb⟩; have HBl := Lib.hid hb; clear T hb))
    go_ret
    exact ⟨rfl, HBl.out⟩
  · have hz2 : str (Lib.itoa z) = str (Lib.decDigits z.natAbs) := by
      unfold Lib.itoa
      rw [if_neg h]
      congr 2
      omega
    rw [decide_eq_false h] at B
    rw [hz2]
    have HB := Lib.hid B
    generalize str (Lib.decDigits z.natAbs) = s at *
    clear ha B hz2 h hx hlen
    go_enter Tryz.func105, Tryz.ntmps105
    go_wp2_with (first
      | (go_at_call 129; (with_reducible refine (HB.out).mono ?_); rintro e w1 ⟨rfl, rfl⟩)
      | (go_at_call 130; (with_reducible refine (A.out).mono ?_); rintro e w1 ⟨na, rfl, hn, rfl⟩; have HN := Lib.hid hn; clear A hn)
      | (go_at_call 135; (with_reducible refine (T.out _ HN.out).mono ?_); rintro e w1 ⟨rfl, hb⟩; have HBl := Lib.hid hb; clear T hb))
    go_ret
    exact ⟨rfl, HBl.out⟩
end Go.Proofs.YtlhmfgbaefaneaaGreatDoor.num
namespace Go.Proofs.YtlhmfgbaefaneaaGreatDoor.nat
open Go.RowKit
theorem Cmp_b (a b : Value) (X Y : Nat) (w : World) (ha : IsN w a X) (hb : IsN w b Y) (hx : (digs X).length ≤ 1000000) (hy : (digs Y).length ≤ 1000000) :
    Calls Tryz.prog 133 #[a, b] w fun e w' => e = .returned (.int .i64 (cmp3 (X : Int) (Y : Int))) ∧ Below w.heap.size w w' :=
  (Cmp_any a b X Y w ha hb hx hy).mono fun e w' h => by
    obtain ⟨rfl, m, rfl⟩ := h
    exact ⟨rfl, drew_below _ _⟩
theorem below_tr {w w1 w2 : World} (h : Below w.heap.size w w1) (k : Below w1.heap.size w1 w2) : Below w.heap.size w w2 := h.trans (k.mono h.size)
theorem Of_int (z : Int) (d : Nat) (hz : z = d) (h : d < 18446744073709551616) (w : World) :
    Calls Tryz.prog 134 #[.int .u64 z] w fun e w' => ∃ v, e = .returned v ∧ (IsN w' v d ∧ v ≠ .pointer none) ∧ Below w.heap.size w w' := by
  subst hz
  exact Of_any d w h
theorem IsN.some {w : World} {v : Value} {X : Nat} (h : IsN w v X) (hn : v ≠ .pointer none) : ∃ p, v = .pointer (some p) := by
  rcases h with ⟨h, -⟩ | ⟨b, o, sv, h, -⟩
  · exact absurd h hn
  · exact ⟨_, h⟩
end Go.Proofs.YtlhmfgbaefaneaaGreatDoor.nat
namespace Go.Proofs.YtlhmfgbaefaneaaGreatDoor.num
open Go.RowKit Go.Proofs.YtlhmfgbaefaneaaGreatDoor.nat
theorem Cmp_b (a b : Value) (z y : Int) (w : World) (ha : IsZ w a z) (hb : IsZ w b y) (hx : (digs z.natAbs).length ≤ 800000) (hy : (digs y.natAbs).length ≤ 800000) :
    Calls Tryz.prog 102 #[a, b] w fun e w' => e = .returned (.int .i64 (cmp3 z y)) ∧ Below w.heap.size w w' :=
  (Cmp_any a b z y w ha hb hx hy).mono fun e w' h => by
    obtain ⟨rfl, m, rfl⟩ := h
    exact ⟨rfl, drew_below _ _⟩
theorem IsZ.some {w : World} {v : Value} {z : Int} (h : IsZ w v z) (hn : v ≠ .pointer none) : ∃ p, v = .pointer (some p) := by
  rcases h with ⟨h, -⟩ | ⟨b, o, neg, sv, X, h, -⟩
  · exact absurd h hn
  · exact ⟨_, h⟩
def Ln (x n : Nat) : Prop := (digs x).length ≤ n
def Lz (z : Int) (n : Nat) : Prop := (digs z.natAbs).length ≤ n
theorem Ln.le {x n m : Nat} (h : Ln x n) (hm : n ≤ m) : Ln x m := Nat.le_trans h hm
theorem Lz.le {x : Int} {n m : Nat} (h : Lz x n) (hm : n ≤ m) : Lz x m := Nat.le_trans h hm
theorem Ln_less {x y n : Nat} (hxy : x ≤ y) (h : Ln y n) : Ln x n := digs_le_len hxy h
theorem Ln_pow {x n : Nat} (h : x < 18446744073709551616 ^ n) : Ln x n := digs_len h
theorem Ln_small {x : Nat} (h : x < 18446744073709551616) : Ln x 1 := digs_len (by rwa [Nat.pow_one])
theorem Lz_small {z : Int} (h : z.natAbs < 18446744073709551616) : Lz z 1 := Ln_small h
theorem Lz_nat {x n : Nat} (h : Ln x n) : Lz (x : Int) n := by unfold Lz; rw [Int.natAbs_natCast]; exact h
theorem Ln_abs {z : Int} {n : Nat} (h : Lz z n) : Ln z.natAbs n := h
theorem Ln_mul {x y n m : Nat} (hx : Ln x n) (hy : Ln y m) : Ln (x * y) (n + m) := digs_mul_len hx hy
theorem Lz_mul {x y : Int} {n m : Nat} (hx : Lz x n) (hy : Lz y m) : Lz (x * y) (n + m) := by unfold Lz; rw [Int.natAbs_mul]; exact digs_mul_len hx hy
theorem Ln_add {x y n m : Nat} (hx : Ln x n) (hy : Ln y m) : Ln (x + y) (n + m + 1) := digs_add_len (Nat.le_trans hx (by omega)) (Nat.le_trans hy (by omega))
theorem Ln_gcd {x y n m : Nat} (hx : Ln x n) (hy : Ln y m) : Ln (Nat.gcd x y) (n + m) := digs_gcd_len (Nat.le_trans hx (by omega)) (Nat.le_trans hy (by omega))
end Go.Proofs.YtlhmfgbaefaneaaGreatDoor.num
namespace Go.Proofs.YtlhmfgbaefaneaaGreatDoor.rat
theorem num_den_of {q : Rat} {z : Int} {e : Nat} (he : 0 < e) (hc : Nat.gcd z.natAbs e = 1) (h : q = (z : Rat) / (e : Rat)) : q.num = z ∧ q.den = e := by
  rw [h, ← Rat.mkRat_eq_div, ← Rat.mk_eq_mkRat z e (by omega) hc]
  exact ⟨rfl, rfl⟩
theorem self_div (q : Rat) : q = (q.num : Rat) / (q.den : Rat) := by rw [← Rat.mkRat_eq_div, Rat.mkRat_self]
theorem cast_ne {e : Nat} (h : 0 < e) : (e : Rat) ≠ 0 := by
  intro h0
  have := Rat.natCast_pos.2 h
  rw [h0] at this
  exact Rat.lt_irrefl this
theorem cast_nez {e : Int} (h : e ≠ 0) : (e : Rat) ≠ 0 := fun h0 => h (Rat.intCast_inj.1 h0)
theorem fdiv_exact {z g : Int} (hg : g ≠ 0) (h : g ∣ z) : ((Int.fdiv z g : Int) : Rat) = (z : Rat) / (g : Rat) := by
  obtain ⟨k, rfl⟩ := h
  rw [Int.mul_fdiv_cancel_left _ hg, Rat.intCast_mul, Rat.mul_comm, Rat.mul_div_cancel (cast_nez hg)]
theorem fdiv_abs {z g : Int} (hg : g ≠ 0) (h : g ∣ z) : (Int.fdiv z g).natAbs = z.natAbs / g.natAbs := by
  obtain ⟨k, rfl⟩ := h
  rw [Int.mul_fdiv_cancel_left _ hg, Int.natAbs_mul, Nat.mul_div_cancel_left _ (by omega)]
theorem gcd_divides_l (z y : Int) : ((Nat.gcd z.natAbs y.natAbs : Nat) : Int) ∣ z := by rw [← Int.dvd_natAbs, Int.ofNat_dvd]; exact Nat.gcd_dvd_left _ _
theorem gcd_divides_r (z y : Int) : ((Nat.gcd z.natAbs y.natAbs : Nat) : Int) ∣ y := by rw [← Int.dvd_natAbs, Int.ofNat_dvd]; exact Nat.gcd_dvd_right _ _
def upN (z y : Int) : Int := if y < 0 then -z else z
theorem up_val {z y : Int} (hy : y ≠ 0) (hc : Nat.gcd z.natAbs y.natAbs = 1) : ((z : Rat) / (y : Rat)).num = upN z y ∧ ((z : Rat) / (y : Rat)).den = y.natAbs := by
  refine num_den_of (by omega) ?_ ?_
  · unfold upN
    split
    · rw [Int.natAbs_neg]; exact hc
    · exact hc
  · have h0 := cast_nez hy
    unfold upN
    split
    · rename_i h
      have e : (y.natAbs : Int) = -y := by omega
      have e2 : ((y.natAbs : Nat) : Rat) = -(y : Rat) := by
        rw [← Rat.intCast_natCast, e, Rat.intCast_neg]
      rw [e2, Rat.intCast_neg]
      grind
    · have e : (y.natAbs : Int) = y := by omega
      have e2 : ((y.natAbs : Nat) : Rat) = (y : Rat) := by
        rw [← Rat.intCast_natCast, e]
      rw [e2]
end Go.Proofs.YtlhmfgbaefaneaaGreatDoor.rat
namespace Go.Proofs.YtlhmfgbaefaneaaGreatDoor.rat
open Go.RowKit Go.Proofs.YtlhmfgbaefaneaaGreatDoor.nat Go.Proofs.YtlhmfgbaefaneaaGreatDoor.num
def IsR (w : World) (v : Value) (q : Rat) : Prop :=
  (v = .pointer none ∧ q = 0) ∨ ∃ b o y, v = .pointer (some ⟨b, o, none⟩) ∧ IsZ w (.pointer (some ⟨b, o, none⟩)) q.num ∧ IsZ w (.pointer (some ⟨b, o + 2, none⟩)) y ∧ (y = q.den ∨ (y = 0 ∧ q = 0))
theorem IsR.below {w w' : World} {v : Value} {q : Rat} (h : IsR w v q) (hb : Below w.heap.size w w') : IsR w' v q := by
  rcases h with h | ⟨b, o, y, h1, h2, h3, h4⟩
  · exact Or.inl h
  · exact Or.inr ⟨b, o, y, h1, h2.below hb, h3.below hb, h4⟩
theorem IsR.some {w : World} {v : Value} {q : Rat} (h : IsR w v q) (hn : v ≠ .pointer none) : ∃ p, v = .pointer (some p) := by
  rcases h with ⟨h, -⟩ | ⟨b, o, y, h, -⟩
  · exact absurd h hn
  · exact ⟨_, h⟩
theorem IsZ.cells {w : World} {v : Value} {z : Int} (h : IsZ w v z) (hn : v ≠ .pointer none) : ∃ b o neg ao n cap X, v = .pointer (some ⟨b, o, none⟩) ∧ w.cell? ⟨b, o, none⟩ = some (.bool neg) ∧ w.cell? ⟨b, o + 1, none⟩ = some (.slice ao n cap) ∧ Rd w (.slice ao n cap) (digs X) ∧ z = sgn neg X ∧ (neg = true → 0 < X) := by
  rcases h with ⟨h, -⟩ | ⟨b, o, neg, sv, X, h1, h2, h3, h4, h5⟩
  · exact absurd h hn
  · obtain ⟨ao, cap, rfl, -⟩ := id h4
    exact ⟨b, o, neg, ao, _, cap, X, h1, h2, h3, h4, h5⟩
theorem IsZ.of_cells {w : World} {b o : Nat} {neg : Bool} {sv : Value} {X : Nat} {z : Int} (h1 : w.cell? ⟨b, o, none⟩ = some (.bool neg)) (h2 : w.cell? ⟨b, o + 1, none⟩ = some sv) (h3 : Rd w sv (digs X)) (h4 : z = sgn neg X) (h5 : neg = true → 0 < X) : IsZ w (.pointer (some ⟨b, o, none⟩)) z :=
  Or.inr ⟨b, o, neg, sv, X, rfl, h1, h2, h3, h4, h5⟩
theorem row4 {w : World} {g : Nat} {v0 v1 v2 v3 : Value} {t : TypeId} (h : w.heap[g]? = some (.cells #[v0, v1, v2, v3] t (0, 0))) :
    w.cell? ⟨g, 0, none⟩ = some v0 ∧ w.cell? ⟨g, 1, none⟩ = some v1 ∧ w.cell? ⟨g, 2, none⟩ = some v2 ∧ w.cell? ⟨g, 3, none⟩ = some v3 :=
  ⟨by rw [cell_of_row _ _ 0 _ t (0, 0) h]; rfl, by rw [cell_of_row _ _ 1 _ t (0, 0) h]; rfl, by rw [cell_of_row _ _ 2 _ t (0, 0) h]; rfl, by rw [cell_of_row _ _ 3 _ t (0, 0) h]; rfl⟩
set_option maxRecDepth 100000 in
theorem own_at (q : Rat) (a b : Value) (z y : Int) (w : World) (ha : IsZ w a z) (hna : a ≠ .pointer none) (hb : IsZ w b y) (hnb : b ≠ .pointer none) (h1 : q.num = z) (h2 : y = q.den) :
    Calls Tryz.prog 114 #[a, b] w fun e w' => ∃ u, e = .returned u ∧ (IsR w' u q ∧ u ≠ .pointer none) ∧ Below w.heap.size w w' := by
  obtain ⟨ab, ao, an, aq, al, ac, AX, rfl, a1, a2, a3, a4, a5⟩ := IsZ.cells ha hna
  obtain ⟨bb, bo, bn, bq, bl, bc, BX, rfl, b1, b2, b3, b4, b5⟩ := IsZ.cells hb hnb
  have hbl : Below w.heap.size w (w.alloc (.cells #[.bool an, .slice aq al ac, .bool bn, .slice bq bl bc] 144)) := (Below.refl _ _).alloc (Nat.le_refl _) _
  obtain ⟨c0, c1, c2, c3⟩ := row4 (heap_alloc_new w (.cells #[.bool an, .slice aq al ac, .bool bn, .slice bq bl bc] 144))
  have HU := Lib.hid (show IsR (w.alloc (.cells #[.bool an, .slice aq al ac, .bool bn, .slice bq bl bc] 144)) (.pointer (some ⟨w.heap.size, 0, none⟩)) q from
    Or.inr ⟨_, 0, y, rfl, IsZ.of_cells c0 c1 (a3.below hbl) (h1.trans a4) a5, IsZ.of_cells c2 c3 (b3.below hbl) b4 b5, Or.inl h2⟩)
  have HB := Lib.hid hbl
  clear c0 c1 c2 c3 hbl ha hb a3 a4 a5 b3 b4 b5 h1 h2 hna hnb
  go_enter Tryz.func114, Tryz.ntmps114
  go_wp2
  go_region
  go_wp2
  go_ret
  exact ⟨_, rfl, ⟨HU.out.below (Below.refl _ _).drew, by simp⟩, HB.out.drew⟩
set_option maxRecDepth 100000 in
theorem Num_any (v : Value) (q : Rat) (w : World) (h : IsR w v q) :
    Calls Tryz.prog 104 #[v] w fun e w' => ∃ u, e = .returned u ∧ (IsZ w' u q.num ∧ u ≠ .pointer none) ∧ Below w.heap.size w w' := by
  rcases h with ⟨rfl, rfl⟩ | ⟨b, o, y, rfl, hz, hy, hd⟩
  · have O := Lib.hid (num.Of_any 0 w (by decide) (by decide))
    go_enter Tryz.func104, Tryz.ntmps104
    go_wp2_with (go_at_call 103; (with_reducible refine (O.out).mono ?_); rintro e w2 ⟨u, rfl, hu, hb⟩; have HU := Lib.hid hu; have HB := Lib.hid hb; clear O hu hb)
    go_ret
    exact ⟨_, rfl, HU.out, HB.out⟩
  · obtain ⟨ab, ao, an, aq, al, ac, AX, he, a1, a2, a3, a4, a5⟩ := IsZ.cells hz (by simp)
    simp only [Value.pointer.injEq, Option.some.injEq, Addr.mk.injEq, and_true] at he
    obtain ⟨rfl, rfl⟩ := he
    have hbl : Below w.heap.size w (w.alloc (.cells #[.bool an, .slice aq al ac] 142)) := (Below.refl _ _).alloc (Nat.le_refl _) _
    have HU := Lib.hid (show IsZ (w.alloc (.cells #[.bool an, .slice aq al ac] 142)) (.pointer (some ⟨w.heap.size, 0, none⟩)) q.num from
      IsZ.of_cells (cell_of_row _ w.heap.size 0 #[.bool an, .slice aq al ac] _ (0, 0) (heap_alloc_new w _)) (cell_of_row _ w.heap.size 1 #[.bool an, .slice aq al ac] _ (0, 0) (heap_alloc_new w _)) (a3.below hbl) a4 a5)
    have HB := Lib.hid hbl
    clear hbl hz hy hd a3 a4 a5
    go_enter Tryz.func104, Tryz.ntmps104
    go_wp2
    go_ret
    exact ⟨_, rfl, ⟨HU.out, by simp⟩, HB.out⟩
set_option maxRecDepth 100000 in
theorem Den_any (v : Value) (q : Rat) (w : World) (h : IsR w v q) :
    Calls Tryz.prog 101 #[v] w fun e w' => ∃ u, e = .returned u ∧ (IsZ w' u (q.den : Int) ∧ u ≠ .pointer none) ∧ Below w.heap.size w w' := by
  rcases h with ⟨rfl, rfl⟩ | ⟨b, o, y, rfl, hz, hy, hd⟩
  · have O := Lib.hid (num.Of_any 1 w (by decide) (by decide))
    go_enter Tryz.func101, Tryz.ntmps101
    go_wp2_with (go_at_call 103; (with_reducible refine (O.out).mono ?_); rintro e w2 ⟨u, rfl, hu, hb⟩; have HU := Lib.hid hu; have HB := Lib.hid hb; clear O hu hb)
    go_ret
    exact ⟨_, rfl, HU.out, HB.out⟩
  · have S := num.Sign_any _ y w hy
    obtain ⟨ab, ao, an, aq, al, ac, AX, he, a1, a2, a3, a4, a5⟩ := IsZ.cells hy (by simp)
    simp only [Value.pointer.injEq, Option.some.injEq, Addr.mk.injEq, and_true] at he
    obtain ⟨rfl, rfl⟩ := he
    by_cases h0 : y = 0
    · have hq : q = 0 := by
        rcases hd with hd | hd
        · have := q.den_pos; omega
        · exact hd.2
      subst hq
      rw [h0, show sg 0 = 0 by decide] at S
      have S := Lib.hid S
      have O := Lib.hid (num.Of_any 1 w (by decide) (by decide))
      clear hz hy hd a1 a2 a3 a4 a5 h0
      go_enter Tryz.func101, Tryz.ntmps101
      go_wp2_with (first
        | (go_at_call 126; (with_reducible refine (S.out).mono ?_); rintro e w1 ⟨rfl, rfl⟩; clear S)
        | (go_at_call 103; (with_reducible refine (O.out).mono ?_); rintro e w2 ⟨u, rfl, hu, hb⟩; have HU := Lib.hid hu; have HB := Lib.hid hb; clear O hu hb)
        | (fail "no arm"))
      go_ret
      exact ⟨_, rfl, HU.out, HB.out⟩
    · have hq : y = q.den := by
        rcases hd with hd | hd
        · exact hd
        · exact absurd hd.1 h0
      have hsg : (sg y == 0) = false := by unfold sg cmp3; simp; (repeat' split) <;> omega
      have S := Lib.hid S
      have hbl : Below w.heap.size w (w.alloc (.cells #[.bool an, .slice aq al ac] 142)) := (Below.refl _ _).alloc (Nat.le_refl _) _
      have HU := Lib.hid (show IsZ (w.alloc (.cells #[.bool an, .slice aq al ac] 142)) (.pointer (some ⟨w.heap.size, 0, none⟩)) (q.den : Int) from
        IsZ.of_cells (cell_of_row _ w.heap.size 0 #[.bool an, .slice aq al ac] _ (0, 0) (heap_alloc_new w _)) (cell_of_row _ w.heap.size 1 #[.bool an, .slice aq al ac] _ (0, 0) (heap_alloc_new w _)) (a3.below hbl) (hq ▸ a4) a5)
      have HB := Lib.hid hbl
      clear hbl hz hy hd a3 a4 a5 h0 hq
      generalize sg y = s at *
      go_enter Tryz.func101, Tryz.ntmps101
      go_wp2_with (first
        | (go_at_call 126; (with_reducible refine (S.out).mono ?_); rintro e w1 ⟨rfl, rfl⟩; clear S)
        | (fail "no arm"))
      go_ret
      exact ⟨_, rfl, ⟨HU.out, by simp⟩, HB.out⟩
set_option maxRecDepth 100000 in
theorem Sign_any (v : Value) (q : Rat) (w : World) (h : IsR w v q) :
    Calls Tryz.prog 150 #[v] w fun e w' => e = .returned (.int .i64 (sg q.num)) ∧ Below w.heap.size w w' := by
  have N := Lib.hid (Num_any v q w h)
  clear h
  go_enter Tryz.func150, Tryz.ntmps150
  go_wp2_with (first
    | (go_at_call 104; (with_reducible refine (N.out).mono ?_); rintro e w2 ⟨u, rfl, ⟨hu, -⟩, hb⟩; have HU := Lib.hid hu; have HB := Lib.hid hb; clear N hu hb)
    | (go_at_call 126; (with_reducible refine (num.Sign_any _ _ _ HU.out).mono ?_); rintro e w1 ⟨rfl, rfl⟩)
    | (fail "no arm"))
  go_ret
  exact ⟨rfl, HB.out⟩
end Go.Proofs.YtlhmfgbaefaneaaGreatDoor.rat
