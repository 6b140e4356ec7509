/-
  The steps of the walks, part 28: Bytes, WriteS, Tens, TenP.
-/
import Derived.Test.YtlhmfgbaefaneabGreatDoorB14
import Derived.Test.YtlhmfgbaefaneabGreatDoorB04
import Derived.Test.YtlhmfgbaefaneabGreatDoorB21
import Derived.Test.YtlhmfgbaefaneabGreatDoorB27
namespace Go.Proofs.YtlhmfgbaefaneabGreatDoor.nat
open Go.RowKit
open Go.Proofs.YtlhmfgbaefaneabGreatDoor.ref (str str_size str_append pad pad_length pad_cons pad_append pad_nought pad_dec pad_head)
theorem infoU8 : (Tryz.prog.info? 5).map (fun i => (i.zero, i.size, i.bytes)) = some (some (.int .u8 0), 1, 1) := by kernel_rfl
theorem pad_split (k X : Nat) : ∀ m, pad (k + m) X = pad k (X / 10 ^ m) ++ pad m X
  | 0 => by simp [pad]
  | m + 1 => by
    have h : ∀ m X, pad (m + 1) X = pad m (X / 10) ++ [UInt8.ofNat (48 + X % 10)] := fun _ _ => rfl
    rw [show k + (m + 1) = (k + m) + 1 by omega, h (k + m) X, h m X]
    have ih := pad_split k (X / 10) m
    rw [ih, Nat.div_div_eq_div_mul, show 10 * 10 ^ m = 10 ^ (m + 1) by rw [Nat.pow_succ, Nat.mul_comm], List.append_assoc]
theorem pad_low {k r q : Nat} (h : r < 10 ^ k) : pad k (q * 10 ^ k + r) = pad k r := by
  have := pad_append k 0 r q h
  rw [Nat.zero_add] at this
  rw [Nat.add_comm, Nat.mul_comm, this]
  rfl
theorem pad_mod (k X : Nat) : pad k (X % 10 ^ k) = pad k X := by
  have h := pad_low (k := k) (r := X % 10 ^ k) (q := X / 10 ^ k) (Nat.mod_lt _ (Nat.pow_pos (by omega)))
  rw [Nat.mul_comm, Nat.div_add_mod] at h
  exact h.symm
def RowB (w : World) (g : Nat) (L : List UInt8) : Prop := ∃ R, w.heap[g]? = some (.cells ((L.map fun d => Value.int .u8 (d.toNat : Nat)) ++ R).toArray 5 (0, 0))
theorem RowB.lt {w : World} {g : Nat} {L : List UInt8} (h : RowB w g L) : g < w.heap.size := by
  obtain ⟨R, h⟩ := h
  exact (Array.getElem?_eq_some_iff.1 h).1
theorem RowB.cell {w : World} {g : Nat} {L : List UInt8} (h : RowB w g L) (k : Nat) (hk : k < L.length) : w.cell? ⟨g, k, none⟩ = some (.int .u8 (L[k].toNat : Nat)) := by
  obtain ⟨R, h⟩ := h
  simp only [World.cell?, h, Option.isSome_none, Bool.false_eq_true, if_false]
  rw [List.getElem?_toArray, List.getElem?_append_left (by simpa using hk)]
  simp [hk]
theorem RowB.free {w : World} {g : Nat} {L : List UInt8} (h : RowB w g L) (k : Nat) : w.frozen? ⟨g, k, none⟩ = false := by
  obtain ⟨R, h⟩ := h
  simp [World.frozen?, h]
theorem RowB.set {w : World} {g : Nat} {L : List UInt8} (h : RowB w g L) (k : Nat) (hk : k < L.length) {u : Int} {d : UInt8} (hu : u = (d.toNat : Nat)) : RowB (w.setCell ⟨g, k, none⟩ (.int .u8 u)) g (L.set k d) := by
  obtain ⟨R, h⟩ := h
  refine ⟨R, ?_⟩
  rw [heap_setCell_same w g k _ _ _ h, hu]
  congr 2
  rw [List.setIfInBounds_toArray, List.set_append_left _ _ (by simpa using hk), List.map_set]
theorem RowB.kept {w w' : World} {g : Nat} {L : List UInt8} {row : Option Nat} (h : RowB w g L) (hg : w.grownBy w' row) (hne : some g ≠ row) : RowB w' g L := by
  obtain ⟨R, hR⟩ := h
  exact ⟨R, (hg.block g (Array.getElem?_eq_some_iff.1 hR).1 hne).trans hR⟩
theorem RowB.below {w w' : World} {B g : Nat} {L : List UInt8} (h : RowB w g L) (hb : Below B w w') (hg : g < B) : RowB w' g L := by
  obtain ⟨R, hR⟩ := h
  exact ⟨R, (hb.block g hg).trans hR⟩
theorem RowB.drew {w : World} {g : Nat} {L : List UInt8} (h : RowB w g L) (n : Nat) : RowB (w.drewN n) g L := h
theorem Own.low {w : World} {B g k : Nat} {sv u : Value} {l : List Nat} (h : Own w B sv l) (hg : g < B) : Own (w.setCell ⟨g, k, none⟩ u) B sv l := by
  obtain ⟨ao, cap, h0, h1, h2, h3⟩ := h
  exact ⟨ao, cap, h0, h1, h2, h3.imp id fun ⟨b, e1, h4, hr⟩ => ⟨b, e1, h4, hr.kept (grown_set w g k u) (by simp; omega)⟩⟩
theorem make_bytes (w : World) (n : Nat) (hn : n ≤ 1000000000) : ∃ W1, (Instr.makeSlice 41 (.int .i64 (n : Int)) (.int .i64 (n : Int))).run Tryz.prog w = .ok (.slice (some ⟨w.heap.size, 0, none⟩) n n) W1 ∧
    RowB W1 w.heap.size (List.replicate n 0) ∧ Below w.heap.size w W1 := by
  obtain ⟨i0, hi0, hz0, hz1, hz2⟩ := info_parts infoU8
  have h := run_make (P := Tryz.prog) w 41 5 i0 (.int .u8 0) Tryz.underlying41 hi0 hz0 .i64 .i64 (n : Int) (n : Int) (by omega) (by omega) (by rw [hz2]; omega) (by omega)
  rw [hz1] at h
  have hc : madeCells (Value.int .u8 0).cells (((n : Int)).toNat * 1) = ((List.replicate n (0 : UInt8)).map fun d => Value.int .u8 (d.toNat : Nat)).toArray := by
    have h0 : (madeCells (Value.int .u8 0).cells (n * 1)).toList = (List.replicate n (0 : UInt8)).map fun d => Value.int .u8 (d.toNat : Nat) := by
      rw [Nat.mul_one, show (Value.int .u8 0).cells = #[Value.int .u8 0] from rfl, toList_madeCells_one]
      simp
    rw [show ((n : Int)).toNat = n by omega, ← h0, Array.toArray_toList]
  rw [hc, show ((n : Int)).toNat = n by omega] at h
  have hh : (w.alloc (.cells ((List.replicate n (0 : UInt8)).map fun d => Value.int .u8 (d.toNat : Nat)).toArray 5)).heap[w.heap.size]? = some (.cells ((List.replicate n (0 : UInt8)).map fun d => Value.int .u8 (d.toNat : Nat)).toArray 5 (0, 0)) := heap_alloc_new w _
  exact ⟨_, h, ⟨[], by rw [List.append_nil]; exact hh⟩, (Below.refl _ _).alloc (Nat.le_refl _) _⟩
def From (w : World) (g : Nat) (L0 : List UInt8) (p : Nat) (D : List UInt8) : Prop := ∃ L, L.length = L0.length ∧ L.take p = L0.take p ∧ L.drop p = D ∧ RowB w g L
theorem From.free {w : World} {g p : Nat} {L0 D : List UInt8} (h : From w g L0 p D) (k : Nat) : w.frozen? ⟨g, k, none⟩ = false := by
  obtain ⟨L, _, _, _, h⟩ := h
  exact h.free k
theorem From.cell {w : World} {g p : Nat} {L0 D : List UInt8} (h : From w g L0 p D) (k : Nat) (hk : k < L0.length) : ∃ u, w.cell? ⟨g, k, none⟩ = some (.int .u8 u) := by
  obtain ⟨L, h0, _, _, h⟩ := h
  exact ⟨_, h.cell k (by omega)⟩
theorem From.set {w : World} {g p : Nat} {L0 D : List UInt8} (h : From w g L0 (p + 1) D) (hp : p < L0.length) {u : Int} {d : UInt8} (hu : u = (d.toNat : Nat)) : From (w.setCell ⟨g, p, none⟩ (.int .u8 u)) g L0 p (d :: D) := by
  obtain ⟨L, h0, h1, h2, h3⟩ := h
  refine ⟨L.set p d, by simpa using h0, ?_, ?_, h3.set p (by omega) hu⟩
  · rw [List.take_set, List.set_eq_of_length_le (by rw [List.length_take]; omega)]
    have := congrArg (List.take p) h1
    rwa [List.take_take, List.take_take, Nat.min_eq_left (by omega)] at this
  · rw [List.drop_eq_getElem_cons (by rw [List.length_set]; omega), List.getElem_set_self, List.drop_set_of_lt (by omega), h2]
theorem From.below {w w' : World} {B g p : Nat} {L0 D : List UInt8} (h : From w g L0 p D) (hb : Below B w w') (hg : g < B) : From w' g L0 p D := by
  obtain ⟨L, h0, h1, h2, h3⟩ := h
  exact ⟨L, h0, h1, h2, h3.below hb hg⟩
theorem From.drew {w : World} {g p : Nat} {L0 D : List UInt8} (h : From w g L0 p D) (n : Nat) : From (w.drewN n) g L0 p D := h
theorem From.row {w : World} {g p : Nat} {L0 D : List UInt8} (h : From w g L0 p D) : RowB w g (L0.take p ++ D) := by
  obtain ⟨L, h0, h1, h2, h3⟩ := h
  rw [← h1, ← h2, List.take_append_drop]
  exact h3
theorem RowB.start {w : World} {g : Nat} {L : List UInt8} (h : RowB w g L) (p : Nat) : From w g L p (L.drop p) := ⟨L, rfl, rfl, rfl, h⟩
end Go.Proofs.YtlhmfgbaefaneabGreatDoor.nat
namespace Go.Proofs.YtlhmfgbaefaneabGreatDoor.nat
open Go.RowKit
open Go.Proofs.YtlhmfgbaefaneabGreatDoor.ref (str str_size str_append pad pad_length pad_cons pad_append pad_nought pad_dec pad_head)
theorem grown_below {w a b : World} {row : Option Nat} (h : w.grownBy a row) (k : Below w.heap.size a b) : w.grownBy b row :=
  ⟨k.os.trans h.os, k.tape.trans h.tape, k.output.trans h.output, Nat.le_trans h.size k.size, fun i hi hne => (k.block i hi).trans (h.block i hi hne)⟩
def WrRel (w : World) (g o n : Nat) (X : Nat) (L0 : List UInt8) (lv ev : Value) (wr : World) : Prop :=
  ∃ E : Nat, ev = .int .i64 E ∧ E ≤ n ∧ E % 19 = 0 ∧ Own wr w.heap.size lv (digs (X / 10 ^ (n - E))) ∧ From wr g L0 (o + E) (pad (n - E) X ++ L0.drop (o + n)) ∧ w.grownBy wr (some g)
def WrIn (w : World) (g o E r : Nat) (L0 D : List UInt8) (lv : Value) (Y : Nat) (dv av : Value) (wi : World) : Prop :=
  ∃ k : Nat, k ≤ 19 ∧ av = .int .i64 ((E : Int) - 1 - k) ∧ dv = .int .u64 (r / 10 ^ k : Nat) ∧ Own wi w.heap.size lv (digs Y) ∧ From wi g L0 (o + E - k) (pad k r ++ D) ∧ w.grownBy wi (some g)
theorem divide_ten {B : Nat} (sv : Value) (z : List Nat) (w : World) (hO : Own w B sv z) (hdz : Dig z) (hn : z.length ≤ 4000000) :
    Calls Tryz.prog 181 #[sv, .int .u64 10000000000000000000] w fun e w' => ∃ (z' : List Nat) (r : Nat), e = .returned (.int .u64 (r : Nat)) ∧ (z'.length = z.length ∧ Dig z' ∧ val z' * 10 ^ 19 + r = val z ∧ r < 10 ^ 19 ∧ Own w' B sv z') ∧ Below B w w' := by
  have h := divideByWord_own sv z 10000000000000000000 w hO hdz (by omega) (by omega) hn
  exact h
set_option maxRecDepth 100000 in
set_option maxHeartbeats 4000000 in
theorem writeShort_any (g o n c : Nat) (L0 : List UInt8) (sx : Value) (X : Nat) (w : World) (hr : RowB w g L0) (hl : o + n ≤ L0.length) (hnc : n ≤ c) (hcm : c ≤ 1000000000) (h19 : n % 19 = 0) (hx : Rd w sx (digs X)) (hxl : (digs X).length ≤ 400000) :
    Calls Tryz.prog 199 #[.slice (some ⟨g, o, none⟩) n c, sx] w fun e w' => e = .returned (.tuple #[]) ∧ RowB w' g (L0.take o ++ (pad n X ++ L0.drop (o + n))) ∧ w.grownBy w' (some g) := by
  have hgB := hr.lt
  have HO := Lib.hid (show (w.alloc (.cells #[] 80)).ownsRow w.heap.size 80 1 (.slice (some ⟨w.heap.size, 0, none⟩) 0 0) ([] : List Nat).length (([] : List Nat).map fun d => Value.int .u64 (d : Nat)) from World.ownsRow_lit w #[] 0 (Nat.le_refl _) (by unfold maxLen; omega) rfl)
  have HX2 := Lib.hid (hx.below (w' := w.alloc (.cells #[] 80)) ((Below.refl _ _).alloc (Nat.le_refl _) _))
  have HR := Lib.hid hr
  have HL := Lib.hid hl
  have HXL := Lib.hid hxl
  clear hr hl hx hxl
  go_enter Tryz.func199, Tryz.ntmps199
  go_wp2_with (at_builtin; refine wpList_append_rd rfl _ _ rfl w.heap.size _ _ [] (digs X) rfl HO.out rfl HX2.out ?c1 ?c2 ?_)
  case c1 => have := HXL.out; simp; omega
  case c2 => simp
  intro v' w3 hown hg3
  have hB3 : Below w.heap.size w w3 := ((Below.refl _ _).alloc (Nat.le_refl _) _).grown hg3 (by simp) (fun k hk => by simp [Value.ownBlock] at hk; omega)
  have HO3 := Lib.hid (Own.of_owns (l := digs X) (by simpa using hown))
  have HG3 := Lib.hid (grown_of_below hB3 (some g))
  have HF3 := Lib.hid ((HR.out.below hB3 hgB).start (o + n))
  clear hown hg3 hB3 HO HX2 HR
  go_wp2
  go_loopw [4, 5] (fun lv ev wr => WrRel w g o n X L0 lv ev wr) (fun _ ev _ => (intOf ev).toNat)
  case atStart => exact ⟨n, rfl, Nat.le_refl _, h19, by rw [Nat.sub_self, Nat.pow_zero, Nat.div_one]; exact HO3.out, by rw [Nat.sub_self]; exact HF3.out, HG3.out⟩
  case round =>
    obtain ⟨E, rfl, hE, hE19, ho, hf, hg⟩ := hrel
    by_cases hE0 : E = 0
    · subst hE0
      have HF := Lib.hid hf
      have HG := Lib.hid hg
      clear hf hg ho
      go_wp2
      go_end0
      refine ⟨rfl, ?_, HG.out⟩
      have := HF.out.row
      simpa using this
    · have hE2 : 19 ≤ E := by omega
      obtain ⟨V, hV⟩ : ∃ V, V = X / 10 ^ (n - E) := ⟨_, rfl⟩
      rw [← hV] at ho
      have hwl : w.heap.size ≤ wr.heap.size := hg.size
      have hlen : (digs V).length ≤ 400000 := digs_le_len (by rw [hV]; exact Nat.div_le_self _ _) HXL.out
      have HD := Lib.hid (divide_ten (B := w.heap.size) u4 (digs V) wr ho (norm_digs V).1 (by omega))
      rw [val_digs] at HD
      have HF := Lib.hid hf
      have HG := Lib.hid hg
      have HV := Lib.hid hV
      have HLen := Lib.hid hlen
      clear hf hg ho hV hlen HO3 HG3 HF3
      go_wp2_with (first
        | (go_at_call 181; with_reducible refine (HD.out).mono ?_; rintro e w4 ⟨z', r, rfl, ⟨hz1, hz2, hz3, hz4, hz5⟩, hb4⟩
           have HT := Lib.hid (trim_own (B := w.heap.size) _ z' w4 hz5 (by have := HLen.out; omega) hz2)
           have HR := Lib.hid (And.intro hz3 hz4)
           have HB4 := Lib.hid hb4
           have HF4 := Lib.hid (HF.out.below hb4 hgB)
           have HG4 := Lib.hid (grown_below HG.out hb4)
           clear hz1 hz2 hz3 hz4 hz5 hb4 HD HF HG)
        | (go_at_call 144; with_reducible refine (HT.out).mono ?_; rintro e w5 ⟨lv, rfl, ho5, rfl⟩; have HO5 := Lib.hid ho5; clear ho5 HT))
      have hr19 : r < 10 ^ 19 := HR.out.2
      have HY := Lib.hid (show X / 10 ^ (n - (E - 19)) = val z' ∧ pad 19 r = pad 19 (X / 10 ^ (n - E)) by
        have h1 := HR.out.1
        have h2 := HV.out
        refine ⟨?_, ?_⟩
        · rw [show n - (E - 19) = (n - E) + 19 by omega, Nat.pow_add, ← Nat.div_div_eq_div_mul, ← h2, ← h1, Nat.mul_comm, Nat.mul_add_div (by omega), Nat.div_eq_of_lt hr19, Nat.add_zero]
        · rw [← h2, ← h1, pad_low hr19])
      have hrb : r < 18446744073709551616 := by omega
      clear hr19 HLen HR
      go_loopw [6, 7] (fun dv av wi => WrIn w g o E r L0 (pad (n - E) X ++ L0.drop (o + n)) lv (val z') dv av wi) (fun _ av _ => (intOf av + 20 - E).toNat)
      case atStart => exact ⟨0, by omega, by simp, by simp, HO5.out, by rw [Nat.sub_zero]; exact HF4.out, HG4.out⟩
      case round =>
        obtain ⟨k, hk, rfl, rfl, ho, hf, hg⟩ := hrel
        by_cases hk19 : k = 19
        · subst hk19
          have HO6 := Lib.hid ho
          have HF6 := Lib.hid hf
          have HG6 := Lib.hid hg
          clear ho hf hg HO5 HF4 HG4
          go_wp2
          go_roundw
          case rel =>
            refine ⟨E - 19, by go_num, by omega, by omega, ?_, ?_, HG6.out⟩
            · rw [HY.out.1]; exact HO6.out
            · have h1 := HF6.out
              rw [show o + (E - 19) = o + E - 19 by omega, show n - (E - 19) = 19 + (n - E) by omega, pad_split, ← HY.out.2, List.append_assoc]
              exact h1
          case measure => simp [intOf]; omega
        · have hk2 : k < 19 := by omega
          obtain ⟨p, hp⟩ : ∃ p, p = o + E - k - 1 := ⟨_, rfl⟩
          have hp1 : p + 1 = o + E - k := by omega
          have hpl : p < L0.length := by have := HL.out; omega
          rw [← hp1] at hf
          obtain ⟨u, c1⟩ := hf.cell p hpl
          have f1 := hf.free p
          obtain ⟨e, he⟩ : ∃ e, e = r / 10 ^ k := ⟨_, rfl⟩
          have heb : e < 18446744073709551616 := by rw [he]; exact Nat.lt_of_le_of_lt (Nat.div_le_self _ _) hrb
          have HNX := Lib.hid (hf.set hpl (u := 48 + (e : Int) % 10) (d := UInt8.ofNat (48 + e % 10)) (by rw [UInt8.toNat_ofNat']; omega))
          have HOX := Lib.hid (ho.low (k := p) (u := .int .u8 (48 + (e : Int) % 10)) hgB)
          have HGX := Lib.hid (grown_trans hg (grown_set _ g p (.int .u8 (48 + (e : Int) % 10))))
          have HE := Lib.hid he
          have HP := Lib.hid hp
          rw [← he]
          have e1 : ((E : Int) - 1 - (k : Int)).toNat = E - 1 - k := by omega
          have e2 : o + (E - 1 - k) = p := by omega
          have e3 : (E : Int) - 1 - (k : Int) < (n : Int) := by omega
          have e4 : (0 : Int) ≤ (E : Int) - 1 - (k : Int) := by omega
          clear ho hf hg HO5 HF4 HG4 he hp hp1
          go_wp2
          refine ⟨?_, ?_⟩
          · refine ⟨k + 1, by omega, by go_num, by rw [Nat.pow_succ, ← Nat.div_div_eq_div_mul, ← HE.out]; go_num, HOX.out, ?_, HGX.out⟩
            have := HNX.out
            rw [pad_cons, ← HE.out, show o + E - (k + 1) = p by omega]
            exact this
          · simp [intOf]; omega
end Go.Proofs.YtlhmfgbaefaneabGreatDoor.nat
namespace Go.Proofs.YtlhmfgbaefaneabGreatDoor.nat
open Go.RowKit
theorem infoU64s : (Tryz.prog.info? 114).map (fun i => (i.zero, i.size, i.bytes)) = some (some (.slice none 0 0), 1, 24) := by kernel_rfl
theorem wpList_append_slice {w : World} {ops : Array Oper} {rest : List Oper} {o : Oper} {a : Act} {Q : Exit → Act → World → Prop} (hgd : o.guard = none) (s x : Operand)
    (ho : o.op = .call { callee := .builtin .append, args := #[s, x], argTypes := #[165, 165] })
    (base : Nat) (v u : Value) (ad : Addr) (l1 : List Value) (hs : a.eval s = v) (hown : w.ownsRow base 114 1 v l1.length l1) (hx : a.eval x = .slice (some ad) 1 1) (hr : w.cell? (ad.add 0) = some u) (hu : ∃ ao n c, u = .slice ao n c)
    (hlen : l1.length ≤ 100000000) (hbase : base ≤ w.heap.size)
    (h : ∀ v' w', w'.ownsRow base 114 1 v' (l1.length + 1) (l1 ++ [u]) → w.grownBy w' v.ownBlock → wpList Tryz.prog ops Q rest (a.put o.dst v') w') :
    wpList Tryz.prog ops Q (o :: rest) a w := by
  obtain ⟨i0, hi0, hz0, hz1, hz2⟩ := info_parts infoU64s
  refine wpList_append_own w hgd s x 165 ho base 114 i0 (.slice none 0 0) 1 24 Tryz.underlying165 hi0 hz0 hz1 hz2 rfl (by decide) v l1.length _ hs hown ad 1 1 [u] hx (by simp) ?_ ?_ (by unfold maxLen; omega) (by omega) hbase ?_
  · intro j u' hj
    rcases j with _ | j
    · obtain rfl : u = u' := by simpa using hj
      exact hr
    · simp at hj
  · intro u' hu'
    obtain rfl := List.mem_singleton.1 hu'
    obtain ⟨_, _, _, rfl⟩ := hu
    rfl
  · intro v' w' ho hg _
    exact h v' w' ho hg
def tp (i : Nat) : Nat := 10 ^ (304 * 2 ^ i)
theorem tp_next (i : Nat) : tp i * tp i = tp (i + 1) := by
  unfold tp
  rw [← Nat.pow_add, Nat.pow_succ]
  congr 1
  omega
theorem tp_one (i : Nat) : 2 ^ (2 ^ i) ≤ tp i := by
  unfold tp
  refine Nat.le_trans (Nat.pow_le_pow_left (by omega : 2 ≤ 10) _) (Nat.pow_le_pow_right (by omega) ?_)
  have : 0 < 2 ^ i := Nat.pow_pos (by omega)
  omega
theorem tp_pos (i : Nat) : 0 < tp i := Nat.pow_pos (by omega)
def Tens (w : World) (B : Nat) (pv : Value) (p : Nat) : Prop :=
  ∃ ss : List Value, ss.length = p ∧ w.ownsRow B 114 1 pv ss.length ss ∧ ∀ i u, ss[i]? = some u → Own w B u (digs (tp i))
theorem owns_below {w w' : World} {B n : Nat} {e : TypeId} {v : Value} {xs : List Value} (h : w.ownsRow B e 1 v n xs) (hb : Below w.heap.size w w') : w'.ownsRow B e 1 v n xs := by
  refine ⟨h.1, ?_⟩
  rcases h.2 with hn | ⟨g, cap, cur, rfl, h1, h2, rest⟩
  · exact Or.inl hn
  · exact Or.inr ⟨g, cap, cur, rfl, h1, (hb.block g (Array.getElem?_eq_some_iff.1 h2).1).trans h2, rest⟩
theorem Own.past {w w' : World} {B B' n : Nat} {pv u : Value} {l : List Nat} {ss : List Value} (h : Own w B u l) (ho : w.ownsRow B' 114 1 pv n ss) (hg : w.grownBy w' pv.ownBlock) : Own w' B u l := by
  obtain ⟨ao, cap, h0, h1, h2, h3⟩ := h
  refine ⟨ao, cap, h0, h1, h2, h3.imp id fun ⟨g, e1, h4, hr⟩ => ⟨g, e1, h4, hr.kept hg fun e => ?_⟩⟩
  rcases ho.2 with ⟨rfl, _⟩ | ⟨g', cap', cur, rfl, _, hc, _⟩
  · simp [Value.ownBlock] at e
  · obtain rfl : g = g' := by simpa [Value.ownBlock] using e
    obtain ⟨R, hR⟩ := hr
    rw [hR] at hc
    simp at hc
theorem Tens.nil (w : World) (B : Nat) : Tens w B (.slice none 0 0) 0 := ⟨[], rfl, World.ownsRow_nil _ _ _ _, fun i u h => by simp at h⟩
theorem Tens.below {w w' : World} {B p : Nat} {pv : Value} (h : Tens w B pv p) (hb : Below w.heap.size w w') : Tens w' B pv p := by
  obtain ⟨ss, h1, h2, h3⟩ := h
  exact ⟨ss, h1, owns_below h2 hb, fun i u hi => (h3 i u hi).below hb⟩
theorem Tens.next {B p : Nat} {w' : World} {pv' u : Value} {ss : List Value} (hl : ss.length = p) (h : ∀ i u, ss[i]? = some u → Own w' B u (digs (tp i))) (hu : Own w' B u (digs (tp p)))
    (ho : w'.ownsRow B 114 1 pv' (ss.length + 1) (ss ++ [u])) : Tens w' B pv' (p + 1) := by
  refine ⟨ss ++ [u], by simp [hl], by simpa using ho, fun i u' hi => ?_⟩
  by_cases h1 : i < ss.length
  · rw [List.getElem?_append_left h1] at hi
    exact h i u' hi
  · rw [List.getElem?_append_right (by omega)] at hi
    have h2 : i - ss.length = 0 := by
      have := (List.getElem?_eq_some_iff.1 hi).1
      simp at this
      omega
    rw [h2] at hi
    obtain rfl : u = u' := by simpa using hi
    have : i = p := by omega
    rw [this]
    exact hu
theorem tp_past {x : List Nat} (hd : Dig x) (p : Nat) (h : x.length < 2 * (digs (tp p)).length - 1) : val x < tp (p + 1) := by
  have hne : digs (tp p) ≠ [] := by
    intro e
    have h1 := val_digs (tp p)
    rw [e] at h1
    have h2 := tp_pos p
    have h3 : val [] = 0 := rfl
    omega
  have h1 := (norm_digs (tp p)).low hne
  rw [val_digs] at h1
  have h2 := val_lt' hd (n := ((digs (tp p)).length - 1) + ((digs (tp p)).length - 1)) (by omega)
  rw [Nat.pow_add] at h2
  rw [← tp_next]
  exact Nat.lt_of_lt_of_le h2 (Nat.mul_le_mul h1 h1)
theorem tp_len {n p : Nat} (h : 2 * (digs (tp p)).length - 1 ≤ n) : (digs (tp (p + 1))).length ≤ n + 16 := by
  have h1 := val_lt (norm_digs (tp p)).1
  rw [val_digs] at h1
  refine Nat.le_trans (digs_len (n := (digs (tp p)).length + (digs (tp p)).length) ?_) (by omega)
  rw [← tp_next, Nat.pow_add]
  exact Nat.mul_lt_mul'' h1 h1
theorem tp_few {x : List Nat} (hd : Dig x) {p : Nat} (h : tp p ≤ val x) : p < 64 * x.length := by
  have h1 := val_lt hd
  have h2 := Nat.lt_of_le_of_lt (Nat.le_trans (tp_one p) h) h1
  rw [show 18446744073709551616 = 2 ^ 64 from rfl, ← Nat.pow_mul] at h2
  have h3 := (Nat.pow_lt_pow_iff_right (by omega : 1 < 2)).1 h2
  have h4 : p < 2 ^ p := Nat.lt_two_pow_self
  omega
end Go.Proofs.YtlhmfgbaefaneabGreatDoor.nat
namespace Go.Proofs.YtlhmfgbaefaneabGreatDoor.nat
open Go.RowKit
def TensEnd (w : World) (X : Nat) (e : Ending) (w' : World) : Prop :=
  ∃ pv p, e = .returned pv ∧ Tens w' w.heap.size pv p ∧ X < tp p ∧ (∀ i, i < p → tp i ≤ X) ∧ Below w.heap.size w w'
def TPRel (w : World) (X n : Nat) (pv nv : Value) (wr : World) : Prop :=
  ∃ p, Tens wr w.heap.size pv p ∧ Own wr w.heap.size nv (digs (tp p)) ∧ (digs (tp p)).length ≤ n + 16 ∧ (∀ i, i < p → tp i ≤ X) ∧ Below w.heap.size w wr
theorem Tens.len {w : World} {B p : Nat} {pv : Value} (h : Tens w B pv p) : ∃ ao cap, pv = .slice ao p cap := by
  obtain ⟨ss, h1, h2, _⟩ := h
  rcases h2.2 with ⟨rfl, h3⟩ | ⟨g, cap, cur, rfl, _⟩
  · exact ⟨_, _, by rw [← h1, h3]⟩
  · exact ⟨_, _, by rw [h1]⟩
set_option exponentiation.threshold 400 in
theorem power_ten (sx : Value) (w : World) (hx : Rd w sx [10]) :
    Calls Tryz.prog 165 #[sx, .int .i64 304] w fun e w' => ∃ sv, e = .returned sv ∧ Own w' w.heap.size sv (digs (tp 0)) ∧ Below w.heap.size w w' := by
  have e : val [10] = 10 := rfl
  have hb : (digs (val [10] ^ 304)).length ≤ 16 := digs_len (by rw [e]; decide)
  have h := power_pos sx [10] 304 w hx ⟨Dig.nil.cons (by omega), by simp⟩ (by simp) (by omega) (by omega)
  rw [e] at h
  exact h
set_option exponentiation.threshold 400 in
theorem tp_zero_len : (digs (tp 0)).length ≤ 16 := digs_len (by decide)
theorem cell_new (w : World) (v : Value) (t : TypeId) : (w.alloc (.cells #[v] t)).cell? ⟨w.heap.size, 0, none⟩ = some v := by
  unfold World.cell?
  rw [heap_alloc_new]
  rfl
set_option maxRecDepth 100000 in
set_option maxHeartbeats 4000000 in
theorem tenPowers_any (sx : Value) (x : List Nat) (w : World) (hx : Rd w sx x) (hnx : Norm x) (hs : x.length ≤ 400000) :
    Calls Tryz.prog 162 #[sx] w fun e w' => TensEnd w (val x) e w' := by
  obtain ⟨ao, cap, rfl, ⟨h1, h4⟩, h2, h3⟩ := id hx
  obtain ⟨n, hn⟩ : ∃ n, x.length = n := ⟨_, rfl⟩
  have HN := Lib.hid hn
  have HX := Lib.hid hx
  have HNx := Lib.hid hnx
  rw [hn] at hs h1 HX ⊢
  clear hx hnx hn h3 h4 h1 h2
  have hal := (Below.refl w.heap.size w).alloc (Nat.le_refl _) (.cells #[Value.int .u64 10] 80)
  have HAl := Lib.hid hal
  have HTen := Lib.hid (power_ten (.slice (some ⟨w.heap.size, 0, none⟩) 1 1) (w.alloc (.cells #[Value.int .u64 10] 80)) (word_own (w := w) (d := 10) (B := w.heap.size) (Nat.le_refl _)).rd)
  clear hal
  go_enter Tryz.func162, Tryz.ntmps162
  go_wp2_with (go_at_call 165; with_reducible refine (HTen.out).mono ?_; rintro e w2 ⟨nv, rfl, ho, hb⟩; have HO := Lib.hid ho; have HB := Lib.hid hb; clear ho hb HTen)
  go_loopw [3, 4] (fun pv nv wr => TPRel w (val x) n pv nv wr) (fun pv _ _ => match pv with | .slice _ p _ => 64 * n + 1 - p | _ => 0)
  case atStart => exact ⟨0, Tens.nil _ _, HO.out.mono HAl.out.size, by have := tp_zero_len; omega, fun i hi => by omega, HAl.out.trans (HB.out.mono HAl.out.size)⟩
  case round =>
    obtain ⟨p, ht, ho, hl, hle, hb⟩ := hrel
    obtain ⟨N, hN⟩ : ∃ N, (digs (tp p)).length = N := ⟨_, rfl⟩
    have hNl : N ≤ n + 16 := by omega
    have HC := Lib.hid (compare_any u4 (.slice ao n cap) (digs (tp p)) x wr ho.rd (HX.out.below hb) (norm_digs _) HNx.out (by omega) (by rw [HN.out]; omega))
    rw [val_digs] at HC
    obtain ⟨c, hc⟩ : ∃ c, c = cmp3 (tp p : Nat) (val x : Nat) := ⟨_, rfl⟩
    rw [← hc] at HC
    have HT := Lib.hid ht
    have HO' := Lib.hid ho
    have HLe := Lib.hid hle
    have HB' := Lib.hid hb
    have HNN := Lib.hid hN
    obtain ⟨pao, pcap, rfl⟩ := ht.len
    obtain ⟨nao, ncap, rfl, -⟩ := id ho
    rw [hN] at HO' HC ⊢
    clear hle hb ht ho hl hN HAl HB HO
    by_cases hcc : c ≤ 0
    · have hpX : tp p ≤ val x := by
        rw [hc] at hcc
        unfold cmp3 at hcc
        split at hcc
        · omega
        · split at hcc <;> omega
      have HF := Lib.hid (tp_few HNx.out.1 hpX)
      have HPX := Lib.hid hpX
      have hwb := HB'.out.size
      clear hc hpX
      obtain ⟨ss, hs1, hs2, hs3⟩ := HT.out
      have HS1 := Lib.hid hs1
      have HS2 := Lib.hid hs2
      have HS3 := Lib.hid hs3
      clear hs1 hs2 hs3
      have HA1 := Lib.hid (fun m => (owns_below HS2.out (drew_below wr m)).alloc (.cells #[.slice nao N ncap] 114))
      have HA2 := Lib.hid (fun m => (show ((wr.drewN m).alloc (.cells #[Value.slice nao N ncap] 114)).cell? ((⟨wr.heap.size, 0, none⟩ : Addr).add 0) = some (.slice nao N ncap) from by
        exact cell_new (wr.drewN m) _ _))
      go_wp2_with (first
        | (go_at_call 141; with_reducible refine (HC.out).mono ?_; rintro e w3 ⟨rfl, m, rfl⟩)
        | (at_builtin; refine wpList_append_slice rfl _ _ rfl w.heap.size (.slice pao p pcap) (.slice nao N ncap) ⟨wr.heap.size, 0, none⟩ ss rfl (HA1.out m) rfl (HA2.out m) ⟨_, _, _, rfl⟩ ?c3 ?c4 ?_))
      case c3 => rw [HS1.out]; have := HF.out; rw [HN.out] at this; omega
      case c4 => have : (wr.drewN m).heap.size = wr.heap.size := rfl; simp; omega
      intro v' w4 hown hg4
      have hbd := (drew_below wr m)
      have hba := ((drew_below wr m).alloc (Nat.le_refl _) (.cells #[Value.slice nao N ncap] 114))
      have hsz4 : w.heap.size ≤ ((wr.drewN m).alloc (.cells #[Value.slice nao N ncap] 114)).heap.size := Nat.le_trans hwb hba.size
      have hb4 : Below w.heap.size w w4 := (HB'.out.trans (hba.mono hwb)).grown hg4 hsz4 (fun b hb => (World.ownsRow.lt (HA1.out m) b hb).1)
      have hn4 : Own w4 w.heap.size (.slice nao N ncap) (digs (tp p)) := (HO'.out.below hba).past (HA1.out m) hg4
      have hT4 := Tens.next HS1.out (fun i u hi => ((HS3.out i u hi).below hba).past (HA1.out m) hg4) hn4 hown
      have hle4 : ∀ i, i < p + 1 → tp i ≤ val x := fun i hi => by
        rcases Nat.lt_or_ge i p with h | h
        · exact HLe.out i h
        · obtain rfl : i = p := by omega
          exact HPX.out
      obtain ⟨ao4, cap4, rfl⟩ := hT4.len
      have HB4 := Lib.hid hb4
      have HN4 := Lib.hid hn4
      have HT4 := Lib.hid hT4
      have HLe4 := Lib.hid hle4
      have hw4 := hb4.size
      clear hown hg4 hbd hba hb4 hn4 hT4 hle4 HA1 HA2 HS1 HS2 HS3 HT HC HO' HLe HB'
      by_cases hbr : n < 2 * N - 1
      · have HE := Lib.hid (tp_past HNx.out.1 p (by rw [HN.out, HNN.out]; exact hbr))
        go_wp2
        go_ret
        exact ⟨_, p + 1, rfl, HT4.out, HE.out, HLe4.out, HB4.out⟩
      · have HL4 := Lib.hid (tp_len (n := n) (p := p) (by rw [HNN.out]; omega))
        have HP := Lib.hid (product_any _ _ _ _ w4 HN4.out.rd HN4.out.rd (norm_digs (tp p)).1 (norm_digs (tp p)).1 (by rw [HNN.out]; omega) (by rw [HNN.out]; omega))
        have HF' := Lib.hid (show p < 64 * n by have := HF.out; rw [HN.out] at this; exact this)
        rw [val_digs, tp_next] at HP
        go_wp2_with (go_at_call 117; with_reducible refine (HP.out).mono ?_; rintro e w5 ⟨sv, rfl, ho5, hb5⟩; have HO5 := Lib.hid (ho5.mono hw4); have HT5 := Lib.hid (HT4.out.below hb5); have HB5 := Lib.hid (HB4.out.trans (hb5.mono hw4)); clear ho5 hb5)
        refine ⟨?_, ?_⟩
        · exact ⟨p + 1, HT5.out, HO5.out, HL4.out, HLe4.out, HB5.out⟩
        · have := HF'.out
          simp
          omega
    · have hpX : val x < tp p := by
        rw [hc] at hcc
        unfold cmp3 at hcc
        split at hcc
        · omega
        · split at hcc <;> omega
      have HPX := Lib.hid hpX
      clear hc hpX
      go_wp2_with (go_at_call 141; with_reducible refine (HC.out).mono ?_; rintro e w3 ⟨rfl, m, rfl⟩)
      go_ret
      exact ⟨_, p, rfl, HT.out.below (drew_below _ _), HPX.out, HLe.out, HB'.out.trans ((drew_below _ _).mono HB'.out.size)⟩
end Go.Proofs.YtlhmfgbaefaneabGreatDoor.nat
