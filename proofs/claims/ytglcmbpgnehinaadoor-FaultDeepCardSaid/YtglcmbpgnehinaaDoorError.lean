/-
  (*Fault).Error over a chain of Faults: each place that is not empty followed by a colon and a blank, then 'error ' and the code; a nil *Fault: the empty string. Conditions: the chain lies in memory; its code is 1 to 11; at most 100,000 links, each place at most 100,000 bytes.
-/
import Derived.Test.YtglcmbpgnehinaaDoorWhere
import Derived.Test.YtglcmbpgnehinaaDoorBuilder
import Derived.Test.YtglcmbpgnehinaaDoorText
namespace Go.Proofs.YtglcmbpgnehinaaDoor.flt
open Go.RowKit Go.Extern.Stop Go.Stop Go.Extern

theorem Error_nil (w : World) : Calls Tryd.prog 21 #[.pointer none] w fun e w' => e = .returned (.string ⟨#[]⟩) ∧ w = w' := by
  go_enter Tryd.func21, Tryd.ntmps21
  go_wp2
  go_ret
  exact ⟨rfl, rfl⟩

def render (xs : List ByteArray) : List UInt8 := xs.flatMap fun s => s.data.toList ++ [58, 32]

theorem data_len (s : ByteArray) : s.data.toList.length = s.size := by rw [Array.length_toList]; rfl

theorem render_len (n m : Nat) (hm : n + 2 ≤ m) (xs : List ByteArray) (h : ∀ s ∈ xs, s.size ≤ n) : (render xs).length ≤ xs.length * m := by
  unfold render
  induction xs with
  | nil => simp
  | cons s xs ih =>
    have h1 := ih (fun y hy => h y (by simp [hy]))
    have h2 := h s (by simp)
    have h3 := data_len s
    simp only [List.flatMap_cons, List.length_append, List.length_cons, List.length_nil]
    rw [h3, Nat.succ_mul]
    omega

theorem render_bound (xs : List ByteArray) (h : ∀ s ∈ xs, s.size ≤ 100000) (hl : xs.length ≤ 100000) : (render xs).length ≤ 10000200000 := by
  have h1 := render_len 100000 100002 (by omega) xs h
  have h2 := Nat.mul_le_mul_right 100002 hl
  omega

theorem render_snoc (xs : List ByteArray) (k : Nat) (h : k < xs.length) : render (xs.take (k + 1)) = render (xs.take k) ++ xs[k].data.toList ++ [58, 32] := by
  unfold render
  rw [List.take_succ_eq_append_getElem h, List.flatMap_append]
  simp only [List.flatMap_cons, List.flatMap_nil, List.append_nil, List.append_assoc]

theorem own_keeps {w w' : World} {b base n : Nat} {v : Value} {xs : List Value} {cb : Array Value} (h : w.ownsRow base 9 1 v n xs) (hk : Keeps b w w') (hb : w.heap[b]? = some (.cells cb 70 (0, 0))) : w'.ownsRow base 9 1 v n xs := by
  refine ⟨h.1, ?_⟩
  rcases h.2 with hn | ⟨g, cap, cur, rfl, hbg, hg, r⟩
  · exact .inl hn
  · refine .inr ⟨g, cap, cur, rfl, hbg, hk g cur _ _ (fun e => ?_) (by decide) hg, r⟩
    subst e
    rw [hg] at hb
    simp at hb

theorem own_shape {w : World} {base size n : Nat} {e : TypeId} {v : Value} {xs : List Value} (h : w.ownsRow base e size v n xs) : ∃ ao cap, v = .slice ao n cap := by
  rcases h.2 with ⟨rfl, rfl⟩ | ⟨g, cap, cur, rfl, _⟩
  · exact ⟨_, _, rfl⟩
  · exact ⟨_, _, rfl⟩

theorem builder_heap {B b : Nat} {bs : List Value} {w : World} (h : Lib.IsBuilder 70 5 B b bs w) : ∃ cb, w.heap[b]? = some (.cells cb 70 (0, 0)) := by
  rcases h with ⟨_, v, hb, _⟩ | ⟨_, v, hb, _⟩ <;> exact ⟨_, hb⟩

def ERel (w : World) (xs : List ByteArray) (sv : Value) (i : Value) (wr : World) : Prop :=
  ∃ k : Nat, k ≤ xs.length ∧ i = .int .i64 k ∧ Lib.IsBuilder 70 5 w.heap.size w.heap.size (Lib.byteCells (render (xs.take k))) wr ∧ (∃ base, wr.ownsRow base 9 1 sv xs.length (xs.map Value.string)) ∧ Below w.heap.size w wr

set_option maxRecDepth 100000 in
set_option maxHeartbeats 4000000 in
theorem Error_chain (b : Nat) (c : Int) (s : ByteArray) (B : Nat) (l : List (Nat × Int × ByteArray)) (w : World) (hg : Handle w) (h : Chain w (.iface 40 (.pointer (some ⟨b, 0, none⟩))) B ((b, c, s) :: l)) (hB : B ≤ w.heap.size)
    (hL : ((b, c, s) :: l).length ≤ 100000) (hS : ∀ x ∈ (b, c, s) :: l, x.2.2.size ≤ 100000) (h1 : 1 ≤ c) (h2 : c ≤ 11) :
    Calls Tryd.prog 21 #[.pointer (some ⟨b, 0, none⟩)] w fun ev w' => ev = .returned (.string ⟨(render (ats ((b, c, s) :: l)) ++ (msg c).data.toList).toArray⟩) ∧ Below w.heap.size w w' := by
  obtain ⟨e, hf⟩ : ∃ e, FaultAt w b c s e := by
    cases h with
    | link _ _ _ e _ _ hf _ _ => exact ⟨e, hf⟩
  have xs_len := ats_len ((b, c, s) :: l)
  have xs_sz : ∀ x ∈ ats ((b, c, s) :: l), x.size ≤ 100000 := by
    intro x hx
    unfold ats at hx
    rw [List.mem_filter, List.mem_map] at hx
    obtain ⟨⟨y, hy, rfl⟩, _⟩ := hx
    exact hS y hy
  have bW : Below w.heap.size w (w.alloc (.cells #[.pointer none, .slice none 0 0] 70)) := (Below.refl _ _).alloc (Nat.le_refl _) _
  have iB : Lib.IsBuilder 70 5 w.heap.size w.heap.size (Lib.byteCells (render [])) (w.alloc (.cells #[.pointer none, .slice none 0 0] 70)) :=
    Or.inl ⟨Nat.le_refl _, .slice none 0 0, by show (w.heap.push _)[w.heap.size]? = _; simp, World.ownsRow_nil _ _ _ _, by simp [Value.ownBlock]⟩
  have HW := Lib.hid (Where_chain _ B ((b, c, s) :: l) (w.alloc (.cells #[.pointer none, .slice none 0 0] 70)) (hg.below bW hg.pos) (h.keep bW hB) (by simp; omega) hL)
  generalize hxs : ats ((b, c, s) :: l) = xs at *
  clear hxs h hS
  have HI := Lib.hid iB
  have HF := Lib.hid hf
  have HB := Lib.hid bW
  have HX := Lib.hid xs_sz
  clear iB hf bW xs_sz
  go_enter Tryd.func21, Tryd.ntmps21
  go_wp2_with (go_at_call 17; refine (HW.out).mono ?_; rintro e' W2 ⟨sv, rfl, hown, hb2⟩; obtain ⟨ao, cap, rfl⟩ := own_shape hown; have HO := Lib.hid hown; have HB2 := Lib.hid hb2; clear hown hb2)
  have bW2 : Below w.heap.size w W2 := HB.out.trans (HB2.out.mono (by simp))
  have iW2 : Lib.IsBuilder 70 5 w.heap.size w.heap.size (Lib.byteCells (render (xs.take 0))) W2 :=
    Or.inl ⟨Nat.le_refl _, .slice none 0 0, by rw [HB2.out.block _ (by simp)]; show (w.heap.push _)[w.heap.size]? = _; simp, World.ownsRow_nil _ _ _ _, by simp [Value.ownBlock]⟩
  have H2 := Lib.hid bW2
  have HI2 := Lib.hid iW2
  clear bW2 iW2
  go_loopw [12] (fun i wr => ERel w xs (.slice ao xs.length cap) i wr) (fun i _ => xs.length - (intOf i).toNat)
  case atStart => exact ⟨0, Nat.zero_le _, rfl, HI2.out, ⟨_, HO.out⟩, H2.out⟩
  case round =>
    obtain ⟨k, hk, rfl, hI, ⟨base, hown⟩, hbel⟩ := hrel
    by_cases hlt : k < xs.length
    · obtain ⟨g, rfl⟩ : ∃ g, ao = some ⟨g, 0, none⟩ := by
        rcases hown.2 with ⟨_, h0⟩ | ⟨g, cap', cur, hv, _⟩
        · omega
        · simp at hv
          exact ⟨g, hv.1⟩
      have hcell : wr.cell? ⟨g, k, none⟩ = some (.string xs[k]) := by
        have := hown.cellAt k (by omega)
        rw [this]
        simp [List.getElem?_eq_getElem hlt]
      obtain ⟨cb, hcb⟩ := builder_heap hI
      have hsz : (render (xs.take k)).length ≤ 10000200000 := render_bound _ (fun x hx => HX.out x (List.mem_of_mem_take hx)) (Nat.le_trans (List.length_take_le' _ _) (by omega))
      have hs0 := HX.out xs[k] (List.getElem_mem hlt)
      have hW := Lib.hid (writeString w.heap.size w.heap.size _ xs[k] wr hI (by rw [Lib.byteCells_length]; omega) hbel.size)
      have HOW := Lib.hid hown
      have HCB := Lib.hid hcb
      have HBL := Lib.hid hbel
      clear hI hown hcb hbel
      go_wp2_with (go_at_call 28; refine (hW.out).mono ?_; rintro e' w3 ⟨rfl, hI3, hb3, hk3⟩; have HI3 := Lib.hid hI3; have HB3 := Lib.hid hb3; have HK3 := Lib.hid hk3; clear hI3 hb3 hk3 hW)
      have hI3' : Lib.IsBuilder 70 5 w.heap.size w.heap.size (Lib.byteCells (render (xs.take k) ++ xs[k].data.toList)) w3 := by
        rw [Lib.byteCells_append, ← Lib.strCells_eq]
        exact Or.inr HI3.out
      have bl3 : Below w.heap.size w w3 := HBL.out.trans HB3.out
      have hW4 := Lib.hid (writeString w.heap.size w.heap.size _ ⟨#[58, 32]⟩ w3 hI3' (by rw [Lib.byteCells_length, List.length_append, data_len]; show _ + xs[k].size + 2 ≤ _; omega) bl3.size)
      have HBL3 := Lib.hid bl3
      clear hI3' bl3
      go_wp2_with (go_at_call 28; refine (hW4.out).mono ?_; rintro e' w4 ⟨rfl, hI4, hb4, hk4⟩; have HI4 := Lib.hid hI4; have HB4 := Lib.hid hb4; have HK4 := Lib.hid hk4; clear hI4 hb4 hk4 hW4)
      go_roundw
      case rel =>
        have o3 := own_keeps HOW.out HK3.out HCB.out
        obtain ⟨cb3, hcb3⟩ := builder_heap (Or.inr HI3.out)
        refine ⟨k + 1, by omega, by go_num, ?_, ⟨base, own_keeps o3 HK4.out hcb3⟩, HBL3.out.trans HB4.out⟩
        rw [render_snoc _ _ hlt, Lib.byteCells_append]
        exact Or.inr HI4.out
      case measure => simp [intOf]; omega
    · have hkl : k = xs.length := by omega
      subst hkl
      rw [List.take_length] at hI
      have hsz : (render xs).length ≤ 10000200000 := render_bound _ HX.out (by omega)
      have hm : (msg c).size ≤ 100 := by
        unfold msg
        show Array.size _ ≤ 100
        split <;> simp
      have hW := Lib.hid (writeString w.heap.size w.heap.size _ (msg c) wr hI (by rw [Lib.byteCells_length]; omega) hbel.size)
      have f0 := (HF.out.below hbel HF.out.lt).cell0
      have HT := Lib.hid (text_any c h1 h2 wr)
      have HBL := Lib.hid hbel
      clear hI hown hbel h1 h2
      go_wp2_with (first | (go_at_call 29; refine (HT.out).mono ?_; rintro e' w' ⟨rfl, rfl⟩; clear HT) | (go_at_call 28; refine (hW.out).mono ?_; rintro e' w3 ⟨rfl, hI3, hb3, -⟩; have HI3 := Lib.hid hI3; have HB3 := Lib.hid hb3; clear hI3 hb3 hW))
      have hI4 : Lib.IsBuilder 70 5 w.heap.size w.heap.size (Lib.byteCells (render xs ++ (msg c).data.toList)) w3 := by
        rw [Lib.byteCells_append, ← Lib.strCells_eq]
        exact Or.inr HI3.out
      have hS := Lib.hid (builderString w.heap.size w.heap.size _ w3 hI4 (by unfold msg; simp))
      clear hI4
      go_wp2_with (go_at_call 30; refine (hS.out).mono ?_; rintro e' w4 ⟨rfl, hb4⟩; have HB4 := Lib.hid hb4; clear hb4 hS)
      go_ret
      exact ⟨rfl, HBL.out.trans (HB3.out.trans HB4.out)⟩
end Go.Proofs.YtglcmbpgnehinaaDoor.flt
