/-
  errors.Join of two errors, and errors.Is over what it made: each of the two, or a plain code of one of them. Conditions: both errors are not nil and lie in memory.
-/
import Derived.Test.YtglcmbpgnehinaaDoorIs
import Derived.Laws.MakeOwn
import Derived.Lib.Builder
namespace Go.Proofs.YtglcmbpgnehinaaDoor.flt
open Go.RowKit Go.Extern.Stop Go.Stop Go.Extern

/-- What errors.Join left: a list of two errors. -/
def Joined (w : World) (j : Nat) (v0 v1 : Value) : Prop := ∃ g cap, w.cell? ⟨j, 0, none⟩ = some (.slice (some ⟨g, 0, none⟩) 2 cap) ∧ w.cell? ⟨g, 0, none⟩ = some v0 ∧ w.cell? ⟨g, 1, none⟩ = some v1

theorem Joined.below {w w' : World} {j : Nat} {v0 v1 : Value} (h : Joined w j v0 v1) (hb : Below w.heap.size w w') : Joined w' j v0 v1 := by
  obtain ⟨g, cap, h1, h2, h3⟩ := h
  exact ⟨g, cap, (hb.cell (cell_lt h1)).trans h1, (hb.cell (cell_lt h2)).trans h2, (hb.cell (cell_lt h3)).trans h3⟩

theorem infoError : (Tryd.prog.info? 27).map (fun i => (i.zero, i.size, i.bytes)) = some (some .nilIface, 1, 16) := by kernel_rfl

theorem own_setCell {w : World} {base n j : Nat} {v : Value} {xs : List Value} {cs : Array Value} (h : w.ownsRow base 27 1 v n xs) (hj : w.heap[j]? = some (.cells cs 55 (0, 0))) (u : Value) : (w.setCell ⟨j, 0, none⟩ u).ownsRow base 27 1 v n xs :=
  h.kept (row := some j) ⟨rfl, rfl, rfl, by simp [World.setCell], fun k _ hk => Below.heap_setCell _ _ _ _ (fun e => hk (by simp [e]))⟩ (Or.inr (Lib.ownBlock_ne h hj (by decide)))

theorem join_heap {w : World} {j : Nat} {s u : Value} (hj : w.heap[j]? = some (.cells #[s] 55 (0, 0))) : (w.setCell ⟨j, 0, none⟩ u).heap[j]? = some (.cells #[u] 55 (0, 0)) := by
  simp [World.setCell, Array.getElem?_modify, hj]

set_option maxRecDepth 100000 in
set_option maxHeartbeats 4000000 in
theorem eJoin_two (g : Nat) (u0 : TypeId) (x0 : Value) (u1 : TypeId) (x1 : Value) (w : World) (h0 : w.cell? ⟨g, 0, none⟩ = some (.iface u0 x0)) (h1 : w.cell? ⟨g, 1, none⟩ = some (.iface u1 x1)) :
    Calls Tryd.prog 14 #[.slice (some ⟨g, 0, none⟩) 2 2] w fun e w' => ∃ j, e = .returned (.iface 53 (.pointer (some ⟨j, 0, none⟩))) ∧ Joined w' j (.iface u0 x0) (.iface u1 x1) ∧ Below w.heap.size w w' := by
  have hmk : ∀ w, (Instr.makeSlice 52 (.int .i64 0) (.int .i64 2)).run Tryd.prog w = .ok (.slice (some ⟨w.heap.size, 0, none⟩) 0 2) (w.alloc (.cells #[.nilIface, .nilIface] 27)) := fun _ => by kernel_rfl
  go_enter Tryd.func14, Tryd.ntmps14
  go_wp2
  refine wp_loop_rounds 3 ?_
  rw [rounds_succ]
  go_wp2
  rw [rounds_succ]
  go_wp2
  rw [rounds_succ]
  go_wp2
  have A0 : (w.alloc (.cells #[.nilIface, .nilIface] 27)).ownsRow w.heap.size 27 1 (.slice (some ⟨w.heap.size, 0, none⟩) 0 2) 0 [] := World.ownsRow_made w _ 2 (Nat.le_refl _) (by unfold maxLen; omega) rfl
  have B0 : Below w.heap.size w ((w.alloc (.cells #[.nilIface, .nilIface] 27)).alloc (.cells #[.slice (some ⟨w.heap.size, 0, none⟩) 0 2] 55)) := ((Below.refl _ _).alloc (Nat.le_refl _) _).alloc (by simp) _
  have J0 : ((w.alloc (.cells #[.nilIface, .nilIface] 27)).alloc (.cells #[.slice (some ⟨w.heap.size, 0, none⟩) 0 2] 55)).heap[w.heap.size + 1]? = some (.cells #[.slice (some ⟨w.heap.size, 0, none⟩) 0 2] 55 (0, 0)) := by
    show ((w.heap.push _).push _)[w.heap.size + 1]? = _
    rw [Array.getElem?_push, if_pos (by simp)]
  have HA := Lib.hid (A0.alloc (.cells #[.slice (some ⟨w.heap.size, 0, none⟩) 0 2] 55))
  have HB := Lib.hid B0
  have HJ := Lib.hid J0
  have h0' := cell_alloc (.cells #[.slice (some ⟨w.heap.size, 0, none⟩) 0 2] 55) (cell_alloc (.cells #[.nilIface, .nilIface] 27) h0)
  have h1' := cell_alloc (.cells #[.slice (some ⟨w.heap.size, 0, none⟩) 0 2] 55) (cell_alloc (.cells #[.nilIface, .nilIface] 27) h1)
  have G0 := Lib.hid h0
  have G1 := Lib.hid h1
  clear A0 B0 J0 h0 h1
  obtain ⟨i0, hi0, hz0, hz1, hz2⟩ := info_parts infoError
  refine wp_loop_rounds 3 ?_
  rw [rounds_succ]
  go_wp2_with (at_builtin; refine wpList_append_own _ rfl _ _ 52 rfl w.heap.size 27 i0 .nilIface 1 16 Tryd.underlying52 hi0 hz0 hz1 hz2 rfl (by decide) _ _ _ rfl (HA.out.alloc _) ⟨w.heap.size + 1 + 1, 0, none⟩ 1 1 [.iface u0 x0] rfl rfl ?c1 ?c2 ?c3 ?c4 ?c5 ?_)
  case c1 =>
    intro j u hj
    match j, hj with
    | 0, hj =>
      simp at hj
      subst hj
      simp [Addr.add]
      rw [World.cell?_alloc_at _ _ _ _ (by simp)]
      rfl
  case c2 => intro u hu; simp at hu; subst hu; rfl
  case c3 => unfold maxLen; omega
  case c4 => omega
  case c5 => simp; omega
  intro v3 w3 hown3 hg3 _
  have hne3 : w.heap.size + 1 < w.heap.size + 1 + 1 := by omega
  have J3 : w3.heap[w.heap.size + 1]? = some (.cells #[.slice (some ⟨w.heap.size, 0, none⟩) 0 2] 55 (0, 0)) :=
    (hg3.block _ (by simp) (by simp [Value.ownBlock])).trans ((Below.heap_alloc _ _ _ (by simp)).trans HJ.out)
  have B3 : Below w.heap.size w w3 := (HB.out.alloc (by simp; omega) _).grown hg3 (by simp; omega) (fun k hk => by simp [Value.ownBlock] at hk; omega)
  obtain ⟨ao, cap, rfl⟩ : ∃ ao cap, v3 = .slice ao 1 cap := by
    rcases hown3.2 with ⟨_, h⟩ | ⟨g', cap', cur, hv, _⟩
    · omega
    · exact ⟨_, _, hv⟩
  have c3 : w3.cell? ⟨w.heap.size + 1, 0, none⟩ = some (.slice (some ⟨w.heap.size, 0, none⟩) 0 2) := by simp [World.cell?, J3]
  have f3 : w3.frozen? ⟨w.heap.size + 1, 0, none⟩ = false := by simp [World.frozen?, J3]
  have HA3 := Lib.hid (own_setCell hown3 J3 (.slice ao 1 cap))
  have HJ3 := Lib.hid (join_heap (u := .slice ao 1 cap) J3)
  have HB3 := Lib.hid (B3.setCell (p := ⟨w.heap.size + 1, 0, none⟩) (by simp) (.slice ao 1 cap))
  have g3 : (w3.setCell ⟨w.heap.size + 1, 0, none⟩ (.slice ao 1 cap)).cell? ⟨g, 1, none⟩ = some (.iface u1 x1) := (HB3.out.cell (cell_lt G1.out)).trans G1.out
  have s3 := Lib.hid (show w.heap.size + 1 < w3.heap.size from lt_of_heap J3)
  clear hown3 J3 B3 hg3 hne3
  go_wp2
  rw [rounds_succ]
  go_wp2_with (at_builtin; refine wpList_append_own _ rfl _ _ 52 rfl w.heap.size 27 i0 .nilIface 1 16 Tryd.underlying52 hi0 hz0 hz1 hz2 rfl (by decide) _ _ _ rfl (HA3.out.alloc _) ⟨w3.heap.size, 0, none⟩ 1 1 [.iface u1 x1] rfl rfl ?d1 ?d2 ?d3 ?d4 ?d5 ?_)
  case d1 =>
    intro j u hj
    match j, hj with
    | 0, hj =>
      simp at hj
      subst hj
      simp [Addr.add]
      rw [World.cell?_alloc_at _ _ _ _ (by simp)]
      rfl
  case d2 => intro u hu; simp at hu; subst hu; rfl
  case d3 => unfold maxLen; omega
  case d4 => omega
  case d5 => have := s3.out; simp; omega
  intro v5 w5 hown5 hg5 _
  have J5 : w5.heap[w.heap.size + 1]? = some (.cells #[.slice ao 1 cap] 55 (0, 0)) :=
    (hg5.block _ (by have := s3.out; simp; omega) (fun e => Lib.ownBlock_ne HA3.out HJ3.out (by decide) e.symm)).trans ((Below.heap_alloc _ _ _ (by have := s3.out; simp; omega)).trans HJ3.out)
  have B5 : Below w.heap.size w w5 := (HB3.out.alloc HB3.out.size _).grown hg5 (by have := HB3.out.size; simp at this ⊢; omega) (fun k hk => (HA3.out.lt k hk).1)
  have c5 : w5.cell? ⟨w.heap.size + 1, 0, none⟩ = some (.slice ao 1 cap) := by simp [World.cell?, J5]
  have f5 : w5.frozen? ⟨w.heap.size + 1, 0, none⟩ = false := by simp [World.frozen?, J5]
  obtain ⟨g5, cap5, rfl⟩ : ∃ g5 cap5, v5 = .slice (some ⟨g5, 0, none⟩) 2 cap5 := by
    rcases hown5.2 with ⟨_, h⟩ | ⟨g', cap', cur, hv, _⟩
    · omega
    · exact ⟨_, _, hv⟩
  have K5 := own_setCell hown5 J5 (.slice (some ⟨g5, 0, none⟩) 2 cap5)
  have HK := Lib.hid (show Joined (w5.setCell ⟨w.heap.size + 1, 0, none⟩ (.slice (some ⟨g5, 0, none⟩) 2 cap5)) (w.heap.size + 1) (.iface u0 x0) (.iface u1 x1) from
    ⟨g5, cap5, setCell_cell _ c5, by rw [K5.cellAt 0 (by omega)]; rfl, by rw [K5.cellAt 1 (by omega)]; rfl⟩)
  have HB5 := Lib.hid (B5.setCell (p := ⟨w.heap.size + 1, 0, none⟩) (by simp) (.slice (some ⟨g5, 0, none⟩) 2 cap5))
  clear hown5 J5 B5 hg5 K5 c3 f3 g3
  go_wp2
  rw [rounds_succ]
  go_wp2
  go_ret
  exact ⟨_, rfl, HK.out, HB5.out⟩

set_option maxRecDepth 100000 in
set_option maxHeartbeats 4000000 in
theorem eis_join_first (j : Nat) (u0 : TypeId) (x0 v1 : Value) (u : TypeId) (x : Value) (w : World) (hJ : Joined w j (.iface u0 x0) v1) (hC : Comp u) (hne : 53 ≠ u) (h : IsAns w (.iface u x) (.iface u0 x0) true) :
    Calls Tryd.prog 27 #[.iface 53 (.pointer (some ⟨j, 0, none⟩)), .iface u x, .bool true] w fun e w' => e = .returned (.bool true) ∧ w = w' := by
  obtain ⟨g, cap, h1, h2, h3⟩ := hJ
  have heq := run_eql_iface_types (P := Tryd.prog) 53 u (.pointer (some ⟨j, 0, none⟩)) x Tryd.underlying27 hne w
  have nI := noIsJ
  have nU := noUnJ
  have hU := hasUnsJ
  have mU := methodUnwraps
  have H0 := Lib.hid (eis_ans u x _ true w hC h)
  clear h hC hne h3
  go_enter Tryd.func27, Tryd.ntmps27
  go_wp2
  refine wp_loop_rounds 1 ?_
  rw [rounds_succ]
  go_wp2
  refine wp_loop_rounds 1 ?_
  rw [rounds_succ]
  go_wp2_with (go_at_call 27; refine (H0.out).mono ?_; rintro e' w' ⟨rfl, rfl⟩)
  go_ret
  exact ⟨rfl, rfl⟩

set_option maxRecDepth 100000 in
set_option maxHeartbeats 4000000 in
theorem eis_join_second (j : Nat) (u0 : TypeId) (x0 : Value) (u1 : TypeId) (x1 : Value) (u : TypeId) (x : Value) (w : World) (hJ : Joined w j (.iface u0 x0) (.iface u1 x1)) (hC : Comp u) (hne : 53 ≠ u) (h0 : IsAns w (.iface u x) (.iface u0 x0) false) (h1 : IsAns w (.iface u x) (.iface u1 x1) true) :
    Calls Tryd.prog 27 #[.iface 53 (.pointer (some ⟨j, 0, none⟩)), .iface u x, .bool true] w fun e w' => e = .returned (.bool true) ∧ w = w' := by
  obtain ⟨g, cap, c1, c2, c3⟩ := hJ
  have heq := run_eql_iface_types (P := Tryd.prog) 53 u (.pointer (some ⟨j, 0, none⟩)) x Tryd.underlying27 hne w
  have nI := noIsJ
  have nU := noUnJ
  have hU := hasUnsJ
  have mU := methodUnwraps
  have H0 := Lib.hid (eis_ans u x _ false w hC h0)
  have H1 := Lib.hid (eis_ans u x _ true w hC h1)
  clear h0 h1 hC hne
  go_enter Tryd.func27, Tryd.ntmps27
  go_wp2
  refine wp_loop_rounds 1 ?_
  rw [rounds_succ]
  go_wp2
  refine wp_loop_rounds 2 ?_
  rw [rounds_succ]
  go_wp2_with (go_at_call 27; refine (H0.out).mono ?_; rintro e' w' ⟨rfl, rfl⟩; clear H0)
  rw [rounds_succ]
  go_wp2_with (go_at_call 27; refine (H1.out).mono ?_; rintro e' w' ⟨rfl, rfl⟩; clear H1)
  go_ret
  exact ⟨rfl, rfl⟩

theorem eIs_join_first (j : Nat) (u0 : TypeId) (x0 v1 : Value) (u : TypeId) (x : Value) (w : World) (hJ : Joined w j (.iface u0 x0) v1) (hC : Comp u) (hne : 53 ≠ u) (h : IsAns w (.iface u x) (.iface u0 x0) true) :
    Calls Tryd.prog 18 #[.iface 53 (.pointer (some ⟨j, 0, none⟩)), .iface u x] w fun e w' => e = .returned (.bool true) ∧ w = w' :=
  eIs_of _ _ _ _ true w hC (eis_join_first j u0 x0 v1 u x w hJ hC hne h)
theorem eIs_join_second (j : Nat) (u0 : TypeId) (x0 : Value) (u1 : TypeId) (x1 : Value) (u : TypeId) (x : Value) (w : World) (hJ : Joined w j (.iface u0 x0) (.iface u1 x1)) (hC : Comp u) (hne : 53 ≠ u) (h0 : IsAns w (.iface u x) (.iface u0 x0) false) (h1 : IsAns w (.iface u x) (.iface u1 x1) true) :
    Calls Tryd.prog 18 #[.iface 53 (.pointer (some ⟨j, 0, none⟩)), .iface u x] w fun e w' => e = .returned (.bool true) ∧ w = w' :=
  eIs_of _ _ _ _ true w hC (eis_join_second j u0 x0 u1 x1 u x w hJ hC hne h0 h1)

/-! ### the comparisons -/
theorem eq_plain (c d : Int) (w : World) : EqAns w (.iface 64 (.int .i64 c)) (.iface 64 (.int .i64 d)) (c == d) :=
  Lib.run_eql_iface_int (P := Tryd.prog) w c d Tryd.underlying27 compL Tryd.underlying64
theorem eq_types (u u' : TypeId) (x y : Value) (h : u ≠ u') (w : World) : EqAns w (.iface u x) (.iface u' y) false :=
  run_eql_iface_types (P := Tryd.prog) u u' x y Tryd.underlying27 h w
theorem eq_fault_same (b : Nat) (w : World) : EqAns w (.iface 40 (.pointer (some ⟨b, 0, none⟩))) (.iface 40 (.pointer (some ⟨b, 0, none⟩))) true := by
  obtain ⟨i, hi, hcmp⟩ := Option.map_eq_some_iff.1 compP
  obtain ⟨j, hj, _⟩ := Option.map_eq_some_iff.1 sizeF
  exact run_eql_iface_ptr_same (P := Tryd.prog) w ⟨b, 0, none⟩ Tryd.underlying27 Tryd.underlying40 hi hcmp hj
theorem eq_fault_other (b b' : Nat) (c c' : Int) (s s' : ByteArray) (e e' : Value) (w : World) (h : FaultAt w b c s e) (h' : FaultAt w b' c' s' e') (hne : b ≠ b') : EqAns w (.iface 40 (.pointer (some ⟨b, 0, none⟩))) (.iface 40 (.pointer (some ⟨b', 0, none⟩))) false := by
  obtain ⟨i, hi, hcmp⟩ := Option.map_eq_some_iff.1 compP
  obtain ⟨j, hj, hjs⟩ := Option.map_eq_some_iff.1 sizeF
  exact run_eql_iface_ptr_other (P := Tryd.prog) w Tryd.underlying27 Tryd.underlying40 hi hcmp hj (by rw [hjs]; decide) (fun e => hne (congrArg Addr.block e)) h h'
theorem eq_other_same (a : Addr) (w : World) : EqAns w (.iface 47 (.pointer (some a))) (.iface 47 (.pointer (some a))) true := by
  obtain ⟨i, hi, hcmp⟩ := Option.map_eq_some_iff.1 compS
  obtain ⟨j, hj, _⟩ := Option.map_eq_some_iff.1 sizeS
  exact run_eql_iface_ptr_same (P := Tryd.prog) w a Tryd.underlying27 Tryd.underlying47 hi hcmp hj

/-- A chain of code d, asked for the plain code c: true, if they are the same. -/
theorem isAns_code {w : World} {b B : Nat} {d : Int} {s : ByteArray} {l : List (Nat × Int × ByteArray)} (h : Chain w (.iface 40 (.pointer (some ⟨b, 0, none⟩))) B ((b, d, s) :: l)) (h0 : (d == 0) = false) : IsAns w (.iface 64 (.int .i64 d)) (.iface 40 (.pointer (some ⟨b, 0, none⟩))) true := by
  cases h with
  | link _ _ _ e _ _ hf _ _ => exact .code b d s e hf h0 (eq_types _ _ _ _ (by decide) w) (by have := eq_plain d d w; rwa [show (d == d) = true from by simp] at this)
end Go.Proofs.YtglcmbpgnehinaaDoor.flt
