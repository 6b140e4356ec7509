/-
  errors.as at what errors.Join made of two errors: the first one a *Fault, or the first one of errors.New's make and the second one a *Fault: the target is set to that *Fault. Conditions: the join's list and its errors are there in memory.
-/
import Derived.Test.YtglcmbpgnehinaaDoorAs
namespace Go.Proofs.YtglcmbpgnehinaaDoor.flt
open Go.RowKit Go.Extern.Stop Go.Stop Go.Extern

theorem SetAt.of_below {t : Addr} {v : Value} {w W w' : World} (hb : Below w.heap.size w W) (h : SetAt t v W w') : SetAt t v w w' := by
  obtain ⟨w1, h1, rfl⟩ := h
  exact ⟨w1, hb.trans (h1.mono hb.size), rfl⟩

theorem cell_alloc {w : World} {a : Addr} {v : Value} (o : Obj) (h : w.cell? a = some v) : (w.alloc o).cell? a = some v := by
  rw [World.cell?_alloc_lt _ _ a (cell_lt h)]; exact h
theorem frozen_alloc {w : World} {a : Addr} {v : Value} (o : Obj) (h : w.cell? a = some v) (hf : w.frozen? a = false) : (w.alloc o).frozen? a = false := by
  rw [World.frozen?_alloc_old _ _ a (Nat.ne_of_lt (cell_lt h))]; exact hf

set_option maxRecDepth 100000 in
set_option maxHeartbeats 1000000 in
theorem eas_join1 (j g n cap : Nat) (e t a : Addr) (old : Value) (w : World) (hj : w.cell? ⟨j, 0, none⟩ = some (.slice (some ⟨g, 0, none⟩) n cap)) (hn : 0 < n)
    (h0 : w.cell? ⟨g, 0, none⟩ = some (.iface 40 (.pointer (some e)))) (ha : w.cell? a = some (.pointer (some t))) (ht : w.cell? t = some old) (hf : w.frozen? t = false) :
    Calls Tryd.prog 39 #[.iface 53 (.pointer (some ⟨j, 0, none⟩)), .iface 75 (.pointer (some t)), .agg #[.pointer (some ⟨4, 75, none⟩), .pointer (some a), .int .u64 150], .iface 77 (.agg #[.pointer (some ⟨4, 40, none⟩)])] w
      fun ev w' => ev = .returned (.bool true) ∧ SetAt t (.pointer (some e)) w w' := by
  obtain ⟨h1, h2, -, -, -, -, -, -, -, -, -⟩ := ext
  have tO := typeOfJ
  have mA := methodAssignableTo
  have aJ := assignJ
  have hA := noAsJ
  have hU := noUnJ
  have hUs := hasUnsJ
  have mU := methodUnwraps
  have bx : Below w.heap.size w (w.alloc (.cells #[.pointer (some ⟨4, 75, none⟩), .pointer (some a), .int .u64 150] 88)) := (Below.refl _ _).alloc (Nat.le_refl _) _
  have HP := Lib.hid (eas_fault e t a old (w.alloc (.cells #[.pointer (some ⟨4, 75, none⟩), .pointer (some a), .int .u64 150] 88)) (cell_alloc _ ha) (cell_alloc _ ht) (frozen_alloc _ ht hf))
  have BX := Lib.hid bx
  clear bx
  have hj' := cell_alloc (.cells #[.pointer (some ⟨4, 75, none⟩), .pointer (some a), .int .u64 150] 88) hj
  have h0' := cell_alloc (.cells #[.pointer (some ⟨4, 75, none⟩), .pointer (some a), .int .u64 150] 88) h0
  clear ht hf ha hj h0
  go_enter Tryd.func39, Tryd.ntmps39
  go_wp2
  refine wp_loop_rounds 1 ?_
  rw [rounds_succ]
  go_wp2
  refine wp_loop_rounds 1 ?_
  rw [rounds_succ]
  go_wp2_with (go_at_call 39; refine (HP.out).mono ?_; rintro e w' ⟨rfl, hs⟩)
  go_ret
  exact ⟨rfl, hs.of_below BX.out⟩

set_option maxRecDepth 100000 in
set_option maxHeartbeats 2000000 in
theorem eas_join2 (j g n cap : Nat) (x : Value) (e t a : Addr) (old : Value) (w : World) (hj : w.cell? ⟨j, 0, none⟩ = some (.slice (some ⟨g, 0, none⟩) n cap)) (hn : 1 < n)
    (h0 : w.cell? ⟨g, 0, none⟩ = some (.iface 47 x)) (h1 : w.cell? ⟨g, 1, none⟩ = some (.iface 40 (.pointer (some e)))) (ha : w.cell? a = some (.pointer (some t))) (ht : w.cell? t = some old) (hf : w.frozen? t = false) :
    Calls Tryd.prog 39 #[.iface 53 (.pointer (some ⟨j, 0, none⟩)), .iface 75 (.pointer (some t)), .agg #[.pointer (some ⟨4, 75, none⟩), .pointer (some a), .int .u64 150], .iface 77 (.agg #[.pointer (some ⟨4, 40, none⟩)])] w
      fun ev w' => ev = .returned (.bool true) ∧ SetAt t (.pointer (some e)) w w' := by
  obtain ⟨e1, e2, -, -, -, -, -, -, -, -, -⟩ := ext
  have tO := typeOfJ
  have mA := methodAssignableTo
  have aJ := assignJ
  have hA := noAsJ
  have hU := noUnJ
  have hUs := hasUnsJ
  have mU := methodUnwraps
  obtain ⟨O, hO⟩ : ∃ O : Obj, O = .cells #[.pointer (some ⟨4, 75, none⟩), .pointer (some a), .int .u64 150] 88 := ⟨_, rfl⟩
  have BX : Hid (Below w.heap.size w (w.alloc O)) := (Below.refl _ _).alloc (Nat.le_refl _) _
  have hj' := cell_alloc O hj
  have h0' := cell_alloc O h0
  have H1' : Hid _ := cell_alloc O h1
  have HA' : Hid _ := cell_alloc O ha
  have HT' : Hid _ := cell_alloc O ht
  have HF' : Hid _ := frozen_alloc O ht hf
  have HO' : Hid ((w.alloc O).heap[w.heap.size]? = some O) := by show (w.heap.push O)[w.heap.size]? = _; simp
  have HP := Lib.hid (eas_other x t a (w.alloc O))
  clear ht hf ha hj h0 h1
  subst hO
  go_enter Tryd.func39, Tryd.ntmps39
  go_wp2
  refine wp_loop_rounds 1 ?_
  rw [rounds_succ]
  go_wp2
  refine wp_loop_rounds 2 ?_
  rw [rounds_succ]
  go_wp2_with (go_at_call 39; refine (HP.out).mono ?_; rintro e' w' ⟨rfl, hb⟩)
  rw [rounds_succ]
  have HQ := Lib.hid (eas_fault e t a old w' ((hb.cell (p := a) (cell_lt HA'.out)).trans HA'.out) ((hb.cell (p := t) (cell_lt HT'.out)).trans HT'.out) ((hb.frozen (p := t) (cell_lt HT'.out)).trans HF'.out))
  have h1' := (hb.cell (p := ⟨g, 1, none⟩) (cell_lt H1'.out)).trans H1'.out
  have hO' := (hb.block w.heap.size (by simp)).trans HO'.out
  have c0 : w'.cell? ⟨w.heap.size, 0, none⟩ = some (.pointer (some ⟨4, 75, none⟩)) := by simp [World.cell?, hO']
  have c1 : w'.cell? ⟨w.heap.size, 1, none⟩ = some (.pointer (some a)) := by simp [World.cell?, hO']
  have c2 : w'.cell? ⟨w.heap.size, 2, none⟩ = some (.int .u64 150) := by simp [World.cell?, hO']
  have HB : Hid _ := hb
  clear hb hO'
  go_wp2_with (go_at_call 39; refine (HQ.out).mono ?_; rintro e' w'' ⟨rfl, hs⟩)
  go_ret
  exact ⟨rfl, hs.of_below (BX.out.trans (HB.out.mono (by simp)))⟩
end Go.Proofs.YtglcmbpgnehinaaDoor.flt
