/-
  The steps of the walks, part 22: DecKit.
-/
import Derived.Test.YtfpooimjjpamoaaGreatDoorF11
import Derived.Test.YtfpooimjjpamoaaGreatDoorF18
import Derived.Test.YtfpooimjjpamoaaGreatDoorF20
import Derived.Test.YtfpooimjjpamoaaGreatDoorF21
import Derived.Test.YtfpooimjjpamoaaGreatDoorF10
import Derived.Test.YtfpooimjjpamoaaGreatDoorF09
namespace Go.Proofs.YtfpooimjjpamoaaGreatDoor.law2
open Go.RowKit Go.Proofs.YtfpooimjjpamoaaGreatDoor.nat
open Go.Proofs.YtfpooimjjpamoaaGreatDoor.ref (str DecForm signed decText)
def Cells3 (w : World) (g : Nat) (v0 v1 v2 : Value) : Prop := w.cell? ⟨g, 0, none⟩ = some v0 ∧ w.cell? ⟨g, 1, none⟩ = some v1 ∧ w.cell? ⟨g, 2, none⟩ = some v2
theorem Cells3.below {w w' : World} {g : Nat} {v0 v1 v2 : Value} (h : Cells3 w g v0 v1 v2) (hb : Below w.heap.size w w') : Cells3 w' g v0 v1 v2 :=
  ⟨(hb.cell (p := ⟨g, 0, none⟩) (cell_lt h.1)).trans h.1, (hb.cell (p := ⟨g, 1, none⟩) (cell_lt h.2.1)).trans h.2.1, (hb.cell (p := ⟨g, 2, none⟩) (cell_lt h.2.2)).trans h.2.2⟩
theorem cells3_new (w : World) (v0 v1 v2 : Value) (t : TypeId) : Cells3 (w.alloc (.cells #[v0, v1, v2] t)) w.heap.size v0 v1 v2 :=
  ⟨by rw [cell_of_row _ _ 0 _ t (0, 0) (heap_alloc_new w _)]; rfl, by rw [cell_of_row _ _ 1 _ t (0, 0) (heap_alloc_new w _)]; rfl, by rw [cell_of_row _ _ 2 _ t (0, 0) (heap_alloc_new w _)]; rfl⟩
theorem DGet_yes (l : List UInt8) (neg : Bool) (n k : Nat) (q : Rat) (w : World) (hq : q = ((signed neg n : Int) : Rat) / ((10 ^ k : Nat) : Rat)) (h : DecForm l neg n k) :
    Calls Tryz.prog 78 #[.string (str l)] w fun e w' => ∃ u, e = .returned (.tuple #[u, .int .i64 (k : Nat), .nilIface]) ∧ (rat.IsR w' u q ∧ u ≠ .pointer none) ∧ Below w.heap.size w w' := by
  have := dec.Get_ok l neg n k w h
  rwa [Rat.intCast_natCast, ← hq] at this
theorem DPut_yes (a : Value) (q : Rat) (z : Int) (k : Nat) (w : World) (hq : q = (z : Rat) / ((10 ^ k : Nat) : Rat)) (ha : rat.IsR w a q) (sq : rat.Lr q 20000) (hk : k ≤ 20) :
    Calls Tryz.prog 80 #[a, .int .i64 (k : Nat)] w fun e w' => e = .returned (.tuple #[.string (str (decText z k)), .bool true]) ∧ Below w.heap.size w w' := by
  obtain ⟨h1, h2, h3⟩ := dec.put_rest hq
  have := dec.Put_ok a q k w ha sq hk h1
  rwa [h2, h3] at this
theorem GetDec_yes (l : List UInt8) (neg : Bool) (n k : Nat) (w : World) (hl : l.length ≤ 9000) (h : DecForm l neg n k) :
    Calls Tryz.prog 79 #[.string (str l)] w fun e w' => ∃ v, e = .returned (.tuple #[v, .int .i64 (k : Nat), .bool true]) ∧ ref.IsQ w' v (signed neg n) (10 ^ k) ∧ Below w.heap.size w w' := by
  refine (ref.GetDec_any l w hl).mono ?_
  rintro e w' ⟨v, kk, ok, rfl, h1, h2, hb⟩
  cases ok
  · exact absurd h ((h2 rfl).2.2 _ _ _)
  · obtain ⟨neg', n', m, rfl, hf, hv⟩ := h1 rfl
    obtain ⟨rfl, rfl, rfl⟩ := h.inj hf
    exact ⟨v, rfl, hv, hb⟩
theorem GetDec_no (l : List UInt8) (w : World) (hl : l.length ≤ 9000) (h : ∀ neg n k, ¬ DecForm l neg n k) :
    Calls Tryz.prog 79 #[.string (str l)] w fun e w' => e = .returned (.tuple #[.agg #[.bool false, .slice none 0 0, .slice none 0 0], .int .i64 0, .bool false]) ∧ Below w.heap.size w w' := by
  refine (ref.GetDec_any l w hl).mono ?_
  rintro e w' ⟨v, kk, ok, rfl, h1, h2, hb⟩
  cases ok
  · obtain ⟨rfl, rfl, -⟩ := h2 rfl
    exact ⟨rfl, hb⟩
  · obtain ⟨neg', n', m, rfl, hf, hv⟩ := h1 rfl
    exact absurd hf (h _ _ _)
theorem QText_at (v : Value) (z : Int) (d n : Nat) (q : Rat) (w : World) (hd : 0 < d) (hq : q = (z : Rat) / (d : Rat)) (h : ref.IsQ w v z d) (hz : Bz z n) (hdn : Bn d n) (hn : n ≤ 80000) :
    Calls Tryz.prog 76 #[v] w fun e w' => e = .returned (.string (str (rat.rtxt q))) ∧ Below w.heap.size w w' := by
  have := ref.QText_any v z d w h (hz.ref hn) (hdn.ref hn) hd
  rwa [rat.ratText_rtxt hd, ← hq] at this
end Go.Proofs.YtfpooimjjpamoaaGreatDoor.law2
