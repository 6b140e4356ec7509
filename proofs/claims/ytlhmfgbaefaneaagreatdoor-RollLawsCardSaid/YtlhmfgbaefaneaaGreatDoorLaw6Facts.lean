
/-
  Closed facts of the program as a whole, each by the kernel's reckoning, each a theorem of its own. No condition.
-/
import Derived.Test.YtlhmfgbaefaneaaGreatDoorRows
import Derived.Test.YtlhmfgbaefaneaaGreatDoorChecked
import Derived.JoinedOf
import Derived.RowKit
namespace Go.Proofs.YtlhmfgbaefaneaaGreatDoor.law6
open Go.RowKit

theorem band {a b : Bool} (ha : a = true) (hb : b = true) : (a && b) = true := by rw [ha, hb]; rfl
theorem fact_c1 : (laidOutB Tryz.prog) = true := by kernel_rfl
theorem fact_c2 : (mapsRowed Tryz.prog) = true := by kernel_rfl
theorem fact_c6 : ((Tryz.prog.stops == [])) = true := by kernel_rfl
theorem fact_c8 : ((Tryz.prog.stopKnobs == [])) = true := by kernel_rfl
theorem fact_c22 : ((Rows.dateAllRow.plainKeys == Tryz.prog.plainKeys)) = true := by kernel_rfl
theorem fact_c24 : (Tryz.prog.stopsHeard) = true := by kernel_rfl
theorem fact_c25 : (Tryz.prog.mayEnter) = true := by kernel_rfl
theorem fact_c26 : ((Rows.dateAllRow.lifted == Tryz.prog.liftsFinal)) = true := by kernel_rfl
theorem fact_c27 : ((Tryz.prog.make == some Rows.dateAllRow.make)) = true := by kernel_rfl
end Go.Proofs.YtlhmfgbaefaneaaGreatDoor.law6
