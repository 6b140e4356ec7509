/-
  The steps of the walks, part 12: RefQText.
-/
import Derived.Test.YtlhmfgbaefaneabGreatDoorB11
namespace Go.Proofs.YtlhmfgbaefaneabGreatDoor.ref
open Go.RowKit
def lowN (z : Int) (d : Nat) : Int := signed (decide (z < 0)) (z.natAbs / Nat.gcd z.natAbs d)
def lowD (z : Int) (d : Nat) : Nat := d / Nat.gcd z.natAbs d
def ratText (z : Int) (d : Nat) : List UInt8 := Lib.itoa (lowN z d) ++ (if lowD z d = 1 then [] else 47 :: Lib.decDigits (lowD z d))
theorem lowN_abs (z : Int) (d : Nat) : (lowN z d).natAbs = z.natAbs / Nat.gcd z.natAbs d := by
  unfold lowN signed
  generalize z.natAbs / Nat.gcd z.natAbs d = q
  split <;> omega
end Go.Proofs.YtlhmfgbaefaneabGreatDoor.ref
