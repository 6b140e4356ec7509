/-
  DERIVED. GIVEN WITH THE SEED: THE CARDS: each row of YtlhmfgbaefaneabGreatDoorRows.lean that lists a variable, with what it lists TIED to the program's text (the seventh form; the later family's looks); each row that meets fmt, with fmt's text TOLD by the authors' own Lean function (tested against real Go, not proved from fmt's source: count such statements apart). THE CARD IS WHAT COUNTS. Prove the row's statement (the work); the ties are given (YtlhmfgbaefaneabGreatDoorTie.lean); close each card by the builder's one call (the guide's Derived/Test/ToyasCard.lean, 'card_holds'). Laid BY PROGRAM, IN A SANDBOX (cutbox-door.mjs). By AI agents, Wed Nov 11 2026. No macro, syntax, notation, axiom, sorry.
-/
import Derived.Test.YtlhmfgbaefaneabGreatDoorRows
import GoSem.ClaimSeven
namespace Go.Proofs.YtlhmfgbaefaneabGreatDoor
namespace Rows

/-- THE TIED CARD OF 'rentierlaw6.CountNone'. -/
def countNoneCard : Claim7 := { stood := { row := countNoneRow, standIns := [], harness := (true, "565af681901ff5343689bc3ee5fa8c1ea0c1a171b25c37c345a44cc160a05df6"), looks := true }, kinds := [], alts := [], laidByText := true, laidKinds := [.data, .data, .data, .data, .handle, .data, .pinned], laidTests := true, laidLooks := .later }
def CountNoneCardSaid : Prop := Claim7.holds Tryz.pinned (.plain (OpenSpec.ofChange countNoneSpec)) countNoneCard

/-- THE TIED CARD OF 'rentierlaw6.DateText'. -/
def dateTextCard : Claim7 := { stood := { row := dateTextRow, standIns := [], harness := (true, "565af681901ff5343689bc3ee5fa8c1ea0c1a171b25c37c345a44cc160a05df6"), looks := true }, kinds := [], alts := [], laidByText := true, laidKinds := [.data, .data, .data, .data, .handle, .data, .pinned], laidTests := true, laidLooks := .later }
def DateTextCardSaid : Prop := Claim7.holds Tryz.pinned (.plain (OpenSpec.ofChange dateTextSpec)) dateTextCard

/-- THE TIED CARD OF 'rentierlaw6.DateYears'. -/
def dateYearsCard : Claim7 := { stood := { row := dateYearsRow, standIns := [], harness := (true, "565af681901ff5343689bc3ee5fa8c1ea0c1a171b25c37c345a44cc160a05df6"), looks := true }, kinds := [], alts := [], laidByText := true, laidKinds := [.data, .data, .data, .data, .handle, .data, .pinned], laidTests := true, laidLooks := .later }
def DateYearsCardSaid : Prop := Claim7.holds Tryz.pinned (.plain (OpenSpec.ofChange dateYearsSpec)) dateYearsCard

/-- THE TIED CARD OF 'rentierlaw6.DateKnown'. -/
def dateKnownCard : Claim7 := { stood := { row := dateKnownRow, standIns := [], harness := (true, "565af681901ff5343689bc3ee5fa8c1ea0c1a171b25c37c345a44cc160a05df6"), looks := true }, kinds := [], alts := [], laidByText := true, laidKinds := [.data, .data, .data, .data, .handle, .data, .pinned], laidTests := true, laidLooks := .later }
def DateKnownCardSaid : Prop := Claim7.holds Tryz.pinned (.plain (OpenSpec.ofChange dateKnownSpec)) dateKnownCard

/-- THE TIED CARD OF 'rentierlaw6.MonthParts'. -/
def monthPartsCard : Claim7 := { stood := { row := monthPartsRow, standIns := [], harness := (true, "565af681901ff5343689bc3ee5fa8c1ea0c1a171b25c37c345a44cc160a05df6"), looks := true }, kinds := [], alts := [], laidByText := true, laidKinds := [.data, .data, .data, .data, .handle, .data, .pinned], laidTests := true, laidLooks := .later }
def MonthPartsCardSaid : Prop := Claim7.holds Tryz.pinned (.plain (OpenSpec.ofChange monthPartsSpec)) monthPartsCard

/-- THE TIED CARD OF 'rentierlaw6.MonthEnds'. -/
def monthEndsCard : Claim7 := { stood := { row := monthEndsRow, standIns := [], harness := (true, "565af681901ff5343689bc3ee5fa8c1ea0c1a171b25c37c345a44cc160a05df6"), looks := true }, kinds := [], alts := [], laidByText := true, laidKinds := [.data, .data, .data, .data, .handle, .data, .pinned], laidTests := true, laidLooks := .later }
def MonthEndsCardSaid : Prop := Claim7.holds Tryz.pinned (.plain (OpenSpec.ofChange monthEndsSpec)) monthEndsCard

/-- THE TIED CARD OF 'rentierlaw6.EasterMonday'. -/
def easterMondayCard : Claim7 := { stood := { row := easterMondayRow, standIns := [], harness := (true, "565af681901ff5343689bc3ee5fa8c1ea0c1a171b25c37c345a44cc160a05df6"), looks := true }, kinds := [], alts := [], laidByText := true, laidKinds := [.data, .data, .data, .data, .handle, .data, .pinned], laidTests := true, laidLooks := .later }
def EasterMondayCardSaid : Prop := Claim7.holds Tryz.pinned (.plain (OpenSpec.ofChange easterMondaySpec)) easterMondayCard

/-- THE TIED CARD OF 'rentierlaw6.HoliNth'. -/
def holiNthCard : Claim7 := { stood := { row := holiNthRow, standIns := [], harness := (true, "565af681901ff5343689bc3ee5fa8c1ea0c1a171b25c37c345a44cc160a05df6"), looks := true }, kinds := [], alts := [], laidByText := true, laidKinds := [.data, .data, .data, .data, .handle, .data, .pinned], laidTests := true, laidLooks := .later }
def HoliNthCardSaid : Prop := Claim7.holds Tryz.pinned (.plain (OpenSpec.ofChange holiNthSpec)) holiNthCard

/-- THE TIED CARD OF 'rentierlaw6.HoliShift'. -/
def holiShiftCard : Claim7 := { stood := { row := holiShiftRow, standIns := [], harness := (true, "565af681901ff5343689bc3ee5fa8c1ea0c1a171b25c37c345a44cc160a05df6"), looks := true }, kinds := [], alts := [], laidByText := true, laidKinds := [.data, .data, .data, .data, .handle, .data, .pinned], laidTests := true, laidLooks := .later }
def HoliShiftCardSaid : Prop := Claim7.holds Tryz.pinned (.plain (OpenSpec.ofChange holiShiftSpec)) holiShiftCard

/-- THE TIED CARD OF 'rentierlaw6.CalJoin'. -/
def calJoinCard : Claim7 := { stood := { row := calJoinRow, standIns := [], harness := (true, "565af681901ff5343689bc3ee5fa8c1ea0c1a171b25c37c345a44cc160a05df6"), looks := true }, kinds := [], alts := [], laidByText := true, laidKinds := [.data, .data, .data, .data, .handle, .data, .pinned], laidTests := true, laidLooks := .later }
def CalJoinCardSaid : Prop := Claim7.holds Tryz.pinned (.plain (OpenSpec.ofChange calJoinSpec)) calJoinCard

/-- THE TIED CARD OF 'rentierlaw6.CalCount'. -/
def calCountCard : Claim7 := { stood := { row := calCountRow, standIns := [], harness := (true, "565af681901ff5343689bc3ee5fa8c1ea0c1a171b25c37c345a44cc160a05df6"), looks := true }, kinds := [], alts := [], laidByText := true, laidKinds := [.data, .data, .data, .data, .handle, .data, .pinned], laidTests := true, laidLooks := .later }
def CalCountCardSaid : Prop := Claim7.holds Tryz.pinned (.plain (OpenSpec.ofChange calCountSpec)) calCountCard

/-- THE TIED CARD OF 'rentierlaw6.CalBack'. -/
def calBackCard : Claim7 := { stood := { row := calBackRow, standIns := [], harness := (true, "565af681901ff5343689bc3ee5fa8c1ea0c1a171b25c37c345a44cc160a05df6"), looks := true }, kinds := [], alts := [], laidByText := true, laidKinds := [.data, .data, .data, .data, .handle, .data, .pinned], laidTests := true, laidLooks := .later }
def CalBackCardSaid : Prop := Claim7.holds Tryz.pinned (.plain (OpenSpec.ofChange calBackSpec)) calBackCard

/-- THE TIED CARD OF 'rentierlaw6.RollNear'. -/
def rollNearCard : Claim7 := { stood := { row := rollNearRow, standIns := [], harness := (true, "565af681901ff5343689bc3ee5fa8c1ea0c1a171b25c37c345a44cc160a05df6"), looks := true }, kinds := [], alts := [], laidByText := true, laidKinds := [.data, .data, .data, .data, .handle, .data, .pinned], laidTests := true, laidLooks := .later }
def RollNearCardSaid : Prop := Claim7.holds Tryz.pinned (.plain (OpenSpec.ofChange rollNearSpec)) rollNearCard

/-- THE TIED CARD OF 'rentierlaw6.CountYear'. -/
def countYearCard : Claim7 := { stood := { row := countYearRow, standIns := [], harness := (true, "565af681901ff5343689bc3ee5fa8c1ea0c1a171b25c37c345a44cc160a05df6"), looks := true }, kinds := [], alts := [], laidByText := true, laidKinds := [.data, .data, .data, .data, .handle, .data, .pinned], laidTests := true, laidLooks := .later }
def CountYearCardSaid : Prop := Claim7.holds Tryz.pinned (.plain (OpenSpec.ofChange countYearSpec)) countYearCard

/-- THE SECOND FORM's CARD OF 'rentierlaw6.CountNone'. -/
def countNoneUptoCard : Claim7 := { stood := { row := countNoneUptoRow, standIns := [], harness := (true, "565af681901ff5343689bc3ee5fa8c1ea0c1a171b25c37c345a44cc160a05df6"), looks := true }, kinds := [], alts := [], laidByText := true, laidKinds := [.data, .data, .data, .data, .handle, .data, .pinned], laidTests := true, laidLooks := .later }
def CountNoneUptoCardSaid : Prop := Claim7.holds Tryz.pinned (.plain (OpenSpec.upto countNoneSpec)) countNoneUptoCard

/-- THE SECOND FORM's CARD OF 'rentierlaw6.DateText'. -/
def dateTextUptoCard : Claim7 := { stood := { row := dateTextUptoRow, standIns := [], harness := (true, "565af681901ff5343689bc3ee5fa8c1ea0c1a171b25c37c345a44cc160a05df6"), looks := true }, kinds := [], alts := [], laidByText := true, laidKinds := [.data, .data, .data, .data, .handle, .data, .pinned], laidTests := true, laidLooks := .later }
def DateTextUptoCardSaid : Prop := Claim7.holds Tryz.pinned (.plain (OpenSpec.upto dateTextSpec)) dateTextUptoCard

/-- THE SECOND FORM's CARD OF 'rentierlaw6.DateYears'. -/
def dateYearsUptoCard : Claim7 := { stood := { row := dateYearsUptoRow, standIns := [], harness := (true, "565af681901ff5343689bc3ee5fa8c1ea0c1a171b25c37c345a44cc160a05df6"), looks := true }, kinds := [], alts := [], laidByText := true, laidKinds := [.data, .data, .data, .data, .handle, .data, .pinned], laidTests := true, laidLooks := .later }
def DateYearsUptoCardSaid : Prop := Claim7.holds Tryz.pinned (.plain (OpenSpec.upto dateYearsSpec)) dateYearsUptoCard

/-- THE SECOND FORM's CARD OF 'rentierlaw6.DateKnown'. -/
def dateKnownUptoCard : Claim7 := { stood := { row := dateKnownUptoRow, standIns := [], harness := (true, "565af681901ff5343689bc3ee5fa8c1ea0c1a171b25c37c345a44cc160a05df6"), looks := true }, kinds := [], alts := [], laidByText := true, laidKinds := [.data, .data, .data, .data, .handle, .data, .pinned], laidTests := true, laidLooks := .later }
def DateKnownUptoCardSaid : Prop := Claim7.holds Tryz.pinned (.plain (OpenSpec.upto dateKnownSpec)) dateKnownUptoCard

/-- THE SECOND FORM's CARD OF 'rentierlaw6.MonthParts'. -/
def monthPartsUptoCard : Claim7 := { stood := { row := monthPartsUptoRow, standIns := [], harness := (true, "565af681901ff5343689bc3ee5fa8c1ea0c1a171b25c37c345a44cc160a05df6"), looks := true }, kinds := [], alts := [], laidByText := true, laidKinds := [.data, .data, .data, .data, .handle, .data, .pinned], laidTests := true, laidLooks := .later }
def MonthPartsUptoCardSaid : Prop := Claim7.holds Tryz.pinned (.plain (OpenSpec.upto monthPartsSpec)) monthPartsUptoCard

/-- THE SECOND FORM's CARD OF 'rentierlaw6.MonthEnds'. -/
def monthEndsUptoCard : Claim7 := { stood := { row := monthEndsUptoRow, standIns := [], harness := (true, "565af681901ff5343689bc3ee5fa8c1ea0c1a171b25c37c345a44cc160a05df6"), looks := true }, kinds := [], alts := [], laidByText := true, laidKinds := [.data, .data, .data, .data, .handle, .data, .pinned], laidTests := true, laidLooks := .later }
def MonthEndsUptoCardSaid : Prop := Claim7.holds Tryz.pinned (.plain (OpenSpec.upto monthEndsSpec)) monthEndsUptoCard

/-- THE SECOND FORM's CARD OF 'rentierlaw6.EasterMonday'. -/
def easterMondayUptoCard : Claim7 := { stood := { row := easterMondayUptoRow, standIns := [], harness := (true, "565af681901ff5343689bc3ee5fa8c1ea0c1a171b25c37c345a44cc160a05df6"), looks := true }, kinds := [], alts := [], laidByText := true, laidKinds := [.data, .data, .data, .data, .handle, .data, .pinned], laidTests := true, laidLooks := .later }
def EasterMondayUptoCardSaid : Prop := Claim7.holds Tryz.pinned (.plain (OpenSpec.upto easterMondaySpec)) easterMondayUptoCard

/-- THE SECOND FORM's CARD OF 'rentierlaw6.HoliNth'. -/
def holiNthUptoCard : Claim7 := { stood := { row := holiNthUptoRow, standIns := [], harness := (true, "565af681901ff5343689bc3ee5fa8c1ea0c1a171b25c37c345a44cc160a05df6"), looks := true }, kinds := [], alts := [], laidByText := true, laidKinds := [.data, .data, .data, .data, .handle, .data, .pinned], laidTests := true, laidLooks := .later }
def HoliNthUptoCardSaid : Prop := Claim7.holds Tryz.pinned (.plain (OpenSpec.upto holiNthSpec)) holiNthUptoCard

/-- THE SECOND FORM's CARD OF 'rentierlaw6.HoliShift'. -/
def holiShiftUptoCard : Claim7 := { stood := { row := holiShiftUptoRow, standIns := [], harness := (true, "565af681901ff5343689bc3ee5fa8c1ea0c1a171b25c37c345a44cc160a05df6"), looks := true }, kinds := [], alts := [], laidByText := true, laidKinds := [.data, .data, .data, .data, .handle, .data, .pinned], laidTests := true, laidLooks := .later }
def HoliShiftUptoCardSaid : Prop := Claim7.holds Tryz.pinned (.plain (OpenSpec.upto holiShiftSpec)) holiShiftUptoCard

/-- THE SECOND FORM's CARD OF 'rentierlaw6.CalJoin'. -/
def calJoinUptoCard : Claim7 := { stood := { row := calJoinUptoRow, standIns := [], harness := (true, "565af681901ff5343689bc3ee5fa8c1ea0c1a171b25c37c345a44cc160a05df6"), looks := true }, kinds := [], alts := [], laidByText := true, laidKinds := [.data, .data, .data, .data, .handle, .data, .pinned], laidTests := true, laidLooks := .later }
def CalJoinUptoCardSaid : Prop := Claim7.holds Tryz.pinned (.plain (OpenSpec.upto calJoinSpec)) calJoinUptoCard

/-- THE SECOND FORM's CARD OF 'rentierlaw6.CalCount'. -/
def calCountUptoCard : Claim7 := { stood := { row := calCountUptoRow, standIns := [], harness := (true, "565af681901ff5343689bc3ee5fa8c1ea0c1a171b25c37c345a44cc160a05df6"), looks := true }, kinds := [], alts := [], laidByText := true, laidKinds := [.data, .data, .data, .data, .handle, .data, .pinned], laidTests := true, laidLooks := .later }
def CalCountUptoCardSaid : Prop := Claim7.holds Tryz.pinned (.plain (OpenSpec.upto calCountSpec)) calCountUptoCard

/-- THE SECOND FORM's CARD OF 'rentierlaw6.CalBack'. -/
def calBackUptoCard : Claim7 := { stood := { row := calBackUptoRow, standIns := [], harness := (true, "565af681901ff5343689bc3ee5fa8c1ea0c1a171b25c37c345a44cc160a05df6"), looks := true }, kinds := [], alts := [], laidByText := true, laidKinds := [.data, .data, .data, .data, .handle, .data, .pinned], laidTests := true, laidLooks := .later }
def CalBackUptoCardSaid : Prop := Claim7.holds Tryz.pinned (.plain (OpenSpec.upto calBackSpec)) calBackUptoCard

/-- THE SECOND FORM's CARD OF 'rentierlaw6.RollNear'. -/
def rollNearUptoCard : Claim7 := { stood := { row := rollNearUptoRow, standIns := [], harness := (true, "565af681901ff5343689bc3ee5fa8c1ea0c1a171b25c37c345a44cc160a05df6"), looks := true }, kinds := [], alts := [], laidByText := true, laidKinds := [.data, .data, .data, .data, .handle, .data, .pinned], laidTests := true, laidLooks := .later }
def RollNearUptoCardSaid : Prop := Claim7.holds Tryz.pinned (.plain (OpenSpec.upto rollNearSpec)) rollNearUptoCard

/-- THE SECOND FORM's CARD OF 'rentierlaw6.CountYear'. -/
def countYearUptoCard : Claim7 := { stood := { row := countYearUptoRow, standIns := [], harness := (true, "565af681901ff5343689bc3ee5fa8c1ea0c1a171b25c37c345a44cc160a05df6"), looks := true }, kinds := [], alts := [], laidByText := true, laidKinds := [.data, .data, .data, .data, .handle, .data, .pinned], laidTests := true, laidLooks := .later }
def CountYearUptoCardSaid : Prop := Claim7.holds Tryz.pinned (.plain (OpenSpec.upto countYearSpec)) countYearUptoCard
end Rows
end Go.Proofs.YtlhmfgbaefaneabGreatDoor
