/-
  DERIVED. GIVEN WITH THE SEED: THE CARDS: each row of YtfpooimjjpamoaaGreatDoorRows.lean that lists a variable, with what it lists TIED to the program's text (the seventh form; the later family's looks); each row that meets fmt, with fmt's text TOLD by the authors' own Lean function (tested against real Go, not proved from fmt's source: count such statements apart). THE CARD IS WHAT COUNTS. Prove the row's statement (the work); the ties are given (YtfpooimjjpamoaaGreatDoorTie.lean); close each card by the builder's one call (the guide's Derived/Test/ToyasCard.lean, 'card_holds'). Laid BY PROGRAM, IN A SANDBOX (cutbox-door.mjs). By AI agents, Wed Nov 11 2026. No macro, syntax, notation, axiom, sorry.
-/
import Derived.Test.YtfpooimjjpamoaaGreatDoorRows
import GoSem.ClaimSeven
namespace Go.Proofs.YtfpooimjjpamoaaGreatDoor
namespace Rows

/-- THE TIED CARD OF 'rentierlaw2.NatAll'. -/
def natAllCard : Claim7 := { stood := { row := natAllRow, standIns := [], harness := (true, "61b8e03b6a7ff3bc8391d5edfc08a745d3277148321e953f4b00a54c14ffa6d7"), looks := true }, kinds := [], alts := [], laidByText := true, laidKinds := [.data, .handle, .pinned], laidTests := true, laidLooks := .later }
def NatAllCardSaid : Prop := Claim7.holds Tryz.pinned (.plain (OpenSpec.ofChange natAllSpec)) natAllCard

/-- THE TIED CARD OF 'rentierlaw2.NatLaws'. -/
def natLawsCard : Claim7 := { stood := { row := natLawsRow, standIns := [], harness := (true, "61b8e03b6a7ff3bc8391d5edfc08a745d3277148321e953f4b00a54c14ffa6d7"), looks := true }, kinds := [], alts := [], laidByText := true, laidKinds := [.data, .handle, .pinned], laidTests := true, laidLooks := .later }
def NatLawsCardSaid : Prop := Claim7.holds Tryz.pinned (.plain (OpenSpec.ofChange natLawsSpec)) natLawsCard

/-- THE TIED CARD OF 'rentierlaw2.NatText'. -/
def natTextCard : Claim7 := { stood := { row := natTextRow, standIns := [], harness := (true, "61b8e03b6a7ff3bc8391d5edfc08a745d3277148321e953f4b00a54c14ffa6d7"), looks := true }, kinds := [], alts := [], laidByText := true, laidKinds := [.data, .handle, .pinned], laidTests := true, laidLooks := .later }
def NatTextCardSaid : Prop := Claim7.holds Tryz.pinned (.plain (OpenSpec.ofChange natTextSpec)) natTextCard

/-- THE TIED CARD OF 'rentierlaw2.NumAll'. -/
def numAllCard : Claim7 := { stood := { row := numAllRow, standIns := [], harness := (true, "61b8e03b6a7ff3bc8391d5edfc08a745d3277148321e953f4b00a54c14ffa6d7"), looks := true }, kinds := [], alts := [], laidByText := true, laidKinds := [.data, .handle, .pinned], laidTests := true, laidLooks := .later }
def NumAllCardSaid : Prop := Claim7.holds Tryz.pinned (.plain (OpenSpec.ofChange numAllSpec)) numAllCard

/-- THE TIED CARD OF 'rentierlaw2.NumText'. -/
def numTextCard : Claim7 := { stood := { row := numTextRow, standIns := [], harness := (true, "61b8e03b6a7ff3bc8391d5edfc08a745d3277148321e953f4b00a54c14ffa6d7"), looks := true }, kinds := [], alts := [], laidByText := true, laidKinds := [.data, .handle, .pinned], laidTests := true, laidLooks := .later }
def NumTextCardSaid : Prop := Claim7.holds Tryz.pinned (.plain (OpenSpec.ofChange numTextSpec)) numTextCard

/-- THE TIED CARD OF 'rentierlaw2.RatText'. -/
def ratTextCard : Claim7 := { stood := { row := ratTextRow, standIns := [], harness := (true, "61b8e03b6a7ff3bc8391d5edfc08a745d3277148321e953f4b00a54c14ffa6d7"), looks := true }, kinds := [], alts := [], laidByText := true, laidKinds := [.data, .handle, .pinned], laidTests := true, laidLooks := .later }
def RatTextCardSaid : Prop := Claim7.holds Tryz.pinned (.plain (OpenSpec.ofChange ratTextSpec)) ratTextCard

/-- THE TIED CARD OF 'rentierlaw2.DecGet'. -/
def decGetCard : Claim7 := { stood := { row := decGetRow, standIns := [], harness := (true, "61b8e03b6a7ff3bc8391d5edfc08a745d3277148321e953f4b00a54c14ffa6d7"), looks := true }, kinds := [], alts := [], laidByText := true, laidKinds := [.data, .handle, .pinned], laidTests := true, laidLooks := .later }
def DecGetCardSaid : Prop := Claim7.holds Tryz.pinned (.plain (OpenSpec.ofChange decGetSpec)) decGetCard

/-- THE TIED CARD OF 'rentierlaw2.DecRound'. -/
def decRoundCard : Claim7 := { stood := { row := decRoundRow, standIns := [], harness := (true, "61b8e03b6a7ff3bc8391d5edfc08a745d3277148321e953f4b00a54c14ffa6d7"), looks := true }, kinds := [], alts := [], laidByText := true, laidKinds := [.data, .handle, .pinned], laidTests := true, laidLooks := .later }
def DecRoundCardSaid : Prop := Claim7.holds Tryz.pinned (.plain (OpenSpec.ofChange decRoundSpec)) decRoundCard

/-- THE TIED CARD OF 'rentierlaw2.DecPut'. -/
def decPutCard : Claim7 := { stood := { row := decPutRow, standIns := [], harness := (true, "61b8e03b6a7ff3bc8391d5edfc08a745d3277148321e953f4b00a54c14ffa6d7"), looks := true }, kinds := [], alts := [], laidByText := true, laidKinds := [.data, .handle, .pinned], laidTests := true, laidLooks := .later }
def DecPutCardSaid : Prop := Claim7.holds Tryz.pinned (.plain (OpenSpec.ofChange decPutSpec)) decPutCard

/-- THE TIED CARD OF 'rentierlaw2.DecNone'. -/
def decNoneCard : Claim7 := { stood := { row := decNoneRow, standIns := [], harness := (true, "61b8e03b6a7ff3bc8391d5edfc08a745d3277148321e953f4b00a54c14ffa6d7"), looks := true }, kinds := [], alts := [], laidByText := true, laidKinds := [.data, .handle, .pinned], laidTests := true, laidLooks := .later }
def DecNoneCardSaid : Prop := Claim7.holds Tryz.pinned (.plain (OpenSpec.ofChange decNoneSpec)) decNoneCard

/-- THE TIED CARD OF 'rentierlaw2.NatCarry'. -/
def natCarryCard : Claim7 := { stood := { row := natCarryRow, standIns := [], harness := (true, "61b8e03b6a7ff3bc8391d5edfc08a745d3277148321e953f4b00a54c14ffa6d7"), looks := true }, kinds := [], alts := [], laidByText := true, laidKinds := [.data, .handle, .pinned], laidTests := true, laidLooks := .later }
def NatCarryCardSaid : Prop := Claim7.holds Tryz.pinned (.plain (OpenSpec.ofChange natCarrySpec)) natCarryCard

/-- THE TIED CARD OF 'rentierlaw2.NatDigit'. -/
def natDigitCard : Claim7 := { stood := { row := natDigitRow, standIns := [], harness := (true, "61b8e03b6a7ff3bc8391d5edfc08a745d3277148321e953f4b00a54c14ffa6d7"), looks := true }, kinds := [], alts := [], laidByText := true, laidKinds := [.data, .handle, .pinned], laidTests := true, laidLooks := .later }
def NatDigitCardSaid : Prop := Claim7.holds Tryz.pinned (.plain (OpenSpec.ofChange natDigitSpec)) natDigitCard

/-- THE TIED CARD OF 'rentierlaw2.NatGcd'. -/
def natGcdCard : Claim7 := { stood := { row := natGcdRow, standIns := [], harness := (true, "61b8e03b6a7ff3bc8391d5edfc08a745d3277148321e953f4b00a54c14ffa6d7"), looks := true }, kinds := [], alts := [], laidByText := true, laidKinds := [.data, .handle, .pinned], laidTests := true, laidLooks := .later }
def NatGcdCardSaid : Prop := Claim7.holds Tryz.pinned (.plain (OpenSpec.ofChange natGcdSpec)) natGcdCard

/-- THE TIED CARD OF 'rentierlaw2.NatLong'. -/
def natLongCard : Claim7 := { stood := { row := natLongRow, standIns := [], harness := (true, "61b8e03b6a7ff3bc8391d5edfc08a745d3277148321e953f4b00a54c14ffa6d7"), looks := true }, kinds := [], alts := [], laidByText := true, laidKinds := [.data, .handle, .pinned], laidTests := true, laidLooks := .later }
def NatLongCardSaid : Prop := Claim7.holds Tryz.pinned (.plain (OpenSpec.ofChange natLongSpec)) natLongCard

/-- THE TIED CARD OF 'rentierlaw2.NatOwn'. -/
def natOwnCard : Claim7 := { stood := { row := natOwnRow, standIns := [], harness := (true, "61b8e03b6a7ff3bc8391d5edfc08a745d3277148321e953f4b00a54c14ffa6d7"), looks := true }, kinds := [], alts := [], laidByText := true, laidKinds := [.data, .handle, .pinned], laidTests := true, laidLooks := .later }
def NatOwnCardSaid : Prop := Claim7.holds Tryz.pinned (.plain (OpenSpec.ofChange natOwnSpec)) natOwnCard

/-- THE TIED CARD OF 'rentierlaw2.NumLaws'. -/
def numLawsCard : Claim7 := { stood := { row := numLawsRow, standIns := [], harness := (true, "61b8e03b6a7ff3bc8391d5edfc08a745d3277148321e953f4b00a54c14ffa6d7"), looks := true }, kinds := [], alts := [], laidByText := true, laidKinds := [.data, .handle, .pinned], laidTests := true, laidLooks := .later }
def NumLawsCardSaid : Prop := Claim7.holds Tryz.pinned (.plain (OpenSpec.ofChange numLawsSpec)) numLawsCard

/-- THE TIED CARD OF 'rentierlaw2.NumEdge'. -/
def numEdgeCard : Claim7 := { stood := { row := numEdgeRow, standIns := [], harness := (true, "61b8e03b6a7ff3bc8391d5edfc08a745d3277148321e953f4b00a54c14ffa6d7"), looks := true }, kinds := [], alts := [], laidByText := true, laidKinds := [.data, .handle, .pinned], laidTests := true, laidLooks := .later }
def NumEdgeCardSaid : Prop := Claim7.holds Tryz.pinned (.plain (OpenSpec.ofChange numEdgeSpec)) numEdgeCard

/-- THE TIED CARD OF 'rentierlaw2.RatLaws'. -/
def ratLawsCard : Claim7 := { stood := { row := ratLawsRow, standIns := [], harness := (true, "61b8e03b6a7ff3bc8391d5edfc08a745d3277148321e953f4b00a54c14ffa6d7"), looks := true }, kinds := [], alts := [], laidByText := true, laidKinds := [.data, .handle, .pinned], laidTests := true, laidLooks := .later }
def RatLawsCardSaid : Prop := Claim7.holds Tryz.pinned (.plain (OpenSpec.ofChange ratLawsSpec)) ratLawsCard

/-- THE TIED CARD OF 'rentierlaw2.RatTexts'. -/
def ratTextsCard : Claim7 := { stood := { row := ratTextsRow, standIns := [], harness := (true, "61b8e03b6a7ff3bc8391d5edfc08a745d3277148321e953f4b00a54c14ffa6d7"), looks := true }, kinds := [], alts := [], laidByText := true, laidKinds := [.data, .handle, .pinned], laidTests := true, laidLooks := .later }
def RatTextsCardSaid : Prop := Claim7.holds Tryz.pinned (.plain (OpenSpec.ofChange ratTextsSpec)) ratTextsCard

/-- THE TIED CARD OF 'rentierlaw2.DecHalf'. -/
def decHalfCard : Claim7 := { stood := { row := decHalfRow, standIns := [], harness := (true, "61b8e03b6a7ff3bc8391d5edfc08a745d3277148321e953f4b00a54c14ffa6d7"), looks := true }, kinds := [], alts := [], laidByText := true, laidKinds := [.data, .handle, .pinned], laidTests := true, laidLooks := .later }
def DecHalfCardSaid : Prop := Claim7.holds Tryz.pinned (.plain (OpenSpec.ofChange decHalfSpec)) decHalfCard

/-- THE TIED CARD OF 'rentierlaw2.DecMore'. -/
def decMoreCard : Claim7 := { stood := { row := decMoreRow, standIns := [], harness := (true, "61b8e03b6a7ff3bc8391d5edfc08a745d3277148321e953f4b00a54c14ffa6d7"), looks := true }, kinds := [], alts := [], laidByText := true, laidKinds := [.data, .handle, .pinned], laidTests := true, laidLooks := .later }
def DecMoreCardSaid : Prop := Claim7.holds Tryz.pinned (.plain (OpenSpec.ofChange decMoreSpec)) decMoreCard

/-- THE TIED CARD OF 'rentierlaw2.DecTexts'. -/
def decTextsCard : Claim7 := { stood := { row := decTextsRow, standIns := [], harness := (true, "61b8e03b6a7ff3bc8391d5edfc08a745d3277148321e953f4b00a54c14ffa6d7"), looks := true }, kinds := [], alts := [], laidByText := true, laidKinds := [.data, .handle, .pinned], laidTests := true, laidLooks := .later }
def DecTextsCardSaid : Prop := Claim7.holds Tryz.pinned (.plain (OpenSpec.ofChange decTextsSpec)) decTextsCard

/-- THE SECOND FORM's CARD OF 'rentierlaw2.NatAll'. -/
def natAllUptoCard : Claim7 := { stood := { row := natAllUptoRow, standIns := [], harness := (true, "61b8e03b6a7ff3bc8391d5edfc08a745d3277148321e953f4b00a54c14ffa6d7"), looks := true }, kinds := [], alts := [], laidByText := true, laidKinds := [.data, .handle, .pinned], laidTests := true, laidLooks := .later }
def NatAllUptoCardSaid : Prop := Claim7.holds Tryz.pinned (.plain (OpenSpec.upto natAllSpec)) natAllUptoCard

/-- THE SECOND FORM's CARD OF 'rentierlaw2.NatLaws'. -/
def natLawsUptoCard : Claim7 := { stood := { row := natLawsUptoRow, standIns := [], harness := (true, "61b8e03b6a7ff3bc8391d5edfc08a745d3277148321e953f4b00a54c14ffa6d7"), looks := true }, kinds := [], alts := [], laidByText := true, laidKinds := [.data, .handle, .pinned], laidTests := true, laidLooks := .later }
def NatLawsUptoCardSaid : Prop := Claim7.holds Tryz.pinned (.plain (OpenSpec.upto natLawsSpec)) natLawsUptoCard

/-- THE SECOND FORM's CARD OF 'rentierlaw2.NatText'. -/
def natTextUptoCard : Claim7 := { stood := { row := natTextUptoRow, standIns := [], harness := (true, "61b8e03b6a7ff3bc8391d5edfc08a745d3277148321e953f4b00a54c14ffa6d7"), looks := true }, kinds := [], alts := [], laidByText := true, laidKinds := [.data, .handle, .pinned], laidTests := true, laidLooks := .later }
def NatTextUptoCardSaid : Prop := Claim7.holds Tryz.pinned (.plain (OpenSpec.upto natTextSpec)) natTextUptoCard

/-- THE SECOND FORM's CARD OF 'rentierlaw2.NumAll'. -/
def numAllUptoCard : Claim7 := { stood := { row := numAllUptoRow, standIns := [], harness := (true, "61b8e03b6a7ff3bc8391d5edfc08a745d3277148321e953f4b00a54c14ffa6d7"), looks := true }, kinds := [], alts := [], laidByText := true, laidKinds := [.data, .handle, .pinned], laidTests := true, laidLooks := .later }
def NumAllUptoCardSaid : Prop := Claim7.holds Tryz.pinned (.plain (OpenSpec.upto numAllSpec)) numAllUptoCard

/-- THE SECOND FORM's CARD OF 'rentierlaw2.NumText'. -/
def numTextUptoCard : Claim7 := { stood := { row := numTextUptoRow, standIns := [], harness := (true, "61b8e03b6a7ff3bc8391d5edfc08a745d3277148321e953f4b00a54c14ffa6d7"), looks := true }, kinds := [], alts := [], laidByText := true, laidKinds := [.data, .handle, .pinned], laidTests := true, laidLooks := .later }
def NumTextUptoCardSaid : Prop := Claim7.holds Tryz.pinned (.plain (OpenSpec.upto numTextSpec)) numTextUptoCard

/-- THE SECOND FORM's CARD OF 'rentierlaw2.RatText'. -/
def ratTextUptoCard : Claim7 := { stood := { row := ratTextUptoRow, standIns := [], harness := (true, "61b8e03b6a7ff3bc8391d5edfc08a745d3277148321e953f4b00a54c14ffa6d7"), looks := true }, kinds := [], alts := [], laidByText := true, laidKinds := [.data, .handle, .pinned], laidTests := true, laidLooks := .later }
def RatTextUptoCardSaid : Prop := Claim7.holds Tryz.pinned (.plain (OpenSpec.upto ratTextSpec)) ratTextUptoCard

/-- THE SECOND FORM's CARD OF 'rentierlaw2.DecGet'. -/
def decGetUptoCard : Claim7 := { stood := { row := decGetUptoRow, standIns := [], harness := (true, "61b8e03b6a7ff3bc8391d5edfc08a745d3277148321e953f4b00a54c14ffa6d7"), looks := true }, kinds := [], alts := [], laidByText := true, laidKinds := [.data, .handle, .pinned], laidTests := true, laidLooks := .later }
def DecGetUptoCardSaid : Prop := Claim7.holds Tryz.pinned (.plain (OpenSpec.upto decGetSpec)) decGetUptoCard

/-- THE SECOND FORM's CARD OF 'rentierlaw2.DecRound'. -/
def decRoundUptoCard : Claim7 := { stood := { row := decRoundUptoRow, standIns := [], harness := (true, "61b8e03b6a7ff3bc8391d5edfc08a745d3277148321e953f4b00a54c14ffa6d7"), looks := true }, kinds := [], alts := [], laidByText := true, laidKinds := [.data, .handle, .pinned], laidTests := true, laidLooks := .later }
def DecRoundUptoCardSaid : Prop := Claim7.holds Tryz.pinned (.plain (OpenSpec.upto decRoundSpec)) decRoundUptoCard

/-- THE SECOND FORM's CARD OF 'rentierlaw2.DecPut'. -/
def decPutUptoCard : Claim7 := { stood := { row := decPutUptoRow, standIns := [], harness := (true, "61b8e03b6a7ff3bc8391d5edfc08a745d3277148321e953f4b00a54c14ffa6d7"), looks := true }, kinds := [], alts := [], laidByText := true, laidKinds := [.data, .handle, .pinned], laidTests := true, laidLooks := .later }
def DecPutUptoCardSaid : Prop := Claim7.holds Tryz.pinned (.plain (OpenSpec.upto decPutSpec)) decPutUptoCard

/-- THE SECOND FORM's CARD OF 'rentierlaw2.DecNone'. -/
def decNoneUptoCard : Claim7 := { stood := { row := decNoneUptoRow, standIns := [], harness := (true, "61b8e03b6a7ff3bc8391d5edfc08a745d3277148321e953f4b00a54c14ffa6d7"), looks := true }, kinds := [], alts := [], laidByText := true, laidKinds := [.data, .handle, .pinned], laidTests := true, laidLooks := .later }
def DecNoneUptoCardSaid : Prop := Claim7.holds Tryz.pinned (.plain (OpenSpec.upto decNoneSpec)) decNoneUptoCard

/-- THE SECOND FORM's CARD OF 'rentierlaw2.NatCarry'. -/
def natCarryUptoCard : Claim7 := { stood := { row := natCarryUptoRow, standIns := [], harness := (true, "61b8e03b6a7ff3bc8391d5edfc08a745d3277148321e953f4b00a54c14ffa6d7"), looks := true }, kinds := [], alts := [], laidByText := true, laidKinds := [.data, .handle, .pinned], laidTests := true, laidLooks := .later }
def NatCarryUptoCardSaid : Prop := Claim7.holds Tryz.pinned (.plain (OpenSpec.upto natCarrySpec)) natCarryUptoCard

/-- THE SECOND FORM's CARD OF 'rentierlaw2.NatDigit'. -/
def natDigitUptoCard : Claim7 := { stood := { row := natDigitUptoRow, standIns := [], harness := (true, "61b8e03b6a7ff3bc8391d5edfc08a745d3277148321e953f4b00a54c14ffa6d7"), looks := true }, kinds := [], alts := [], laidByText := true, laidKinds := [.data, .handle, .pinned], laidTests := true, laidLooks := .later }
def NatDigitUptoCardSaid : Prop := Claim7.holds Tryz.pinned (.plain (OpenSpec.upto natDigitSpec)) natDigitUptoCard

/-- THE SECOND FORM's CARD OF 'rentierlaw2.NatGcd'. -/
def natGcdUptoCard : Claim7 := { stood := { row := natGcdUptoRow, standIns := [], harness := (true, "61b8e03b6a7ff3bc8391d5edfc08a745d3277148321e953f4b00a54c14ffa6d7"), looks := true }, kinds := [], alts := [], laidByText := true, laidKinds := [.data, .handle, .pinned], laidTests := true, laidLooks := .later }
def NatGcdUptoCardSaid : Prop := Claim7.holds Tryz.pinned (.plain (OpenSpec.upto natGcdSpec)) natGcdUptoCard

/-- THE SECOND FORM's CARD OF 'rentierlaw2.NatLong'. -/
def natLongUptoCard : Claim7 := { stood := { row := natLongUptoRow, standIns := [], harness := (true, "61b8e03b6a7ff3bc8391d5edfc08a745d3277148321e953f4b00a54c14ffa6d7"), looks := true }, kinds := [], alts := [], laidByText := true, laidKinds := [.data, .handle, .pinned], laidTests := true, laidLooks := .later }
def NatLongUptoCardSaid : Prop := Claim7.holds Tryz.pinned (.plain (OpenSpec.upto natLongSpec)) natLongUptoCard

/-- THE SECOND FORM's CARD OF 'rentierlaw2.NatOwn'. -/
def natOwnUptoCard : Claim7 := { stood := { row := natOwnUptoRow, standIns := [], harness := (true, "61b8e03b6a7ff3bc8391d5edfc08a745d3277148321e953f4b00a54c14ffa6d7"), looks := true }, kinds := [], alts := [], laidByText := true, laidKinds := [.data, .handle, .pinned], laidTests := true, laidLooks := .later }
def NatOwnUptoCardSaid : Prop := Claim7.holds Tryz.pinned (.plain (OpenSpec.upto natOwnSpec)) natOwnUptoCard

/-- THE SECOND FORM's CARD OF 'rentierlaw2.NumLaws'. -/
def numLawsUptoCard : Claim7 := { stood := { row := numLawsUptoRow, standIns := [], harness := (true, "61b8e03b6a7ff3bc8391d5edfc08a745d3277148321e953f4b00a54c14ffa6d7"), looks := true }, kinds := [], alts := [], laidByText := true, laidKinds := [.data, .handle, .pinned], laidTests := true, laidLooks := .later }
def NumLawsUptoCardSaid : Prop := Claim7.holds Tryz.pinned (.plain (OpenSpec.upto numLawsSpec)) numLawsUptoCard

/-- THE SECOND FORM's CARD OF 'rentierlaw2.NumEdge'. -/
def numEdgeUptoCard : Claim7 := { stood := { row := numEdgeUptoRow, standIns := [], harness := (true, "61b8e03b6a7ff3bc8391d5edfc08a745d3277148321e953f4b00a54c14ffa6d7"), looks := true }, kinds := [], alts := [], laidByText := true, laidKinds := [.data, .handle, .pinned], laidTests := true, laidLooks := .later }
def NumEdgeUptoCardSaid : Prop := Claim7.holds Tryz.pinned (.plain (OpenSpec.upto numEdgeSpec)) numEdgeUptoCard

/-- THE SECOND FORM's CARD OF 'rentierlaw2.RatLaws'. -/
def ratLawsUptoCard : Claim7 := { stood := { row := ratLawsUptoRow, standIns := [], harness := (true, "61b8e03b6a7ff3bc8391d5edfc08a745d3277148321e953f4b00a54c14ffa6d7"), looks := true }, kinds := [], alts := [], laidByText := true, laidKinds := [.data, .handle, .pinned], laidTests := true, laidLooks := .later }
def RatLawsUptoCardSaid : Prop := Claim7.holds Tryz.pinned (.plain (OpenSpec.upto ratLawsSpec)) ratLawsUptoCard

/-- THE SECOND FORM's CARD OF 'rentierlaw2.RatTexts'. -/
def ratTextsUptoCard : Claim7 := { stood := { row := ratTextsUptoRow, standIns := [], harness := (true, "61b8e03b6a7ff3bc8391d5edfc08a745d3277148321e953f4b00a54c14ffa6d7"), looks := true }, kinds := [], alts := [], laidByText := true, laidKinds := [.data, .handle, .pinned], laidTests := true, laidLooks := .later }
def RatTextsUptoCardSaid : Prop := Claim7.holds Tryz.pinned (.plain (OpenSpec.upto ratTextsSpec)) ratTextsUptoCard

/-- THE SECOND FORM's CARD OF 'rentierlaw2.DecHalf'. -/
def decHalfUptoCard : Claim7 := { stood := { row := decHalfUptoRow, standIns := [], harness := (true, "61b8e03b6a7ff3bc8391d5edfc08a745d3277148321e953f4b00a54c14ffa6d7"), looks := true }, kinds := [], alts := [], laidByText := true, laidKinds := [.data, .handle, .pinned], laidTests := true, laidLooks := .later }
def DecHalfUptoCardSaid : Prop := Claim7.holds Tryz.pinned (.plain (OpenSpec.upto decHalfSpec)) decHalfUptoCard

/-- THE SECOND FORM's CARD OF 'rentierlaw2.DecMore'. -/
def decMoreUptoCard : Claim7 := { stood := { row := decMoreUptoRow, standIns := [], harness := (true, "61b8e03b6a7ff3bc8391d5edfc08a745d3277148321e953f4b00a54c14ffa6d7"), looks := true }, kinds := [], alts := [], laidByText := true, laidKinds := [.data, .handle, .pinned], laidTests := true, laidLooks := .later }
def DecMoreUptoCardSaid : Prop := Claim7.holds Tryz.pinned (.plain (OpenSpec.upto decMoreSpec)) decMoreUptoCard

/-- THE SECOND FORM's CARD OF 'rentierlaw2.DecTexts'. -/
def decTextsUptoCard : Claim7 := { stood := { row := decTextsUptoRow, standIns := [], harness := (true, "61b8e03b6a7ff3bc8391d5edfc08a745d3277148321e953f4b00a54c14ffa6d7"), looks := true }, kinds := [], alts := [], laidByText := true, laidKinds := [.data, .handle, .pinned], laidTests := true, laidLooks := .later }
def DecTextsUptoCardSaid : Prop := Claim7.holds Tryz.pinned (.plain (OpenSpec.upto decTextsSpec)) decTextsUptoCard
end Rows
end Go.Proofs.YtfpooimjjpamoaaGreatDoor
