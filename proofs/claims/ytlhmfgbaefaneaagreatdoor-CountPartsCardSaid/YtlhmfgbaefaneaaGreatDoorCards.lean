/-
  DERIVED. GIVEN WITH THE SEED: THE CARDS: each row of YtlhmfgbaefaneaaGreatDoorRows.lean that lists a variable, with what it lists TIED to the program's text (the seventh form; the later family's looks); each row that meets fmt, with fmt's text TOLD by the authors' own Lean function (tested against real Go, not proved from fmt's source: count such statements apart). THE CARD IS WHAT COUNTS. Prove the row's statement (the work); the ties are given (YtlhmfgbaefaneaaGreatDoorTie.lean); close each card by the builder's one call (the guide's Derived/Test/ToyasCard.lean, 'card_holds'). Laid BY PROGRAM, IN A SANDBOX (cutbox-door.mjs). By AI agents, Wed Nov 11 2026. No macro, syntax, notation, axiom, sorry.
-/
import Derived.Test.YtlhmfgbaefaneaaGreatDoorRows
import GoSem.ClaimSeven
namespace Go.Proofs.YtlhmfgbaefaneaaGreatDoor
namespace Rows

/-- THE TIED CARD OF 'rentierlaw6.DateAll'. -/
def dateAllCard : Claim7 := { stood := { row := dateAllRow, standIns := [], harness := (true, "dba5e783bd8d6c7b451fb0b2130d70519e3fc493ebba5d82827f346b28eab536"), looks := true }, kinds := [], alts := [], laidByText := true, laidKinds := [.data, .data, .data, .data, .handle, .data, .pinned], laidTests := true, laidLooks := .later }
def DateAllCardSaid : Prop := Claim7.holds Tryz.pinned (.plain (OpenSpec.ofChange dateAllSpec)) dateAllCard

/-- THE TIED CARD OF 'rentierlaw6.DateEdge'. -/
def dateEdgeCard : Claim7 := { stood := { row := dateEdgeRow, standIns := [], harness := (true, "dba5e783bd8d6c7b451fb0b2130d70519e3fc493ebba5d82827f346b28eab536"), looks := true }, kinds := [], alts := [], laidByText := true, laidKinds := [.data, .data, .data, .data, .handle, .data, .pinned], laidTests := true, laidLooks := .later }
def DateEdgeCardSaid : Prop := Claim7.holds Tryz.pinned (.plain (OpenSpec.ofChange dateEdgeSpec)) dateEdgeCard

/-- THE TIED CARD OF 'rentierlaw6.DateNext'. -/
def dateNextCard : Claim7 := { stood := { row := dateNextRow, standIns := [], harness := (true, "dba5e783bd8d6c7b451fb0b2130d70519e3fc493ebba5d82827f346b28eab536"), looks := true }, kinds := [], alts := [], laidByText := true, laidKinds := [.data, .data, .data, .data, .handle, .data, .pinned], laidTests := true, laidLooks := .later }
def DateNextCardSaid : Prop := Claim7.holds Tryz.pinned (.plain (OpenSpec.ofChange dateNextSpec)) dateNextCard

/-- THE TIED CARD OF 'rentierlaw6.MonthAll'. -/
def monthAllCard : Claim7 := { stood := { row := monthAllRow, standIns := [], harness := (true, "dba5e783bd8d6c7b451fb0b2130d70519e3fc493ebba5d82827f346b28eab536"), looks := true }, kinds := [], alts := [], laidByText := true, laidKinds := [.data, .data, .data, .data, .handle, .data, .pinned], laidTests := true, laidLooks := .later }
def MonthAllCardSaid : Prop := Claim7.holds Tryz.pinned (.plain (OpenSpec.ofChange monthAllSpec)) monthAllCard

/-- THE TIED CARD OF 'rentierlaw6.MonthBack'. -/
def monthBackCard : Claim7 := { stood := { row := monthBackRow, standIns := [], harness := (true, "dba5e783bd8d6c7b451fb0b2130d70519e3fc493ebba5d82827f346b28eab536"), looks := true }, kinds := [], alts := [], laidByText := true, laidKinds := [.data, .data, .data, .data, .handle, .data, .pinned], laidTests := true, laidLooks := .later }
def MonthBackCardSaid : Prop := Claim7.holds Tryz.pinned (.plain (OpenSpec.ofChange monthBackSpec)) monthBackCard

/-- THE TIED CARD OF 'rentierlaw6.EasterAll'. -/
def easterAllCard : Claim7 := { stood := { row := easterAllRow, standIns := [], harness := (true, "dba5e783bd8d6c7b451fb0b2130d70519e3fc493ebba5d82827f346b28eab536"), looks := true }, kinds := [], alts := [], laidByText := true, laidKinds := [.data, .data, .data, .data, .handle, .data, .pinned], laidTests := true, laidLooks := .later }
def EasterAllCardSaid : Prop := Claim7.holds Tryz.pinned (.plain (OpenSpec.ofChange easterAllSpec)) easterAllCard

/-- THE TIED CARD OF 'rentierlaw6.EasterKnown'. -/
def easterKnownCard : Claim7 := { stood := { row := easterKnownRow, standIns := [], harness := (true, "dba5e783bd8d6c7b451fb0b2130d70519e3fc493ebba5d82827f346b28eab536"), looks := true }, kinds := [], alts := [], laidByText := true, laidKinds := [.data, .data, .data, .data, .handle, .data, .pinned], laidTests := true, laidLooks := .later }
def EasterKnownCardSaid : Prop := Claim7.holds Tryz.pinned (.plain (OpenSpec.ofChange easterKnownSpec)) easterKnownCard

/-- THE TIED CARD OF 'rentierlaw6.CalNew'. -/
def calNewCard : Claim7 := { stood := { row := calNewRow, standIns := [], harness := (true, "dba5e783bd8d6c7b451fb0b2130d70519e3fc493ebba5d82827f346b28eab536"), looks := true }, kinds := [], alts := [], laidByText := true, laidKinds := [.data, .data, .data, .data, .handle, .data, .pinned], laidTests := true, laidLooks := .later }
def CalNewCardSaid : Prop := Claim7.holds Tryz.pinned (.plain (OpenSpec.ofChange calNewSpec)) calNewCard

/-- THE TIED CARD OF 'rentierlaw6.CalAll'. -/
def calAllCard : Claim7 := { stood := { row := calAllRow, standIns := [], harness := (true, "dba5e783bd8d6c7b451fb0b2130d70519e3fc493ebba5d82827f346b28eab536"), looks := true }, kinds := [], alts := [], laidByText := true, laidKinds := [.data, .data, .data, .data, .handle, .data, .pinned], laidTests := true, laidLooks := .later }
def CalAllCardSaid : Prop := Claim7.holds Tryz.pinned (.plain (OpenSpec.ofChange calAllSpec)) calAllCard

/-- THE TIED CARD OF 'rentierlaw6.CalAdd'. -/
def calAddCard : Claim7 := { stood := { row := calAddRow, standIns := [], harness := (true, "dba5e783bd8d6c7b451fb0b2130d70519e3fc493ebba5d82827f346b28eab536"), looks := true }, kinds := [], alts := [], laidByText := true, laidKinds := [.data, .data, .data, .data, .handle, .data, .pinned], laidTests := true, laidLooks := .later }
def CalAddCardSaid : Prop := Claim7.holds Tryz.pinned (.plain (OpenSpec.ofChange calAddSpec)) calAddCard

/-- THE TIED CARD OF 'rentierlaw6.RollAll'. -/
def rollAllCard : Claim7 := { stood := { row := rollAllRow, standIns := [], harness := (true, "dba5e783bd8d6c7b451fb0b2130d70519e3fc493ebba5d82827f346b28eab536"), looks := true }, kinds := [], alts := [], laidByText := true, laidKinds := [.data, .data, .data, .data, .handle, .data, .pinned], laidTests := true, laidLooks := .later }
def RollAllCardSaid : Prop := Claim7.holds Tryz.pinned (.plain (OpenSpec.ofChange rollAllSpec)) rollAllCard

/-- THE TIED CARD OF 'rentierlaw6.RollLaws'. -/
def rollLawsCard : Claim7 := { stood := { row := rollLawsRow, standIns := [], harness := (true, "dba5e783bd8d6c7b451fb0b2130d70519e3fc493ebba5d82827f346b28eab536"), looks := true }, kinds := [], alts := [], laidByText := true, laidKinds := [.data, .data, .data, .data, .handle, .data, .pinned], laidTests := true, laidLooks := .later }
def RollLawsCardSaid : Prop := Claim7.holds Tryz.pinned (.plain (OpenSpec.ofChange rollLawsSpec)) rollLawsCard

/-- THE TIED CARD OF 'rentierlaw6.CountAll'. -/
def countAllCard : Claim7 := { stood := { row := countAllRow, standIns := [], harness := (true, "dba5e783bd8d6c7b451fb0b2130d70519e3fc493ebba5d82827f346b28eab536"), looks := true }, kinds := [], alts := [], laidByText := true, laidKinds := [.data, .data, .data, .data, .handle, .data, .pinned], laidTests := true, laidLooks := .later }
def CountAllCardSaid : Prop := Claim7.holds Tryz.pinned (.plain (OpenSpec.ofChange countAllSpec)) countAllCard

/-- THE TIED CARD OF 'rentierlaw6.CountParts'. -/
def countPartsCard : Claim7 := { stood := { row := countPartsRow, standIns := [], harness := (true, "dba5e783bd8d6c7b451fb0b2130d70519e3fc493ebba5d82827f346b28eab536"), looks := true }, kinds := [], alts := [], laidByText := true, laidKinds := [.data, .data, .data, .data, .handle, .data, .pinned], laidTests := true, laidLooks := .later }
def CountPartsCardSaid : Prop := Claim7.holds Tryz.pinned (.plain (OpenSpec.ofChange countPartsSpec)) countPartsCard

/-- THE SECOND FORM's CARD OF 'rentierlaw6.DateAll'. -/
def dateAllUptoCard : Claim7 := { stood := { row := dateAllUptoRow, standIns := [], harness := (true, "dba5e783bd8d6c7b451fb0b2130d70519e3fc493ebba5d82827f346b28eab536"), looks := true }, kinds := [], alts := [], laidByText := true, laidKinds := [.data, .data, .data, .data, .handle, .data, .pinned], laidTests := true, laidLooks := .later }
def DateAllUptoCardSaid : Prop := Claim7.holds Tryz.pinned (.plain (OpenSpec.upto dateAllSpec)) dateAllUptoCard

/-- THE SECOND FORM's CARD OF 'rentierlaw6.DateEdge'. -/
def dateEdgeUptoCard : Claim7 := { stood := { row := dateEdgeUptoRow, standIns := [], harness := (true, "dba5e783bd8d6c7b451fb0b2130d70519e3fc493ebba5d82827f346b28eab536"), looks := true }, kinds := [], alts := [], laidByText := true, laidKinds := [.data, .data, .data, .data, .handle, .data, .pinned], laidTests := true, laidLooks := .later }
def DateEdgeUptoCardSaid : Prop := Claim7.holds Tryz.pinned (.plain (OpenSpec.upto dateEdgeSpec)) dateEdgeUptoCard

/-- THE SECOND FORM's CARD OF 'rentierlaw6.DateNext'. -/
def dateNextUptoCard : Claim7 := { stood := { row := dateNextUptoRow, standIns := [], harness := (true, "dba5e783bd8d6c7b451fb0b2130d70519e3fc493ebba5d82827f346b28eab536"), looks := true }, kinds := [], alts := [], laidByText := true, laidKinds := [.data, .data, .data, .data, .handle, .data, .pinned], laidTests := true, laidLooks := .later }
def DateNextUptoCardSaid : Prop := Claim7.holds Tryz.pinned (.plain (OpenSpec.upto dateNextSpec)) dateNextUptoCard

/-- THE SECOND FORM's CARD OF 'rentierlaw6.MonthAll'. -/
def monthAllUptoCard : Claim7 := { stood := { row := monthAllUptoRow, standIns := [], harness := (true, "dba5e783bd8d6c7b451fb0b2130d70519e3fc493ebba5d82827f346b28eab536"), looks := true }, kinds := [], alts := [], laidByText := true, laidKinds := [.data, .data, .data, .data, .handle, .data, .pinned], laidTests := true, laidLooks := .later }
def MonthAllUptoCardSaid : Prop := Claim7.holds Tryz.pinned (.plain (OpenSpec.upto monthAllSpec)) monthAllUptoCard

/-- THE SECOND FORM's CARD OF 'rentierlaw6.MonthBack'. -/
def monthBackUptoCard : Claim7 := { stood := { row := monthBackUptoRow, standIns := [], harness := (true, "dba5e783bd8d6c7b451fb0b2130d70519e3fc493ebba5d82827f346b28eab536"), looks := true }, kinds := [], alts := [], laidByText := true, laidKinds := [.data, .data, .data, .data, .handle, .data, .pinned], laidTests := true, laidLooks := .later }
def MonthBackUptoCardSaid : Prop := Claim7.holds Tryz.pinned (.plain (OpenSpec.upto monthBackSpec)) monthBackUptoCard

/-- THE SECOND FORM's CARD OF 'rentierlaw6.EasterAll'. -/
def easterAllUptoCard : Claim7 := { stood := { row := easterAllUptoRow, standIns := [], harness := (true, "dba5e783bd8d6c7b451fb0b2130d70519e3fc493ebba5d82827f346b28eab536"), looks := true }, kinds := [], alts := [], laidByText := true, laidKinds := [.data, .data, .data, .data, .handle, .data, .pinned], laidTests := true, laidLooks := .later }
def EasterAllUptoCardSaid : Prop := Claim7.holds Tryz.pinned (.plain (OpenSpec.upto easterAllSpec)) easterAllUptoCard

/-- THE SECOND FORM's CARD OF 'rentierlaw6.EasterKnown'. -/
def easterKnownUptoCard : Claim7 := { stood := { row := easterKnownUptoRow, standIns := [], harness := (true, "dba5e783bd8d6c7b451fb0b2130d70519e3fc493ebba5d82827f346b28eab536"), looks := true }, kinds := [], alts := [], laidByText := true, laidKinds := [.data, .data, .data, .data, .handle, .data, .pinned], laidTests := true, laidLooks := .later }
def EasterKnownUptoCardSaid : Prop := Claim7.holds Tryz.pinned (.plain (OpenSpec.upto easterKnownSpec)) easterKnownUptoCard

/-- THE SECOND FORM's CARD OF 'rentierlaw6.CalNew'. -/
def calNewUptoCard : Claim7 := { stood := { row := calNewUptoRow, standIns := [], harness := (true, "dba5e783bd8d6c7b451fb0b2130d70519e3fc493ebba5d82827f346b28eab536"), looks := true }, kinds := [], alts := [], laidByText := true, laidKinds := [.data, .data, .data, .data, .handle, .data, .pinned], laidTests := true, laidLooks := .later }
def CalNewUptoCardSaid : Prop := Claim7.holds Tryz.pinned (.plain (OpenSpec.upto calNewSpec)) calNewUptoCard

/-- THE SECOND FORM's CARD OF 'rentierlaw6.CalAll'. -/
def calAllUptoCard : Claim7 := { stood := { row := calAllUptoRow, standIns := [], harness := (true, "dba5e783bd8d6c7b451fb0b2130d70519e3fc493ebba5d82827f346b28eab536"), looks := true }, kinds := [], alts := [], laidByText := true, laidKinds := [.data, .data, .data, .data, .handle, .data, .pinned], laidTests := true, laidLooks := .later }
def CalAllUptoCardSaid : Prop := Claim7.holds Tryz.pinned (.plain (OpenSpec.upto calAllSpec)) calAllUptoCard

/-- THE SECOND FORM's CARD OF 'rentierlaw6.CalAdd'. -/
def calAddUptoCard : Claim7 := { stood := { row := calAddUptoRow, standIns := [], harness := (true, "dba5e783bd8d6c7b451fb0b2130d70519e3fc493ebba5d82827f346b28eab536"), looks := true }, kinds := [], alts := [], laidByText := true, laidKinds := [.data, .data, .data, .data, .handle, .data, .pinned], laidTests := true, laidLooks := .later }
def CalAddUptoCardSaid : Prop := Claim7.holds Tryz.pinned (.plain (OpenSpec.upto calAddSpec)) calAddUptoCard

/-- THE SECOND FORM's CARD OF 'rentierlaw6.RollAll'. -/
def rollAllUptoCard : Claim7 := { stood := { row := rollAllUptoRow, standIns := [], harness := (true, "dba5e783bd8d6c7b451fb0b2130d70519e3fc493ebba5d82827f346b28eab536"), looks := true }, kinds := [], alts := [], laidByText := true, laidKinds := [.data, .data, .data, .data, .handle, .data, .pinned], laidTests := true, laidLooks := .later }
def RollAllUptoCardSaid : Prop := Claim7.holds Tryz.pinned (.plain (OpenSpec.upto rollAllSpec)) rollAllUptoCard

/-- THE SECOND FORM's CARD OF 'rentierlaw6.RollLaws'. -/
def rollLawsUptoCard : Claim7 := { stood := { row := rollLawsUptoRow, standIns := [], harness := (true, "dba5e783bd8d6c7b451fb0b2130d70519e3fc493ebba5d82827f346b28eab536"), looks := true }, kinds := [], alts := [], laidByText := true, laidKinds := [.data, .data, .data, .data, .handle, .data, .pinned], laidTests := true, laidLooks := .later }
def RollLawsUptoCardSaid : Prop := Claim7.holds Tryz.pinned (.plain (OpenSpec.upto rollLawsSpec)) rollLawsUptoCard

/-- THE SECOND FORM's CARD OF 'rentierlaw6.CountAll'. -/
def countAllUptoCard : Claim7 := { stood := { row := countAllUptoRow, standIns := [], harness := (true, "dba5e783bd8d6c7b451fb0b2130d70519e3fc493ebba5d82827f346b28eab536"), looks := true }, kinds := [], alts := [], laidByText := true, laidKinds := [.data, .data, .data, .data, .handle, .data, .pinned], laidTests := true, laidLooks := .later }
def CountAllUptoCardSaid : Prop := Claim7.holds Tryz.pinned (.plain (OpenSpec.upto countAllSpec)) countAllUptoCard

/-- THE SECOND FORM's CARD OF 'rentierlaw6.CountParts'. -/
def countPartsUptoCard : Claim7 := { stood := { row := countPartsUptoRow, standIns := [], harness := (true, "dba5e783bd8d6c7b451fb0b2130d70519e3fc493ebba5d82827f346b28eab536"), looks := true }, kinds := [], alts := [], laidByText := true, laidKinds := [.data, .data, .data, .data, .handle, .data, .pinned], laidTests := true, laidLooks := .later }
def CountPartsUptoCardSaid : Prop := Claim7.holds Tryz.pinned (.plain (OpenSpec.upto countPartsSpec)) countPartsUptoCard
end Rows
end Go.Proofs.YtlhmfgbaefaneaaGreatDoor
