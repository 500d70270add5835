/-
  DERIVED. GIVEN WITH THE SEED: THE CARDS: each row of YtllmmkchokkaaaaGreatDoorRows.lean that lists a variable, with what it lists TIED to the program's text (the seventh form; the later family's looks); each row that meets fmt, with fmt's text TOLD by the authors' own Lean function (tested against real Go, not proved from fmt's source: count such statements apart). THE CARD IS WHAT COUNTS. Prove the row's statement (the work); the ties are given (YtllmmkchokkaaaaGreatDoorTie.lean); close each card by the builder's one call (the guide's Derived/Test/ToyasCard.lean, 'card_holds'). Laid BY PROGRAM, IN A SANDBOX (cutbox-door.mjs). By AI agents, Wed Nov 11 2026. No macro, syntax, notation, axiom, sorry.
-/
import Derived.Test.YtllmmkchokkaaaaGreatDoorRows
import GoSem.ClaimSeven
namespace Go.Proofs.YtllmmkchokkaaaaGreatDoor
namespace Rows

/-- THE TIED CARD OF 'laws.FnExactBookDo'. -/
def fnExactBookDoCard : Claim7 := { stood := { row := fnExactBookDoRow, standIns := [], harness := (true, "09648374635b722fc18ce44a450218fc83daa230df1c1d7d027c148abb7472e0"), looks := true }, kinds := [], alts := [], laidByText := true, laidKinds := [.handle], laidTests := true, laidLooks := .later }
def FnExactBookDoCardSaid : Prop := Claim7.holds Tryz.pinned (.plain (OpenSpec.ofChange fnExactBookDoSpec)) fnExactBookDoCard

/-- THE TIED CARD OF 'laws.FnExactBookAll'. -/
def fnExactBookAllCard : Claim7 := { stood := { row := fnExactBookAllRow, standIns := [], harness := (true, "09648374635b722fc18ce44a450218fc83daa230df1c1d7d027c148abb7472e0"), looks := true }, kinds := [], alts := [], laidByText := true, laidKinds := [.handle], laidTests := true, laidLooks := .later }
def FnExactBookAllCardSaid : Prop := Claim7.holds Tryz.pinned (.plain (OpenSpec.ofChange fnExactBookAllSpec)) fnExactBookAllCard

/-- THE TIED CARD OF 'laws.FnExactBookAsk'. -/
def fnExactBookAskCard : Claim7 := { stood := { row := fnExactBookAskRow, standIns := [], harness := (true, "09648374635b722fc18ce44a450218fc83daa230df1c1d7d027c148abb7472e0"), looks := true }, kinds := [], alts := [], laidByText := true, laidKinds := [.data, .data, .data, .handle], laidTests := true, laidLooks := .later }
def FnExactBookAskCardSaid : Prop := Claim7.holds Tryz.pinned (.plain (OpenSpec.ofChange fnExactBookAskSpec)) fnExactBookAskCard

/-- THE SECOND FORM's CARD OF 'laws.FnExactBookDo'. -/
def fnExactBookDoUptoCard : Claim7 := { stood := { row := fnExactBookDoUptoRow, standIns := [], harness := (true, "09648374635b722fc18ce44a450218fc83daa230df1c1d7d027c148abb7472e0"), looks := true }, kinds := [], alts := [], laidByText := true, laidKinds := [.handle], laidTests := true, laidLooks := .later }
def FnExactBookDoUptoCardSaid : Prop := Claim7.holds Tryz.pinned (.plain (OpenSpec.upto fnExactBookDoSpec)) fnExactBookDoUptoCard

/-- THE SECOND FORM's CARD OF 'laws.FnExactBookAll'. -/
def fnExactBookAllUptoCard : Claim7 := { stood := { row := fnExactBookAllUptoRow, standIns := [], harness := (true, "09648374635b722fc18ce44a450218fc83daa230df1c1d7d027c148abb7472e0"), looks := true }, kinds := [], alts := [], laidByText := true, laidKinds := [.handle], laidTests := true, laidLooks := .later }
def FnExactBookAllUptoCardSaid : Prop := Claim7.holds Tryz.pinned (.plain (OpenSpec.upto fnExactBookAllSpec)) fnExactBookAllUptoCard

/-- THE SECOND FORM's CARD OF 'laws.FnExactBookAsk'. -/
def fnExactBookAskUptoCard : Claim7 := { stood := { row := fnExactBookAskUptoRow, standIns := [], harness := (true, "09648374635b722fc18ce44a450218fc83daa230df1c1d7d027c148abb7472e0"), looks := true }, kinds := [], alts := [], laidByText := true, laidKinds := [.data, .data, .data, .handle], laidTests := true, laidLooks := .later }
def FnExactBookAskUptoCardSaid : Prop := Claim7.holds Tryz.pinned (.plain (OpenSpec.upto fnExactBookAskSpec)) fnExactBookAskUptoCard
end Rows
end Go.Proofs.YtllmmkchokkaaaaGreatDoor
