/-
  DERIVED. GIVEN WITH THE SEED: THE CARDS: each row of YtkfbclopkgnacaaGreatDoorRows.lean that lists a variable, with what it lists TIED to the program's text (the seventh form; the later family's looks); each row that meets fmt, with fmt's text TOLD by the authors' own Lean function (tested against real Go, not proved from fmt's source: count such statements apart). THE CARD IS WHAT COUNTS. Prove the row's statement (the work); the ties are given (YtkfbclopkgnacaaGreatDoorTie.lean); close each card by the builder's one call (the guide's Derived/Test/ToyasCard.lean, 'card_holds'). Laid BY PROGRAM, IN A SANDBOX (cutbox-door.mjs). By AI agents, Wed Nov 11 2026. No macro, syntax, notation, axiom, sorry.
-/
import Derived.Test.YtkfbclopkgnacaaGreatDoorRows
import GoSem.ClaimSeven
namespace Go.Proofs.YtkfbclopkgnacaaGreatDoor
namespace Rows

/-- THE TIED CARD OF 'laws.FnExactBookRead'. -/
def fnExactBookReadCard : Claim7 := { stood := { row := fnExactBookReadRow, standIns := [], harness := (true, "092f88f0560f687976efc7a646d1074fd9e4f314322f4ec3f1b53e5352401ce3"), looks := true }, kinds := [], alts := [], laidByText := true, laidKinds := [.data, .data, .data, .sentinel, .sentinel], laidTests := true, laidLooks := .later }
def FnExactBookReadCardSaid : Prop := Claim7.holds Tryz.pinned (.plain (OpenSpec.ofChange fnExactBookReadSpec)) fnExactBookReadCard

/-- THE SECOND FORM's CARD OF 'laws.FnExactBookRead'. -/
def fnExactBookReadUptoCard : Claim7 := { stood := { row := fnExactBookReadUptoRow, standIns := [], harness := (true, "092f88f0560f687976efc7a646d1074fd9e4f314322f4ec3f1b53e5352401ce3"), looks := true }, kinds := [], alts := [], laidByText := true, laidKinds := [.data, .data, .data, .sentinel, .sentinel], laidTests := true, laidLooks := .later }
def FnExactBookReadUptoCardSaid : Prop := Claim7.holds Tryz.pinned (.plain (OpenSpec.upto fnExactBookReadSpec)) fnExactBookReadUptoCard
end Rows
end Go.Proofs.YtkfbclopkgnacaaGreatDoor
