/-
  DERIVED. GIVEN WITH THE SEED: THE CARDS: each row of YtkbghbbaldjinaaGreatDoorRows.lean that lists a variable, with what it lists TIED to the program's text (the seventh form; the later family's looks); each row that meets fmt, with fmt's text TOLD by the authors' own Lean function (tested against real Go, not proved from fmt's source: count such statements apart). THE CARD IS WHAT COUNTS. Prove the row's statement (the work); the ties are given (YtkbghbbaldjinaaGreatDoorTie.lean); close each card by the builder's one call (the guide's Derived/Test/ToyasCard.lean, 'card_holds'). Laid BY PROGRAM, IN A SANDBOX (cutbox-door.mjs). By AI agents, Wed Nov 11 2026. No macro, syntax, notation, axiom, sorry.
-/
import Derived.Test.YtkbghbbaldjinaaGreatDoorRows
import GoSem.ClaimSeven
namespace Go.Proofs.YtkbghbbaldjinaaGreatDoor
namespace Rows

/-- THE TIED CARD OF 'laws.FnExactBookForm'. -/
def fnExactBookFormCard : Claim7 := { stood := { row := fnExactBookFormRow, standIns := [], harness := (true, "0a14726ba37520eea7bf471d9bf802f12f04917b1f4ef7d8994aea8858ea13ef"), looks := false }, kinds := [], alts := [], laidByText := true, laidKinds := [.data, .data, .data], laidTests := true, laidLooks := .later }
def FnExactBookFormCardSaid : Prop := Claim7.holds Tryz.pinned (.plain (OpenSpec.ofChange fnExactBookFormSpec)) fnExactBookFormCard

/-- THE SECOND FORM's CARD OF 'laws.FnExactBookForm'. -/
def fnExactBookFormUptoCard : Claim7 := { stood := { row := fnExactBookFormUptoRow, standIns := [], harness := (true, "0a14726ba37520eea7bf471d9bf802f12f04917b1f4ef7d8994aea8858ea13ef"), looks := false }, kinds := [], alts := [], laidByText := true, laidKinds := [.data, .data, .data], laidTests := true, laidLooks := .later }
def FnExactBookFormUptoCardSaid : Prop := Claim7.holds Tryz.pinned (.plain (OpenSpec.upto fnExactBookFormSpec)) fnExactBookFormUptoCard
end Rows
end Go.Proofs.YtkbghbbaldjinaaGreatDoor
