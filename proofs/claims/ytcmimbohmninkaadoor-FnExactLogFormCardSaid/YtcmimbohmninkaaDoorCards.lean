/-
  DERIVED. GIVEN WITH THE SEED: THE CARDS: each row of YtcmimbohmninkaaDoorRows.lean that lists a variable, with what it lists TIED to the program's text (the seventh form; the later family's looks); each row that meets fmt, with fmt's text TOLD by the authors' own Lean function (tested against real Go, not proved from fmt's source: count such statements apart). THE CARD IS WHAT COUNTS. Prove the row's statement (the work); the ties are given (YtcmimbohmninkaaDoorTie.lean); close each card by the builder's one call (the guide's Derived/Test/ToyasCard.lean, 'card_holds'). Laid BY PROGRAM, IN A SANDBOX (cutbox-door.mjs). By AI agents, Wed Nov 11 2026. No macro, syntax, notation, axiom, sorry.
-/
import Derived.Test.YtcmimbohmninkaaDoorRows
import GoSem.ClaimSeven
namespace Go.Proofs.YtcmimbohmninkaaDoor
namespace Rows

/-- THE TIED CARD OF 'laws.FnExactLogForm'. -/
def fnExactLogFormCard : Claim7 := { stood := { row := fnExactLogFormRow, standIns := [], harness := (true, "627b7ba1fe7eb200376fdff5611412d8cfeb0072614522a346d8f2a8ae06c2c9"), looks := true }, kinds := [], alts := [], laidByText := true, laidKinds := [.data, .data, .data, .sentinel, .sentinel, .sentinel, .sentinel, .sentinel, .sentinel, .sentinel], laidTests := true, laidLooks := .later }
def FnExactLogFormCardSaid : Prop := Claim7.holds Tryd.pinned (.plain (OpenSpec.ofChange fnExactLogFormSpec)) fnExactLogFormCard

/-- THE SECOND FORM's CARD OF 'laws.FnExactLogForm'. -/
def fnExactLogFormUptoCard : Claim7 := { stood := { row := fnExactLogFormUptoRow, standIns := [], harness := (true, "627b7ba1fe7eb200376fdff5611412d8cfeb0072614522a346d8f2a8ae06c2c9"), looks := true }, kinds := [], alts := [], laidByText := true, laidKinds := [.data, .data, .data, .sentinel, .sentinel, .sentinel, .sentinel, .sentinel, .sentinel, .sentinel], laidTests := true, laidLooks := .later }
def FnExactLogFormUptoCardSaid : Prop := Claim7.holds Tryd.pinned (.plain (OpenSpec.upto fnExactLogFormSpec)) fnExactLogFormUptoCard
end Rows
end Go.Proofs.YtcmimbohmninkaaDoor
