import Derived.Test.YtipdnhgdaiimlaaX
import Derived.ProofKit
import Derived.SizedLaws
namespace Go.Proofs.Ytipdnhgdaiimlaa
open Go.ChangeShapes Go.WideShapes Go.ChangeAt Go.RowKit
open Go.WideMaps Go.WideElems
theorem Try.own : ownKnob Try.prog.godebug = none := by kernel_rfl
theorem Try.laidOut : laidOutB Try.prog = true := by kernel_rfl
end Go.Proofs.Ytipdnhgdaiimlaa
