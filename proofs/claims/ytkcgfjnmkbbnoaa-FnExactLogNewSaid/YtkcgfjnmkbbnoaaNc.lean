import Derived.Test.YtkcgfjnmkbbnoaaNb
namespace Go.Proofs.Ytkcgfjnmkbbnoaa
open Go.RowKit
theorem World.rangeAt_below {w w' : World} {B b : Nat} {cs : List Value} (h : w.rangeAt b 0 cs) (hb : Below B w w') (hB : b < B) : w'.rangeAt b 0 cs := fun j v hv => (hb.cell (p := ⟨b, 0 + j, none⟩) hB).trans (h j v hv)
theorem World.rangeAt_fr {w w' : World} {lo hi b : Nat} {cs : List Value} (h : w.rangeAt b 0 cs) (hb : Fr lo hi w w') (hw : b < w.heap.size) (ho : b < lo ∨ hi ≤ b) : w'.rangeAt b 0 cs := fun j v hv => (hb.cell (p := ⟨b, 0 + j, none⟩) hw ho).trans (h j v hv)
end Go.Proofs.Ytkcgfjnmkbbnoaa
