import Derived.Test.YtkcgfjnmkbbnoaaNa
namespace Go.Proofs.Ytkcgfjnmkbbnoaa
open Go.RowKit
def newN (n o : Int) : Int := if numOk n o then n else 0
def newO (n o : Int) : Int := if numOk n o then o else 0
theorem there41 (w : World) : (w.alloc (.cells (rcL 0 0 false).toArray 47)).there w.heap.size 0 18 :=
  Holds.there (c := (rcL 0 0 false).toArray) (holds_new w _ 47) (fun i => by rw [World.frozen?_alloc_at _ _ _ _ rfl])
end Go.Proofs.Ytkcgfjnmkbbnoaa
