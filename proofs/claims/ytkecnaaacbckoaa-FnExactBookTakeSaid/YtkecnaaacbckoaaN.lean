import Derived.Test.YtkecnaaacbckoaaM
import Derived.Deep.QuietTactic
import Derived.BigQuiet
namespace Go.Proofs.Ytkecnaaacbckoaa
open Go.RowKit
def ascB (n : Nat) (s : Nat → ByteArray) : Bool := allTo (fun i => nameB (s i) && (i == 0 || ltB (s (i - 1)) (s i))) n
theorem drewQ {w wr : World} {q nq : Nat} (h : wr = w.drewN q) : ∃ q', wr.drewN nq = w.drewN q' := ⟨q + nq, by rw [h]; simp⟩
end Go.Proofs.Ytkecnaaacbckoaa
