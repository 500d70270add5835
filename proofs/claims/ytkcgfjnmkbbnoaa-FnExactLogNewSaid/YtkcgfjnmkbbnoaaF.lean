import Derived.Test.YtkcgfjnmkbbnoaaC
import Derived.Test.YtkcgfjnmkbbnoaaD
namespace Go.Proofs.Ytkcgfjnmkbbnoaa
open Go.RowKit
def szDk (d : Dk) : Nat := szSls d.n d.s
set_option maxRecDepth 100000 in
set_option maxHeartbeats 1000000 in
theorem eqDk_any (d : Dk) (ad ad2 : Option Addr) (cap cap2 : Nat) (w : World) (lo hi lo2 hi2 : Nat) (hh : hi ≤ w.heap.size) (hh2 : hi2 ≤ w.heap.size) (hl : (d.n : Int) ≤ 140737488355328)
    (hc : SlsIn w lo hi ad d.n d.s) (hc2 : SlsIn w lo2 hi2 ad2 d.n d.s) :
    Calls Try.prog 50 #[dkV d ad cap, dkV d ad2 cap2] w fun e w' => e = .returned (.bool true) ∧ Below w.heap.size w w' := by
  go_enter Try.func50, Try.ntmps50
  go_wp2_with fail
  refine (eqSls_any d.n d.s ad ad2 cap cap2 _ lo hi lo2 hi2 (by simp; omega) (by simp; omega) hl (hc.below (B := w.heap.size) ((below_alloc _ _).alloc (by simp) _) hh) (hc2.below (B := w.heap.size) ((below_alloc _ _).alloc (by simp) _) hh2)).mono ?_
  rintro e w1 ⟨rfl, hb1⟩
  go_wp2
  go_ret
  exact ⟨rfl, (((below_alloc _ _).alloc (by simp) _).trans (hb1.mono (by simp; omega)))⟩
end Go.Proofs.Ytkcgfjnmkbbnoaa
