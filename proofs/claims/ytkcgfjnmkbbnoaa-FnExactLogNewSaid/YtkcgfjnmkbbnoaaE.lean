import Derived.Test.YtkcgfjnmkbbnoaaD
namespace Go.Proofs.Ytkcgfjnmkbbnoaa
open Go.RowKit
theorem box3 {w w1 : World} {v0 v1 v2 : Value} {t : TypeId} (hb : Below (w.alloc (.cells #[v0, v1, v2] t)).heap.size (w.alloc (.cells #[v0, v1, v2] t)) w1) :
    w1.cell? ⟨w.heap.size, 0, none⟩ = some v0 ∧ w1.cell? ⟨w.heap.size, 1, none⟩ = some v1 ∧ w1.cell? ⟨w.heap.size, 2, none⟩ = some v2 := ⟨box_cell hb 0, box_cell hb 1, box_cell hb 2⟩
theorem SlsIn.front {w : World} {lo hi : Nat} {ad : Option Addr} {n k : Nat} {x : Nat → Sl} (h : SlsIn w lo hi ad n x) (hk : k ≤ n) : SlsIn w lo hi ad k x := fun i hi' => h i (by omega)
theorem slB_nn {x : Sl} (h : slB x = true) : 0 ≤ x.bal := by
  unfold slB at h
  rw [Bool.and_eq_true] at h
  exact (inB_of h.1).1
def dkAll (d : Dk) (i : Nat) : Bool := decide ((d.s i).bal ≤ d.pr) && (decide (d.kn ≤ i) || decide (0 < (d.s i).bal))
theorem dkB_all {d : Dk} (h1 : inB d.pr 0 1000000 = true) (h2 : slsB d.n d.s = true) (h4 : inB d.kn 0 d.n = true) : dkB d = allTo (dkAll d) d.n := by
  have hk := inB_of h4
  rw [dkB, h1, h2, h4]
  simp only [Bool.true_and]
  rw [Bool.eq_iff_iff, Bool.and_eq_true, dkHeld, dkTaken, allTo_iff, allTo_iff, allTo_iff]
  constructor
  · rintro ⟨a, b⟩ i hi
    rw [dkAll, a i hi, Bool.true_and, Bool.or_eq_true, decide_eq_true_eq]
    by_cases e : d.kn ≤ i
    · exact Or.inl e
    · exact Or.inr (b i (by omega))
  · intro a
    refine ⟨fun i hi => ?_, fun i hi => ?_⟩
    · have := a i hi
      rw [dkAll, Bool.and_eq_true] at this
      exact this.1
    · have := a i (by omega)
      rw [dkAll, Bool.and_eq_true, Bool.or_eq_true, decide_eq_true_eq, decide_eq_true_eq] at this
      rcases this.2 with h | h
      · omega
      · exact h
end Go.Proofs.Ytkcgfjnmkbbnoaa
