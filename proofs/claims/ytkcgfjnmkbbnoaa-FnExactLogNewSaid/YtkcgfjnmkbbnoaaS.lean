import Derived.Test.YtkcgfjnmkbbnoaaQ
import Derived.Test.YtkcgfjnmkbbnoaaE
namespace Go.Proofs.Ytkcgfjnmkbbnoaa
open Go.RowKit
/-- a world that w has grown into -/
structure GW (w : World) where
  val : World
  prop : Below w.heap.size w val
/-- A REGION THAT DRAWS, WHOSE OPERATIONS READ AND WHOSE CALLEES READ AND MAKE NEW MEMORY: one walk in the order of the text -/
theorem wp_region_grow {P : Program} {id : Nat} {Q : Exit → Act → World → Prop} {a : Act} {w : World} {l : List Oper} (hm : P.follows .mixedOrders = true) (hB : Region.lexB .any l.toArray = true)
    (h : wpQuiet P l.toArray (fun w' => ∃ u : GW w, w' = u.val) (fun a' => ∀ w', (∃ u : GW w, w' = u.val) → Q .normal a' w') l a) : (Code.region id l.toArray true).wp P Q a w :=
  wp_region_quiet (C := fun w' => ∃ u : GW w, w' = u.val) hm hB ⟨⟨w.drew, (Below.refl _ _).drew⟩, rfl⟩ (by simpa using h)
theorem grow_of {P : Program} {f : FuncId} {args : Array Value} {w : World} {v : Value} {u : GW w}
    (h : Calls P f args u.val fun e w' => e = .returned v ∧ Below u.val.heap.size u.val w') : Calls P f args u.val fun e w'' => e = .returned v ∧ ∃ u' : GW w, w'' = u'.val :=
  h.mono fun _ w'' ⟨he, hb⟩ => ⟨he, ⟨w'', u.prop.trans (hb.mono u.prop.size)⟩, rfl⟩
theorem subcell {W1 : World} {p : Addr} {v : Value} (h : W1.cell? p = some v) (hp : p.block < W1.heap.size) : ∀ u : GW W1, u.val.cell? p = some v := fun u => (u.prop.cell hp).trans h
theorem drewQ {w wr : World} {q nq : Nat} (h : wr = w.drewN q) : ∃ q', wr.drewN nq = w.drewN q' := ⟨q + nq, by rw [h]; simp⟩
/-- ints ascend -/
def ascI (n : Nat) (s : Nat → Int) : Bool := allTo (fun i => i == 0 || decide (s (i - 1) < s i)) n
def numB (of : Int) (n : Nat) (s : Nat → Int) : Bool := allTo (fun i => inB (s i) 1 of) n && ascI n s
theorem numB_all (of : Int) (n : Nat) (s : Nat → Int) : numB of n s = allTo (fun i => inB (s i) 1 of && (i == 0 || decide (s (i - 1) < s i))) n := by
  rw [Bool.eq_iff_iff, numB, ascI, Bool.and_eq_true, allTo_iff, allTo_iff, allTo_iff]
  exact ⟨fun h i hi => by rw [h.1 i hi, h.2 i hi]; rfl, fun h => ⟨fun i hi => by have := h i hi; rw [Bool.and_eq_true] at this; exact this.1, fun i hi => by have := h i hi; rw [Bool.and_eq_true] at this; exact this.2⟩⟩
end Go.Proofs.Ytkcgfjnmkbbnoaa
