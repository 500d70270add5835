import Derived.Test.YtkecnaaacbckoaaP
import Derived.Test.YtkecnaaacbckoaaE
namespace Go.Proofs.Ytkecnaaacbckoaa
open Go.RowKit
theorem less_irr : ∀ l : List UInt8, Op.bytesLess l l = false
  | [] => by simp [Op.bytesLess]
  | c :: r => by simp [Op.bytesLess, less_irr r]
theorem ltB_irr {a b : ByteArray} (h : a.toList = b.toList) : ltB a b = false := by unfold ltB; rw [h]; exact less_irr _
theorem keyI_bef (x z : Ob) : decide (0 ≤ keyI x z) = !befB x z := by
  unfold keyI befB
  by_cases h : x.kind.toList = z.kind.toList
  · rw [if_pos h, if_pos h, ltB_irr h]
    cases h1 : ltB x.name z.name with
    | true => simp
    | false =>
      by_cases h2 : x.name.toList = z.name.toList <;> simp [h2]
  · rw [if_neg h, if_neg h]
    cases h1 : ltB x.kind z.kind <;> simp
def objAsc (n : Nat) (x : Nat → Ob) : Bool := allTo (fun i => i == 0 || befB (x (i - 1)) (x i)) n
def objFit (n : Nat) (x : Nat → Ob) (now : Int) : Bool := allTo (fun i => partsB (x i) now && standB (x i)) n
def verDiff (n : Nat) (x : Nat → Ob) : Bool := allTo (fun i => allTo (fun k => decide (¬ (x k).ver = (x i).ver)) i) n
def objsB (n : Nat) (x : Nat → Ob) (now : Int) : Bool := decide (n ≤ 100) && (objAsc n x && (objFit n x now && verDiff n x))
end Go.Proofs.Ytkecnaaacbckoaa
