import Derived.Test.YtkcgfjnmkbbnoaaC
namespace Go.Proofs.Ytkcgfjnmkbbnoaa
open Go.RowKit
/-- a slot is ok -/
def slB (x : Sl) : Bool := inB x.bal 0 1000000 && (decide ((x.text.size : Int) ≤ 100) && (decide (0 < x.bal) || x.text.toList.isEmpty))
/-- slots are ok -/
def slsB (n : Nat) (x : Nat → Sl) : Bool := decide (n ≤ 60) && allTo (fun i => slB (x i)) n
theorem slsB_no {n k : Nat} {x : Nat → Sl} (hk : k < n) (h : slB (x k) = false) : slsB n x = false := by unfold slsB; rw [allTo_no (p := fun i => slB (x i)) hk h]; simp
theorem slsB_yes {n : Nat} {x : Nat → Sl} (hn : n ≤ 60) (h : ∀ i, i < n → slB (x i) = true) : slsB n x = true := by unfold slsB; rw [allTo_iff.2 h]; simp [hn]
/-- a disk -/
structure Dk where
  pr : Int
  kn : Int
  n : Nat
  s : Nat → Sl
def dkHeld (d : Dk) : Bool := allTo (fun i => decide ((d.s i).bal ≤ d.pr)) d.n
def dkTaken (s : Nat → Sl) (k : Nat) : Bool := allTo (fun i => decide (0 < (s i).bal)) k
/-- a disk is ok -/
def dkB (d : Dk) : Bool := inB d.pr 0 1000000 && (slsB d.n d.s && (dkHeld d && (inB d.kn 0 d.n && dkTaken d.s d.kn.toNat)))
abbrev dkV (d : Dk) (ad : Option Addr) (cap : Nat) : Value := .agg #[.int .i64 d.pr, .int .i64 d.kn, .slice ad d.n cap]
structure DkFit (d : Dk) : Prop where
  n : (d.n : Int) ≤ 8796093022208
  s : ∀ i, i < d.n → SlFit (d.s i)
end Go.Proofs.Ytkcgfjnmkbbnoaa
