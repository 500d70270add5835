import Derived.Test.YtkcgfjnmkbbnoaaF
namespace Go.Proofs.Ytkcgfjnmkbbnoaa
open Go.RowKit
/-- a message -/
structure Ms where
  kind : Int
  from_ : Int
  to : Int
  bal : Int
  ix : Int
  kn : Int
  text : ByteArray
  n : Nat
  s : Nat → Sl
abbrev msC (m : Ms) (ad : Option Addr) (cap : Nat) : Array Value := #[.int .i64 m.kind, .int .i64 m.from_, .int .i64 m.to, .int .i64 m.bal, .int .i64 m.ix, .int .i64 m.kn, .string m.text, .slice ad m.n cap]
abbrev msV (m : Ms) (ad : Option Addr) (cap : Nat) : Value := .agg #[.int .i64 m.kind, .int .i64 m.from_, .int .i64 m.to, .int .i64 m.bal, .int .i64 m.ix, .int .i64 m.kn, .string m.text, .slice ad m.n cap]
structure MsFit (m : Ms) : Prop where
  t : (m.text.size : Int) ≤ 140737488355328
  n : (m.n : Int) ≤ 8796093022208
  s : ∀ i, i < m.n → SlFit (m.s i)
def msB (m : Ms) (of : Int) : Bool := inB m.kind 1 9 && (inB m.from_ 1 of && (inB m.to 1 of && (inB m.bal 0 1000000 && (inB m.ix 0 60 && (inB m.kn 0 60 && (decide ((m.text.size : Int) ≤ 100) && slsB m.n m.s))))))
def szMs (m : Ms) : Nat := m.text.size + szSls m.n m.s
set_option maxRecDepth 100000 in
set_option maxHeartbeats 2000000 in
theorem eqMs_any (m : Ms) (ad ad2 : Option Addr) (cap cap2 : Nat) (w : World) (lo hi lo2 hi2 : Nat) (hh : hi ≤ w.heap.size) (hh2 : hi2 ≤ w.heap.size) (hl : (m.n : Int) ≤ 140737488355328)
    (hc : SlsIn w lo hi ad m.n m.s) (hc2 : SlsIn w lo2 hi2 ad2 m.n m.s) :
    Calls Try.prog 38 #[msV m ad cap, msV m ad2 cap2] w fun e w' => e = .returned (.bool true) ∧ Below w.heap.size w w' := by
  go_enter Try.func38, Try.ntmps38
  go_wp2_with fail
  refine (eqSls_any m.n m.s ad ad2 cap cap2 _ lo hi lo2 hi2 (by simp; omega) (by simp; omega) hl (hc.below (B := w.heap.size) ((below_alloc _ _).alloc (by simp) _) hh) (hc2.below (B := w.heap.size) ((below_alloc _ _).alloc (by simp) _) hh2)).mono ?_
  rintro e w1 ⟨rfl, hb1⟩
  go_wp2
  go_ret
  exact ⟨rfl, (((below_alloc _ _).alloc (by simp) _).trans (hb1.mono (by simp; omega)))⟩
end Go.Proofs.Ytkcgfjnmkbbnoaa
