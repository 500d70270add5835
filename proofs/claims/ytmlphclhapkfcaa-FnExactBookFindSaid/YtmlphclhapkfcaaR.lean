import Derived.Test.YtmlphclhapkfcaaQ
import Derived.Maps.OwnSet
import Derived.Maps.OwnOps
import Derived.ProofKit
namespace Go.Proofs.Ytmlphclhapkfcaa
open Go.RowKit Go.Maps
theorem Try.laidOut : laidOutB Try.prog = true := by kernel_rfl
theorem Try.row55 : 55 < Try.prog.types.size := of_decide_eq_true (by kernel_rfl)
theorem Try.law55 : Keyed Try.prog 55 := Keyed.of_law (deep_law_laid Try.laidOut (m := 2) (by omega) Try.row55 (by kernel_rfl) (by kernel_rfl))
theorem Try.key55 : Try.prog.keyType 55 = true := by kernel_rfl
theorem Try.cells55 : Try.prog.cellsOf 55 = 2 := by kernel_rfl
theorem Try.cells9 : Try.prog.cellsOf 9 = 1 := by kernel_rfl
def kl (a b : ByteArray) : Lit := .string (keyBytes [.string a.data.toList, .string b.data.toList])
theorem hkey (a b : ByteArray) (ha : a.size ≤ maxLen) (hb : b.size ≤ maxLen) : keyOf Try.prog 55 (.agg #[.string a, .string b]) = some (kl a b) := by
  obtain ⟨d, hd⟩ : ∃ d, Try.prog.types.size + 1 = d + 2 := ⟨Try.prog.types.size - 1, by have := Try.row55; omega⟩
  unfold keyOf
  rw [Try.underlying55]
  simp only [Try.key55, Value.formed, Try.underlying55, Try.cells55, hd]
  simp [Program.keyLits, Try.underlying55, Try.underlying9, Try.cells55, Try.cells9, Value.cells, ha, hb, kl]
theorem kl_ne {a b a' b' : ByteArray} (ha : a.size ≤ maxLen) (hb : b.size ≤ maxLen) (ha' : a'.size ≤ maxLen) (hb' : b'.size ≤ maxLen) (h : ¬ (a = a' ∧ b = b')) : kl a b ≠ kl a' b' := by
  intro e
  have h1 := hkey a b ha hb
  have h2 := hkey a' b' ha' hb'
  rw [← e] at h2
  have := Try.law55.inj h1 h2
  simp at this
  exact h this
theorem zero3 (w : World) : (zeroValue 3).run Try.prog w = .ok (.int .i64 0) w := by kernel_rfl
end Go.Proofs.Ytmlphclhapkfcaa
