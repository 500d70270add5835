import Derived.Test.YtkecnaaacbckoaaGa
import Derived.Test.YtkecnaaacbckoaaP
namespace Go.Proofs.Ytkecnaaacbckoaa
open Go.RowKit
def atTi (c : Nat → Value) (i : Nat) (y : Ti) : Prop := c (i * 5) = .string y.client ∧ c (i * 5 + 1) = .int .i64 y.num ∧ c (i * 5 + 2) = .string y.print ∧ c (i * 5 + 3) = .int .i64 y.code ∧ c (i * 5 + 4) = .int .i64 y.ver
theorem atTi_set {c : Nat → Value} {i : Nat} {y : Ti} (h : atTi c i y) {k o : Nat} (hik : ¬ i = k) (h1 : k * 5 ≤ o) (h2 : o < k * 5 + 5) (v : Value) : atTi (setF c o v) i y := by
  obtain ⟨a0, a1, a2, a3, a4⟩ := h
  exact ⟨(if_neg (by omega)).trans a0, (if_neg (by omega)).trans a1, (if_neg (by omega)).trans a2, (if_neg (by omega)).trans a3, (if_neg (by omega)).trans a4⟩
def mkTi (m : Nat) (_ : Ti) : Ti := ⟨mt m, (m : Int) + 1, mt (m + 2), (m : Int) + 3, (m : Int) + 4⟩
def mkTis (k0 : Nat) (x : Nat → Ti) : Nat → Nat | 0 => k0 | n + 1 => mkTis k0 x n + 5
theorem mkTis_mono (k0 : Nat) (x : Nat → Ti) {k n : Nat} (h : k ≤ n) : mkTis k0 x k ≤ mkTis k0 x n := by
  induction n with
  | zero => have : k = 0 := by omega
            subst this; exact Nat.le_refl _
  | succ m ih => rcases Nat.lt_or_ge m k with h1 | h1
                 · have : k = m + 1 := by omega
                   subst this; exact Nat.le_refl _
                 · exact Nat.le_trans (ih h1) (by simp only [mkTis]; omega)
theorem mkTis_pos (k0 : Nat) (x : Nat → Ti) (k : Nat) (h : 1 ≤ k0) : 1 ≤ mkTis k0 x k := Nat.le_trans h (mkTis_mono k0 x (Nat.zero_le k))
def ykTi (k0 : Nat) (x : Nat → Ti) (k i : Nat) : Ti := if i < k then mkTi (mkTis k0 x i) (x i) else x i
theorem ykTi_zero (k0 : Nat) (x : Nat → Ti) : ykTi k0 x 0 = x := funext fun i => if_neg (Nat.not_lt_zero i)
theorem ykTi_lt {k0 : Nat} {x : Nat → Ti} {k i : Nat} (h : i < k) : ykTi k0 x k i = mkTi (mkTis k0 x i) (x i) := if_pos h
theorem ykTi_ge {k0 : Nat} {x : Nat → Ti} {k i : Nat} (h : k ≤ i) : ykTi k0 x k i = x i := if_neg (by omega)
theorem ykTi_ne {k0 : Nat} {x : Nat → Ti} {k i : Nat} (h : ¬ i = k) : ykTi k0 x (k + 1) i = ykTi k0 x k i := by
  unfold ykTi
  by_cases h1 : i < k
  · rw [if_pos h1, if_pos (by omega)]
  · rw [if_neg h1, if_neg (by omega)]
structure TisAt (w : World) (ad : Option Addr) (g n : Nat) (x : Nat → Ti) : Prop where
  addr : 0 < n → ad = some ⟨g, 0, none⟩
  row : 0 < n → ∃ c, RowF w g (n * 5) c ∧ ∀ i, i < n → atTi c i (x i)
theorem TisAt.fr {w w' : World} {ad : Option Addr} {g n : Nat} {x : Nat → Ti} {P : Nat → Prop} (h : TisAt w ad g n x) (hf : FrP P w w') (hp : ∀ k, (fun k => 0 < n ∧ k = g) k → ¬ P k) : TisAt w' ad g n x :=
  ⟨h.addr, fun h0 => by obtain ⟨c, r, e⟩ := h.row h0; exact ⟨c, r.fr hf (hp g (⟨h0, rfl⟩)), e⟩⟩
theorem TisAt.grow {w w' : World} {ad : Option Addr} {g n : Nat} {x : Nat → Ti} (h : TisAt w ad g n x) (hf : Below w.heap.size w w') : TisAt w' ad g n x := h.fr (FrP.of_below (P := fun _ => False) hf) (fun _ _ h => h)
end Go.Proofs.Ytkecnaaacbckoaa
