import Derived.Test.YtkecnaaacbckoaaC
import Derived.Deep.Light
namespace Go.Proofs.Ytkecnaaacbckoaa
open Go.RowKit
def inB (n lo hi : Int) : Bool := decide (lo ≤ n) && decide (n ≤ hi)
theorem inB_yes {n lo hi : Int} (h : lo ≤ n ∧ n ≤ hi) : inB n lo hi = true := by simp [inB, h.1, h.2]
theorem inB_no {n lo hi : Int} (h : n < lo ∨ hi < n) : inB n lo hi = false := by
  rcases h with h | h <;> simp [inB] <;> omega
theorem inB_of {n lo hi : Int} (h : inB n lo hi = true) : lo ≤ n ∧ n ≤ hi := by simpa [inB] using h
theorem ret_bool {a b : Bool} (h : a = b) : Ending.returned (.bool a) = .returned (.bool b) := by rw [h]
def allTo (p : Nat → Bool) : Nat → Bool | 0 => true | k + 1 => allTo p k && p k
theorem allTo_iff {p : Nat → Bool} : ∀ {n : Nat}, allTo p n = true ↔ ∀ i, i < n → p i = true
  | 0 => ⟨fun _ i h => absurd h (Nat.not_lt_zero _), fun _ => rfl⟩
  | n + 1 => by
    simp only [allTo, Bool.and_eq_true, allTo_iff (n := n)]
    exact ⟨fun h i hi => by rcases Nat.lt_or_ge i n with h1 | h1
                            · exact h.1 i h1
                            · have : i = n := by omega
                              subst this; exact h.2, fun h => ⟨fun i hi => h i (by omega), h n (by omega)⟩⟩
theorem allTo_no {p : Nat → Bool} {n i : Nat} (hi : i < n) (h : p i = false) : allTo p n = false := by
  cases hc : allTo p n with
  | false => rfl
  | true => rw [allTo_iff.1 hc i hi] at h; cases h
def nbB (c : UInt8) : Bool := (decide (97 ≤ c.toNat) && decide (c.toNat ≤ 122)) || (decide (48 ≤ c.toNat) && decide (c.toNat ≤ 57)) || c.toNat == 45 || c.toNat == 46
def byteAt (s : ByteArray) (i : Nat) : UInt8 := if h : i < s.size then s[i] else 0
def nameB (s : ByteArray) : Bool := inB s.size 1 20 && allTo (fun i => nbB (byteAt s i)) s.size
theorem byteAt_eq (s : ByteArray) (k : Nat) (h : k < s.size) : byteAt s k = s[k] := dif_pos h
def ltB (a b : ByteArray) : Bool := Op.bytesLess a.toList b.toList
theorem nameB_no1 {s : ByteArray} (h : inB s.size 1 20 = false) : nameB s = false := by unfold nameB; rw [h]; rfl
theorem nameB_no2 {s : ByteArray} {k : Nat} (hk : k < s.size) (h : nbB (byteAt s k) = false) : nameB s = false := by unfold nameB; rw [allTo_no hk h]; simp
theorem nameB_yes {s : ByteArray} (h : inB s.size 1 20 = true) (h2 : ∀ i, i < s.size → nbB (byteAt s i) = true) : nameB s = true := by unfold nameB; rw [h, allTo_iff.2 h2]; rfl
end Go.Proofs.Ytkecnaaacbckoaa
