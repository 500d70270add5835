import Derived.Test.YtkcgfjnmkbbnoaaRows
import Derived.WalkKit
import Derived.WalkSpells
import Derived.WalkLawsBesides
namespace Go.Proofs.Ytkcgfjnmkbbnoaa
open Go.RowKit
theorem hid {p : Prop} (h : p) : Hid p := h
/-- the n strings at ad, in blocks lo .. hi -/
def StrsIn (w : World) (lo hi : Nat) (ad : Option Addr) (n : Nat) (s : Nat → ByteArray) : Prop :=
  ∀ i, i < n → ∃ b off, ad = some ⟨b, off, none⟩ ∧ lo ≤ b ∧ b < hi ∧ w.cell? ⟨b, off + i, none⟩ = some (.string (s i))
def StrsOwn (w : World) (lo hi : Nat) (ad : Option Addr) (n : Nat) (s : Nat → ByteArray) : Prop :=
  ∀ i, i < n → ∃ b off, ad = some ⟨b, off, none⟩ ∧ lo ≤ b ∧ b < hi ∧ w.cell? ⟨b, off + i, none⟩ = some (.string (s i)) ∧ w.frozen? ⟨b, off + i, none⟩ = false
theorem Try.info9 : (Try.prog.info? 9).map (fun i => (i.zero, i.size, i.bytes)) = some (some (.string ByteArray.empty), 1, 16) := by kernel_rfl

theorem toStrs_rel {w' : World} {g n : Nat} {base : Nat} {xs : List Value}
    (ho : w'.ownsRow base 9 1 (.slice (some ⟨g, 0, none⟩) n n) n xs) :
    (∀ j, j < n → ∃ u, w'.cell? ⟨g, j, none⟩ = some u) ∧ (∀ j, w'.frozen? ⟨g, j, none⟩ = false) ∧ g < w'.heap.size := by
  refine ⟨fun j hj => ?_, fun j => ho.frozenAt j, ?_⟩
  · rw [ho.cellAt j (by omega)]
    have : j < xs.length := by rw [ho.1]; omega
    exact ⟨xs[j], by simp [this]⟩
  · rcases ho.2 with ⟨h, _⟩ | ⟨g', cap, cur, h, _, hh, _⟩
    · simp at h
    · simp only [Value.slice.injEq, Option.some.injEq, Addr.mk.injEq, and_true, true_and] at h
      obtain ⟨rfl, rfl⟩ := h
      exact (Array.getElem?_eq_some_iff.1 hh).1

theorem toStrs_step {w wr : World} {n k : Nat} {s : Nat → ByteArray} (hb : Below w.heap.size w wr) (hsz : w.heap.size < wr.heap.size) (hce : ∀ j, j < n → ∃ u, wr.cell? ⟨w.heap.size, j, none⟩ = some u)
    (hfr : ∀ j, wr.frozen? ⟨w.heap.size, j, none⟩ = false) (hd : ∀ j, j < k → wr.cell? ⟨w.heap.size, j, none⟩ = some (.string (s j))) (hk : k < n) :
    let w2 := wr.setCell ⟨w.heap.size, k, none⟩ (.string (s k))
    Below w.heap.size w w2 ∧ w.heap.size < w2.heap.size ∧ (∀ j, j < n → ∃ u, w2.cell? ⟨w.heap.size, j, none⟩ = some u) ∧ (∀ j, w2.frozen? ⟨w.heap.size, j, none⟩ = false) ∧ ∀ j, j < k + 1 → w2.cell? ⟨w.heap.size, j, none⟩ = some (.string (s j)) := by
  refine ⟨hb.setCell (Nat.le_refl _) _, by simpa [World.setCell] using hsz, fun j hj => ?_, fun j => by rw [World.frozen?_setCell]; exact hfr j, fun j hj => ?_⟩
  · obtain ⟨u, hu⟩ := hce j hj
    exact cell?_setCell_some hu
  · obtain ⟨u, hu⟩ := hce k hk
    by_cases e : j = k
    · subst e; exact World.cell?_setCell_same _ _ _ hu
    · rw [World.cell?_setCell_other _ _ _ _ (fun h => e (by cases h; rfl))]
      exact hd j (by omega)
def sumTo (f : Nat → Nat) : Nat → Nat | 0 => 0 | k + 1 => sumTo f k + f k
theorem sumTo_mono (f : Nat → Nat) {k n : Nat} (h : k ≤ n) : sumTo f k ≤ sumTo f n := by
  induction n with
  | zero => have : k = 0 := by omega
            subst this; exact Nat.le_refl _
  | succ m ih => rcases Nat.lt_or_ge m k with h1 | h1
                 · have : k = m + 1 := by omega
                   subst this; exact Nat.le_refl _
                 · exact Nat.le_trans (ih h1) (by simp [sumTo])
def szStrs (n : Nat) (s : Nat → ByteArray) : Nat := n + sumTo (fun i => (s i).size) n
def szOut (left : Int) (s : Nat) : Int := if (s : Int) ≤ left then left - s else -1
theorem szOut_no {left : Int} {s : Nat} (h : left < s) : szOut left s = -1 := if_neg (by omega)
theorem szOut_yes {left : Int} {s : Nat} (h : (s : Int) ≤ left) : szOut left s = left - s := if_pos h
theorem ret_int {k : IntKind} {a b : Int} (h : a = b) : Ending.returned (.int k a) = .returned (.int k b) := by rw [h]
end Go.Proofs.Ytkcgfjnmkbbnoaa
