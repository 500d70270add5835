import Derived.Test.YtkcgfjnmkbbnoaaGa
namespace Go.Proofs.Ytkcgfjnmkbbnoaa
open Go.RowKit
theorem rcs_sz58 : (Try.prog.info? 47).map (·.size) = some 18 := by kernel_rfl
def szRcs (n : Nat) (x : Nat → Rc) : Nat := n + sumTo (fun i => szRc (x i)) n
theorem rcs_info58 : (Try.prog.info? 47).map (fun i => (i.zero, i.size, i.bytes)) = some (some (.agg #[.int .i64 0, .int .i64 0, .bool false, .int .i64 0, .int .i64 0, .slice none 0 0, .int .i64 0, .int .i64 0, .slice none 0 0, .slice none 0 0, .slice none 0 0, .bool false, .bool false, .int .i64 0, .slice none 0 0, .slice none 0 0, .slice none 0 0, .int .i64 0]), 18, 248) := by kernel_rfl
/-- of n recorders in block g the first k are there, their lists in blocks behind it -/
structure RcsOwn (w : World) (g k n : Nat) (x : Nat → Rc) (A : Nat → RcA) : Prop where
  room : Room w g (n * 18)
  at_ : ∀ i, i < k → w.rangeAt g (i * 18) (rcCs (x i) (A i)) ∧ RcIn w (g + 1) w.heap.size (x i) (A i) ∧ RcNew (x i) (A i)
theorem RcsOwn.step {wr w1 : World} {g k n : Nat} {x : Nat → Rc} {A : Nat → RcA} {a : RcA} (h : RcsOwn wr g k n x A) (hk : k < n) (hb : Below wr.heap.size wr w1) (hi : RcIn w1 wr.heap.size w1.heap.size (x k) a) (hn : RcNew (x k) a) :
    RcsOwn (w1.setCells g (k * 18) (rcCs (x k) a)) g (k + 1) n x (fun i => if i = k then a else A i) := by
  have hg := h.room.lt
  have hR := h.room.below hb hg
  have hin := World.cell?_setCells_in g (rcCs (x k) a) (k * 18) w1 (fun j hj => by
    obtain ⟨u, hu⟩ := hR.has (k * 18 + j) (by have : (rcCs (x k) a).length = 18 := rfl; omega)
    rw [hu]; rfl)
  have hF := fr_setCells g (rcCs (x k) a) (k * 18) w1
  have hsz : (w1.setCells g (k * 18) (rcCs (x k) a)).heap.size = w1.heap.size := size_setCells _ _ _ _
  have hgs := hb.size
  refine ⟨hR.setCells _ (by have : (rcCs (x k) a).length = 18 := rfl; omega), fun i hi' => ?_⟩
  by_cases e : i < k
  · simp only [if_neg (show ¬ i = k by omega)]
    obtain ⟨c1, c2, c3⟩ := h.at_ i e
    refine ⟨fun j v hv => ?_, ?_, c3⟩
    · have hj : j < 18 := by
        have := (List.getElem?_eq_some_iff.1 hv).1
        exact this
      have hne : (⟨g, i * 18 + j, none⟩ : Addr).block = g → True := fun _ => trivial
      rw [World.cell?_setCells_out g _ (k * 18) w1 _ (fun _ _ => Or.inl (by show i * 18 + j < k * 18; omega)), hb.cell (p := ⟨g, i * 18 + j, none⟩) hg]
      exact c1 j v hv
    · rw [hsz]
      exact (((c2.same (Below.same hb (Nat.le_refl _))).widen (Nat.le_refl _) hgs)).same (hF.same (Nat.le_refl _) (Or.inr (Nat.le_refl _)))
  · have : i = k := by omega
    subst this
    simp only [if_true]
    refine ⟨fun j v hv => ?_, ?_, hn⟩
    · have hj := (List.getElem?_eq_some_iff.1 hv).1
      have := hin j hj
      rw [this, ← List.getElem?_eq_getElem hj]
      exact hv
    · rw [hsz]
      exact (hi.widen (by omega) (Nat.le_refl _)).same (hF.same (Nat.le_refl _) (Or.inr (Nat.le_refl _)))
theorem RcsOwn.isIn {w : World} {g n : Nat} {x : Nat → Rc} {A : Nat → RcA} (h : RcsOwn w g n n x A) {lo : Nat} (hlo : lo ≤ g) : RcsIn w lo w.heap.size (some ⟨g, 0, none⟩) n x A := fun i hi => by
  obtain ⟨c1, c2, _⟩ := h.at_ i hi
  exact ⟨g, 0, rfl, hlo, h.room.lt, by rw [Nat.zero_add]; exact c1, c2.widen (by omega) (Nat.le_refl _)⟩
theorem RcsOwn.start {w1 : World} {g n : Nat} (x : Nat → Rc) (A : Nat → RcA) (h : Room w1 g (n * 18)) : RcsOwn w1 g 0 n x A := ⟨h, fun _ h => absurd h (Nat.not_lt_zero _)⟩
end Go.Proofs.Ytkcgfjnmkbbnoaa
