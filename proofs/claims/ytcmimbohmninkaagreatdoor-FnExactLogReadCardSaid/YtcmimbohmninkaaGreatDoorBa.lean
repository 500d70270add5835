import Derived.Test.YtcmimbohmninkaaGreatDoorM
import Derived.Test.YtcmimbohmninkaaGreatDoorGo
import Derived.Test.YtcmimbohmninkaaGreatDoorRg
namespace Go.Proofs.YtcmimbohmninkaaGreatDoor
open Go.RowKit
theorem bcell {W w1 : World} (hb : Below W.heap.size W w1) : (∀ b o, b < W.heap.size → w1.cell? ⟨b, o, none⟩ = W.cell? ⟨b, o, none⟩) ∧ (∀ b o, b < W.heap.size → w1.frozen? ⟨b, o, none⟩ = W.frozen? ⟨b, o, none⟩) :=
  ⟨fun b o h => hb.cell (p := ⟨b, o, none⟩) h, fun b o h => hb.frozen (p := ⟨b, o, none⟩) h⟩
theorem szOut_le {l : Int} {s : Nat} (h : 0 ≤ l) : szOut l s ≤ l := by unfold szOut; split <;> omega
theorem box_cell {w w1 : World} {c : Array Value} {t : TypeId} (hb : Below (w.alloc (.cells c t)).heap.size (w.alloc (.cells c t)) w1) (i : Nat) : w1.cell? ⟨w.heap.size, i, none⟩ = c[i]? :=
  (hb.cell (p := ⟨w.heap.size, i, none⟩) (by simp)).trans (World.cell?_alloc_new w c t i)
theorem StrsOwn.fr {w w' : World} {lo hi lo2 hi2 : Nat} {ad : Option Addr} {n : Nat} {s : Nat → ByteArray} (h : StrsOwn w lo hi ad n s) (hb : Fr lo2 hi2 w w') (hw : hi ≤ w.heap.size) (ho : hi ≤ lo2 ∨ hi2 ≤ lo) : StrsOwn w' lo hi ad n s := fun i hi' => by
  obtain ⟨b, off, e1, e2, e3, e4, e5⟩ := h i hi'
  exact ⟨b, off, e1, e2, e3, (hb.cell (p := ⟨b, off + i, none⟩) (Nat.lt_of_lt_of_le e3 hw) (by show b < _ ∨ _ ≤ b; omega)).trans e4, (hb.frozen (p := ⟨b, off + i, none⟩) (Nat.lt_of_lt_of_le e3 hw) (by show b < _ ∨ _ ≤ b; omega)).trans e5⟩
theorem StrsOwn.mono {w : World} {lo hi lo2 hi2 : Nat} {ad : Option Addr} {n : Nat} {s : Nat → ByteArray} (h : StrsOwn w lo hi ad n s) (h1 : lo2 ≤ lo) (h2 : hi ≤ hi2) : StrsOwn w lo2 hi2 ad n s := fun i hi' => by
  obtain ⟨b, off, e1, e2, e3, e4, e5⟩ := h i hi'
  exact ⟨b, off, e1, by omega, by omega, e4, e5⟩
theorem StrsOwn.isIn {w : World} {lo hi : Nat} {ad : Option Addr} {n : Nat} {s : Nat → ByteArray} (h : StrsOwn w lo hi ad n s) : StrsIn w lo hi ad n s := fun i hi' => by
  obtain ⟨b, off, e1, e2, e3, e4, e5⟩ := h i hi'
  exact ⟨b, off, e1, e2, e3, e4⟩
theorem World.size_setCell (w : World) (a : Addr) (v : Value) : (w.setCell a v).heap.size = w.heap.size := by simp [World.setCell]
/-- block g has cells 0 .. m, none of them frozen -/
structure Room (w : World) (g m : Nat) : Prop where
  has : ∀ j, j < m → ∃ u, w.cell? ⟨g, j, none⟩ = some u
  free : ∀ j, w.frozen? ⟨g, j, none⟩ = false
  lt : g < w.heap.size
theorem room_made {w' : World} {g n sz : Nat} {base : Nat} {e : TypeId} {xs : List Value}
    (ho : w'.ownsRow base e sz (.slice (some ⟨g, 0, none⟩) n n) n xs) : Room w' g (n * sz) := by
  refine ⟨fun j hj => ?_, fun j => ho.frozenAt j, ?_⟩
  · rw [ho.cellAt j hj]
    have : j < xs.length := by rw [ho.1]; omega
    exact ⟨xs[j], by simp [this]⟩
  · rcases ho.2 with ⟨h, _⟩ | ⟨g', cap, cur, h, _, hh, _⟩
    · simp at h
    · simp only [Value.slice.injEq, Option.some.injEq, Addr.mk.injEq, and_true, true_and] at h
      obtain ⟨rfl, rfl⟩ := h
      exact (Array.getElem?_eq_some_iff.1 hh).1
theorem Room.below {w w' : World} {g m B : Nat} (h : Room w g m) (hb : Below B w w') (hg : g < B) : Room w' g m := by
  refine ⟨fun j hj => ?_, fun j => (hb.frozen (p := ⟨g, j, none⟩) hg).trans (h.free j), Nat.lt_of_lt_of_le h.lt hb.size⟩
  obtain ⟨u, hu⟩ := h.has j hj
  exact ⟨u, (hb.cell (p := ⟨g, j, none⟩) hg).trans hu⟩
theorem size_setCells (b : Nat) : ∀ (vs : List Value) (o : Nat) (w : World), (w.setCells b o vs).heap.size = w.heap.size
  | [], _, _ => rfl
  | v :: r, o, w => by rw [World.setCells, size_setCells b r, World.size_setCell]
theorem Room.setCells {w : World} {g m o : Nat} (h : Room w g m) (vs : List Value) (ho : o + vs.length ≤ m) : Room (w.setCells g o vs) g m := by
  refine ⟨fun j hj => ?_, fun j => by rw [World.frozen?_setCells]; exact h.free j, by rw [size_setCells]; exact h.lt⟩
  by_cases hj2 : j < o ∨ o + vs.length ≤ j
  · rw [World.cell?_setCells_out g vs o w _ (fun _ _ => hj2)]
    exact h.has j hj
  · obtain ⟨i, rfl⟩ : ∃ i, j = o + i := ⟨j - o, by omega⟩
    have hi : i < vs.length := by omega
    exact ⟨vs[i], World.cell?_setCells_in g vs o w (fun j hj => by
      obtain ⟨u, hu⟩ := h.has (o + j) (by omega)
      rw [hu]; rfl) i hi⟩
theorem fr_setCells (b : Nat) : ∀ (vs : List Value) (o : Nat) (w : World), Fr b (b + 1) w (w.setCells b o vs)
  | [], _, w => Fr.refl _ _ w
  | v :: r, o, w => ((Fr.refl b (b+1) w).setCell (p := ⟨b, o, none⟩) (Nat.le_refl _) (Nat.lt_succ_self _) v).trans (fr_setCells b r (o+1) _)
theorem r_mono {r : Nat → Nat} {n : Nat} (h : ∀ i, i < n → r i ≤ r (i + 1)) : ∀ {i j : Nat}, i ≤ j → j ≤ n → r i ≤ r j := by
  intro i j hij hj
  induction j with
  | zero => have : i = 0 := by omega
            subst this; exact Nat.le_refl _
  | succ j ih => rcases Nat.lt_or_ge j i with h1 | h1
                 · have : i = j + 1 := by omega
                   subst this; exact Nat.le_refl _
                 · exact Nat.le_trans (ih h1 (by omega)) (h j (by omega))
theorem three_cell {w w1 : World} {c0 c1 c2 : Array Value} {t0 t1 t2 : TypeId} (hb : Below (((w.alloc (.cells c0 t0)).alloc (.cells c1 t1)).alloc (.cells c2 t2)).heap.size (((w.alloc (.cells c0 t0)).alloc (.cells c1 t1)).alloc (.cells c2 t2)) w1) :
    (∀ i, w1.cell? ⟨w.heap.size, i, none⟩ = c0[i]?) ∧ (∀ i, w1.cell? ⟨w.heap.size + 1, i, none⟩ = c1[i]?) ∧ (∀ i, w1.cell? ⟨w.heap.size + 1 + 1, i, none⟩ = c2[i]?) ∧ (∀ i, w1.frozen? ⟨w.heap.size + 1, i, none⟩ = false) ∧ (∀ i, w1.frozen? ⟨w.heap.size + 1 + 1, i, none⟩ = false) := by
  refine ⟨fun i => ?_, fun i => ?_, fun i => ?_, fun i => ?_, fun i => ?_⟩
  · rw [hb.cell (p := ⟨w.heap.size, i, none⟩) (by simp; omega)]
    rw [World.cell?_alloc_past _ _ _ (by simp; try omega), World.cell?_alloc_past _ _ _ (by simp; try omega), World.cell?_alloc_at _ _ _ _ rfl]
  · rw [hb.cell (p := ⟨w.heap.size + 1, i, none⟩) (by simp)]
    rw [World.cell?_alloc_past _ _ _ (by simp), World.cell?_alloc_at _ _ _ _ (by simp)]
  · rw [hb.cell (p := ⟨w.heap.size + 1 + 1, i, none⟩) (by simp)]
    rw [World.cell?_alloc_at _ _ _ _ (by simp)]
  · rw [hb.frozen (p := ⟨w.heap.size + 1, i, none⟩) (by simp)]
    rw [World.frozen?_alloc_past _ _ _ (by simp), World.frozen?_alloc_at _ _ _ _ (by simp)]
  · rw [hb.frozen (p := ⟨w.heap.size + 1 + 1, i, none⟩) (by simp)]
    rw [World.frozen?_alloc_at _ _ _ _ (by simp)]
theorem after_call {w1 w2 : World} {a : Addr} {v : Value} (hb : Below (w1.setCell a v).heap.size (w1.setCell a v) w2) {p : Addr} (hp : p.block < w1.heap.size) (hne : a ≠ p) : w2.cell? p = w1.cell? p :=
  (hb.cell (by rw [World.size_setCell]; exact hp)).trans (World.cell?_setCell_other _ _ _ _ hne)
theorem after_call_same {w1 w2 : World} {a : Addr} {v u : Value} (hb : Below (w1.setCell a v).heap.size (w1.setCell a v) w2) (hp : a.block < w1.heap.size) (hu : w1.cell? a = some u) : w2.cell? a = some v :=
  (hb.cell (by rw [World.size_setCell]; exact hp)).trans (World.cell?_setCell_same _ _ _ hu)
theorem after_call_frozen {w1 w2 : World} {a : Addr} {v : Value} (hb : Below (w1.setCell a v).heap.size (w1.setCell a v) w2) {p : Addr} (hp : p.block < w1.heap.size) : w2.frozen? p = w1.frozen? p :=
  (hb.frozen (by rw [World.size_setCell]; exact hp)).trans (World.frozen?_setCell _ _ _ _)
theorem two_cell {w w1 : World} {c0 c1 : Array Value} {t0 t1 : TypeId} (hb : Below ((w.alloc (.cells c0 t0)).alloc (.cells c1 t1)).heap.size ((w.alloc (.cells c0 t0)).alloc (.cells c1 t1)) w1) :
    (∀ i, w1.cell? ⟨w.heap.size, i, none⟩ = c0[i]?) ∧ (∀ i, w1.cell? ⟨w.heap.size + 1, i, none⟩ = c1[i]?) ∧ (∀ i, w1.frozen? ⟨w.heap.size, i, none⟩ = false) ∧ (∀ i, w1.frozen? ⟨w.heap.size + 1, i, none⟩ = false) := by
  refine ⟨fun i => ?_, fun i => ?_, fun i => ?_, fun i => ?_⟩
  · rw [hb.cell (p := ⟨w.heap.size, i, none⟩) (by simp; omega)]
    rw [World.cell?_alloc_past _ _ _ (by simp), World.cell?_alloc_at _ _ _ _ rfl]
  · rw [hb.cell (p := ⟨w.heap.size + 1, i, none⟩) (by simp)]
    rw [World.cell?_alloc_at _ _ _ _ (by simp)]
  · rw [hb.frozen (p := ⟨w.heap.size, i, none⟩) (by simp; omega)]
    rw [World.frozen?_alloc_past _ _ _ (by simp), World.frozen?_alloc_at _ _ _ _ rfl]
  · rw [hb.frozen (p := ⟨w.heap.size + 1, i, none⟩) (by simp)]
    rw [World.frozen?_alloc_at _ _ _ _ (by simp)]
theorem StrsIn.drewN {w : World} {lo hi : Nat} {ad : Option Addr} {n : Nat} {s : Nat → ByteArray} (h : StrsIn w lo hi ad n s) (q : Nat) : StrsIn (w.drewN q) lo hi ad n s := h
theorem StrsIn.mono {w : World} {lo hi lo2 hi2 : Nat} {ad : Option Addr} {n : Nat} {s : Nat → ByteArray} (h : StrsIn w lo hi ad n s) (h1 : lo2 ≤ lo) (h2 : hi ≤ hi2) : StrsIn w lo2 hi2 ad n s := fun i hi' => by
  obtain ⟨b, off, e1, e2, e3, e4⟩ := h i hi'
  exact ⟨b, off, e1, by omega, by omega, e4⟩
theorem below_drewN' (w : World) (q : Nat) : Below w.heap.size w (w.drewN q) := ⟨rfl, rfl, rfl, Nat.le_refl _, fun _ _ => rfl⟩
/-- the block B holds just these cells -/
def Holds (W : World) (B : Nat) (c : Array Value) : Prop := ∀ i, W.cell? ⟨B, i, none⟩ = c[i]?
theorem Holds.fr {W W' : World} {B lo hi : Nat} {c : Array Value} (h : Holds W B c) (hb : Fr lo hi W W') (hB : B < W.heap.size) (ho : B < lo ∨ hi ≤ B) : Holds W' B c := fun i => (hb.cell (p := ⟨B, i, none⟩) hB ho).trans (h i)
theorem Holds.below {W W' : World} {B n : Nat} {c : Array Value} (h : Holds W B c) (hb : Below n W W') (hB : B < n) : Holds W' B c := fun i => (hb.cell (p := ⟨B, i, none⟩) hB).trans (h i)
theorem holds_new (w : World) (c : Array Value) (t : TypeId) : Holds (w.alloc (.cells c t)) w.heap.size c := fun i => World.cell?_alloc_new w c t i
end Go.Proofs.YtcmimbohmninkaaGreatDoor
