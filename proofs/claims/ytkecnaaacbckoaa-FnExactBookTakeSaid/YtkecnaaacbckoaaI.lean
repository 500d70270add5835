import Derived.Test.YtkecnaaacbckoaaH
namespace Go.Proofs.Ytkecnaaacbckoaa
open Go.RowKit
theorem three_cell {w w1 : World} {c0 c1 c2 : Array Value} {t0 t1 t2 : TypeId} (hb : Below (((w.alloc (.cells c0 t0)).alloc (.cells c1 t1)).alloc (.cells c2 t2)).heap.size (((w.alloc (.cells c0 t0)).alloc (.cells c1 t1)).alloc (.cells c2 t2)) w1) :
    (∀ i, w1.cell? ⟨w.heap.size, i, none⟩ = c0[i]?) ∧ (∀ i, w1.cell? ⟨w.heap.size + 1, i, none⟩ = c1[i]?) ∧ (∀ i, w1.cell? ⟨w.heap.size + 1 + 1, i, none⟩ = c2[i]?) ∧ (∀ i, w1.frozen? ⟨w.heap.size + 1, i, none⟩ = false) ∧ (∀ i, w1.frozen? ⟨w.heap.size + 1 + 1, i, none⟩ = false) := by
  refine ⟨fun i => ?_, fun i => ?_, fun i => ?_, fun i => ?_, fun i => ?_⟩
  · rw [hb.cell (p := ⟨w.heap.size, i, none⟩) (by simp; omega)]
    rw [World.cell?_alloc_past _ _ _ (by simp; try omega), World.cell?_alloc_past _ _ _ (by simp; try omega), World.cell?_alloc_at _ _ _ _ rfl]
  · rw [hb.cell (p := ⟨w.heap.size + 1, i, none⟩) (by simp)]
    rw [World.cell?_alloc_past _ _ _ (by simp), World.cell?_alloc_at _ _ _ _ (by simp)]
  · rw [hb.cell (p := ⟨w.heap.size + 1 + 1, i, none⟩) (by simp)]
    rw [World.cell?_alloc_at _ _ _ _ (by simp)]
  · rw [hb.frozen (p := ⟨w.heap.size + 1, i, none⟩) (by simp)]
    rw [World.frozen?_alloc_past _ _ _ (by simp), World.frozen?_alloc_at _ _ _ _ (by simp)]
  · rw [hb.frozen (p := ⟨w.heap.size + 1 + 1, i, none⟩) (by simp)]
    rw [World.frozen?_alloc_at _ _ _ _ (by simp)]
theorem ObjsOwnAt.fr {w w' : World} {g hi n m lo2 hi2 : Nat} {x : Nat → Ob} {r : Nat → Nat} (h : ObjsOwnAt w g hi n m x r) (hb : Fr lo2 hi2 w w') (ho : hi ≤ lo2 ∨ hi2 ≤ g) : ObjsOwnAt w' g hi n m x r := by
  have hg : g < hi := Nat.lt_of_lt_of_le h.r0 (Nat.le_trans (r_mono h.mono (Nat.zero_le _) (Nat.le_refl _)) h.rn)
  have hc : ∀ j, w'.cell? ⟨g, j, none⟩ = w.cell? ⟨g, j, none⟩ := fun j => hb.cell (p := ⟨g, j, none⟩) (Nat.lt_of_lt_of_le hg h.hi) (by show g < _ ∨ _ ≤ g; omega)
  refine ⟨⟨fun j hj => ?_, fun j => (hb.frozen (p := ⟨g, j, none⟩) (Nat.lt_of_lt_of_le hg h.hi) (by show g < _ ∨ _ ≤ g; omega)).trans (h.room.free j), Nat.lt_of_lt_of_le h.room.lt hb.size⟩, h.r0, h.mono, h.rn, Nat.le_trans h.hi hb.size, fun i hi' => ?_⟩
  · obtain ⟨u, hu⟩ := h.room.has j hj; exact ⟨u, (hc j).trans hu⟩
  · obtain ⟨ah, ch, c, s⟩ := h.at_ i hi'
    have h1 : r (i + 1) ≤ hi := Nat.le_trans (r_mono h.mono (by omega) (Nat.le_refl _)) h.rn
    have h2 : g < r i := Nat.lt_of_lt_of_le h.r0 (r_mono h.mono (Nat.zero_le _) (by omega))
    exact ⟨ah, ch, c.fr (fun j _ => hc _), s.fr hb (Nat.le_trans h1 h.hi) (by omega)⟩
theorem ChgsOwnAt.fr {w w' : World} {g hi n m lo2 hi2 : Nat} {x : Nat → Ch} {r : Nat → Nat} (h : ChgsOwnAt w g hi n m x r) (hb : Fr lo2 hi2 w w') (ho : hi ≤ lo2 ∨ hi2 ≤ g) : ChgsOwnAt w' g hi n m x r := by
  have hg : g < hi := Nat.lt_of_lt_of_le h.r0 (Nat.le_trans (r_mono h.mono (Nat.zero_le _) (Nat.le_refl _)) h.rn)
  have hc : ∀ j, w'.cell? ⟨g, j, none⟩ = w.cell? ⟨g, j, none⟩ := fun j => hb.cell (p := ⟨g, j, none⟩) (Nat.lt_of_lt_of_le hg h.hi) (by show g < _ ∨ _ ≤ g; omega)
  refine ⟨⟨fun j hj => ?_, fun j => (hb.frozen (p := ⟨g, j, none⟩) (Nat.lt_of_lt_of_le hg h.hi) (by show g < _ ∨ _ ≤ g; omega)).trans (h.room.free j), Nat.lt_of_lt_of_le h.room.lt hb.size⟩, h.r0, h.mono, h.rn, Nat.le_trans h.hi hb.size, fun i hi' => ?_⟩
  · obtain ⟨u, hu⟩ := h.room.has j hj; exact ⟨u, (hc j).trans hu⟩
  · obtain ⟨ah, ch, c, s⟩ := h.at_ i hi'
    have h1 : r (i + 1) ≤ hi := Nat.le_trans (r_mono h.mono (by omega) (Nat.le_refl _)) h.rn
    have h2 : g < r i := Nat.lt_of_lt_of_le h.r0 (r_mono h.mono (Nat.zero_le _) (by omega))
    exact ⟨ah, ch, c.fr (fun j _ => hc _), s.fr hb (Nat.le_trans h1 h.hi) (by omega)⟩
theorem TicsOwnAt.fr {w w' : World} {g n m lo2 hi2 : Nat} {x : Nat → Ti} (h : TicsOwnAt w g n m x) (hb : Fr lo2 hi2 w w') (ho : g < lo2 ∨ hi2 ≤ g) : TicsOwnAt w' g n m x := by
  have hc : ∀ j, w'.cell? ⟨g, j, none⟩ = w.cell? ⟨g, j, none⟩ := fun j => hb.cell (p := ⟨g, j, none⟩) h.room.lt ho
  refine ⟨⟨fun j hj => ?_, fun j => (hb.frozen (p := ⟨g, j, none⟩) h.room.lt ho).trans (h.room.free j), Nat.lt_of_lt_of_le h.room.lt hb.size⟩, fun i hi' => ?_⟩
  · obtain ⟨u, hu⟩ := h.room.has j hj; exact ⟨u, (hc j).trans hu⟩
  · have c := h.at_ i hi'
    exact ⟨(hc _).trans c.c0, (hc _).trans c.c1, (hc _).trans c.c2, (hc _).trans c.c3, (hc _).trans c.c4⟩
/-- a book of the call's own: objects, changes, tickets, one behind the other, in blocks lo .. hi -/
structure BkOwn (w : World) (lo hi : Nat) (x : Bk) (g1 g2 g3 : Nat) : Prop where
  ob : ∃ h1 r1, ObjsOwnAt w g1 h1 x.on x.on x.os r1 ∧ h1 ≤ g2
  ch : ∃ h2 r2, ChgsOwnAt w g2 h2 x.hn x.hn x.hs r2 ∧ h2 ≤ g3
  ti : TicsOwnAt w g3 x.tn x.tn x.ts
  glo : lo ≤ g1
  ghi : g3 < hi
  gtop : hi ≤ w.heap.size
theorem after_call {w1 w2 : World} {a : Addr} {v : Value} (hb : Below (w1.setCell a v).heap.size (w1.setCell a v) w2) {p : Addr} (hp : p.block < w1.heap.size) (hne : a ≠ p) : w2.cell? p = w1.cell? p :=
  (hb.cell (by rw [World.size_setCell]; exact hp)).trans (World.cell?_setCell_other _ _ _ _ hne)
theorem after_call_same {w1 w2 : World} {a : Addr} {v u : Value} (hb : Below (w1.setCell a v).heap.size (w1.setCell a v) w2) (hp : a.block < w1.heap.size) (hu : w1.cell? a = some u) : w2.cell? a = some v :=
  (hb.cell (by rw [World.size_setCell]; exact hp)).trans (World.cell?_setCell_same _ _ _ hu)
theorem after_call_frozen {w1 w2 : World} {a : Addr} {v : Value} (hb : Below (w1.setCell a v).heap.size (w1.setCell a v) w2) {p : Addr} (hp : p.block < w1.heap.size) : w2.frozen? p = w1.frozen? p :=
  (hb.frozen (by rw [World.size_setCell]; exact hp)).trans (World.frozen?_setCell _ _ _ _)
end Go.Proofs.Ytkecnaaacbckoaa
