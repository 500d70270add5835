import Derived.Test.YtkbghbbaldjinaaGreatDoorH
namespace Go.Proofs.YtkbghbbaldjinaaGreatDoor
open Go.RowKit
theorem three_cell {w w1 : World} {c0 c1 c2 : Array Value} {t0 t1 t2 : TypeId} (hb : Below (((w.alloc (.cells c0 t0)).alloc (.cells c1 t1)).alloc (.cells c2 t2)).heap.size (((w.alloc (.cells c0 t0)).alloc (.cells c1 t1)).alloc (.cells c2 t2)) w1) :
    (∀ i, w1.cell? ⟨w.heap.size, i, none⟩ = c0[i]?) ∧ (∀ i, w1.cell? ⟨w.heap.size + 1, i, none⟩ = c1[i]?) ∧ (∀ i, w1.cell? ⟨w.heap.size + 1 + 1, i, none⟩ = c2[i]?) ∧ (∀ i, w1.frozen? ⟨w.heap.size + 1, i, none⟩ = false) ∧ (∀ i, w1.frozen? ⟨w.heap.size + 1 + 1, i, none⟩ = false) := by
  refine ⟨fun i => ?_, fun i => ?_, fun i => ?_, fun i => ?_, fun i => ?_⟩
  · rw [hb.cell (p := ⟨w.heap.size, i, none⟩) (by simp; omega)]
    rw [World.cell?_alloc_past _ _ _ (by simp; try omega), World.cell?_alloc_past _ _ _ (by simp; try omega), World.cell?_alloc_at _ _ _ _ rfl]
  · rw [hb.cell (p := ⟨w.heap.size + 1, i, none⟩) (by simp)]
    rw [World.cell?_alloc_past _ _ _ (by simp), World.cell?_alloc_at _ _ _ _ (by simp)]
  · rw [hb.cell (p := ⟨w.heap.size + 1 + 1, i, none⟩) (by simp)]
    rw [World.cell?_alloc_at _ _ _ _ (by simp)]
  · rw [hb.frozen (p := ⟨w.heap.size + 1, i, none⟩) (by simp)]
    rw [World.frozen?_alloc_past _ _ _ (by simp), World.frozen?_alloc_at _ _ _ _ (by simp)]
  · rw [hb.frozen (p := ⟨w.heap.size + 1 + 1, i, none⟩) (by simp)]
    rw [World.frozen?_alloc_at _ _ _ _ (by simp)]
theorem ObjsOwnAt.fr {w w' : World} {g hi n m lo2 hi2 : Nat} {x : Nat → Ob} {r : Nat → Nat} (h : ObjsOwnAt w g hi n m x r) (hb : Fr lo2 hi2 w w') (ho : hi ≤ lo2 ∨ hi2 ≤ g) : ObjsOwnAt w' g hi n m x r := by
  have hg : g < hi := Nat.lt_of_lt_of_le h.r0 (Nat.le_trans (r_mono h.mono (Nat.zero_le _) (Nat.le_refl _)) h.rn)
  have hc : ∀ j, w'.cell? ⟨g, j, none⟩ = w.cell? ⟨g, j, none⟩ := fun j => hb.cell (p := ⟨g, j, none⟩) (Nat.lt_of_lt_of_le hg h.hi) (by show g < _ ∨ _ ≤ g; omega)
  refine ⟨⟨fun j hj => ?_, fun j => (hb.frozen (p := ⟨g, j, none⟩) (Nat.lt_of_lt_of_le hg h.hi) (by show g < _ ∨ _ ≤ g; omega)).trans (h.room.free j), Nat.lt_of_lt_of_le h.room.lt hb.size⟩, h.r0, h.mono, h.rn, Nat.le_trans h.hi hb.size, fun i hi' => ?_⟩
  · obtain ⟨u, hu⟩ := h.room.has j hj; exact ⟨u, (hc j).trans hu⟩
  · obtain ⟨ah, ch, c, s⟩ := h.at_ i hi'
    have h1 : r (i + 1) ≤ hi := Nat.le_trans (r_mono h.mono (by omega) (Nat.le_refl _)) h.rn
    have h2 : g < r i := Nat.lt_of_lt_of_le h.r0 (r_mono h.mono (Nat.zero_le _) (by omega))
    exact ⟨ah, ch, c.fr (fun j _ => hc _), s.fr hb (Nat.le_trans h1 h.hi) (by omega)⟩
theorem ChgsOwnAt.fr {w w' : World} {g hi n m lo2 hi2 : Nat} {x : Nat → Ch} {r : Nat → Nat} (h : ChgsOwnAt w g hi n m x r) (hb : Fr lo2 hi2 w w') (ho : hi ≤ lo2 ∨ hi2 ≤ g) : ChgsOwnAt w' g hi n m x r := by
  have hg : g < hi := Nat.lt_of_lt_of_le h.r0 (Nat.le_trans (r_mono h.mono (Nat.zero_le _) (Nat.le_refl _)) h.rn)
  have hc : ∀ j, w'.cell? ⟨g, j, none⟩ = w.cell? ⟨g, j, none⟩ := fun j => hb.cell (p := ⟨g, j, none⟩) (Nat.lt_of_lt_of_le hg h.hi) (by show g < _ ∨ _ ≤ g; omega)
  refine ⟨⟨fun j hj => ?_, fun j => (hb.frozen (p := ⟨g, j, none⟩) (Nat.lt_of_lt_of_le hg h.hi) (by show g < _ ∨ _ ≤ g; omega)).trans (h.room.free j), Nat.lt_of_lt_of_le h.room.lt hb.size⟩, h.r0, h.mono, h.rn, Nat.le_trans h.hi hb.size, fun i hi' => ?_⟩
  · obtain ⟨u, hu⟩ := h.room.has j hj; exact ⟨u, (hc j).trans hu⟩
  · obtain ⟨ah, ch, c, s⟩ := h.at_ i hi'
    have h1 : r (i + 1) ≤ hi := Nat.le_trans (r_mono h.mono (by omega) (Nat.le_refl _)) h.rn
    have h2 : g < r i := Nat.lt_of_lt_of_le h.r0 (r_mono h.mono (Nat.zero_le _) (by omega))
    exact ⟨ah, ch, c.fr (fun j _ => hc _), s.fr hb (Nat.le_trans h1 h.hi) (by omega)⟩
theorem TicsOwnAt.fr {w w' : World} {g n m lo2 hi2 : Nat} {x : Nat → Ti} (h : TicsOwnAt w g n m x) (hb : Fr lo2 hi2 w w') (ho : g < lo2 ∨ hi2 ≤ g) : TicsOwnAt w' g n m x := by
  have hc : ∀ j, w'.cell? ⟨g, j, none⟩ = w.cell? ⟨g, j, none⟩ := fun j => hb.cell (p := ⟨g, j, none⟩) h.room.lt ho
  refine ⟨⟨fun j hj => ?_, fun j => (hb.frozen (p := ⟨g, j, none⟩) h.room.lt ho).trans (h.room.free j), Nat.lt_of_lt_of_le h.room.lt hb.size⟩, fun i hi' => ?_⟩
  · obtain ⟨u, hu⟩ := h.room.has j hj; exact ⟨u, (hc j).trans hu⟩
  · have c := h.at_ i hi'
    exact ⟨(hc _).trans c.c0, (hc _).trans c.c1, (hc _).trans c.c2, (hc _).trans c.c3, (hc _).trans c.c4⟩
/-- a book of the call's own: objects, changes, tickets, one behind the other, in blocks lo .. hi -/
structure BkOwn (w : World) (lo hi : Nat) (x : Bk) (g1 g2 g3 : Nat) : Prop where
  ob : ∃ h1 r1, ObjsOwnAt w g1 h1 x.on x.on x.os r1 ∧ h1 ≤ g2
  ch : ∃ h2 r2, ChgsOwnAt w g2 h2 x.hn x.hn x.hs r2 ∧ h2 ≤ g3
  ti : TicsOwnAt w g3 x.tn x.tn x.ts
  glo : lo ≤ g1
  ghi : g3 < hi
  gtop : hi ≤ w.heap.size
theorem after_call {w1 w2 : World} {a : Addr} {v : Value} (hb : Below (w1.setCell a v).heap.size (w1.setCell a v) w2) {p : Addr} (hp : p.block < w1.heap.size) (hne : a ≠ p) : w2.cell? p = w1.cell? p :=
  (hb.cell (by rw [World.size_setCell]; exact hp)).trans (World.cell?_setCell_other _ _ _ _ hne)
theorem after_call_same {w1 w2 : World} {a : Addr} {v u : Value} (hb : Below (w1.setCell a v).heap.size (w1.setCell a v) w2) (hp : a.block < w1.heap.size) (hu : w1.cell? a = some u) : w2.cell? a = some v :=
  (hb.cell (by rw [World.size_setCell]; exact hp)).trans (World.cell?_setCell_same _ _ _ hu)
theorem after_call_frozen {w1 w2 : World} {a : Addr} {v : Value} (hb : Below (w1.setCell a v).heap.size (w1.setCell a v) w2) {p : Addr} (hp : p.block < w1.heap.size) : w2.frozen? p = w1.frozen? p :=
  (hb.frozen (by rw [World.size_setCell]; exact hp)).trans (World.frozen?_setCell _ _ _ _)
set_option maxRecDepth 100000 in
set_option maxHeartbeats 800000 in
theorem toBk_any (x : Bk) (a1 a2 a3 : Option Addr) (c1 c2 c3 : Nat) (w : World) (lo hi : Nat) (hhi : hi ≤ w.heap.size) (hf : BkFit x) (hc : BkIn w lo hi x a1 a2 a3) :
    Calls Tryz.prog 6 #[.agg #[.int .i64 x.now, .int .i64 x.floor, .slice a1 x.on c1, .slice a2 x.hn c2, .slice a3 x.tn c3]] w fun e w' => ∃ g1 g2 g3 d1 d2 d3, e = .returned (.agg #[.int .i64 x.now, .int .i64 x.floor, .slice (some ⟨g1, 0, none⟩) x.on d1, .slice (some ⟨g2, 0, none⟩) x.hn d2, .slice (some ⟨g3, 0, none⟩) x.tn d3]) ∧ BkOwn w' w.heap.size w'.heap.size x g1 g2 g3 ∧ Below w.heap.size w w' := by
  obtain ⟨f1, f2, f3, f4, f5, f6⟩ := hf
  go_enter Tryz.func6, Tryz.ntmps6
  go_wp2_with fail
  refine (toObs_any x.on x.os a1 c1 _ lo hi (by simp; omega) (by omega) f4 (hc.o.below (B := w.heap.size) ((((Below.refl _ _).alloc (Nat.le_refl _) _).alloc (by simp) _).alloc (by simp; omega) _) hhi)).mono ?_
  rintro e w1 ⟨d1, r1, rfl, ho1, hb1⟩
  have hB1 : Below w.heap.size w w1 := ((((Below.refl _ _).alloc (Nat.le_refl _) _).alloc (by simp) _).alloc (by simp; omega) _).trans (hb1.mono (by simp; omega))
  have hz1 : w.heap.size + 2 < w1.heap.size := by have := hb1.size; simp at this; omega
  obtain ⟨A0, A1, A2, F1, F2⟩ := three_cell hb1
  have b3 := A0 3
  have b4 := A0 4
  have p0 := A1 0
  have p1 := A1 1
  have p2 := A1 2
  have p3 := A1 3
  have p4 := A1 4
  have o0 := A2 0
  have o1 := A2 1
  have o2 := A2 2
  have o3 := A2 3
  have o4 := A2 4
  simp only [List.getElem?_toArray, List.getElem?_cons_succ, List.getElem?_cons_zero] at b3 b4 p0 p1 p2 p3 p4 o0 o1 o2 o3 o4
  simp only [World.size_alloc] at ho1 ⊢
  clear A0 A1 A2 hb1
  have HO1 := hid ho1
  clear ho1
  go_wp2_with fail
  refine (toChs_any x.hn x.hs a2 c2 _ lo hi (by rw [World.size_setCell]; have := hB1.size; omega) (by omega) f5 (hc.h.below (B := w.heap.size) (hB1.setCell (by show w.heap.size ≤ w.heap.size + 1 + 1; omega) _) hhi)).mono ?_
  rintro e w2 ⟨d2, r2, rfl, ho2, hb2⟩
  have hz2 : w1.heap.size < w2.heap.size := by have := ho2.room.lt; rw [World.size_setCell] at this; exact this
  have hB2 : Below w.heap.size w w2 := (hB1.setCell (p := ⟨w.heap.size + 1 + 1, 2, none⟩) (by show w.heap.size ≤ w.heap.size + 1 + 1; omega) _).trans (hb2.mono (by rw [World.size_setCell]; omega))
  have b4' := (after_call hb2 (p := ⟨w.heap.size, 4, none⟩) (by show w.heap.size < _; omega) (by simp)).trans b4
  have p0' := (after_call hb2 (p := ⟨w.heap.size + 1, 0, none⟩) (by show w.heap.size + 1 < _; omega) (by simp)).trans p0
  have p1' := (after_call hb2 (p := ⟨w.heap.size + 1, 1, none⟩) (by show w.heap.size + 1 < _; omega) (by simp)).trans p1
  have p2' := (after_call hb2 (p := ⟨w.heap.size + 1, 2, none⟩) (by show w.heap.size + 1 < _; omega) (by simp)).trans p2
  have p3' := (after_call hb2 (p := ⟨w.heap.size + 1, 3, none⟩) (by show w.heap.size + 1 < _; omega) (by simp)).trans p3
  have p4' := (after_call hb2 (p := ⟨w.heap.size + 1, 4, none⟩) (by show w.heap.size + 1 < _; omega) (by simp)).trans p4
  have o0' := (after_call hb2 (p := ⟨w.heap.size + 1 + 1, 0, none⟩) (by show w.heap.size + 1 + 1 < _; omega) (by simp)).trans o0
  have o1' := (after_call hb2 (p := ⟨w.heap.size + 1 + 1, 1, none⟩) (by show w.heap.size + 1 + 1 < _; omega) (by simp)).trans o1
  have o2' := after_call_same hb2 (by show w.heap.size + 1 + 1 < _; omega) o2
  have o3' := (after_call hb2 (p := ⟨w.heap.size + 1 + 1, 3, none⟩) (by show w.heap.size + 1 + 1 < _; omega) (by simp)).trans o3
  have o4' := (after_call hb2 (p := ⟨w.heap.size + 1 + 1, 4, none⟩) (by show w.heap.size + 1 + 1 < _; omega) (by simp)).trans o4
  have F1' : ∀ i, w2.frozen? ⟨w.heap.size + 1, i, none⟩ = false := fun i => (after_call_frozen hb2 (p := ⟨w.heap.size + 1, i, none⟩) (by show w.heap.size + 1 < _; omega)).trans (F1 i)
  have F2' : ∀ i, w2.frozen? ⟨w.heap.size + 1 + 1, i, none⟩ = false := fun i => (after_call_frozen hb2 (p := ⟨w.heap.size + 1 + 1, i, none⟩) (by show w.heap.size + 1 + 1 < _; omega)).trans (F2 i)
  have HO1b := hid ((HO1.out.fr ((Fr.refl (w.heap.size + 2) (w.heap.size + 3) w1).setCell (p := ⟨w.heap.size + 1 + 1, 2, none⟩) (by show w.heap.size + 2 ≤ w.heap.size + 1 + 1; omega) (by show w.heap.size + 1 + 1 < _; omega) (.slice (some ⟨w.heap.size + 1 + 1 + 1, 0, none⟩) x.on d1)) (Or.inr (by omega))).fr (Fr.of_below (lo := 0) (hi := 0) hb2) (Or.inr (Nat.zero_le _)))
  rw [World.size_setCell] at ho2 ⊢
  have HO2 := hid ho2
  clear ho2 HO1 hb2 b3 b4 p0 p1 p2 p3 p4 o0 o1 o2 o3 o4 F1 F2 hB1
  go_wp2_with fail
  refine (toTis_any x.tn x.ts a3 c3 _ lo hi (by rw [World.size_setCell]; have := hB2.size; omega) (by omega) (hc.t.below (B := w.heap.size) (hB2.setCell (by show w.heap.size ≤ w.heap.size + 1 + 1; omega) _) hhi)).mono ?_
  rintro e w3 ⟨d3, rfl, ho3, hb3⟩
  have hz3 : w2.heap.size < w3.heap.size := by have := ho3.room.lt; rw [World.size_setCell] at this; exact this
  have hB3 : Below w.heap.size w w3 := (hB2.setCell (p := ⟨w.heap.size + 1 + 1, 3, none⟩) (by show w.heap.size ≤ w.heap.size + 1 + 1; omega) _).trans (hb3.mono (by rw [World.size_setCell]; omega))
  have p0 := (after_call hb3 (p := ⟨w.heap.size + 1, 0, none⟩) (by show w.heap.size + 1 < _; omega) (by simp)).trans p0'
  have p1 := (after_call hb3 (p := ⟨w.heap.size + 1, 1, none⟩) (by show w.heap.size + 1 < _; omega) (by simp)).trans p1'
  have p2 := (after_call hb3 (p := ⟨w.heap.size + 1, 2, none⟩) (by show w.heap.size + 1 < _; omega) (by simp)).trans p2'
  have p3 := (after_call hb3 (p := ⟨w.heap.size + 1, 3, none⟩) (by show w.heap.size + 1 < _; omega) (by simp)).trans p3'
  have p4 := (after_call hb3 (p := ⟨w.heap.size + 1, 4, none⟩) (by show w.heap.size + 1 < _; omega) (by simp)).trans p4'
  have o0 := (after_call hb3 (p := ⟨w.heap.size + 1 + 1, 0, none⟩) (by show w.heap.size + 1 + 1 < _; omega) (by simp)).trans o0'
  have o1 := (after_call hb3 (p := ⟨w.heap.size + 1 + 1, 1, none⟩) (by show w.heap.size + 1 + 1 < _; omega) (by simp)).trans o1'
  have o2 := (after_call hb3 (p := ⟨w.heap.size + 1 + 1, 2, none⟩) (by show w.heap.size + 1 + 1 < _; omega) (by simp)).trans o2'
  have o3 := after_call_same hb3 (by show w.heap.size + 1 + 1 < _; omega) o3'
  have o4 := (after_call hb3 (p := ⟨w.heap.size + 1 + 1, 4, none⟩) (by show w.heap.size + 1 + 1 < _; omega) (by simp)).trans o4'
  have F1 : ∀ i, w3.frozen? ⟨w.heap.size + 1, i, none⟩ = false := fun i => (after_call_frozen hb3 (p := ⟨w.heap.size + 1, i, none⟩) (by show w.heap.size + 1 < _; omega)).trans (F1' i)
  have F2 : ∀ i, w3.frozen? ⟨w.heap.size + 1 + 1, i, none⟩ = false := fun i => (after_call_frozen hb3 (p := ⟨w.heap.size + 1 + 1, i, none⟩) (by show w.heap.size + 1 + 1 < _; omega)).trans (F2' i)
  have hS := (Fr.refl (w.heap.size + 2) (w.heap.size + 3) w2).setCell (p := ⟨w.heap.size + 1 + 1, 3, none⟩) (by show w.heap.size + 2 ≤ w.heap.size + 1 + 1; omega) (by show w.heap.size + 1 + 1 < _; omega) (.slice (some ⟨w1.heap.size, 0, none⟩) x.hn d2)
  have HO1 := hid ((HO1b.out.fr hS (Or.inr (by omega))).fr (Fr.of_below (lo := 0) (hi := 0) hb3) (Or.inr (Nat.zero_le _)))
  have HO2b := hid ((HO2.out.fr hS (Or.inr (by omega))).fr (Fr.of_below (lo := 0) (hi := 0) hb3) (Or.inr (Nat.zero_le _)))
  rw [World.size_setCell] at ho3 ⊢
  have HO3 := hid ho3
  clear ho3 HO1b HO2 hb3 p0' p1' p2' p3' p4' o0' o1' o2' o3' o4' F1' F2' hB2 b4' hS hc f4 f5 f6
  go_wp2
  refine bodyPost_ret (v := .agg #[.int .i64 x.now, .int .i64 x.floor, .slice (some ⟨w.heap.size + 1 + 1 + 1, 0, none⟩) x.on d1, .slice (some ⟨w1.heap.size, 0, none⟩) x.hn d2, .slice (some ⟨w2.heap.size, 0, none⟩) x.tn d3]) (by simp [results, Tryz.results6, go_sem, p0, p1, p2, p3, p4]) rfl ⟨_, _, _, d1, d2, d3, rfl, ?_, ?_⟩
  · have hT : Fr w.heap.size (w.heap.size + 3) w3 (((((((w3.setCell ⟨w.heap.size + 1 + 1, 4, none⟩ (.slice (some ⟨w2.heap.size, 0, none⟩) x.tn d3)).setCell ⟨w.heap.size + 1, 0, none⟩ (.int .i64 x.now)).setCell ⟨w.heap.size + 1, 1, none⟩ (.int .i64 x.floor)).setCell ⟨w.heap.size + 1, 2, none⟩ (.slice (some ⟨w.heap.size + 1 + 1 + 1, 0, none⟩) x.on d1)).setCell ⟨w.heap.size + 1, 3, none⟩ (.slice (some ⟨w1.heap.size, 0, none⟩) x.hn d2)).setCell ⟨w.heap.size + 1, 4, none⟩ (.slice (some ⟨w2.heap.size, 0, none⟩) x.tn d3))) := by
      iterate 6 refine Fr.setCell ?_ (by simp; try omega) (by simp; try omega) _
      exact Fr.refl _ _ _
    simp only [World.size_setCell]
    exact ⟨⟨_, _, HO1.out.fr hT (Or.inr (by omega)), Nat.le_refl _⟩, ⟨_, _, HO2b.out.fr hT (Or.inr (by omega)), Nat.le_refl _⟩, HO3.out.fr hT (Or.inr (by omega)), by omega, hz3, hT.size⟩
  · refine hB3.trans (Fr.below (lo := w.heap.size) (hi := w.heap.size + 3) ?_ (Nat.le_refl _) hB3.size)
    iterate 6 refine Fr.setCell ?_ (by simp; try omega) (by simp; try omega) _
    exact Fr.refl _ _ _
end Go.Proofs.YtkbghbbaldjinaaGreatDoor
