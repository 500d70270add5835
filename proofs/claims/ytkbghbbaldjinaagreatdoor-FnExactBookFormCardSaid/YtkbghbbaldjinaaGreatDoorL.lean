import Derived.Test.YtkbghbbaldjinaaGreatDoorK
namespace Go.Proofs.YtkbghbbaldjinaaGreatDoor
open Go.RowKit
theorem two_cell {w w1 : World} {c0 c1 : Array Value} {t0 t1 : TypeId} (hb : Below ((w.alloc (.cells c0 t0)).alloc (.cells c1 t1)).heap.size ((w.alloc (.cells c0 t0)).alloc (.cells c1 t1)) w1) :
    (∀ i, w1.cell? ⟨w.heap.size, i, none⟩ = c0[i]?) ∧ (∀ i, w1.cell? ⟨w.heap.size + 1, i, none⟩ = c1[i]?) ∧ (∀ i, w1.frozen? ⟨w.heap.size, i, none⟩ = false) ∧ (∀ i, w1.frozen? ⟨w.heap.size + 1, i, none⟩ = false) := by
  refine ⟨fun i => ?_, fun i => ?_, fun i => ?_, fun i => ?_⟩
  · rw [hb.cell (p := ⟨w.heap.size, i, none⟩) (by simp; omega)]
    rw [World.cell?_alloc_past _ _ _ (by simp), World.cell?_alloc_at _ _ _ _ rfl]
  · rw [hb.cell (p := ⟨w.heap.size + 1, i, none⟩) (by simp)]
    rw [World.cell?_alloc_at _ _ _ _ (by simp)]
  · rw [hb.frozen (p := ⟨w.heap.size, i, none⟩) (by simp; omega)]
    rw [World.frozen?_alloc_past _ _ _ (by simp), World.frozen?_alloc_at _ _ _ _ rfl]
  · rw [hb.frozen (p := ⟨w.heap.size + 1, i, none⟩) (by simp)]
    rw [World.frozen?_alloc_at _ _ _ _ (by simp)]
set_option maxRecDepth 100000 in
set_option maxHeartbeats 800000 in
theorem eqBk_any (x : Bk) (a1 a2 a3 b1 b2 b3 : Option Addr) (c1 c2 c3 d1 d2 d3 : Nat) (w : World) (lo hi lo2 hi2 : Nat) (hh : hi ≤ w.heap.size) (hh2 : hi2 ≤ w.heap.size) (hf : BkFit x) (hc : BkIn w lo hi x a1 a2 a3) (hc2 : BkIn w lo2 hi2 x b1 b2 b3) :
    Calls Tryz.prog 8 #[.agg #[.int .i64 x.now, .int .i64 x.floor, .slice a1 x.on c1, .slice a2 x.hn c2, .slice a3 x.tn c3], .agg #[.int .i64 x.now, .int .i64 x.floor, .slice b1 x.on d1, .slice b2 x.hn d2, .slice b3 x.tn d3]] w fun e w' => e = .returned (.bool true) ∧ Below w.heap.size w w' := by
  obtain ⟨f1, f2, f3, f4, f5, f6⟩ := hf
  have f4' : ∀ i, i < x.on → ((x.os i).hn : Int) ≤ 140737488355328 := fun i h => by have := (f4 i h).h; omega
  have f5' : ∀ i, i < x.hn → ((x.hs i).ob.hn : Int) ≤ 140737488355328 := fun i h => by have := (f5 i h).h; omega
  clear f4 f5 f6
  go_enter Tryz.func8, Tryz.ntmps8
  go_wp2_with fail
  refine (eqObs_any x.on x.os a1 b1 c1 d1 _ lo hi lo2 hi2 (by simp; omega) (by simp; omega) (by omega) f4' (hc.o.below (B := w.heap.size) ((below_alloc _ _).alloc (by simp) _) hh) (hc2.o.below (B := w.heap.size) ((below_alloc _ _).alloc (by simp) _) hh2)).mono ?_
  rintro e w1 ⟨rfl, hb1⟩
  have hB1 : Below w.heap.size w w1 := ((below_alloc _ _).alloc (by simp) _).trans (hb1.mono (by simp; omega))
  have hz := hb1.size
  obtain ⟨A0, A1, _, _⟩ := two_cell hb1
  have u3 := A0 3
  have u4 := A0 4
  have v3 := A1 3
  have v4 := A1 4
  simp only [World.size_alloc] at hz
  simp only [List.getElem?_toArray, List.getElem?_cons_succ, List.getElem?_cons_zero] at u3 u4 v3 v4
  clear A0 A1 hb1
  go_wp2_with fail
  refine (eqChs_any x.hn x.hs a2 b2 c2 d2 _ lo hi lo2 hi2 (by omega) (by omega) (by omega) f5' (hc.h.below hB1 hh) (hc2.h.below hB1 hh2)).mono ?_
  rintro e w2 ⟨rfl, hb2⟩
  have hB2 : Below w.heap.size w w2 := hB1.trans (hb2.mono hB1.size)
  have u4' := (hb2.cell (p := ⟨w.heap.size, 4, none⟩) (by show w.heap.size < _; omega)).trans u4
  have v4' := (hb2.cell (p := ⟨w.heap.size + 1, 4, none⟩) (by show w.heap.size + 1 < _; omega)).trans v4
  clear u3 u4 v3 v4
  go_wp2_with fail
  refine (eqTis_any x.tn x.ts a3 b3 c3 d3 _ lo hi lo2 hi2 (by have := hB2.size; omega) (by have := hB2.size; omega) (by omega) (hc.t.below hB2 hh) (hc2.t.below hB2 hh2)).mono ?_
  rintro e w3 ⟨rfl, hb3⟩
  go_wp2
  go_ret
  exact ⟨rfl, hB2.trans (hb3.mono hB2.size)⟩
end Go.Proofs.YtkbghbbaldjinaaGreatDoor
