import Derived.Test.YtkbghbbaldjinaaGreatDoorFu
import Derived.Test.YtkbghbbaldjinaaGreatDoorZk
import Derived.Deep.RegionWith
namespace Go.Proofs.YtkbghbbaldjinaaGreatDoor
open Go.RowKit Go.Maps
set_option maxRecDepth 100000 in
set_option maxHeartbeats 4000000 in
theorem form_law (x : Bk) (a1 a2 a3 : Option Addr) (c1 c2 c3 : Nat) (w : World) (hf0 : BkFit0 x) (hc : BkIn w 0 w.heap.size x a1 a2 a3) (hT : Tab w) :
    Calls Tryz.prog 3 #[.agg #[.int .i64 x.now, .int .i64 x.floor, .slice a1 x.on c1, .slice a2 x.hn c2, .slice a3 x.tn c3]] w fun e w' => e = .returned (.bool true) ∧ Below w.heap.size w w' := by
  go_enter Tryz.func3, Tryz.ntmps3
  go_wp2_with fail
  refine (szBk_any x a1 a2 a3 c1 c2 c3 1048576 _ (by omega) (by omega) 0 w.heap.size (by simp) hf0 (hc.below (below_alloc _ _) (Nat.le_refl _))).mono ?_
  rintro e w1 ⟨rfl, hb1⟩
  have hB1 : Below w.heap.size w w1 := (below_alloc _ _).trans (hb1.mono (by simp))
  have H1 : Holds w1 w.heap.size (bkCells x a1 a2 a3 c1 c2 c3) := (holds_new w _ 26).below hb1 (by simp)
  have hz1 : w.heap.size < w1.heap.size := by have := hb1.size; simp at this; omega
  clear hb1
  by_cases hsz : szOut 1048576 (szBk x) < 0
  · clear H1
    go_wp2
    go_ret
    exact ⟨rfl, hB1⟩
  have hs0 : szBk x ≤ 1048576 := by
    have := (szOut_ge (l := 1048576) (s := szBk x) (by omega)).1
    omega
  have hf : BkFit x := by
    have hs1 := hs0
    unfold szBk szObs szChs szTis at hs1
    exact ⟨by omega, by omega, by omega, hf0.os, hf0.hs, hf0.ts⟩
  clear hf0
  obtain ⟨p0, p1, p2, p3, p4⟩ := holds_bk H1
  go_wp2_with fail
  refine (toBk_any x a1 a2 a3 c1 c2 c3 w1 0 w.heap.size (by omega) hf (hc.below hB1 (Nat.le_refl _))).mono ?_
  rintro e w2 ⟨e1, e2, e3, f1, f2, f3, rfl, ho2, hb2⟩
  have hB2 : Below w.heap.size w w2 := hB1.trans (hb2.mono hB1.size)
  have H2 := H1.below hb2 hz1
  have hz2 := hb2.size
  obtain ⟨bv, hbv⟩ : ∃ bv, formS x = bv := ⟨_, rfl⟩
  have HBV := hid hbv
  have HT := hid hT
  clear hT
  clear p0 p1 p2 p3 p4 hb2 hbv H1
  have HX := hid ho2
  clear ho2
  have hS := specForm_any x _ _ _ f1 f2 f3 w2 w1.heap.size w2.heap.size (Nat.le_refl _) hf HX.out.isIn
  rw [HBV.out] at hS
  go_wp2_with fail
  refine hS.mono ?_
  rintro e w3 ⟨rfl, hb3⟩
  clear hS
  have hB3 : Below w.heap.size w w3 := hB2.trans (hb3.mono hB2.size)
  have hz3 := hb3.size
  have H3 := H2.below hb3 (by omega)
  obtain ⟨p0, p1, p2, p3, p4⟩ := holds_bk H3
  have hzw3 : w.heap.size < w3.heap.size := by omega
  clear H2 hb3 HX
  go_wp2_with fail
  refine (toBk_any x a1 a2 a3 c1 c2 c3 w3 0 w.heap.size (by omega) hf (hc.below hB3 (Nat.le_refl _))).mono ?_
  rintro e w4 ⟨g1, g2, g3, d1, d2, d3, rfl, hx4, hb4⟩
  have H4 : Holds w4 w.heap.size (bkCells x a1 a2 a3 c1 c2 c3) := H3.below hb4 hzw3
  have hB4 : Below w.heap.size w w4 := hB3.trans (hb4.mono (by omega))
  have hz4 : w3.heap.size ≤ w4.heap.size := hb4.size
  have HX := hid hx4
  have hI := implForm_any x _ _ _ d1 d2 d3 (w4.alloc (.cells (bkCells x (some ⟨g1, 0, none⟩) (some ⟨g2, 0, none⟩) (some ⟨g3, 0, none⟩) d1 d2 d3) 33)) w3.heap.size w4.heap.size (by simp) hf (HX.out.isIn.below (below_alloc _ _) (Nat.le_refl _)) (HT.out.below (hB4.alloc hB4.size _))
  rw [HBV.out] at hI
  clear p0 p1 p2 p3 p4 hb4 H3 hx4
  go_wp2_with fail
  refine hI.mono ?_
  rintro e w5 ⟨rfl, hb5⟩
  clear hI
  have H5 := (H4.below (below_alloc w4 (.cells (bkCells x (some ⟨g1, 0, none⟩) (some ⟨g2, 0, none⟩) (some ⟨g3, 0, none⟩) d1 d2 d3) 33)) (by omega)).below hb5 (by simp; omega)
  have X5 : Holds w5 w4.heap.size (bkCells x (some ⟨g1, 0, none⟩) (some ⟨g2, 0, none⟩) (some ⟨g3, 0, none⟩) d1 d2 d3) := (holds_new w4 _ 33).below hb5 (by simp)
  have HX5 := hid ((HX.out.fr (Fr.of_below (lo := 0) (hi := 0) (below_alloc w4 _)) (Or.inr (Nat.zero_le _))).fr (Fr.of_below (lo := 0) (hi := 0) hb5) (Or.inr (Nat.zero_le _)))
  have hB5 : Below w.heap.size w w5 := (hB4.alloc hB4.size _).trans (hb5.mono (by simp; omega))
  have hz5 : w4.heap.size < w5.heap.size := by have := hb5.size; simp at this; omega
  have HC5 := hid (hc.below hB5 (Nat.le_refl _))
  obtain ⟨p0, p1, p2, p3, p4⟩ := holds_bk H5
  obtain ⟨q0, q1, q2, q3, q4⟩ := holds_bk X5
  have HXX := hid X5
  clear hb5 HX H4 H5 X5 hc
  go_wp2
  go_region_with (first
    | (go_at_call 6; go_must (refine (toBk_any x a1 a2 a3 c1 c2 c3 _ 0 w.heap.size (by exact hB5.size) hf (by exact HC5.out.below ((Below.refl _ _).drew) (Nat.le_refl _))).mono ?_; rintro e w7 ⟨g1', g2', g3', d1', d2', d3', rfl, hx7, hb70⟩; have hb7 : Below w5.heap.size w5 w7 := ((Below.refl _ _).drew).trans hb70; clear hb70; have HX7 := hid hx7; have hz7 := hb7.size; obtain ⟨r0, r1, r2, r3, r4⟩ := holds_bk (HXX.out.below hb7 hz5); have HB7 := hid hb7; clear hx7 hb7))
    | (go_at_call 8; go_must (refine (eqBk_any x _ _ _ _ _ _ d1 d2 d3 d1' d2' d3' _ w3.heap.size w4.heap.size w5.heap.size w7.heap.size (by omega) (by exact Nat.le_refl _) hf (by exact (HX5.out.fr (Fr.of_below (lo := 0) (hi := 0) HB7.out) (Or.inr (Nat.zero_le _))).isIn) (by exact HX7.out.isIn)).mono ?_; rintro e w8 ⟨rfl, hb8⟩)))
  all_goals
    have hb78 : Below w5.heap.size w5 w8 := HB7.out.trans (hb8.mono hz7)
    have hB8 : Below w.heap.size w w8 := hB5.trans (hb78.mono hB5.size)
    clear p0 p1 p2 p3 p4 q0 q1 q2 q3 q4 r0 r1 r2 r3 r4 HX5 HX7 HB7 hb8 hb78
    go_wp2
    go_ret
    exact ⟨rfl, hB8⟩
end Go.Proofs.YtkbghbbaldjinaaGreatDoor
