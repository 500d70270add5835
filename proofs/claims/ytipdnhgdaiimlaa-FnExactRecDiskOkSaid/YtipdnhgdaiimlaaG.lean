import Derived.Test.YtipdnhgdaiimlaaE
import Derived.Test.YtipdnhgdaiimlaaX
namespace Go.Proofs.Ytipdnhgdaiimlaa
open Go.RowKit
abbrev dkC (d : Dk) (ad : Option Addr) (cap : Nat) : Array Value := #[.int .i64 d.pr, .int .i64 d.kn, .slice ad d.n cap]
theorem holds3 {W : World} {B : Nat} {v0 v1 v2 : Value} (h : Holds W B #[v0, v1, v2]) :
    W.cell? ⟨B, 0, none⟩ = some v0 ∧ W.cell? ⟨B, 1, none⟩ = some v1 ∧ W.cell? ⟨B, 2, none⟩ = some v2 := ⟨h 0, h 1, h 2⟩
set_option maxRecDepth 100000 in
set_option maxHeartbeats 4000000 in
theorem disk_law (x : Dk) (ad : Option Addr) (cap : Nat) (w : World) (hf : DkFit x) (hc : SlsIn w 0 w.heap.size ad x.n x.s) :
    Calls Try.prog 3 #[dkV x ad cap] w fun e w' => e = .returned (.bool true) ∧ Below w.heap.size w w' := by
  go_enter Try.func3, Try.ntmps3
  go_wp2_with fail
  refine (szDk_any x ad cap 1048576 _ (by omega) (by omega) 0 w.heap.size (by simp) hf (hc.below (below_alloc _ _) (Nat.le_refl _))).mono ?_
  rintro e w1 ⟨rfl, hb1⟩
  have hB1 : Below w.heap.size w w1 := (below_alloc _ _).trans (hb1.mono (by simp))
  have H1 : Holds w1 w.heap.size (dkC x ad cap) := (holds_new w _ 24).below hb1 (by simp)
  have hz1 : w.heap.size < w1.heap.size := by have := hb1.size; simp at this; omega
  clear hb1
  by_cases hsz : szOut 1048576 (szDk x) < 0
  · clear H1
    go_wp2
    go_ret
    exact ⟨rfl, hB1⟩
  have hn0 : (x.n : Int) ≤ 1099511627776 := by
    have := (szOut_ge (l := 1048576) (s := szDk x) (by omega)).1
    unfold szDk szSls at this
    omega
  obtain ⟨p0, p1, p2⟩ := holds3 H1
  go_wp2_with fail
  refine (toDk_any x ad cap w1 0 w.heap.size (by omega) hn0 (hc.below hB1 (Nat.le_refl _))).mono ?_
  rintro e w2 ⟨g2, rfl, ho2, hb2⟩
  have hB2 : Below w.heap.size w w2 := hB1.trans (hb2.mono hB1.size)
  have H2 := H1.below hb2 hz1
  have hz2 := hb2.size
  obtain ⟨bv, hbv⟩ : ∃ bv, dkB x = bv := ⟨_, rfl⟩
  have HBV := hid hbv
  clear p0 p1 p2 hb2 hbv H1
  have hS := specDisk_any x _ x.n w2 w1.heap.size w2.heap.size (Nat.le_refl _) hf ho2.isIn
  rw [HBV.out] at hS
  clear ho2
  go_wp2_with fail
  refine hS.mono ?_
  rintro e w3 ⟨rfl, hb3⟩
  clear hS
  have hB3 : Below w.heap.size w w3 := hB2.trans (hb3.mono hB2.size)
  have hz3 := hb3.size
  have H3 := H2.below hb3 (by omega)
  obtain ⟨p0, p1, p2⟩ := holds3 H3
  have hzw3 : w.heap.size < w3.heap.size := by omega
  clear H2 hb3
  go_wp2_with fail
  refine (toDk_any x ad cap w3 0 w.heap.size (by omega) hn0 (hc.below hB3 (Nat.le_refl _))).mono ?_
  rintro e w4 ⟨g4, rfl, hx4, hb4⟩
  have H4 : Holds w4 w.heap.size (dkC x ad cap) := H3.below hb4 hzw3
  have hB4 : Below w.heap.size w w4 := hB3.trans (hb4.mono (by omega))
  have hz4 : w3.heap.size ≤ w4.heap.size := hb4.size
  have HX := hid hx4
  have hI := implDisk_any x g4 0 x.n (w4.alloc (.cells (dkC x (some ⟨g4, 0, none⟩) x.n) 29)) w3.heap.size w4.heap.size (by simp) hf (Nat.le_refl _) (HX.out.isIn.below (below_alloc _ _) (Nat.le_refl _))
  rw [HBV.out] at hI
  clear p0 p1 p2 hb4 H3 hx4
  go_wp2_with fail
  refine hI.mono ?_
  rintro e w5 ⟨rfl, hb5⟩
  clear hI
  have H5 := (H4.below (below_alloc w4 (.cells (dkC x (some ⟨g4, 0, none⟩) x.n) 29)) (by omega)).below hb5 (by simp; omega)
  have X5 : Holds w5 w4.heap.size (dkC x (some ⟨g4, 0, none⟩) x.n) := (holds_new w4 _ 29).below hb5 (by simp)
  have HX5 := hid ((HX.out.isIn.below (below_alloc w4 (.cells (dkC x (some ⟨g4, 0, none⟩) x.n) 29)) (Nat.le_refl _)).below hb5 (by simp))
  have hB5 : Below w.heap.size w w5 := (hB4.alloc hB4.size _).trans (hb5.mono (by simp; omega))
  have hz5 : w4.heap.size < w5.heap.size := by have := hb5.size; simp at this; omega
  have HC5 := hid (hc.below hB5 (Nat.le_refl _))
  obtain ⟨p0, p1, p2⟩ := holds3 H5
  obtain ⟨q0, q1, q2⟩ := holds3 X5
  have HXX := hid X5
  clear hb5 HX H4 H5 X5 hc
  have hne : (bv != bv) = false := by cases bv <;> rfl
  go_wp2
  go_region_with (first
    | (go_at_call 10; go_must (refine (toDk_any x ad cap _ 0 w.heap.size (by exact hB5.size) hn0 (by exact HC5.out.below ((Below.refl _ _).drew) (Nat.le_refl _))).mono ?_; rintro e w7 ⟨g7, rfl, hx7, hb70⟩; have hb7 : Below w5.heap.size w5 w7 := ((Below.refl _ _).drew).trans hb70; clear hb70; have HX7 := hid hx7; have hz7 := hb7.size; obtain ⟨r0, r1, r2⟩ := holds3 (HXX.out.below hb7 hz5); have HB7 := hid hb7; clear hx7 hb7))
    | (go_at_call 12; go_must (refine (eqDk_any x _ _ x.n x.n _ w3.heap.size w4.heap.size w5.heap.size w7.heap.size (by omega) (by exact Nat.le_refl _) (by omega) (by exact HX5.out.below HB7.out (by omega)) (by exact HX7.out.isIn)).mono ?_; rintro e w8 ⟨rfl, hb8⟩)))
  all_goals
    have hb78 : Below w5.heap.size w5 w8 := HB7.out.trans (hb8.mono hz7)
    have hB8 : Below w.heap.size w w8 := hB5.trans (hb78.mono hB5.size)
    clear p0 p1 p2 q0 q1 q2 r0 r1 r2 HX5 HX7 HB7 hb8 hb78
    go_wp2
    go_ret
    exact ⟨rfl, hB8⟩
end Go.Proofs.Ytipdnhgdaiimlaa
