import Derived.Test.YtkcgfjnmkbbnoaaGc
import Derived.Test.YtkcgfjnmkbbnoaaGd
namespace Go.Proofs.Ytkcgfjnmkbbnoaa
open Go.RowKit
abbrev rwC (v : Rw) (V : RwA) : Array Value := #[.slice V.ra v.n V.rc, .slice V.fa v.fn V.fc, .slice V.ga v.gn V.gc]
theorem holds3 {W : World} {B : Nat} {v0 v1 v2 : Value} (h : Holds W B #[v0, v1, v2]) : W.cell? ⟨B, 0, none⟩ = some v0 ∧ W.cell? ⟨B, 1, none⟩ = some v1 ∧ W.cell? ⟨B, 2, none⟩ = some v2 := ⟨h 0, h 1, h 2⟩
theorem h3set0 {W : World} {B : Nat} {v0 v1 v2 : Value} (h : Holds W B #[v0, v1, v2]) (v : Value) : Holds (W.setCell ⟨B, 0, none⟩ v) B #[v, v1, v2] := Holds.set (i := 0) h (by simp) v
theorem h3set1 {W : World} {B : Nat} {v0 v1 v2 : Value} (h : Holds W B #[v0, v1, v2]) (v : Value) : Holds (W.setCell ⟨B, 1, none⟩ v) B #[v0, v, v2] := Holds.set (i := 1) h (by simp) v
theorem h3set2 {W : World} {B : Nat} {v0 v1 v2 : Value} (h : Holds W B #[v0, v1, v2]) (v : Value) : Holds (W.setCell ⟨B, 2, none⟩ v) B #[v0, v1, v] := Holds.set (i := 2) h (by simp) v
def szRw (v : Rw) : Nat := szRcs v.n v.x + szMss v.fn v.fs + szSls v.gn v.gs
set_option maxRecDepth 100000 in
set_option maxHeartbeats 2000000 in
theorem eqRw_any (v : Rw) (V V2 : RwA) (w : World) (lo hi lo2 hi2 : Nat) (hhi : hi ≤ w.heap.size) (hhi2 : hi2 ≤ w.heap.size) (hf : RwFit v) (hc : RwIn w lo hi v V) (hc2 : RwIn w lo2 hi2 v V2) :
    Calls Try.prog 11 #[rwV v V, rwV v V2] w fun e w' => e = .returned (.bool true) ∧ Below w.heap.size w w' := by
  have HF := hid hf
  have HI := hid hc
  have HJ := hid hc2
  clear hf hc hc2
  have hB0 : Below w.heap.size w ((w.alloc (.cells (rwC v V) 26)).alloc (.cells (rwC v V2) 26)) := (below_alloc _ _).alloc (by simp) _
  have H0 : Holds ((w.alloc (.cells (rwC v V) 26)).alloc (.cells (rwC v V2) 26)) w.heap.size (rwC v V) := (holds_new w (rwC v V) 26).below (below_alloc _ _) (by simp)
  have K0 : Holds ((w.alloc (.cells (rwC v V) 26)).alloc (.cells (rwC v V2) 26)) (w.heap.size + 1) (rwC v V2) := by
    have := holds_new (w.alloc (.cells (rwC v V) 26)) (rwC v V2) 26
    rw [World.size_alloc] at this
    exact this
  have hz0 : w.heap.size + 1 < ((w.alloc (.cells (rwC v V) 26)).alloc (.cells (rwC v V2) 26)).heap.size := by simp
  go_enter Try.func11, Try.ntmps11
  have c1 := eqRcs_any v.n v.x V.A V2.A V.ra V2.ra V.rc V2.rc ((w.alloc (.cells (rwC v V) 26)).alloc (.cells (rwC v V2) 26)) lo hi lo2 hi2 (Nat.le_trans hhi hB0.size) (Nat.le_trans hhi2 hB0.size) (by have := HF.out.n; omega) HF.out.x (HI.out.below hB0 hhi).rs (HJ.out.below hB0 hhi2).rs
  go_wp2_with fail
  refine c1.mono ?_
  clear c1
  rintro e w1 ⟨rfl, hb1⟩
  have hB1 : Below w.heap.size w w1 := hB0.trans (hb1.mono hB0.size)
  have H1 : Holds w1 w.heap.size (rwC v V) := H0.below hb1 (Nat.lt_of_succ_lt hz0)
  have K1 : Holds w1 (w.heap.size + 1) (rwC v V2) := K0.below hb1 hz0
  have hz1 : w.heap.size + 1 < w1.heap.size := Nat.lt_of_lt_of_le hz0 hb1.size
  clear hb1 H0 K0
  have c2 := eqMss_any v.fn v.fs V.fa V2.fa V.fc V2.fc w1 lo hi lo2 hi2 (Nat.le_trans hhi hB1.size) (Nat.le_trans hhi2 hB1.size) (by have := HF.out.fn; omega) (fun i h => by have := (HF.out.fs i h).n; omega) (HI.out.below hB1 hhi).fs (HJ.out.below hB1 hhi2).fs
  obtain ⟨p0, p1, p2⟩ := holds3 H1
  obtain ⟨q0, q1, q2⟩ := holds3 K1
  go_wp2_with fail
  refine c2.mono ?_
  clear c2
  rintro e w2 ⟨rfl, hb2⟩
  clear p0 p1 p2 q0 q1 q2
  have hB2 : Below w.heap.size w w2 := hB1.trans (hb2.mono hB1.size)
  have H2 : Holds w2 w.heap.size (rwC v V) := H1.below hb2 (Nat.lt_of_succ_lt hz1)
  have K2 : Holds w2 (w.heap.size + 1) (rwC v V2) := K1.below hb2 hz1
  have hz2 : w.heap.size + 1 < w2.heap.size := Nat.lt_of_lt_of_le hz1 hb2.size
  clear hb2 H1 K1
  have c3 := eqFxs_any v.gn v.gs V.ga V2.ga V.gc V2.gc w2 lo hi lo2 hi2 (Nat.le_trans hhi hB2.size) (Nat.le_trans hhi2 hB2.size) (by have := HF.out.gn; omega) (HI.out.below hB2 hhi).gs (HJ.out.below hB2 hhi2).gs
  obtain ⟨p0, p1, p2⟩ := holds3 H2
  obtain ⟨q0, q1, q2⟩ := holds3 K2
  go_wp2_with fail
  refine c3.mono ?_
  clear c3
  rintro e w3 ⟨rfl, hb3⟩
  clear p0 p1 p2 q0 q1 q2
  have hB3 : Below w.heap.size w w3 := hB2.trans (hb3.mono hB2.size)
  have H3 : Holds w3 w.heap.size (rwC v V) := H2.below hb3 (Nat.lt_of_succ_lt hz2)
  have K3 : Holds w3 (w.heap.size + 1) (rwC v V2) := K2.below hb3 hz2
  have hz3 : w.heap.size + 1 < w3.heap.size := Nat.lt_of_lt_of_le hz2 hb3.size
  clear hb3 H2 K2
  clear H3 K3
  go_wp2
  go_ret
  exact ⟨rfl, hB3⟩
end Go.Proofs.Ytkcgfjnmkbbnoaa
