import Derived.Test.YtkecnaaacbckoaaGw
import Derived.Test.YtkecnaaacbckoaaL
import Derived.Test.YtkecnaaacbckoaaGd
namespace Go.Proofs.Ytkecnaaacbckoaa
open Go.RowKit Go.Maps
set_option maxRecDepth 100000 in
set_option maxHeartbeats 800000 in
theorem eqNw_any (cd fv : Int) (n : Nat) (x : Nat → Ch) (a b : Option Addr) (c d : Nat) (w : World) (lo hi lo2 hi2 : Nat) (hh : hi ≤ w.heap.size) (hh2 : hi2 ≤ w.heap.size) (hn : (n : Int) ≤ 140737488355328) (hf : ∀ i, i < n → ((x i).ob.hn : Int) ≤ 140737488355328) (hc : ChgsIn w lo hi a n x) (hc2 : ChgsIn w lo2 hi2 b n x) :
    Calls Try.prog 11 #[.agg #[.int .i64 cd, .slice a n c, .int .i64 fv], .agg #[.int .i64 cd, .slice b n d, .int .i64 fv]] w fun e w' => e = .returned (.bool true) ∧ Below w.heap.size w w' := by
  have HC := hid hc
  have HC2 := hid hc2
  clear hc hc2
  go_enter Try.func11, Try.ntmps11
  go_wp2_with fail
  refine (eqChs_any n x a b c d _ lo hi lo2 hi2 (by simp; omega) (by simp; omega) hn hf (HC.out.below (B := w.heap.size) ((below_alloc _ _).alloc (by simp) _) hh) (HC2.out.below (B := w.heap.size) ((below_alloc _ _).alloc (by simp) _) hh2)).mono ?_
  rintro e w1 ⟨rfl, hb1⟩
  have hB1 : Below w.heap.size w w1 := ((below_alloc _ _).alloc (by simp) _).trans (hb1.mono (by simp; omega))
  obtain ⟨A0, A1, _, _⟩ := two_cell hb1
  have u2 := A0 2
  have v2 := A1 2
  simp only [List.getElem?_toArray, List.getElem?_cons_succ, List.getElem?_cons_zero] at u2 v2
  clear A0 A1 hb1
  go_wp2
  go_ret
  exact ⟨rfl, hB1⟩
set_option maxRecDepth 100000 in
theorem markNw_own (cd fv : Int) (n : Nat) (x : Nat → Ch) (ad : Option Addr) (g : Nat) (A : Nat → Option Addr) (C hb : Nat → Nat) (c k0 : Nat) (w : World) (hl : (n : Int) ≤ 1048576) (hk1 : 1 ≤ (k0 : Int)) (hk2 : (mkChs k0 x n : Int) ≤ 1073741824) (hc : ChsAt w ad g n x A C hb) :
    Calls Try.prog 13 #[.agg #[.int .i64 cd, .slice ad n c, .int .i64 fv], .int .i64 k0] w fun e w' => e = .returned (.int .i64 (mkChs k0 x n)) ∧ ChsAt w' ad g n (ykCh k0 x n) A C hb ∧ FrP (blkH g n (fun i => (x i).ob.hn) hb) w w' := by
  have HC := hid (hc.grow (below_alloc w (.cells #[.int .i64 cd, .slice ad n c, .int .i64 fv] 38)))
  clear hc
  go_enter Try.func13, Try.ntmps13
  go_wp2_with fail
  refine (markChs_own ad g n x A C hb c k0 _ hl hk1 hk2 HC.out).mono ?_
  rintro e w1 ⟨rfl, o1, f1⟩
  have O1 := hid o1
  have F1 := hid ((FrP.of_below (P := blkH g n (fun i => (x i).ob.hn) hb) (below_alloc w (.cells #[.int .i64 cd, .slice ad n c, .int .i64 fv] 38))).trans f1)
  clear o1 f1
  go_wp2
  go_ret
  exact ⟨rfl, O1.out, F1.out⟩
end Go.Proofs.Ytkecnaaacbckoaa
