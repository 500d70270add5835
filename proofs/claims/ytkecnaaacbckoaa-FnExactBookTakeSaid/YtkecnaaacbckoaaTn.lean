import Derived.Test.YtkecnaaacbckoaaNj
import Derived.Test.YtkecnaaacbckoaaRa
namespace Go.Proofs.Ytkecnaaacbckoaa
open Go.RowKit Go.Maps
set_option maxRecDepth 100000 in
set_option maxHeartbeats 400000 in
theorem szNw_any (cd fv : Int) (n : Nat) (x : Nat → Ch) (a : Option Addr) (c : Nat) (left : Int) (w : World) (h0 : 0 ≤ left) (h1 : left ≤ 1048576) (lo hi : Nat) (hhi : hi ≤ w.heap.size) (hl : (n : Int) ≤ 8796093022208) (hf : ∀ i, i < n → ObFit (x i).ob) (hc : ChgsIn w lo hi a n x) :
    Calls Try.prog 5 #[.agg #[.int .i64 cd, .slice a n c, .int .i64 fv], .int .i64 left] w fun e w' => e = .returned (.int .i64 (szOut left (szChs n x))) ∧ Below w.heap.size w w' := by
  have HC := hid (hc.below (below_alloc w (.cells #[.int .i64 cd, .slice a n c, .int .i64 fv] 27)) hhi)
  clear hc
  go_enter Try.func5, Try.ntmps5
  go_wp2_with fail
  refine (szChs_any n x a c left _ lo hi (by simp; omega) hl h0 h1 hf HC.out).mono ?_
  rintro e w1 ⟨rfl, hb1⟩
  have hB1 : Below w.heap.size w w1 := (below_alloc _ _).trans (hb1.mono (by simp))
  clear hb1
  obtain ⟨r, hr⟩ : ∃ r, szOut left (szChs n x) = r := ⟨_, rfl⟩
  have HR := hid hr
  rw [hr]
  by_cases hs : r < 0
  · have hm : r = -1 := by
      rw [← hr] at hs ⊢
      unfold szOut at hs ⊢
      split at hs
      · omega
      · rename_i h2
        rw [if_neg h2]
    subst hm
    clear hr
    go_wp2
    go_ret
    exact ⟨ret_int HR.out.symm, hB1⟩
  · clear hr
    go_wp2
    go_ret
    exact ⟨ret_int HR.out.symm, hB1⟩
set_option maxRecDepth 100000 in
set_option maxHeartbeats 800000 in
theorem toNw_any (cd fv : Int) (n : Nat) (x : Nat → Ch) (a : Option Addr) (c : Nat) (w : World) (lo hi : Nat) (hhi : hi ≤ w.heap.size) (hn : (n : Int) ≤ 1099511627776) (hf : ∀ i, i < n → ObFit (x i).ob) (hc : ChgsIn w lo hi a n x) :
    Calls Try.prog 8 #[.agg #[.int .i64 cd, .slice a n c, .int .i64 fv]] w fun e w' => ∃ g d A C hb, e = .returned (.agg #[.int .i64 cd, .slice (some ⟨g, 0, none⟩) n d, .int .i64 fv]) ∧ ChsAt w' (some ⟨g, 0, none⟩) g n x A C hb ∧ (∀ q, blkH g n (fun i => (x i).ob.hn) hb q → w.heap.size ≤ q) ∧ Below w.heap.size w w' := by
  go_enter Try.func8, Try.ntmps8
  go_wp2_with fail
  refine (toChs_any n x a c _ lo hi (by simp; omega) hn hf (hc.below (B := w.heap.size) ((((Below.refl _ _).alloc (Nat.le_refl _) _).alloc (by simp) _).alloc (by simp; omega) _) hhi)).mono ?_
  rintro e w1 ⟨d1, r1, rfl, ho1, hb1⟩
  have hB1 : Below w.heap.size w w1 := ((((Below.refl _ _).alloc (Nat.le_refl _) _).alloc (by simp) _).alloc (by simp; omega) _).trans (hb1.mono (by simp; omega))
  have hz1 : w.heap.size + 2 < w1.heap.size := by have := hb1.size; simp at this; omega
  obtain ⟨A0, A1, A2, F1, F2⟩ := three_cell hb1
  have b1 := A0 1
  have b2 := A0 2
  have p0 := A1 0
  have p1 := A1 1
  have p2 := A1 2
  have o0 := A2 0
  have o1 := A2 1
  have o2 := A2 2
  simp only [List.getElem?_toArray, List.getElem?_cons_succ, List.getElem?_cons_zero] at b1 b2 p0 p1 p2 o0 o1 o2
  simp only [World.size_alloc] at ho1 ⊢
  clear A0 A1 A2 hb1
  have HO1 := hid ho1
  clear ho1
  go_wp2
  refine bodyPost_ret (v := .agg #[.int .i64 cd, .slice (some ⟨w.heap.size + 1 + 1 + 1, 0, none⟩) n d1, .int .i64 fv]) (by simp [results, Try.results8, go_sem, p0, p1, p2]) rfl ?_
  have hT : Fr w.heap.size (w.heap.size + 3) w1 (((((w1.setCell ⟨w.heap.size + 1 + 1, 1, none⟩ (.slice (some ⟨w.heap.size + 1 + 1 + 1, 0, none⟩) n d1)).setCell ⟨w.heap.size + 1 + 1, 2, none⟩ (.int .i64 fv)).setCell ⟨w.heap.size + 1, 0, none⟩ (.int .i64 cd)).setCell ⟨w.heap.size + 1, 1, none⟩ (.slice (some ⟨w.heap.size + 1 + 1 + 1, 0, none⟩) n d1)).setCell ⟨w.heap.size + 1, 2, none⟩ (.int .i64 fv)) := by
    iterate 5 refine Fr.setCell ?_ (by simp; try omega) (by simp; try omega) _
    exact Fr.refl _ _ _
  obtain ⟨A, C, hb, at', hq⟩ := (HO1.out.fr hT (Or.inr (by omega))).at
  have x1 := HO1.out.r0
  refine ⟨_, d1, A, C, hb, rfl, at', fun q hq' => ?_, hB1.trans (Fr.below (lo := w.heap.size) (hi := w.heap.size + 3) hT (Nat.le_refl _) hB1.size)⟩
  have := hq q hq'
  omega
end Go.Proofs.Ytkecnaaacbckoaa
