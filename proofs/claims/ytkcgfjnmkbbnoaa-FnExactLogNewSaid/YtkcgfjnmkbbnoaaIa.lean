import Derived.Test.YtkcgfjnmkbbnoaaNb
namespace Go.Proofs.Ytkcgfjnmkbbnoaa
open Go.RowKit
set_option maxRecDepth 100000 in
set_option maxHeartbeats 4000000 in
theorem implNew_any (n o : Int) (w : World) : Calls Try.prog 20 #[.int .i64 n, .int .i64 o] w fun e w' => e = .returned (rcZ (newN n o) (newO n o) (numOk n o)) ∧ Below w.heap.size w w' := by
  have HT := hid (there41 w)
  unfold newN newO
  obtain ⟨b, hb⟩ : ∃ b, numOk n o = b := ⟨_, rfl⟩
  rw [hb]
  have c := isNumber_any n o
  rw [hb] at c
  cases b
  · simp only [Bool.false_eq_true, if_false]
    go_enter Try.func20, Try.ntmps20
    go_wp2_with (first | (go_at_call 19; refine (c _).mono ?_; rintro e w1 ⟨rfl, rfl⟩) | ((with_reducible show wpList _ _ _ (⟨none, Op.store 47 _ _, _, _, _, _⟩ :: _) _ _); refine wpList_store_new rfl 47 _ _ rfl w.heap.size (rcL 0 0 false) rfl rfl HT.out Try.sz47 (by simp [Value.oneCell']) ?_; intro W2 hr2 hf2 hs2; have HR2 := hid hr2; have HF2 := hid hf2; clear hr2 hf2 hs2 HT))
    refine bodyPost_ret (v := rcZ 0 0 false) (results_cell_mid rfl _ _ w.heap.size (rcL 0 0 false) _ rfl HR2.out Try.underlying47 rfl Try.sz47) rfl ⟨rfl, (below_alloc _ _).trans (HF2.out.below (Nat.le_refl _) (by simp))⟩
  · simp only [if_true]
    go_enter Try.func20, Try.ntmps20
    go_wp2_with (first | (go_at_call 19; refine (c _).mono ?_; rintro e w1 ⟨rfl, rfl⟩) | ((with_reducible show wpList _ _ _ (⟨none, Op.store 47 _ _, _, _, _, _⟩ :: _) _ _); refine wpList_store_new rfl 47 _ _ rfl w.heap.size (rcL n o true) rfl rfl HT.out Try.sz47 (by simp [Value.oneCell']) ?_; intro W2 hr2 hf2 hs2; have HR2 := hid hr2; have HF2 := hid hf2; clear hr2 hf2 hs2 HT))
    refine bodyPost_ret (v := rcZ n o true) (results_cell_mid rfl _ _ w.heap.size (rcL n o true) _ rfl HR2.out Try.underlying47 rfl Try.sz47) rfl ⟨rfl, (below_alloc _ _).trans (HF2.out.below (Nat.le_refl _) (by simp))⟩
set_option maxRecDepth 100000 in
set_option maxHeartbeats 4000000 in
theorem specNew_any (n o : Int) (w : World) : Calls Try.prog 18 #[.int .i64 n, .int .i64 o] w fun e w' => e = .returned (rcZ (newN n o) (newO n o) (numOk n o)) ∧ Below w.heap.size w w' := by
  have HT := hid (there41 w)
  unfold newN newO
  obtain ⟨b1, h1⟩ : ∃ b, inB o 1 5 = b := ⟨_, rfl⟩
  obtain ⟨b2, h2⟩ : ∃ b, inB n 1 o = b := ⟨_, rfl⟩
  have hN : numOk n o = (b1 && b2) := by rw [← h1, ← h2]; rfl
  rw [hN]
  clear hN
  cases b1
  · simp only [Bool.false_and, Bool.false_eq_true, if_false]
    go_enter Try.func18, Try.ntmps18
    go_wp2_with (first | (go_at_call 17; refine (in_any _ _ _ _).mono ?_; rintro e w1 ⟨rfl, rfl⟩; rw [h1]) | ((with_reducible show wpList _ _ _ (⟨none, Op.store 47 _ _, _, _, _, _⟩ :: _) _ _); refine wpList_store_new rfl 47 _ _ rfl w.heap.size (rcL 0 0 false) rfl rfl HT.out Try.sz47 (by simp [Value.oneCell']) ?_; intro W2 hr2 hf2 hs2; have HR2 := hid hr2; have HF2 := hid hf2; clear hr2 hf2 hs2 HT))
    refine bodyPost_ret (v := rcZ 0 0 false) (results_cell_mid rfl _ _ w.heap.size (rcL 0 0 false) _ rfl HR2.out Try.underlying47 rfl Try.sz47) rfl ⟨rfl, (below_alloc _ _).trans (HF2.out.below (Nat.le_refl _) (by simp))⟩
  simp only [Bool.true_and]
  cases b2
  · simp only [Bool.false_eq_true, if_false]
    go_enter Try.func18, Try.ntmps18
    go_wp2_with (first | (go_at_call 17; refine (in_any _ _ _ _).mono ?_; rintro e w1 ⟨rfl, rfl⟩; first | rw [h1] | rw [h2]) | ((with_reducible show wpList _ _ _ (⟨none, Op.store 47 _ _, _, _, _, _⟩ :: _) _ _); refine wpList_store_new rfl 47 _ _ rfl w.heap.size (rcL 0 0 false) rfl rfl HT.out Try.sz47 (by simp [Value.oneCell']) ?_; intro W2 hr2 hf2 hs2; have HR2 := hid hr2; have HF2 := hid hf2; clear hr2 hf2 hs2 HT))
    refine bodyPost_ret (v := rcZ 0 0 false) (results_cell_mid rfl _ _ w.heap.size (rcL 0 0 false) _ rfl HR2.out Try.underlying47 rfl Try.sz47) rfl ⟨rfl, (below_alloc _ _).trans (HF2.out.below (Nat.le_refl _) (by simp))⟩
  · simp only [if_true]
    go_enter Try.func18, Try.ntmps18
    go_wp2_with (first | (go_at_call 17; refine (in_any _ _ _ _).mono ?_; rintro e w1 ⟨rfl, rfl⟩; first | rw [h1] | rw [h2]) | ((with_reducible show wpList _ _ _ (⟨none, Op.store 47 _ _, _, _, _, _⟩ :: _) _ _); refine wpList_store_new rfl 47 _ _ rfl w.heap.size (rcL n o true) rfl rfl HT.out Try.sz47 (by simp [Value.oneCell']) ?_; intro W2 hr2 hf2 hs2; have HR2 := hid hr2; have HF2 := hid hf2; clear hr2 hf2 hs2 HT))
    refine bodyPost_ret (v := rcZ n o true) (results_cell_mid rfl _ _ w.heap.size (rcL n o true) _ rfl HR2.out Try.underlying47 rfl Try.sz47) rfl ⟨rfl, (below_alloc _ _).trans (HF2.out.below (Nat.le_refl _) (by simp))⟩
end Go.Proofs.Ytkcgfjnmkbbnoaa
