import Derived.Test.YtipdnhgdaiimlaaNb
namespace Go.Proofs.Ytipdnhgdaiimlaa
open Go.RowKit
theorem World.rangeAt_below {w w' : World} {B b : Nat} {cs : List Value} (h : w.rangeAt b 0 cs) (hb : Below B w w') (hB : b < B) : w'.rangeAt b 0 cs := fun j v hv => (hb.cell (p := ⟨b, 0 + j, none⟩) hB).trans (h j v hv)
theorem World.rangeAt_fr {w w' : World} {lo hi b : Nat} {cs : List Value} (h : w.rangeAt b 0 cs) (hb : Fr lo hi w w') (hw : b < w.heap.size) (ho : b < lo ∨ hi ≤ b) : w'.rangeAt b 0 cs := fun j v hv => (hb.cell (p := ⟨b, 0 + j, none⟩) hw ho).trans (h j v hv)
set_option maxRecDepth 100000 in
set_option maxHeartbeats 4000000 in
theorem specNew_any (n o : Int) (w : World) : Calls Try.prog 20 #[.int .i64 n, .int .i64 o] w fun e w' => e = .returned (rcZ (newN n o) (newO n o) (numOk n o)) ∧ Below w.heap.size w w' := by
  have HT := hid (there44 w)
  unfold newN newO
  obtain ⟨b1, h1⟩ : ∃ b, inB o 1 5 = b := ⟨_, rfl⟩
  obtain ⟨b2, h2⟩ : ∃ b, inB n 1 o = b := ⟨_, rfl⟩
  have hN : numOk n o = (b1 && b2) := by rw [← h1, ← h2]; rfl
  rw [hN]
  clear hN
  cases b1
  · simp only [Bool.false_and, Bool.false_eq_true, if_false]
    go_enter Try.func20, Try.ntmps20
    go_wp2_with (first | (go_at_call 34; refine (in_any _ _ _ _).mono ?_; rintro e w1 ⟨rfl, rfl⟩; rw [h1]) | ((with_reducible show wpList _ _ _ (⟨none, Op.store 44 _ _, _, _, _, _⟩ :: _) _ _); refine wpList_store_new rfl 44 _ _ rfl w.heap.size (rcL 0 0 false) rfl rfl HT.out Try.sz44 (by simp [Value.oneCell']) ?_; intro W2 hr2 hf2 hs2; have HR2 := hid hr2; have HF2 := hid hf2; clear hr2 hf2 hs2 HT))
    refine bodyPost_ret (v := rcZ 0 0 false) (results_cell_mid rfl _ _ w.heap.size (rcL 0 0 false) _ rfl HR2.out Try.underlying44 rfl Try.sz44) rfl ⟨rfl, (below_alloc _ _).trans (HF2.out.below (Nat.le_refl _) (by simp))⟩
  simp only [Bool.true_and]
  cases b2
  · simp only [Bool.false_eq_true, if_false]
    go_enter Try.func20, Try.ntmps20
    go_wp2_with (first | (go_at_call 34; refine (in_any _ _ _ _).mono ?_; rintro e w1 ⟨rfl, rfl⟩; first | rw [h1] | rw [h2]) | ((with_reducible show wpList _ _ _ (⟨none, Op.store 44 _ _, _, _, _, _⟩ :: _) _ _); refine wpList_store_new rfl 44 _ _ rfl w.heap.size (rcL 0 0 false) rfl rfl HT.out Try.sz44 (by simp [Value.oneCell']) ?_; intro W2 hr2 hf2 hs2; have HR2 := hid hr2; have HF2 := hid hf2; clear hr2 hf2 hs2 HT))
    refine bodyPost_ret (v := rcZ 0 0 false) (results_cell_mid rfl _ _ w.heap.size (rcL 0 0 false) _ rfl HR2.out Try.underlying44 rfl Try.sz44) rfl ⟨rfl, (below_alloc _ _).trans (HF2.out.below (Nat.le_refl _) (by simp))⟩
  · simp only [if_true]
    go_enter Try.func20, Try.ntmps20
    go_wp2_with (first | (go_at_call 34; refine (in_any _ _ _ _).mono ?_; rintro e w1 ⟨rfl, rfl⟩; first | rw [h1] | rw [h2]) | ((with_reducible show wpList _ _ _ (⟨none, Op.store 44 _ _, _, _, _, _⟩ :: _) _ _); refine wpList_store_new rfl 44 _ _ rfl w.heap.size (rcL n o true) rfl rfl HT.out Try.sz44 (by simp [Value.oneCell']) ?_; intro W2 hr2 hf2 hs2; have HR2 := hid hr2; have HF2 := hid hf2; clear hr2 hf2 hs2 HT))
    refine bodyPost_ret (v := rcZ n o true) (results_cell_mid rfl _ _ w.heap.size (rcL n o true) _ rfl HR2.out Try.underlying44 rfl Try.sz44) rfl ⟨rfl, (below_alloc _ _).trans (HF2.out.below (Nat.le_refl _) (by simp))⟩
set_option maxRecDepth 100000 in
set_option maxHeartbeats 4000000 in
theorem new_law (n o : Int) (w : World) : Calls Try.prog 5 #[.int .i64 n, .int .i64 o] w fun e w' => e = .returned (.bool true) ∧ Below w.heap.size w w' := by
  have cS := specNew_any n o
  have cI := implNew_any n o
  generalize newN n o = a at *
  generalize newO n o = b at *
  generalize numOk n o = u at *
  have CI := hid cI
  go_enter Try.func5, Try.ntmps5
  go_wp2_with fail
  refine (cS w).mono ?_
  rintro e w1 ⟨rfl, hb1⟩
  clear cS cI
  go_wp2_with ((with_reducible show wpList _ _ _ (⟨none, Op.store 44 _ _, _, _, _, _⟩ :: _) _ _); refine wpList_store_new rfl 44 _ _ rfl w1.heap.size (rcL a b u) rfl rfl (there44 w1) Try.sz44 (by simp [Value.oneCell']) ?_; intro V1 hr hf hs; have HRV1 := hid hr; have HFV1 := hid hf; have HSV1 := hid hs; clear hr hf hs)
  have hV1 : Below w.heap.size w V1 := (hb1.alloc hb1.size _).trans (HFV1.out.below hb1.size (by simp; have := hb1.size; omega))
  have z1 : w1.heap.size < V1.heap.size := by rw [HSV1.out]; simp
  clear hb1 HFV1 HSV1
  refine (CI.out V1).mono ?_
  rintro e w2 ⟨rfl, hb2⟩
  have R5a : Hid (w2.rangeAt w1.heap.size 0 (rcL a b u)) := hid (World.rangeAt_below HRV1.out hb2 z1)
  have hB2 : Below w.heap.size w w2 := hV1.trans (hb2.mono hV1.size)
  have z2 : w1.heap.size < w2.heap.size := Nat.lt_of_lt_of_le z1 hb2.size
  clear hb2 HRV1 z1
  go_wp2_with (first | ((with_reducible show wpList _ _ _ (⟨none, Op.store 44 _ _, _, _, _, _⟩ :: _) _ _); refine wpList_store_new rfl 44 _ _ rfl w2.heap.size (rcL a b u) rfl rfl (there44 w2) Try.sz44 (by simp [Value.oneCell']) ?_; intro V2 hr hf hs; have HRV2 := hid hr; have HFV2 := hid hf; have HSV2 := hid hs; clear hr hf hs; have R5b := hid (World.rangeAt_fr (World.rangeAt_below R5a.out (below_alloc w2 _) z2) HFV2.out (by simp; omega) (Or.inl z2))) | ((with_reducible show wpList _ _ _ (⟨some 16, Op.load 44 _, _, _, _, _⟩ :: _) _ _); refine wpList_load_mid rfl 44 _ rfl w2.heap.size 0 rfl (rcL a b u) _ HRV2.out Try.underlying44 rfl Try.sz44 ?_) | ((with_reducible show wpList _ _ _ (⟨some 17, Op.load 44 _, _, _, _, _⟩ :: _) _ _); refine wpList_load_mid rfl 44 _ rfl w1.heap.size 0 rfl (rcL a b u) _ R5b.out Try.underlying44 rfl Try.sz44 ?_))
  have hV2 : Below w.heap.size w V2 := (hB2.alloc hB2.size _).trans (HFV2.out.below hB2.size (by simp; have := hB2.size; omega))
  have z3 : w2.heap.size < V2.heap.size := by rw [HSV2.out]; simp
  clear hB2 HFV2 HSV2 R5a
  refine (eqZ_any a b u V2).mono ?_
  rintro e w3 ⟨rfl, hb3⟩
  have R5 : Hid (w3.rangeAt w1.heap.size 0 (rcL a b u)) := hid (World.rangeAt_below R5b.out hb3 (by omega))
  have R6 : Hid (w3.rangeAt w2.heap.size 0 (rcL a b u)) := hid (World.rangeAt_below HRV2.out hb3 z3)
  have hB3 : Below w.heap.size w w3 := hV2.trans (hb3.mono hV2.size)
  have z4 : w2.heap.size < w3.heap.size := Nat.lt_of_lt_of_le z3 hb3.size
  clear hb3 R5b HRV2 hV2 z3
  go_wp2_with (first | ((with_reducible show wpList _ _ _ (⟨some 20, Op.load 44 _, _, _, _, _⟩ :: _) _ _); refine wpList_load_mid rfl 44 _ rfl w2.heap.size 0 rfl (rcL a b u) _ R6.out Try.underlying44 rfl Try.sz44 ?_))
  refine (markZ a b u 1 (by omega) w3).mono ?_
  rintro e w4 ⟨rfl, hb4⟩
  have R5c : Hid (w4.rangeAt w1.heap.size 0 (rcL a b u)) := hid (World.rangeAt_below R5.out hb4 (by omega))
  have R6c : Hid (w4.rangeAt w2.heap.size 0 (rcL a b u)) := hid (World.rangeAt_below R6.out hb4 z4)
  have hB4 : Below w.heap.size w w4 := hB3.trans (hb4.mono hB3.size)
  have z5 : w2.heap.size < w4.heap.size := Nat.lt_of_lt_of_le z4 hb4.size
  clear hb4 R5 R6 hB3 z4
  go_wp2_with (first | ((with_reducible show wpList _ _ _ (⟨some 23, Op.load 44 _, _, _, _, _⟩ :: _) _ _); refine wpList_load_mid rfl 44 _ rfl w2.heap.size 0 rfl (rcL a b u) _ R6c.out Try.underlying44 rfl Try.sz44 ?_))
  refine (heldZ a b u 1 (by omega) w4).mono ?_
  rintro e w5 ⟨rfl, hb5⟩
  have R5d : Hid (w5.rangeAt w1.heap.size 0 (rcL a b u)) := hid (World.rangeAt_below R5c.out hb5 (by omega))
  have R6d : Hid (w5.rangeAt w2.heap.size 0 (rcL a b u)) := hid (World.rangeAt_below R6c.out hb5 z5)
  have hB5 : Below w.heap.size w w5 := hB4.trans (hb5.mono hB4.size)
  have z6 : w2.heap.size < w5.heap.size := Nat.lt_of_lt_of_le z5 hb5.size
  clear hb5 R5c R6c hB4 z5
  go_wp2_with fail
  refine (CI.out w5).mono ?_
  rintro e w6 ⟨rfl, hb6⟩
  have R5e : Hid (w6.rangeAt w1.heap.size 0 (rcL a b u)) := hid (World.rangeAt_below R5d.out hb6 (by omega))
  have R6e : Hid (w6.rangeAt w2.heap.size 0 (rcL a b u)) := hid (World.rangeAt_below R6d.out hb6 z6)
  have hB6 : Below w.heap.size w w6 := hB5.trans (hb6.mono hB5.size)
  have z7 : w2.heap.size < w6.heap.size := Nat.lt_of_lt_of_le z6 hb6.size
  clear hb6 R5d R6d hB5 z6
  go_wp2_with (first | ((with_reducible show wpList _ _ _ (⟨none, Op.store 44 _ _, _, _, _, _⟩ :: _) _ _); refine wpList_store_new rfl 44 _ _ rfl w6.heap.size (rcL a b u) rfl rfl (there44 w6) Try.sz44 (by simp [Value.oneCell']) ?_; intro V3 hr hf hs; have HRV3 := hid hr; have HFV3 := hid hf; have HSV3 := hid hs; clear hr hf hs; have R5f := hid (World.rangeAt_fr (World.rangeAt_below R5e.out (below_alloc w6 _) (by omega)) HFV3.out (by simp; omega) (Or.inl (by omega))); have R6f := hid (World.rangeAt_fr (World.rangeAt_below R6e.out (below_alloc w6 _) z7) HFV3.out (by simp; omega) (Or.inl z7))) | ((with_reducible show wpList _ _ _ (⟨some 34, Op.load 44 _, _, _, _, _⟩ :: _) _ _); refine wpList_load_mid rfl 44 _ rfl w6.heap.size 0 rfl (rcL a b u) _ HRV3.out Try.underlying44 rfl Try.sz44 ?_) | ((with_reducible show wpList _ _ _ (⟨some 35, Op.load 44 _, _, _, _, _⟩ :: _) _ _); refine wpList_load_mid rfl 44 _ rfl w1.heap.size 0 rfl (rcL a b u) _ R5f.out Try.underlying44 rfl Try.sz44 ?_))
  have hV3 : Below w.heap.size w V3 := (hB6.alloc hB6.size _).trans (HFV3.out.below hB6.size (by simp; have := hB6.size; omega))
  have z8 : w6.heap.size < V3.heap.size := by rw [HSV3.out]; simp
  clear hB6 HFV3 HSV3 R5e R6e
  refine (eqZ_any a b u V3).mono ?_
  rintro e w7 ⟨rfl, hb7⟩
  have R6g : Hid (w7.rangeAt w2.heap.size 0 (rcL a b u)) := hid (World.rangeAt_below R6f.out hb7 (by omega))
  have hB7 : Below w.heap.size w w7 := hV3.trans (hb7.mono hV3.size)
  clear hb7 R5f R6f HRV3 hV3
  go_wp2_with (first | ((with_reducible show wpList _ _ _ (⟨some 38, Op.load 44 _, _, _, _, _⟩ :: _) _ _); refine wpList_load_mid rfl 44 _ rfl w2.heap.size 0 rfl (rcL a b u) _ R6g.out Try.underlying44 rfl Try.sz44 ?_))
  refine (heldZ a b u 1 (by omega) w7).mono ?_
  rintro e w8 ⟨rfl, hb8⟩
  have hB8 : Below w.heap.size w w8 := hB7.trans (hb8.mono hB7.size)
  clear hb8 R6g
  go_wp2
  go_ret
  exact ⟨rfl, hB8⟩
end Go.Proofs.Ytipdnhgdaiimlaa
