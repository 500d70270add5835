import Derived.Test.YtokkbdlofbdljaaGreatSf
import Derived.Test.YtokkbdlofbdljaaGreatYsz
namespace Go.Proofs.YtokkbdlofbdljaaGreat
open Go.RowKit
theorem wish_small {r : Rc} (h : RcSmall r) (a : ByteArray) : RcSmall (wishR r a) := by
  unfold wishR
  by_cases e : wishOk r a = true
  · rw [if_pos e]
    have h2 : (r.wn : Int) < 20 := by
      simp only [wishOk, Bool.and_eq_true, decide_eq_true_eq] at e
      exact e.2.1
    exact ⟨h.sf, h.dk, h.hn, h.hs, by show ((r.wn + 1 : Nat) : Int) ≤ 1048576; omega, h.yn, h.bn, h.an, h.as_⟩
  · rw [if_neg e]
    exact h
theorem dkB_taken {d : Dk} (h : dkB d = true) : ∀ i, i < d.kn.toNat → 0 < (d.s i).bal := fun i hi => by
  simp only [dkB, Bool.and_eq_true] at h
  have h2 := h.2.2.2.2
  simp only [dkTaken] at h2
  have := allTo_iff.1 h2 i hi
  simpa using this
set_option maxRecDepth 100000 in
set_option maxHeartbeats 8000000 in
theorem swT (r0 : Rc) (A : RcA) (a : ByteArray) (w : World) (lo hi : Nat) (hhi : hi ≤ w.heap.size) (hm : RcSmall (setR r0 r0.ld r0.tr true)) (hf : RcFit (setR r0 r0.ld r0.tr true)) (hc : RcIn w lo hi (setR r0 r0.ld r0.tr true) A) (ha : (a.size : Int) ≤ 140737488355328) :
    Calls Tryz.prog 22 #[rcV (setR r0 r0.ld r0.tr true) A, .string a] w fun e w' => ∃ A', e = .returned (rcV (outW (setR r0 r0.ld r0.tr true) a) A') ∧ RcIn w' w.heap.size w'.heap.size (outW (setR r0 r0.ld r0.tr true) a) A' ∧ Below w.heap.size w w' := by
  have HM := hid hm
  have HF := hid hf
  have HC := hid hc
  have hV := hid (specValid_any (setR r0 r0.ld r0.tr true) A)
  clear hm hf hc
  have mark : Nat := 0
  obtain ⟨bv, hbv⟩ : ∃ b, rcB (setR r0 r0.ld r0.tr true) = b := ⟨_, rfl⟩
  rw [hbv] at hV
  have HBV0 := hid hbv
  clear hbv
  cases bv
  · have OUT := hid (show outW (setR r0 r0.ld r0.tr true) a = rc0 0 0 false by simp [outW, HBV0.out])
    generalize outW (setR r0 r0.ld r0.tr true) a = O at *
    go_enter Tryz.func22, Tryz.ntmps22
    go_wp2_with (first | ((with_reducible show wpList _ _ _ (⟨some 5, _, _, _, _, _⟩ :: _) _ _); clear mark; have Q0 := hid (Bx.new2 w (rcC (setR r0 r0.ld r0.tr true) A) (rcL 0 0 false).toArray 38 38).1; have Z0 := hid (Bx.new2 w (rcC (setR r0 r0.ld r0.tr true) A) (rcL 0 0 false).toArray 38 38).2; have hB0 : Below w.heap.size w ((w.alloc (.cells (rcC (setR r0 r0.ld r0.tr true) A) 38)).alloc (.cells (rcL 0 0 false).toArray 38)) := (below_alloc _ _).alloc (by simp) _; (generalize (w.alloc (.cells (rcC (setR r0 r0.ld r0.tr true) A) 38)).alloc (.cells (rcL 0 0 false).toArray 38) = W at *)) | ((with_reducible show wpList _ _ _ (⟨some 5, Op.load 38 _, _, _, _, _⟩ :: _) _ _); refine wpList_load_mid rfl 38 _ rfl w.heap.size 0 rfl (rcC (setR r0 r0.ld r0.tr true) A).toList _ (Holds.range (cs := (rcC (setR r0 r0.ld r0.tr true) A).toList) Q0.out.cell) Tryz.underlying38 rfl Tryz.sz38 ?_) | (go_at_call 30; refine (hV.out W lo hi (Nat.le_trans hhi hB0.size) HF.out (HC.out.below hB0 hhi)).mono ?_; rintro e w1 ⟨rfl, hb1⟩; have hB1 : Below w.heap.size w w1 := hB0.trans (hb1.mono hB0.size); have Z1 := hid (Z0.out.below hb1 Z0.out.lt); have Q1 := hid (Q0.out.below hb1 Q0.out.lt); clear hb1 Q0 Z0 hB0) | ((with_reducible show wpList _ _ _ (⟨none, Op.store 38 _ _, _, _, _, _⟩ :: _) _ _); refine wpList_store_box rfl 38 _ _ rfl (w.heap.size + 1) (rcL 0 0 false) rfl rfl Z1.out rfl Tryz.sz38 (by simp [Value.oneCell']) ?_; intro V hr hfr hsv; have HBV := hid hr; have HFV := hid hfr; have HSV := hid hsv; clear hr hfr hsv))
    have hBV : Below w.heap.size w V := hB1.trans (HFV.out.below (B := w.heap.size) (Nat.le_succ _) hB1.size)
    refine bodyPost_ret (v := rcZ 0 0 false) (results_cell_mid rfl _ _ (w.heap.size + 1) (rcL 0 0 false) _ rfl (Holds.range (cs := (rcL 0 0 false)) HBV.out.cell) Tryz.underlying38 rfl Tryz.sz38) rfl ?_
    rw [OUT.out]
    exact ⟨rcA0, rfl, (RcAt.none V 0 0 false).isIn (fun k ⟨j, _, hk⟩ => absurd hk (rb_none 0 0 false j k)), hBV⟩
  have HKD := hid (dkB_known (rcB_disk HBV0.out))
  have HKT := hid (dkB_taken (rcB_disk HBV0.out))
  have OUT := hid (show outW (setR r0 r0.ld r0.tr true) a = wishR (setR r0 r0.ld r0.tr true) a by simp [outW, HBV0.out])
  generalize outW (setR r0 r0.ld r0.tr true) a = O at *
  have mark2 : Nat := 0
  go_enter Tryz.func22, Tryz.ntmps22
  go_wp2_with (first | ((with_reducible show wpList _ _ _ (⟨some 5, _, _, _, _, _⟩ :: _) _ _); clear mark; have Q0 := hid (Bx.new2 w (rcC (setR r0 r0.ld r0.tr true) A) (rcL 0 0 false).toArray 38 38).1; have Z0 := hid (Bx.new2 w (rcC (setR r0 r0.ld r0.tr true) A) (rcL 0 0 false).toArray 38 38).2; have hB0 : Below w.heap.size w ((w.alloc (.cells (rcC (setR r0 r0.ld r0.tr true) A) 38)).alloc (.cells (rcL 0 0 false).toArray 38)) := (below_alloc _ _).alloc (by simp) _; (generalize (w.alloc (.cells (rcC (setR r0 r0.ld r0.tr true) A) 38)).alloc (.cells (rcL 0 0 false).toArray 38) = W at *)) | ((with_reducible show wpList _ _ _ (⟨some 5, Op.load 38 _, _, _, _, _⟩ :: _) _ _); refine wpList_load_mid rfl 38 _ rfl w.heap.size 0 rfl (rcC (setR r0 r0.ld r0.tr true) A).toList _ (Holds.range (cs := (rcC (setR r0 r0.ld r0.tr true) A).toList) Q0.out.cell) Tryz.underlying38 rfl Tryz.sz38 ?_) | (go_at_call 30; refine (hV.out W lo hi (Nat.le_trans hhi hB0.size) HF.out (HC.out.below hB0 hhi)).mono ?_; rintro e w1 ⟨rfl, hb1⟩; have hB1 : Below w.heap.size w w1 := hB0.trans (hb1.mono hB0.size); have Z1 := hid (Z0.out.below hb1 Z0.out.lt); have Q1 := hid (Q0.out.below hb1 Q0.out.lt); clear hb1 Q0 Z0 hB0) | ((with_reducible show wpList _ _ _ (⟨some 9, _, _, _, _, _⟩ :: _) _ _); clear mark2; obtain ⟨q0, q1, q2, q3, q4, q5, q6, q7, q8, q9, q10, q11, q12, q13, q14, q15, q16, q17⟩ := holds18 Q1.out.cell) | ((with_reducible show wpList _ _ _ (⟨some 14, Op.load 38 _, _, _, _, _⟩ :: _) _ _); refine wpList_load_mid rfl 38 _ rfl w.heap.size 0 rfl (rcC (setR r0 r0.ld r0.tr true) A).toList _ (Holds.range (cs := (rcC (setR r0 r0.ld r0.tr true) A).toList) Q1.out.cell) Tryz.underlying38 rfl Tryz.sz38 ?_) | (go_at_call 31; refine (specCopy_any (setR r0 r0.ld r0.tr true) A w1 lo hi (Nat.le_trans hhi hB1.size) HM.out (HC.out.below hB1 hhi)).mono ?_; rintro e w2 ⟨p, rfl, hat, hws, hge, hb2⟩; have hB2 : Below w.heap.size w w2 := hB1.trans (hb2.mono hB1.size); have hz1x : w.heap.size + 1 + 1 ≤ w1.heap.size := Z1.out.lt; have Z2 := hid (Z1.out.below hb2 Z1.out.lt); have HAT := hid hat; have HWS := hid hws; have HGE := hid hge; clear hb2 Q1 Z1 hat hws hge hB1 q0 q1 q2 q3 q4 q5 q6 q7 q8 q9 q10 q11 q12 q13 q14 q15 q16 q17) | (go_at_call 71; refine (sWish_any (setR r0 r0.ld r0.tr true) p a w2 HM.out HAT.out HWS.out HKD.out.1 HKD.out.2 HKT.out ha).mono ?_; rintro e w3 ⟨A3, rfl, hin3, hf3⟩; have hg3 : ∀ q, rb p (setR r0 r0.ld r0.tr true) 3 q → w1.heap.size ≤ q := (fun q hq => HGE.out q ⟨3, by omega, hq⟩); have hB3 : Below w.heap.size w w3 := hB2.trans (hf3.below (B := w.heap.size) (fun q hq e => by have := hg3 q e; omega) hB2.size); have Z3 := hid (Z2.out.frP hf3 (fun e => by have := hg3 _ e; omega)); have HIN3 := hid hin3; clear hin3 hf3 hg3 Z2 HAT HWS HGE hB2) | (go_at_call 31; refine (specCopy_any (wishR (setR r0 r0.ld r0.tr true) a) A3 w3 0 w3.heap.size (Nat.le_refl _) (wish_small HM.out a) HIN3.out).mono ?_; rintro e w4 ⟨p4, rfl, hat, hws, hge, hb4⟩; have hz3 := hB3.size; have hB4 : Below w.heap.size w w4 := hB3.trans (hb4.mono hB3.size); have hz3x : w.heap.size + 1 + 1 ≤ w3.heap.size := Z3.out.lt; have Z4 := hid (Z3.out.below hb4 Z3.out.lt); have HAT4 := hid hat; have HGE4 := hid hge; clear hb4 Z3 hat hws hge hB3) | ((with_reducible show wpList _ _ _ (⟨none, Op.store 38 _ _, _, _, _, _⟩ :: _) _ _); refine wpList_store_box rfl 38 _ _ rfl (w.heap.size + 1) (rcC (wishR (setR r0 r0.ld r0.tr true) a) p4.A).toList rfl rfl Z4.out rfl Tryz.sz38 (by simp [Value.oneCell']) ?_; intro V2 hr hfr hsv; have HBV2 := hid hr; have HFV2 := hid hfr; have HSV2 := hid hsv; clear hr hfr hsv))
  have fv : FrP (fun q => q = w.heap.size + 1) w4 V2 := FrP.of_fr HFV2.out (fun k h1 h2 => by omega)
  have hBV : Below w.heap.size w V2 := hB4.trans (fv.below (B := w.heap.size) (fun k hk e => by omega) hB4.size)
  refine bodyPost_ret (v := .agg (rcC (wishR (setR r0 r0.ld r0.tr true) a) p4.A)) (results_cell_mid rfl _ _ (w.heap.size + 1) (rcC (wishR (setR r0 r0.ld r0.tr true) a) p4.A).toList _ rfl (Holds.range (cs := (rcC (wishR (setR r0 r0.ld r0.tr true) a) p4.A).toList) HBV2.out.cell) Tryz.underlying38 rfl Tryz.sz38) rfl ?_
  rw [OUT.out]
  exact ⟨p4.A, rfl, (HAT4.out.fr fv (fun k hk e => by have := HGE4.out k hk; omega)).isIn (fun k hk => ⟨by have := HGE4.out k hk; omega, Nat.lt_of_lt_of_le (HAT4.out.lt k hk) fv.size⟩), hBV⟩
set_option maxRecDepth 100000 in
set_option maxHeartbeats 8000000 in
theorem swF (r0 : Rc) (A : RcA) (a : ByteArray) (w : World) (lo hi : Nat) (hhi : hi ≤ w.heap.size) (hm : RcSmall (setR r0 r0.ld r0.tr false)) (hf : RcFit (setR r0 r0.ld r0.tr false)) (hc : RcIn w lo hi (setR r0 r0.ld r0.tr false) A) (_ha : (a.size : Int) ≤ 140737488355328) :
    Calls Tryz.prog 22 #[rcV (setR r0 r0.ld r0.tr false) A, .string a] w fun e w' => ∃ A', e = .returned (rcV (outW (setR r0 r0.ld r0.tr false) a) A') ∧ RcIn w' w.heap.size w'.heap.size (outW (setR r0 r0.ld r0.tr false) a) A' ∧ Below w.heap.size w w' := by
  have HM := hid hm
  have HF := hid hf
  have HC := hid hc
  have hV := hid (specValid_any (setR r0 r0.ld r0.tr false) A)
  clear hm hf hc
  have mark : Nat := 0
  obtain ⟨bv, hbv⟩ : ∃ b, rcB (setR r0 r0.ld r0.tr false) = b := ⟨_, rfl⟩
  rw [hbv] at hV
  have HBV0 := hid hbv
  clear hbv
  cases bv
  · have OUT := hid (show outW (setR r0 r0.ld r0.tr false) a = rc0 0 0 false by simp [outW, HBV0.out])
    generalize outW (setR r0 r0.ld r0.tr false) a = O at *
    go_enter Tryz.func22, Tryz.ntmps22
    go_wp2_with (first | ((with_reducible show wpList _ _ _ (⟨some 5, _, _, _, _, _⟩ :: _) _ _); clear mark; have Q0 := hid (Bx.new2 w (rcC (setR r0 r0.ld r0.tr false) A) (rcL 0 0 false).toArray 38 38).1; have Z0 := hid (Bx.new2 w (rcC (setR r0 r0.ld r0.tr false) A) (rcL 0 0 false).toArray 38 38).2; have hB0 : Below w.heap.size w ((w.alloc (.cells (rcC (setR r0 r0.ld r0.tr false) A) 38)).alloc (.cells (rcL 0 0 false).toArray 38)) := (below_alloc _ _).alloc (by simp) _; (generalize (w.alloc (.cells (rcC (setR r0 r0.ld r0.tr false) A) 38)).alloc (.cells (rcL 0 0 false).toArray 38) = W at *)) | ((with_reducible show wpList _ _ _ (⟨some 5, Op.load 38 _, _, _, _, _⟩ :: _) _ _); refine wpList_load_mid rfl 38 _ rfl w.heap.size 0 rfl (rcC (setR r0 r0.ld r0.tr false) A).toList _ (Holds.range (cs := (rcC (setR r0 r0.ld r0.tr false) A).toList) Q0.out.cell) Tryz.underlying38 rfl Tryz.sz38 ?_) | (go_at_call 30; refine (hV.out W lo hi (Nat.le_trans hhi hB0.size) HF.out (HC.out.below hB0 hhi)).mono ?_; rintro e w1 ⟨rfl, hb1⟩; have hB1 : Below w.heap.size w w1 := hB0.trans (hb1.mono hB0.size); have Z1 := hid (Z0.out.below hb1 Z0.out.lt); have Q1 := hid (Q0.out.below hb1 Q0.out.lt); clear hb1 Q0 Z0 hB0) | ((with_reducible show wpList _ _ _ (⟨none, Op.store 38 _ _, _, _, _, _⟩ :: _) _ _); refine wpList_store_box rfl 38 _ _ rfl (w.heap.size + 1) (rcL 0 0 false) rfl rfl Z1.out rfl Tryz.sz38 (by simp [Value.oneCell']) ?_; intro V hr hfr hsv; have HBV := hid hr; have HFV := hid hfr; have HSV := hid hsv; clear hr hfr hsv))
    have hBV : Below w.heap.size w V := hB1.trans (HFV.out.below (B := w.heap.size) (Nat.le_succ _) hB1.size)
    refine bodyPost_ret (v := rcZ 0 0 false) (results_cell_mid rfl _ _ (w.heap.size + 1) (rcL 0 0 false) _ rfl (Holds.range (cs := (rcL 0 0 false)) HBV.out.cell) Tryz.underlying38 rfl Tryz.sz38) rfl ?_
    rw [OUT.out]
    exact ⟨rcA0, rfl, (RcAt.none V 0 0 false).isIn (fun k ⟨j, _, hk⟩ => absurd hk (rb_none 0 0 false j k)), hBV⟩
  have HKD := hid (dkB_known (rcB_disk HBV0.out))
  have HKT := hid (dkB_taken (rcB_disk HBV0.out))
  have OUT := hid (show outW (setR r0 r0.ld r0.tr false) a = (setR r0 r0.ld r0.tr false) by simp [outW, HBV0.out])
  generalize outW (setR r0 r0.ld r0.tr false) a = O at *
  have mark2 : Nat := 0
  go_enter Tryz.func22, Tryz.ntmps22
  go_wp2_with (first | ((with_reducible show wpList _ _ _ (⟨some 5, _, _, _, _, _⟩ :: _) _ _); clear mark; have Q0 := hid (Bx.new2 w (rcC (setR r0 r0.ld r0.tr false) A) (rcL 0 0 false).toArray 38 38).1; have Z0 := hid (Bx.new2 w (rcC (setR r0 r0.ld r0.tr false) A) (rcL 0 0 false).toArray 38 38).2; have hB0 : Below w.heap.size w ((w.alloc (.cells (rcC (setR r0 r0.ld r0.tr false) A) 38)).alloc (.cells (rcL 0 0 false).toArray 38)) := (below_alloc _ _).alloc (by simp) _; (generalize (w.alloc (.cells (rcC (setR r0 r0.ld r0.tr false) A) 38)).alloc (.cells (rcL 0 0 false).toArray 38) = W at *)) | ((with_reducible show wpList _ _ _ (⟨some 5, Op.load 38 _, _, _, _, _⟩ :: _) _ _); refine wpList_load_mid rfl 38 _ rfl w.heap.size 0 rfl (rcC (setR r0 r0.ld r0.tr false) A).toList _ (Holds.range (cs := (rcC (setR r0 r0.ld r0.tr false) A).toList) Q0.out.cell) Tryz.underlying38 rfl Tryz.sz38 ?_) | (go_at_call 30; refine (hV.out W lo hi (Nat.le_trans hhi hB0.size) HF.out (HC.out.below hB0 hhi)).mono ?_; rintro e w1 ⟨rfl, hb1⟩; have hB1 : Below w.heap.size w w1 := hB0.trans (hb1.mono hB0.size); have Z1 := hid (Z0.out.below hb1 Z0.out.lt); have Q1 := hid (Q0.out.below hb1 Q0.out.lt); clear hb1 Q0 Z0 hB0) | ((with_reducible show wpList _ _ _ (⟨some 9, _, _, _, _, _⟩ :: _) _ _); clear mark2; obtain ⟨q0, q1, q2, q3, q4, q5, q6, q7, q8, q9, q10, q11, q12, q13, q14, q15, q16, q17⟩ := holds18 Q1.out.cell) | ((with_reducible show wpList _ _ _ (⟨some 12, Op.load 38 _, _, _, _, _⟩ :: _) _ _); refine wpList_load_mid rfl 38 _ rfl w.heap.size 0 rfl (rcC (setR r0 r0.ld r0.tr false) A).toList _ (Holds.range (cs := (rcC (setR r0 r0.ld r0.tr false) A).toList) Q1.out.cell) Tryz.underlying38 rfl Tryz.sz38 ?_) | (go_at_call 31; refine (specCopy_any (setR r0 r0.ld r0.tr false) A w1 lo hi (Nat.le_trans hhi hB1.size) HM.out (HC.out.below hB1 hhi)).mono ?_; rintro e w2 ⟨p, rfl, hat, hws, hge, hb2⟩; have hB2 : Below w.heap.size w w2 := hB1.trans (hb2.mono hB1.size); have hz1x : w.heap.size + 1 + 1 ≤ w1.heap.size := Z1.out.lt; have Z2 := hid (Z1.out.below hb2 Z1.out.lt); have HAT := hid hat; have HGE := hid hge; clear hb2 Q1 Z1 hat hws hge hB1 q0 q1 q2 q3 q4 q5 q6 q7 q8 q9 q10 q11 q12 q13 q14 q15 q16 q17) | ((with_reducible show wpList _ _ _ (⟨none, Op.store 38 _ _, _, _, _, _⟩ :: _) _ _); refine wpList_store_box rfl 38 _ _ rfl (w.heap.size + 1) (rcC (setR r0 r0.ld r0.tr false) p.A).toList rfl rfl Z2.out rfl Tryz.sz38 (by simp [Value.oneCell']) ?_; intro V2 hr hfr hsv; have HBV2 := hid hr; have HFV2 := hid hfr; have HSV2 := hid hsv; clear hr hfr hsv))
  have fv : FrP (fun q => q = w.heap.size + 1) w2 V2 := FrP.of_fr HFV2.out (fun k h1 h2 => by omega)
  have hBV : Below w.heap.size w V2 := hB2.trans (fv.below (B := w.heap.size) (fun k hk e => by omega) hB2.size)
  refine bodyPost_ret (v := .agg (rcC (setR r0 r0.ld r0.tr false) p.A)) (results_cell_mid rfl _ _ (w.heap.size + 1) (rcC (setR r0 r0.ld r0.tr false) p.A).toList _ rfl (Holds.range (cs := (rcC (setR r0 r0.ld r0.tr false) p.A).toList) HBV2.out.cell) Tryz.underlying38 rfl Tryz.sz38) rfl ?_
  rw [OUT.out]
  exact ⟨p.A, rfl, (HAT.out.fr fv (fun k hk e => by have := HGE.out k hk; omega)).isIn (fun k hk => ⟨by have := HGE.out k hk; omega, Nat.lt_of_lt_of_le (HAT.out.lt k hk) fv.size⟩), hBV⟩
theorem specWish_any (r : Rc) (A : RcA) (a : ByteArray) (w : World) (lo hi : Nat) (hhi : hi ≤ w.heap.size) (hm : RcSmall r) (hf : RcFit r) (hc : RcIn w lo hi r A) (ha : (a.size : Int) ≤ 140737488355328) :
    Calls Tryz.prog 22 #[rcV r A, .string a] w fun e w' => ∃ A', e = .returned (rcV (outW r a) A') ∧ RcIn w' w.heap.size w'.heap.size (outW r a) A' ∧ Below w.heap.size w w' := by
  obtain ⟨num, of, up, sf, dk, hn', hs, wn, ws, ld, tr, bal, yn, ys, bn, bs, an, as', hd⟩ := r
  cases up
  · exact swF ⟨num, of, false, sf, dk, hn', hs, wn, ws, ld, tr, bal, yn, ys, bn, bs, an, as', hd⟩ A a w lo hi hhi hm hf hc ha
  · exact swT ⟨num, of, true, sf, dk, hn', hs, wn, ws, ld, tr, bal, yn, ys, bn, bs, an, as', hd⟩ A a w lo hi hhi hm hf hc ha
end Go.Proofs.YtokkbdlofbdljaaGreat
