import Derived.Test.YtokkbdlofbdljaaGreatCf
namespace Go.Proofs.YtokkbdlofbdljaaGreat
open Go.RowKit
theorem Bx.new (w : World) (c : Array Value) (t : TypeId) : Bx (w.alloc (.cells c t)) w.heap.size c := ⟨holds_new w c t, fun i => World.frozen?_alloc_at _ _ _ _ rfl, by simp⟩
theorem Bx.new2 (w : World) (c d : Array Value) (t t2 : TypeId) : Bx ((w.alloc (.cells c t)).alloc (.cells d t2)) w.heap.size c ∧ Bx ((w.alloc (.cells c t)).alloc (.cells d t2)) (w.heap.size + 1) d :=
  ⟨(Bx.new w c t).below (below_alloc _ _) (by simp), by have := Bx.new (w.alloc (.cells c t)) d t2; rw [World.size_alloc] at this; exact this⟩
theorem wpList_store_box {P : Program} {ops : Array Oper} {rest : List Oper} {op : Oper} {a : Act} {w : World} {Q : Exit → Act → World → Prop} (hgd : op.guard = none) (ty : TypeId) (x y : Operand) (ho : op.op = .store ty x y)
    (b : Nat) (cs : List Value) (hx : a.eval x = .pointer (some ⟨b, 0, none⟩)) (hy : a.eval y = .agg cs.toArray) {c : Array Value}
    (hb : Bx w b c) (hsz : c.size = cs.length) (hi : (P.info? ty).map (·.size) = some cs.length) (h1 : ∀ v ∈ cs, v.oneCell' = true)
    (h : ∀ W2 : World, Bx W2 b cs.toArray → Fr b (b + 1) w W2 → W2.heap.size = w.heap.size → wpList P ops Q rest (a.put op.dst undef) W2) : wpList P ops Q (op :: rest) a w := by
  have ht : w.there b 0 cs.length := hsz ▸ hb.there
  refine wpList_store_mid hgd ty x y ho b 0 cs.toArray hx hy (by simpa using ht) (by simpa using hi) (all_oneCell_toArray h1) (h _ ⟨fun i => ?_, fun i => ?_, ?_⟩ (fr_setCells _ _ _ _) (size_setCells _ _ _ _))
  · rcases Nat.lt_or_ge i cs.length with hl | hl
    · have := World.rangeAt_setCells_same w b 0 cs ht i cs[i] (List.getElem?_eq_getElem hl)
      rw [Nat.zero_add] at this
      rw [List.getElem?_toArray, List.getElem?_eq_getElem hl]
      exact this
    · rw [World.cell?_setCells_out b cs 0 w ⟨b, i, none⟩ (fun _ _ => Or.inr (by show 0 + cs.length ≤ i; omega)), hb.cell i, Array.getElem?_eq_none (by omega), List.getElem?_toArray, List.getElem?_eq_none (by omega)]
  · rw [World.frozen?_setCells]; exact hb.free i
  · rw [size_setCells]; exact hb.lt
abbrev pN : RcP := ⟨rcA0, 0, 0, 0, 0, 0, 0, 0, fun _ => none, fun _ => 0, fun _ => 0, fun _ => none, fun _ => 0, fun _ => 0⟩
theorem rb_none (n o : Int) (u : Bool) (j k : Nat) : ¬ rb pN (rc0 n o u) j k := by
  unfold rb
  split
  · exact fun h => h.1 rfl
  · exact fun h => h.1 rfl
  · rintro (⟨h, _⟩ | ⟨i, h, _⟩) <;> exact absurd h (Nat.not_lt_zero _)
  · exact fun h => h.1 rfl
  · exact fun h => h.1 rfl
  · exact fun h => h.1 rfl
  · rintro (⟨h, _⟩ | ⟨i, h, _⟩) <;> exact absurd h (Nat.not_lt_zero _)
theorem RcAt.none (w : World) (n o : Int) (u : Bool) : RcAt w (rc0 n o u) pN :=
  ⟨⟨fun h => absurd h (Nat.lt_irrefl _), fun h => absurd h (Nat.lt_irrefl _)⟩, ⟨fun h => absurd h (Nat.lt_irrefl _), fun h => absurd h (Nat.lt_irrefl _)⟩, ⟨fun h => absurd h (Nat.lt_irrefl _), fun h => absurd h (Nat.lt_irrefl _), fun _i hi => absurd hi (Nat.not_lt_zero _), fun _i hi => absurd hi (Nat.not_lt_zero _), ⟨fun _i hi => absurd hi (Nat.not_lt_zero _), fun _i _j hi => absurd hi (Nat.not_lt_zero _)⟩⟩, fun _i hi => absurd hi (Nat.not_lt_zero _), fun _i hi => absurd hi (Nat.not_lt_zero _), ⟨fun h => absurd h (Nat.lt_irrefl _), fun h => absurd h (Nat.lt_irrefl _)⟩, ⟨fun h => absurd h (Nat.lt_irrefl _), fun h => absurd h (Nat.lt_irrefl _), fun _i hi => absurd hi (Nat.not_lt_zero _), fun _i hi => absurd hi (Nat.not_lt_zero _), ⟨fun _i hi => absurd hi (Nat.not_lt_zero _), fun _i _j hi => absurd hi (Nat.not_lt_zero _)⟩⟩,
   fun k ⟨j, _, hk⟩ => absurd hk (rb_none n o u j k), fun i _j k _ _ h => absurd h (rb_none n o u i k)⟩
theorem dkB_known {d : Dk} (h : dkB d = true) : 0 ≤ d.kn ∧ d.kn ≤ d.n := by
  simp only [dkB, Bool.and_eq_true] at h
  exact inB_of h.2.2.2.1
theorem rcB_disk {r : Rc} (h : rcB r = true) : dkB r.dk = true := by
  simp only [rcB, restB, Bool.and_eq_true] at h
  exact h.2.2.2.1
/-- what RecWish answers -/
def outW (r : Rc) (a : ByteArray) : Rc := if rcB r then (if r.up then wishR r a else r) else rc0 0 0 false
set_option maxRecDepth 100000 in
set_option maxHeartbeats 8000000 in
theorem iwT (r0 : Rc) (A : RcA) (a : ByteArray) (w : World) (lo hi : Nat) (hhi : hi ≤ w.heap.size) (hm : RcSmall (setR r0 r0.ld r0.tr true)) (hf : RcFit (setR r0 r0.ld r0.tr true)) (hn : RcNew (setR r0 r0.ld r0.tr true) A) (hc : RcIn w lo hi (setR r0 r0.ld r0.tr true) A) (ha : (a.size : Int) ≤ 140737488355328) :
    Calls Tryz.prog 23 #[rcV (setR r0 r0.ld r0.tr true) A, .string a] w fun e w' => ∃ p, e = .returned (rcV (outW (setR r0 r0.ld r0.tr true) a) p.A) ∧ RcAt w' (outW (setR r0 r0.ld r0.tr true) a) p ∧ (∀ k, rbs p (outW (setR r0 r0.ld r0.tr true) a) k → w.heap.size ≤ k) ∧ Below w.heap.size w w' := by
  have HM := hid hm
  have HF := hid hf
  have HN := hid hn
  have HC := hid hc
  have hV := hid (implValid_any (setR r0 r0.ld r0.tr true) A)
  clear hm hf hn hc
  have mark : Nat := 0
  obtain ⟨bv, hbv⟩ : ∃ b, rcB (setR r0 r0.ld r0.tr true) = b := ⟨_, rfl⟩
  rw [hbv] at hV
  have HBV0 := hid hbv
  clear hbv
  cases bv
  · have OUT := hid (show outW (setR r0 r0.ld r0.tr true) a = rc0 0 0 false by simp [outW, HBV0.out])
    generalize outW (setR r0 r0.ld r0.tr true) a = O at *
    go_enter Tryz.func23, Tryz.ntmps23
    go_wp2_with (first | ((with_reducible show wpList _ _ _ (⟨some 6, _, _, _, _, _⟩ :: _) _ _); clear mark; have Q0 := hid (Bx.new2 w (rcC (setR r0 r0.ld r0.tr true) A) (rcL 0 0 false).toArray 38 38).1; have Z0 := hid (Bx.new2 w (rcC (setR r0 r0.ld r0.tr true) A) (rcL 0 0 false).toArray 38 38).2; have hB0 : Below w.heap.size w ((w.alloc (.cells (rcC (setR r0 r0.ld r0.tr true) A) 38)).alloc (.cells (rcL 0 0 false).toArray 38)) := (below_alloc _ _).alloc (by simp) _; (generalize (w.alloc (.cells (rcC (setR r0 r0.ld r0.tr true) A) 38)).alloc (.cells (rcL 0 0 false).toArray 38) = W at *)) | ((with_reducible show wpList _ _ _ (⟨some 6, Op.load 38 _, _, _, _, _⟩ :: _) _ _); refine wpList_load_mid rfl 38 _ rfl w.heap.size 0 rfl (rcC (setR r0 r0.ld r0.tr true) A).toList _ (Holds.range (cs := (rcC (setR r0 r0.ld r0.tr true) A).toList) Q0.out.cell) Tryz.underlying38 rfl Tryz.sz38 ?_) | (go_at_call 47; refine (hV.out W lo hi (Nat.le_trans hhi hB0.size) HF.out HN.out (HC.out.below hB0 hhi)).mono ?_; rintro e w1 ⟨rfl, hb1⟩; have hB1 : Below w.heap.size w w1 := hB0.trans (hb1.mono hB0.size); have Z1 := hid (Z0.out.below hb1 Z0.out.lt); have Q1 := hid (Q0.out.below hb1 Q0.out.lt); clear hb1 Q0 Z0 hB0) | ((with_reducible show wpList _ _ _ (⟨none, Op.store 38 _ _, _, _, _, _⟩ :: _) _ _); refine wpList_store_box rfl 38 _ _ rfl (w.heap.size + 1) (rcL 0 0 false) rfl rfl Z1.out rfl Tryz.sz38 (by simp [Value.oneCell']) ?_; intro V hr hfr hsv; have HBV := hid hr; have HFV := hid hfr; have HSV := hid hsv; clear hr hfr hsv))
    have hBV : Below w.heap.size w V := hB1.trans (HFV.out.below (B := w.heap.size) (Nat.le_succ _) hB1.size)
    refine bodyPost_ret (v := rcZ 0 0 false) (results_cell_mid rfl _ _ (w.heap.size + 1) (rcL 0 0 false) _ rfl (Holds.range (cs := (rcL 0 0 false)) HBV.out.cell) Tryz.underlying38 rfl Tryz.sz38) rfl ?_
    rw [OUT.out]
    exact ⟨pN, rfl, RcAt.none _ _ _ _, fun k ⟨j, _, hk⟩ => absurd hk (rb_none 0 0 false j k), hBV⟩
  have HKD := hid (dkB_known (rcB_disk HBV0.out))
  have OUT := hid (show outW (setR r0 r0.ld r0.tr true) a = wishR (setR r0 r0.ld r0.tr true) a by simp [outW, HBV0.out])
  generalize outW (setR r0 r0.ld r0.tr true) a = O at *
  have mark2 : Nat := 0
  go_enter Tryz.func23, Tryz.ntmps23
  go_wp2_with (first | ((with_reducible show wpList _ _ _ (⟨some 6, _, _, _, _, _⟩ :: _) _ _); clear mark; have Q0 := hid (Bx.new2 w (rcC (setR r0 r0.ld r0.tr true) A) (rcL 0 0 false).toArray 38 38).1; have Z0 := hid (Bx.new2 w (rcC (setR r0 r0.ld r0.tr true) A) (rcL 0 0 false).toArray 38 38).2; have hB0 : Below w.heap.size w ((w.alloc (.cells (rcC (setR r0 r0.ld r0.tr true) A) 38)).alloc (.cells (rcL 0 0 false).toArray 38)) := (below_alloc _ _).alloc (by simp) _; (generalize (w.alloc (.cells (rcC (setR r0 r0.ld r0.tr true) A) 38)).alloc (.cells (rcL 0 0 false).toArray 38) = W at *)) | ((with_reducible show wpList _ _ _ (⟨some 6, Op.load 38 _, _, _, _, _⟩ :: _) _ _); refine wpList_load_mid rfl 38 _ rfl w.heap.size 0 rfl (rcC (setR r0 r0.ld r0.tr true) A).toList _ (Holds.range (cs := (rcC (setR r0 r0.ld r0.tr true) A).toList) Q0.out.cell) Tryz.underlying38 rfl Tryz.sz38 ?_) | (go_at_call 47; refine (hV.out W lo hi (Nat.le_trans hhi hB0.size) HF.out HN.out (HC.out.below hB0 hhi)).mono ?_; rintro e w1 ⟨rfl, hb1⟩; have hB1 : Below w.heap.size w w1 := hB0.trans (hb1.mono hB0.size); have Z1 := hid (Z0.out.below hb1 Z0.out.lt); have Q1 := hid (Q0.out.below hb1 Q0.out.lt); clear hb1 Q0 Z0 hB0) | ((with_reducible show wpList _ _ _ (⟨some 10, Op.load 38 _, _, _, _, _⟩ :: _) _ _); refine wpList_load_mid rfl 38 _ rfl w.heap.size 0 rfl (rcC (setR r0 r0.ld r0.tr true) A).toList _ (Holds.range (cs := (rcC (setR r0 r0.ld r0.tr true) A).toList) Q1.out.cell) Tryz.underlying38 rfl Tryz.sz38 ?_) | (go_at_call 48; refine (recCopy_any (setR r0 r0.ld r0.tr true) A w1 lo hi (Nat.le_trans hhi hB1.size) HM.out (HC.out.below hB1 hhi)).mono ?_; rintro e w2 ⟨p, rfl, hat, htt, hge, hb2⟩; have hB2 : Below w.heap.size w w2 := hB1.trans (hb2.mono hB1.size); have Z2 := hid (Z1.out.below hb2 Z1.out.lt); have Q2 := hid (Q1.out.below hb2 Q1.out.lt); have HAT := hid hat; have HTT := hid htt; have hsz1 := hB1.size; have hsz12 := hb2.size; have HGE := hid hge; have hz1x : w.heap.size + 1 + 1 ≤ w1.heap.size := Z1.out.lt; clear hb2 Q1 Z1 hat htt hge hB1) | ((with_reducible show wpList _ _ _ (⟨none, Op.store 38 _ _, _, _, _, _⟩ :: _) _ _); refine wpList_store_box rfl 38 _ _ rfl w2.heap.size (rcC (setR r0 r0.ld r0.tr true) p.A).toList rfl rfl (Bx.new w2 (rcL 0 0 false).toArray 38) rfl Tryz.sz38 (by simp [Value.oneCell']) ?_; intro V hr hfr hsv; have B5 := hid hr; have hb3 : Below w2.heap.size w2 V := (below_alloc w2 _).trans (hfr.below (B := w2.heap.size) (Nat.le_refl _) (by simp)); have hB3 : Below w.heap.size w V := hB2.trans (hb3.mono hB2.size); have Z3 := hid (Z2.out.below hb3 Z2.out.lt); have hs1 := Z2.out.lt; have Q3 := hid (Q2.out.below hb3 Q2.out.lt); have A3 := hid (HAT.out.grow hb3); have hsz2 := hB2.size; have hsz3 := hb3.size; have HLT := hid HAT.out.lt; clear hr hfr hsv hb3 Z2 Q2 hB2 HAT) | ((with_reducible show wpList _ _ _ (⟨some 12, _, _, _, _, _⟩ :: _) _ _); clear mark2; obtain ⟨q0, q1, q2, q3, q4, q5, q6, q7, q8, q9, q10, q11, q12, q13, q14, q15, q16, q17⟩ := holds18 Q3.out.cell) | (go_at_call 72; refine (wishInto_any (setR r0 r0.ld r0.tr true) p w2.heap.size a V HM.out B5.out A3.out (fun k hk e => by have := HLT.out k hk; omega) HTT.out HKD.out.1 HKD.out.2 ha).mono ?_; rintro e w4 ⟨rfl, p2, bx, at2, hk2, f2⟩; have B6 := hid bx; have A6 := hid at2; have K6 := hid hk2; have F6 := hid f2; have Z4 := hid (Z3.out.frP f2 (by omega)); have hsz4 := f2.size; clear bx at2 hk2 f2 B5 A3 Z3 Q3 q0 q1 q2 q3 q4 q5 q6 q7 q8 q9 q10 q11 q12 q13 q14 q15 q16 q17) | ((with_reducible show wpList _ _ _ (⟨some 16, Op.load 38 _, _, _, _, _⟩ :: _) _ _); refine wpList_load_mid rfl 38 _ rfl w2.heap.size 0 rfl (rcC (wishR (setR r0 r0.ld r0.tr true) a) p2.A).toList _ (Holds.range (cs := (rcC (wishR (setR r0 r0.ld r0.tr true) a) p2.A).toList) B6.out.cell) Tryz.underlying38 rfl Tryz.sz38 ?_) | ((with_reducible show wpList _ _ _ (⟨none, Op.store 38 _ _, _, _, _, _⟩ :: _) _ _); refine wpList_store_box rfl 38 _ _ rfl (w.heap.size + 1) (rcC (wishR (setR r0 r0.ld r0.tr true) a) p2.A).toList rfl rfl Z4.out rfl Tryz.sz38 (by simp [Value.oneCell']) ?_; intro V2 hr hfr hsv; have HBV2 := hid hr; have HFV2 := hid hfr; have HSV2 := hid hsv; clear hr hfr hsv))
  have fv : FrP (fun q => q = w.heap.size + 1) w4 V2 := FrP.of_fr HFV2.out (fun k h1 h2 => by omega)
  have hBV : Below w.heap.size w V2 := hB3.trans ((F6.out.below (B := w.heap.size) (fun k hk e => by omega) (by omega)).trans (fv.below (B := w.heap.size) (fun k hk e => by omega) (by omega)))
  refine bodyPost_ret (v := .agg (rcC (wishR (setR r0 r0.ld r0.tr true) a) p2.A)) (results_cell_mid rfl _ _ (w.heap.size + 1) (rcC (wishR (setR r0 r0.ld r0.tr true) a) p2.A).toList _ rfl (Holds.range (cs := (rcC (wishR (setR r0 r0.ld r0.tr true) a) p2.A).toList) HBV2.out.cell) Tryz.underlying38 rfl Tryz.sz38) rfl ?_
  rw [OUT.out]
  have ge : ∀ k, rbs p2 (wishR (setR r0 r0.ld r0.tr true) a) k → w.heap.size + 1 < k := fun k hk => by
    rcases K6.out k hk with h | h
    · have := HGE.out k h; omega
    · omega
  exact ⟨p2, rfl, A6.out.fr fv (fun k hk e => by have := ge k hk; omega), fun k hk => by have := ge k hk; omega, hBV⟩
set_option maxRecDepth 100000 in
set_option maxHeartbeats 8000000 in
theorem iwF (r0 : Rc) (A : RcA) (a : ByteArray) (w : World) (lo hi : Nat) (hhi : hi ≤ w.heap.size) (hm : RcSmall (setR r0 r0.ld r0.tr false)) (hf : RcFit (setR r0 r0.ld r0.tr false)) (hn : RcNew (setR r0 r0.ld r0.tr false) A) (hc : RcIn w lo hi (setR r0 r0.ld r0.tr false) A) (_ha : (a.size : Int) ≤ 140737488355328) :
    Calls Tryz.prog 23 #[rcV (setR r0 r0.ld r0.tr false) A, .string a] w fun e w' => ∃ p, e = .returned (rcV (outW (setR r0 r0.ld r0.tr false) a) p.A) ∧ RcAt w' (outW (setR r0 r0.ld r0.tr false) a) p ∧ (∀ k, rbs p (outW (setR r0 r0.ld r0.tr false) a) k → w.heap.size ≤ k) ∧ Below w.heap.size w w' := by
  have HM := hid hm
  have HF := hid hf
  have HN := hid hn
  have HC := hid hc
  have hV := hid (implValid_any (setR r0 r0.ld r0.tr false) A)
  clear hm hf hn hc
  have mark : Nat := 0
  obtain ⟨bv, hbv⟩ : ∃ b, rcB (setR r0 r0.ld r0.tr false) = b := ⟨_, rfl⟩
  rw [hbv] at hV
  have HBV0 := hid hbv
  clear hbv
  cases bv
  · have OUT := hid (show outW (setR r0 r0.ld r0.tr false) a = rc0 0 0 false by simp [outW, HBV0.out])
    generalize outW (setR r0 r0.ld r0.tr false) a = O at *
    go_enter Tryz.func23, Tryz.ntmps23
    go_wp2_with (first | ((with_reducible show wpList _ _ _ (⟨some 6, _, _, _, _, _⟩ :: _) _ _); clear mark; have Q0 := hid (Bx.new2 w (rcC (setR r0 r0.ld r0.tr false) A) (rcL 0 0 false).toArray 38 38).1; have Z0 := hid (Bx.new2 w (rcC (setR r0 r0.ld r0.tr false) A) (rcL 0 0 false).toArray 38 38).2; have hB0 : Below w.heap.size w ((w.alloc (.cells (rcC (setR r0 r0.ld r0.tr false) A) 38)).alloc (.cells (rcL 0 0 false).toArray 38)) := (below_alloc _ _).alloc (by simp) _; (generalize (w.alloc (.cells (rcC (setR r0 r0.ld r0.tr false) A) 38)).alloc (.cells (rcL 0 0 false).toArray 38) = W at *)) | ((with_reducible show wpList _ _ _ (⟨some 6, Op.load 38 _, _, _, _, _⟩ :: _) _ _); refine wpList_load_mid rfl 38 _ rfl w.heap.size 0 rfl (rcC (setR r0 r0.ld r0.tr false) A).toList _ (Holds.range (cs := (rcC (setR r0 r0.ld r0.tr false) A).toList) Q0.out.cell) Tryz.underlying38 rfl Tryz.sz38 ?_) | (go_at_call 47; refine (hV.out W lo hi (Nat.le_trans hhi hB0.size) HF.out HN.out (HC.out.below hB0 hhi)).mono ?_; rintro e w1 ⟨rfl, hb1⟩; have hB1 : Below w.heap.size w w1 := hB0.trans (hb1.mono hB0.size); have Z1 := hid (Z0.out.below hb1 Z0.out.lt); have Q1 := hid (Q0.out.below hb1 Q0.out.lt); clear hb1 Q0 Z0 hB0) | ((with_reducible show wpList _ _ _ (⟨none, Op.store 38 _ _, _, _, _, _⟩ :: _) _ _); refine wpList_store_box rfl 38 _ _ rfl (w.heap.size + 1) (rcL 0 0 false) rfl rfl Z1.out rfl Tryz.sz38 (by simp [Value.oneCell']) ?_; intro V hr hfr hsv; have HBV := hid hr; have HFV := hid hfr; have HSV := hid hsv; clear hr hfr hsv))
    have hBV : Below w.heap.size w V := hB1.trans (HFV.out.below (B := w.heap.size) (Nat.le_succ _) hB1.size)
    refine bodyPost_ret (v := rcZ 0 0 false) (results_cell_mid rfl _ _ (w.heap.size + 1) (rcL 0 0 false) _ rfl (Holds.range (cs := (rcL 0 0 false)) HBV.out.cell) Tryz.underlying38 rfl Tryz.sz38) rfl ?_
    rw [OUT.out]
    exact ⟨pN, rfl, RcAt.none _ _ _ _, fun k ⟨j, _, hk⟩ => absurd hk (rb_none 0 0 false j k), hBV⟩
  have HKD := hid (dkB_known (rcB_disk HBV0.out))
  have OUT := hid (show outW (setR r0 r0.ld r0.tr false) a = (setR r0 r0.ld r0.tr false) by simp [outW, HBV0.out])
  generalize outW (setR r0 r0.ld r0.tr false) a = O at *
  have mark2 : Nat := 0
  go_enter Tryz.func23, Tryz.ntmps23
  go_wp2_with (first | ((with_reducible show wpList _ _ _ (⟨some 6, _, _, _, _, _⟩ :: _) _ _); clear mark; have Q0 := hid (Bx.new2 w (rcC (setR r0 r0.ld r0.tr false) A) (rcL 0 0 false).toArray 38 38).1; have Z0 := hid (Bx.new2 w (rcC (setR r0 r0.ld r0.tr false) A) (rcL 0 0 false).toArray 38 38).2; have hB0 : Below w.heap.size w ((w.alloc (.cells (rcC (setR r0 r0.ld r0.tr false) A) 38)).alloc (.cells (rcL 0 0 false).toArray 38)) := (below_alloc _ _).alloc (by simp) _; (generalize (w.alloc (.cells (rcC (setR r0 r0.ld r0.tr false) A) 38)).alloc (.cells (rcL 0 0 false).toArray 38) = W at *)) | ((with_reducible show wpList _ _ _ (⟨some 6, Op.load 38 _, _, _, _, _⟩ :: _) _ _); refine wpList_load_mid rfl 38 _ rfl w.heap.size 0 rfl (rcC (setR r0 r0.ld r0.tr false) A).toList _ (Holds.range (cs := (rcC (setR r0 r0.ld r0.tr false) A).toList) Q0.out.cell) Tryz.underlying38 rfl Tryz.sz38 ?_) | (go_at_call 47; refine (hV.out W lo hi (Nat.le_trans hhi hB0.size) HF.out HN.out (HC.out.below hB0 hhi)).mono ?_; rintro e w1 ⟨rfl, hb1⟩; have hB1 : Below w.heap.size w w1 := hB0.trans (hb1.mono hB0.size); have Z1 := hid (Z0.out.below hb1 Z0.out.lt); have Q1 := hid (Q0.out.below hb1 Q0.out.lt); clear hb1 Q0 Z0 hB0) | ((with_reducible show wpList _ _ _ (⟨some 10, Op.load 38 _, _, _, _, _⟩ :: _) _ _); refine wpList_load_mid rfl 38 _ rfl w.heap.size 0 rfl (rcC (setR r0 r0.ld r0.tr false) A).toList _ (Holds.range (cs := (rcC (setR r0 r0.ld r0.tr false) A).toList) Q1.out.cell) Tryz.underlying38 rfl Tryz.sz38 ?_) | (go_at_call 48; refine (recCopy_any (setR r0 r0.ld r0.tr false) A w1 lo hi (Nat.le_trans hhi hB1.size) HM.out (HC.out.below hB1 hhi)).mono ?_; rintro e w2 ⟨p, rfl, hat, htt, hge, hb2⟩; have hB2 : Below w.heap.size w w2 := hB1.trans (hb2.mono hB1.size); have Z2 := hid (Z1.out.below hb2 Z1.out.lt); have Q2 := hid (Q1.out.below hb2 Q1.out.lt); have HAT := hid hat; have HTT := hid htt; have hsz1 := hB1.size; have hsz12 := hb2.size; have HGE := hid hge; have hz1x : w.heap.size + 1 + 1 ≤ w1.heap.size := Z1.out.lt; clear hb2 Q1 Z1 hat htt hge hB1) | ((with_reducible show wpList _ _ _ (⟨none, Op.store 38 _ _, _, _, _, _⟩ :: _) _ _); refine wpList_store_box rfl 38 _ _ rfl w2.heap.size (rcC (setR r0 r0.ld r0.tr false) p.A).toList rfl rfl (Bx.new w2 (rcL 0 0 false).toArray 38) rfl Tryz.sz38 (by simp [Value.oneCell']) ?_; intro V hr hfr hsv; have B5 := hid hr; have hb3 : Below w2.heap.size w2 V := (below_alloc w2 _).trans (hfr.below (B := w2.heap.size) (Nat.le_refl _) (by simp)); have hB3 : Below w.heap.size w V := hB2.trans (hb3.mono hB2.size); have Z3 := hid (Z2.out.below hb3 Z2.out.lt); have hs1 := Z2.out.lt; have Q3 := hid (Q2.out.below hb3 Q2.out.lt); have A3 := hid (HAT.out.grow hb3); have hsz2 := hB2.size; have hsz3 := hb3.size; have HLT := hid HAT.out.lt; clear hr hfr hsv hb3 Z2 Q2 hB2 HAT) | ((with_reducible show wpList _ _ _ (⟨some 12, _, _, _, _, _⟩ :: _) _ _); clear mark2; obtain ⟨q0, q1, q2, q3, q4, q5, q6, q7, q8, q9, q10, q11, q12, q13, q14, q15, q16, q17⟩ := holds18 Q3.out.cell) | ((with_reducible show wpList _ _ _ (⟨some 16, Op.load 38 _, _, _, _, _⟩ :: _) _ _); refine wpList_load_mid rfl 38 _ rfl w2.heap.size 0 rfl (rcC (setR r0 r0.ld r0.tr false) p.A).toList _ (Holds.range (cs := (rcC (setR r0 r0.ld r0.tr false) p.A).toList) B5.out.cell) Tryz.underlying38 rfl Tryz.sz38 ?_) | ((with_reducible show wpList _ _ _ (⟨none, Op.store 38 _ _, _, _, _, _⟩ :: _) _ _); refine wpList_store_box rfl 38 _ _ rfl (w.heap.size + 1) (rcC (setR r0 r0.ld r0.tr false) p.A).toList rfl rfl Z3.out rfl Tryz.sz38 (by simp [Value.oneCell']) ?_; intro V2 hr hfr hsv; have HBV2 := hid hr; have HFV2 := hid hfr; have HSV2 := hid hsv; clear hr hfr hsv))
  have fv : FrP (fun q => q = w.heap.size + 1) V V2 := FrP.of_fr HFV2.out (fun k h1 h2 => by omega)
  have hBV : Below w.heap.size w V2 := hB3.trans (fv.below (B := w.heap.size) (fun k hk e => by omega) (by omega))
  refine bodyPost_ret (v := .agg (rcC (setR r0 r0.ld r0.tr false) p.A)) (results_cell_mid rfl _ _ (w.heap.size + 1) (rcC (setR r0 r0.ld r0.tr false) p.A).toList _ rfl (Holds.range (cs := (rcC (setR r0 r0.ld r0.tr false) p.A).toList) HBV2.out.cell) Tryz.underlying38 rfl Tryz.sz38) rfl ?_
  rw [OUT.out]
  have ge : ∀ k, rbs p (setR r0 r0.ld r0.tr false) k → w.heap.size + 1 < k := fun k hk => by
    have := HGE.out k hk
    omega
  exact ⟨p, rfl, A3.out.fr fv (fun k hk e => by have := ge k hk; omega), fun k hk => by have := ge k hk; omega, hBV⟩
theorem implWish_any (r : Rc) (A : RcA) (a : ByteArray) (w : World) (lo hi : Nat) (hhi : hi ≤ w.heap.size) (hm : RcSmall r) (hf : RcFit r) (hn : RcNew r A) (hc : RcIn w lo hi r A) (ha : (a.size : Int) ≤ 140737488355328) :
    Calls Tryz.prog 23 #[rcV r A, .string a] w fun e w' => ∃ p, e = .returned (rcV (outW r a) p.A) ∧ RcAt w' (outW r a) p ∧ (∀ k, rbs p (outW r a) k → w.heap.size ≤ k) ∧ Below w.heap.size w w' := by
  obtain ⟨num, of, up, sf, dk, hn', hs, wn, ws, ld, tr, bal, yn, ys, bn, bs, an, as', hd⟩ := r
  cases up
  · exact iwF ⟨num, of, false, sf, dk, hn', hs, wn, ws, ld, tr, bal, yn, ys, bn, bs, an, as', hd⟩ A a w lo hi hhi hm hf hn hc ha
  · exact iwT ⟨num, of, true, sf, dk, hn', hs, wn, ws, ld, tr, bal, yn, ys, bn, bs, an, as', hd⟩ A a w lo hi hhi hm hf hn hc ha
end Go.Proofs.YtokkbdlofbdljaaGreat
