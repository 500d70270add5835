import Derived.Test.YtkecnaaacbckoaaGreatNc
import Derived.Test.YtkecnaaacbckoaaGreatNd
import Derived.Test.YtkecnaaacbckoaaGreatZj
import Derived.Test.YtkecnaaacbckoaaGreatHk
namespace Go.Proofs.YtkecnaaacbckoaaGreat
open Go.RowKit Go.Shelf
attribute [local go_sem] Oper.semAt_some
/-- the changes that a watch sees, as places behind the first k -/
def seen (x : Nat → Ch) (k n : Nat) (ki pr : ByteArray) : List Nat := (List.range (n - k)).filter (fun i => lkB (x (k + i)).ob ki pr)
theorem BdCh.turn {w : World} {base : Nat} {v : Value} {k : Nat} {x : Nat → Ch} {A : Nat → Option Addr} {C hb : Nat → Nat} {w' : World} {row : Option Nat} (h : BdCh w base v k x A C hb) (hg : w.grownBy w' row) (hr : ∀ r, row = some r → ∃ o : Obj, w.heap[r]? = some o ∧ o.isCells = false) : BdCh w' base v k x A C hb := by
  have F : FrP (fun q => row = some q) w w' := FrP.of_grown hg
  have hn : ∀ (q : Nat), (∃ off u, w.cell? ⟨q, off, none⟩ = some u) → ¬ row = some q := fun q hq e => by
    obtain ⟨off, u, hu⟩ := hq
    obtain ⟨o, ho, hc⟩ := hr q e
    rw [not_cells hu ho] at hc
    cases hc
  refine ⟨?_, fun i hi => (h.hold i hi).frP F (fun h0 => ⟨hn _ ?_, (h.hlt i hi h0).2⟩), fun i hi h0 => ⟨(h.hlt i hi h0).1, Nat.lt_of_lt_of_le (h.hlt i hi h0).2 hg.size⟩, h.ne, h.inj⟩
  · obtain ⟨c, r, e⟩ := h.row
    refine ⟨c, ownsRow_fr r F (fun g hgb e2 => ?_), e⟩
    rcases r.2 with ⟨h3, _⟩ | ⟨g', cap, cur, h3, _, h4, _⟩
    · rw [h3] at hgb; cases hgb
    · rw [h3] at hgb
      cases hgb
      obtain ⟨o, ho, hc⟩ := hr _ e2
      rw [h4] at ho
      cases ho
      cases hc
  · obtain ⟨b, off, e1, e2, e3, e4, _⟩ := h.hold i hi 0 (by omega)
    obtain rfl : b = hb i := by omega
    exact ⟨_, _, e4⟩
theorem nextFin {X : World} {rb D : Nat} {o0 o1 o2 v0 v1 v2 : Value} (hK : X.heap[D]? = some (.deferred (some []))) (r0 : X.cell? ⟨rb, 0, none⟩ = some o0) (r1 : X.cell? ⟨rb, 1, none⟩ = some o1) (r2 : X.cell? ⟨rb, 2, none⟩ = some o2) (hD : D ≠ rb) :
    ∃ Y, ((X.setCell ⟨rb, 0, none⟩ v0).setCell ⟨rb, 1, none⟩ v1).setCell ⟨rb, 2, none⟩ v2 = Y ∧ Y.heap[D]? = some (.deferred (some [])) ∧ FrP (fun q => q = rb) X Y ∧ (Y.putObj D (.deferred none)).cell? ⟨rb, 0, none⟩ = some v0 ∧ (Y.putObj D (.deferred none)).cell? ⟨rb, 1, none⟩ = some v1 ∧ (Y.putObj D (.deferred none)).cell? ⟨rb, 2, none⟩ = some v2 := by
  have F : FrP (fun q => q = rb) X (((X.setCell ⟨rb, 0, none⟩ v0).setCell ⟨rb, 1, none⟩ v1).setCell ⟨rb, 2, none⟩ v2) := (((FrP.refl _ _).setCell (p := ⟨rb, 0, none⟩) (by rfl) _).setCell (p := ⟨rb, 1, none⟩) (by rfl) _).setCell (p := ⟨rb, 2, none⟩) (by rfl) _
  have hp : ∀ (Z : World) (j : Nat), (Z.putObj D (.deferred none)).cell? ⟨rb, j, none⟩ = Z.cell? ⟨rb, j, none⟩ := fun Z j => World.cell?_of_block (World.putObj_heap_other (fun e => hD e.symm))
  refine ⟨_, rfl, (F.block D (Array.getElem?_eq_some_iff.1 hK).1 hD).trans hK, F, ?_, ?_, ?_⟩
  · rw [hp, World.cell?_setCell_other _ _ _ _ (by simp), World.cell?_setCell_other _ _ _ _ (by simp)]
    exact World.cell?_setCell_same _ _ _ r0
  · rw [hp, World.cell?_setCell_other _ _ _ _ (by simp)]
    exact World.cell?_setCell_same _ _ _ ((World.cell?_setCell_other _ _ _ _ (by simp)).trans r1)
  · rw [hp]
    exact World.cell?_setCell_same _ _ _ ((World.cell?_setCell_other _ _ _ _ (by simp)).trans ((World.cell?_setCell_other _ _ _ _ (by simp)).trans r2))
theorem BdCh.lower {w : World} {base b' : Nat} {v : Value} {k : Nat} {x : Nat → Ch} {A : Nat → Option Addr} {C hb : Nat → Nat} (h : BdCh w base v k x A C hb) (e : b' ≤ base) : BdCh w b' v k x A C hb := by
  refine ⟨?_, h.hold, fun i hi h0 => ⟨Nat.le_trans e (h.hlt i hi h0).1, (h.hlt i hi h0).2⟩, h.ne, h.inj⟩
  obtain ⟨c, ⟨r1, r2⟩, ha⟩ := h.row
  refine ⟨c, ⟨r1, ?_⟩, ha⟩
  rcases r2 with r2 | ⟨g, cap, cur, q1, q2, q3⟩
  · exact Or.inl r2
  · exact Or.inr ⟨g, cap, cur, q1, Nat.le_trans e q2, q3⟩
theorem seen_pre {x : Nat → Ch} {k n : Nat} {ki pr : ByteArray} {j : Nat} (hj : j ≤ n - k) : ∃ r, seen x k n ki pr = (List.range j).filter (fun i => lkB (x (k + i)).ob ki pr) ++ r := by
  have h : List.range j <+: List.range (n - k) := by
    have := List.take_prefix j (List.range (n - k))
    rwa [List.take_range, Nat.min_eq_left hj] at this
  obtain ⟨r, hr⟩ := h.filter (fun i => lkB (x (k + i)).ob ki pr)
  exact ⟨r, hr.symm⟩
/-- what a watch is told -/
def nwL (B : Bk) (k : Nat) (ki pr : ByteArray) (most : Int) : List Nat := (seen B.hs k B.hn ki pr).take most.toNat
/-- and from where it goes on -/
def nwF (B : Bk) (k : Nat) (ki pr : ByteArray) (most : Int) : Int := if (seen B.hs k B.hn ki pr).length ≤ most.toNat then B.now else (pick (fun i => B.hs (k + i)) (nwL B k ki pr most) ((nwL B k ki pr most).length - 1)).ver
theorem four_cell {w w1 : World} {c0 c1 c2 c3 : Array Value} {t0 t1 t2 t3 : TypeId} (hb : Below ((((w.alloc (.cells c0 t0)).alloc (.cells c1 t1)).alloc (.cells c2 t2)).alloc (.cells c3 t3)).heap.size ((((w.alloc (.cells c0 t0)).alloc (.cells c1 t1)).alloc (.cells c2 t2)).alloc (.cells c3 t3)) w1) :
    (∀ i, w1.cell? ⟨w.heap.size, i, none⟩ = c0[i]?) ∧ (∀ i, w1.cell? ⟨w.heap.size + 1, i, none⟩ = c1[i]?) ∧ (∀ i, w1.cell? ⟨w.heap.size + 1 + 1, i, none⟩ = c2[i]?) ∧ (∀ i, w1.cell? ⟨w.heap.size + 1 + 1 + 1, i, none⟩ = c3[i]?) ∧ (∀ i, w1.frozen? ⟨w.heap.size + 1 + 1 + 1, i, none⟩ = false) := by
  refine ⟨fun i => ?_, fun i => ?_, fun i => ?_, fun i => ?_, fun i => ?_⟩
  · rw [hb.cell (p := ⟨w.heap.size, i, none⟩) (by simp; omega)]
    rw [World.cell?_alloc_past _ _ _ (by simp; try omega), World.cell?_alloc_past _ _ _ (by simp; try omega), World.cell?_alloc_past _ _ _ (by simp; try omega), World.cell?_alloc_at _ _ _ _ rfl]
  · rw [hb.cell (p := ⟨w.heap.size + 1, i, none⟩) (by simp; try omega)]
    rw [World.cell?_alloc_past _ _ _ (by simp; try omega), World.cell?_alloc_past _ _ _ (by simp; try omega), World.cell?_alloc_at _ _ _ _ (by simp)]
  · rw [hb.cell (p := ⟨w.heap.size + 1 + 1, i, none⟩) (by simp; try omega)]
    rw [World.cell?_alloc_past _ _ _ (by simp; try omega), World.cell?_alloc_at _ _ _ _ (by simp)]
  · rw [hb.cell (p := ⟨w.heap.size + 1 + 1 + 1, i, none⟩) (by simp)]
    rw [World.cell?_alloc_at _ _ _ _ (by simp)]
  · rw [hb.frozen (p := ⟨w.heap.size + 1 + 1 + 1, i, none⟩) (by simp)]
    rw [World.frozen?_alloc_at _ _ _ _ (by simp)]
set_option maxRecDepth 100000 in
set_option maxHeartbeats 4000000 in
theorem implNextYes_in (F : Fence) (m : Nat) (hcv : ∀ (k f : Nat) (args : Array Value) (w : World) (R : Ending → World → Prop), Calls Tryz.prog f args w R → CallsIn F k Tryz.prog f args w R) (hall : ∀ f, F.fn f) (hro : F.round = none) (hm : 8 ≤ m) (hdp : F.depth = none)
    (hPl : ∀ (q : Nat) (R : Nat) (v : Int) (w : World), 0 ≤ v → v ≤ 1000000 → CallsIn F q Tryz.prog 102 #[.pointer (some ⟨R, 0, none⟩), .int .i64 v] w fun e w' => e = .returned (.pointer (some ⟨R, (v % 200).toNat * 9, none⟩)) ∧ w' = w)
    (B : Bk) (p : Pl) (c1 c2 c3 : Nat) (ki pr : ByteArray) (fr most : Int) (k : Nat) (w : World) (hfit : BkFit B) (hat : BkAt w B p) (hv : allTo (chk B) 7 = true) (hk : k ≤ B.hn) (hfr : fr = B.floor + k) (hmost : 1 ≤ most) (hpr : (pr.size : Int) ≤ 140737488355328) :
    CallsIn F m Tryz.prog 23 #[.agg #[.int .i64 B.now, .int .i64 B.floor, .slice p.a1 B.on c1, .slice p.a2 B.hn c2, .slice p.a3 B.tn c3], .agg #[.string ki, .string pr, .int .i64 fr], .int .i64 most] w fun e w' => ∃ v A C hb, e = .returned (.agg #[.int .i64 0, v, .int .i64 (nwF B k ki pr most)]) ∧ BdCh w' w.heap.size v (nwL B k ki pr most).length (pick (fun i => B.hs (k + i)) (nwL B k ki pr most)) A C hb ∧ Below w.heap.size w w' := by
  have h1 : 1 ≤ m := by omega
  obtain ⟨v0, v1, v2, v3, v4, v5⟩ := valid_hist hv
  obtain ⟨f, hfl⟩ : ∃ f : Nat, B.floor = (f : Int) := ⟨B.floor.toNat, by omega⟩
  have hnow : B.now = ((f + B.hn : Nat) : Int) := by omega
  have hfn : f + B.hn ≤ 1000000 := by omega
  have hfr2 : fr = ((f + k : Nat) : Int) := by omega
  have hi2 : inB fr 0 B.now = true := by simp [inB]; omega
  have hm1 : ¬ most < 1 := by omega
  have hf1 : ¬ fr < B.floor := by omega
  have HX := hid hat
  have HIN := hid (hat.isIn (lo := 0) (fun _ _ => Nat.zero_le _))
  have hgl : 0 < B.hn → p.g2 < w.heap.size := fun h0 => by obtain ⟨c, r, _⟩ := HX.out.h.row h0; exact r.lt
  have hcc : ∀ i, i < B.hn → ChCells w p.g2 (i * 9) (B.hs i) (p.A2 i) (p.C2 i) := fun i hi' => by
    obtain ⟨c, r, e⟩ := HX.out.h.row (by omega)
    obtain ⟨a0, a1, a2, a3, a4, a5, a6, a7, a8⟩ := e i hi'
    exact ⟨(r.cell _ (by omega)).trans (congrArg some a0), (r.cell _ (by omega)).trans (congrArg some a1), (r.cell _ (by omega)).trans (congrArg some a2), (r.cell _ (by omega)).trans (congrArg some a3), (r.cell _ (by omega)).trans (congrArg some a4), (r.cell _ (by omega)).trans (congrArg some a5), (r.cell _ (by omega)).trans (congrArg some a6), (r.cell _ (by omega)).trans (congrArg some a7), (r.cell _ (by omega)).trans (congrArg some a8)⟩
  have HCC := hid hcc
  have HFL := hid hfl
  have HNOW := hid hnow
  have HFR := hid hfr2
  have HV5 := hid v5
  clear hat hcc hfl hnow hfr2 v5 hfr
  have hb4 : ∀ o1 o2 o3 o4, Below w.heap.size w ((((w.alloc o1).alloc o2).alloc o3).alloc o4) := fun o1 o2 o3 o4 => (((below_alloc _ _).alloc (by simp) _).alloc (by simp; omega) _).alloc (by simp; omega) _
  refine callsIn_of_wp_marks Tryz.func23 rfl (hall 23) ?_ hro
  simp only [Tryz.ntmps23, List.size_toArray, List.length_cons, List.length_nil, Nat.reduceAdd, Nat.reduceSub, Array.replicate_succ, Array.replicate_zero, List.push_toArray, List.append_toArray, List.nil_append, List.cons_append]
  gi_wp2_with (first
    | (gi_at_call 44; go_must (refine (hcv _ _ _ _ _ (implValid_any B _ _ _ c1 c2 c3 _ 0 w.heap.size (by simp; omega) hfit (HIN.out.below (hb4 _ _ _ _) (Nat.le_refl _)))).mono ?_; rw [hv]; rintro e w1 ⟨rfl, hb1⟩; obtain ⟨A0, A1, A2, A3, F3⟩ := four_cell hb1; have p0 := A0 0; have p1 := A0 1; have p2 := A0 2; have p3 := A0 3; have p4 := A0 4; have q0 := A1 0; have q1 := A1 1; have q2 := A1 2; have m0 := A2 0; have r0 := A3 0; have r1 := A3 1; have r2 := A3 2; simp only [List.getElem?_toArray, List.getElem?_cons_succ, List.getElem?_cons_zero] at p0 p1 p2 p3 p4 q0 q1 q2 m0 r0 r1 r2; clear A0 A1 A2 A3))
    | (gi_at_call 60; go_must (refine (hcv _ _ _ _ _ (within_any _ _ _ _)).mono ?_; rw [hi2]; rintro e w2 ⟨rfl, rfl⟩)))
  have hB1 : Below w.heap.size w w2 := (hb4 _ _ _ _).trans (hb1.mono (by simp; omega))
  have z1 : w.heap.size + 4 ≤ w2.heap.size := by have := hb1.size; simp at this; omega
  obtain ⟨V, hV⟩ : ∃ V, w2.alloc (.cells #[.int .i64 0, .slice none 0 0, .int .i64 B.now] 46) = V := ⟨_, rfl⟩
  have zV : w2.heap.size + 1 ≤ V.heap.size ∧ V.heap.size ≤ w2.heap.size + 1 := by rw [← hV]; simp
  have b2V : Below w2.heap.size w2 V := by rw [← hV]; exact below_alloc _ _
  have hBV : Below w.heap.size w V := hB1.trans (b2V.mono (by omega))
  have hNV : V.heap[w2.heap.size]? = some (.cells #[.int .i64 0, .slice none 0 0, .int .i64 B.now] 46 (0, 0)) := by rw [← hV]; exact World.alloc_heap_new _ _
  have P0 := (b2V.cell (p := ⟨w.heap.size, 0, none⟩) (by show w.heap.size < _; omega)).trans p0
  have P3 := (b2V.cell (p := ⟨w.heap.size, 3, none⟩) (by show w.heap.size < _; omega)).trans p3
  have Q0 := (b2V.cell (p := ⟨w.heap.size + 1, 0, none⟩) (by show w.heap.size + 1 < _; omega)).trans q0
  have Q1 := (b2V.cell (p := ⟨w.heap.size + 1, 1, none⟩) (by show w.heap.size + 1 < _; omega)).trans q1
  have Q2 := (b2V.cell (p := ⟨w.heap.size + 1, 2, none⟩) (by show w.heap.size + 1 < _; omega)).trans q2
  have M0 := (b2V.cell (p := ⟨w.heap.size + 1 + 1, 0, none⟩) (by show w.heap.size + 1 + 1 < _; omega)).trans m0
  have R0 := (b2V.cell (p := ⟨w.heap.size + 1 + 1 + 1, 0, none⟩) (by show w.heap.size + 1 + 1 + 1 < _; omega)).trans r0
  have R1 := (b2V.cell (p := ⟨w.heap.size + 1 + 1 + 1, 1, none⟩) (by show w.heap.size + 1 + 1 + 1 < _; omega)).trans r1
  have R2 := (b2V.cell (p := ⟨w.heap.size + 1 + 1 + 1, 2, none⟩) (by show w.heap.size + 1 + 1 + 1 < _; omega)).trans r2
  have RF : ∀ i, V.frozen? ⟨w.heap.size + 1 + 1 + 1, i, none⟩ = false := fun i => (b2V.frozen (p := ⟨w.heap.size + 1 + 1 + 1, i, none⟩) (by show w.heap.size + 1 + 1 + 1 < _; omega)).trans (F3 i)
  rw [hV]
  clear hV p0 p1 p2 p3 p4 q0 q1 q2 m0 r0 r1 r2 hb1 F3 hb4
  refine nextReg7 F m hcv hall hro (by omega) _ _ _ _ _ _ _ _ _ _ _ _ _ _ _ _ _ _ _ _ _ _ _ _ _ _ _ _ _ _ _ _ _ _ _ _ _ _ _ _ _ _ _ _ _ _ _ _ _ _ _ _ _ _ _ w.heap.size (w.heap.size + 1) B.hn p.a2 p.g2 c2 fr B.now f B.hs p.A2 p.C2 V v3 hfn (fun i hi => by rw [(HV5.out i hi).1, HFL.out]) HX.out.h.addr (fun h0 => by have := hgl h0; omega) (fun i hi => (HCC.out i hi).below hBV (hgl (by omega))) P0 P3 Q2 (by omega) (by omega) _ ?_
  intro u0 u1 u2 u3 u4 u5 u6 u7 u8 R b c X0 hbt zc cc0 cc1 zc2 bVX
  have zX0 := bVX.size
  have hBX : Below w.heap.size w X0 := hBV.trans (bVX.mono (by omega))
  have Q0 := (bVX.cell (p := ⟨w.heap.size + 1, 0, none⟩) (by show w.heap.size + 1 < _; omega)).trans Q0
  have Q1 := (bVX.cell (p := ⟨w.heap.size + 1, 1, none⟩) (by show w.heap.size + 1 < _; omega)).trans Q1
  have M0 := (bVX.cell (p := ⟨w.heap.size + 1 + 1, 0, none⟩) (by show w.heap.size + 1 + 1 < _; omega)).trans M0
  have R0 := (bVX.cell (p := ⟨w.heap.size + 1 + 1 + 1, 0, none⟩) (by show w.heap.size + 1 + 1 + 1 < _; omega)).trans R0
  have R1 := (bVX.cell (p := ⟨w.heap.size + 1 + 1 + 1, 1, none⟩) (by show w.heap.size + 1 + 1 + 1 < _; omega)).trans R1
  have R2 := (bVX.cell (p := ⟨w.heap.size + 1 + 1 + 1, 2, none⟩) (by show w.heap.size + 1 + 1 + 1 < _; omega)).trans R2
  have RF : ∀ i, X0.frozen? ⟨w.heap.size + 1 + 1 + 1, i, none⟩ = false := fun i => (bVX.frozen (p := ⟨w.heap.size + 1 + 1 + 1, i, none⟩) (by show w.heap.size + 1 + 1 + 1 < _; omega)).trans (RF i)
  have hN0 := (bVX.block w2.heap.size (by omega)).trans hNV
  obtain ⟨Bn, hBn⟩ : ∃ Bn, w2.heap.size = Bn := ⟨_, rfl⟩
  obtain ⟨Pk, hPk⟩ : ∃ Pk : Nat → Prop, Pk = fun q => q = Bn ∨ X0.heap.size ≤ q := ⟨_, rfl⟩
  have hPkN : ∀ q, q < X0.heap.size → ¬ q = Bn → ¬ Pk q := fun q h2 h3 e => by rw [hPk] at e; omega
  obtain ⟨xk, hxk⟩ : ∃ xk : Nat → Ch, xk = fun i => B.hs (k + i) := ⟨_, rfl⟩
  have hr := hbt.r
  have hbl := hbt.lt
  have hseq := filter_o F (m - 1) hcv hall hro (by omega) hdp hPl c (c + 1) (w.heap.size + 1) (b + 1) (b + 1 + 1) b R f k B.hn B.hs p.A2 p.C2 ki pr Pk hk hfn (fun i hi => hfit.hs i hi) hpr X0 cc0 cc1 Q0 Q1 (by rw [hbt.c1, HFR.out]) (by rw [hbt.c2, HNOW.out]) hbt.c0 (by omega) ⟨by omega, hPkN _ (by omega) (by omega)⟩ ⟨by omega, hPkN _ (by omega) (by omega)⟩ (by omega) ⟨by omega, hPkN _ (by omega) (by omega)⟩ ⟨by omega, hPkN _ (by omega) (by omega)⟩ ⟨by omega, hPkN _ (by omega) (by omega)⟩ (fun q hq => by rw [hPk]; exact Or.inr hq) hbt.ring
  have HSEQ := hid hseq
  have HBT := hid hbt
  clear hseq hbt
  rw [hBn] at hN0 ⊢
  have zBn : w.heap.size + 4 ≤ Bn ∧ Bn + 1 ≤ V.heap.size ∧ V.heap.size ≤ Bn + 1 := by omega
  clear hBn
  have HN0 := hid (show X0.heap[Bn]? = some (.cells #[.int .i64 0, .slice none 0 0, .int .i64 B.now] 46 (0, 0)) by first | exact hN0 | (rw [← hBn]; exact hN0))
  have HPK := hid hPk
  have HXK := hid hxk
  clear hPk hxk
  have HR0 := hid R0
  have HR1 := hid R1
  have HR2 := hid R2
  have HRF := hid RF
  clear hN0 R0 R1 R2 RF hNV P0 P3 Q2
  gi_wp2
  refine wpIn_rangeO (α := Ix (B.hn - k)) hro h1 (gf := 118) (lb := #[.pointer (some ⟨c, 0, none⟩), .pointer (some ⟨c + 1, 0, none⟩)]) ?hg (hall 118) (enters_of Tryz.func118 (by kernel_rfl) rfl) HSEQ.out (fun h1 h2 => h1.trans h2) ?kb ?ps
    (fun pre X => (pre.length : Int) ≤ most ∧ (∃ v A C hb, X.heap[Bn]? = some (.cells #[.int .i64 0, v, .int .i64 B.now] 46 (0, 0)) ∧ BdCh X X0.heap.size v (ixs pre).length (pick xk (ixs pre)) A C hb) ∧ FrP Pk X0 X)
    (fun cd pre X => cd = .exit 0 ∧ ∃ L q v A C hb, ixs pre = L ++ [q] ∧ (L.length : Int) = most ∧ X.heap[Bn]? = some (.cells #[.int .i64 0, v, .int .i64 (pick xk L (L.length - 1)).ver] 46 (0, 0)) ∧ BdCh X X0.heap.size v L.length (pick xk L) A C hb ∧ FrP Pk X0 X) ?own ?ownx ?start
    (fun i a' X => ∃ Bx, X.heap[Bx]? = some (.cells #[.int .i64 (B.hs (k + i.1)).ver, .bool (B.hs (k + i.1)).gone, .string (B.hs (k + i.1)).ob.kind, .string (B.hs (k + i.1)).ob.name, .int .i64 (B.hs (k + i.1)).ob.ver, .int .i64 (B.hs (k + i.1)).ob.born, .string (B.hs (k + i.1)).ob.text, .bool (B.hs (k + i.1)).ob.ending, .slice (p.A2 (k + i.1)) (B.hs (k + i.1)).ob.hn (p.C2 (k + i.1))] 75 (0, 0)) ∧ X0.heap.size ≤ Bx ∧ a' = { tmps := #[Value.agg #[Value.int IntKind.i64 B.now, Value.int IntKind.i64 B.floor, Value.slice p.a1 B.on c1, Value.slice p.a2 B.hn c2, Value.slice p.a3 B.tn c3], Value.agg #[Value.string ki, Value.string pr, Value.int IntKind.i64 fr], Value.int IntKind.i64 most, Value.pointer (some { block := w.heap.size, off := 0 }), Value.pointer (some { block := w.heap.size + 1, off := 0 }), Value.pointer (some { block := w.heap.size + 1 + 1, off := 0 }), Value.pointer (some { block := w.heap.size + 1 + 1 + 1, off := 0 }), Value.func (Fn.func 73) #[] #[Value.pointer (some { block := w.heap.size + 1, off := 0 })], Value.pointer (some { block := Bn, off := 0 }), Value.pointer (some { block := Bx, off := 0 }), Value.agg #[Value.int IntKind.i64 B.now, Value.int IntKind.i64 B.floor, Value.slice p.a1 B.on c1, Value.slice p.a2 B.hn c2, Value.slice p.a3 B.tn c3], Value.bool true, Value.bool false, Value.bool false, Value.int IntKind.i64 most, Value.bool (decide (most < 1)), Value.bool (decide (most < 1)), Value.bool (decide (most < 1)), Value.pointer (some { block := w.heap.size + 1, off := 2 }), Value.int IntKind.i64 fr, Value.pointer (some { block := w.heap.size, off := 0 }), Value.int IntKind.i64 B.now, Value.bool true, Value.bool false, Value.bool (decide (most < 1)), undef, Value.pointer (some { block := w.heap.size + 1, off := 2 }), Value.int IntKind.i64 fr, Value.pointer (some { block := w.heap.size, off := 1 }), Value.int IntKind.i64 B.floor, Value.bool (decide (fr < B.floor)), undef, Value.func (Fn.func 73) #[] #[Value.pointer (some { block := w.heap.size + 1, off := 0 })], Value.pointer (some { block := w.heap.size, off := 0 }), Value.int IntKind.i64 B.now, Value.agg #[Value.int IntKind.i64 0, Value.slice none 0 0, Value.int IntKind.i64 B.now], u0, u1, u2, u3, u4, u5, u6, u7, u8, Value.func (Fn.func 118) #[] #[Value.pointer (some { block := c, off := 0 }), Value.pointer (some { block := c + 1, off := 0 })], chV (B.hs (k + i.1)) (p.A2 (k + i.1)) (p.C2 (k + i.1)), undef, undef, undef, undef, undef, undef, undef, undef, undef, undef, undef, undef, undef, undef, undef, undef, undef, undef, undef, undef, undef], defers := [] }) ?ownA ?assign ?body ?done ?stop
  case hg => rfl
  case ps => exact fun _ => rfl
  case kb =>
    intro X l' o o' hl ho1 ho2 ho3
    exact ⟨(FrP.of_grown (grownBy_putObj' X l' o')).mono (fun q e => by cases e; rw [HPK.out]; exact Or.inr hl), keep92_put ho1 ho2⟩
  case own =>
    rintro pre X Y row ⟨h2, ⟨v, A, C, hb, n1, bd⟩, hf⟩ hg hr
    have zX := hf.size
    exact ⟨h2, ⟨v, A, C, hb, (hg.block Bn (by omega) (fun e => by have := (hr _ e.symm).1; omega)).trans n1, bd.turn hg (fun r e => (hr r e).2)⟩, hf.trans ((FrP.of_grown hg).mono (fun q hq => by rw [HPK.out]; exact Or.inr (hr q hq).1))⟩
  case ownx =>
    rintro cd pre X Y row ⟨h2, L, q, v, A, C, hb, e1, e2, n1, bd, hf⟩ hg hr
    have zX := hf.size
    exact ⟨h2, L, q, v, A, C, hb, e1, e2, (hg.block Bn (by omega) (fun e => by have := (hr _ e.symm).1; omega)).trans n1, bd.turn hg (fun r e => (hr r e).2), hf.trans ((FrP.of_grown hg).mono (fun q hq => by rw [HPK.out]; exact Or.inr (hr q hq).1))⟩
  case start =>
    exact ⟨by simp; omega, ⟨_, fun _ => none, fun _ => 0, fun _ => 0, HN0.out, ⟨⟨fun _ => .int .i64 0, World.ownsRow_nil _ _ _ _, fun i hi' => absurd hi' (Nat.not_lt_zero _)⟩, fun i hi' => absurd hi' (Nat.not_lt_zero _), fun i hi' => absurd hi' (Nat.not_lt_zero _), fun i hi' => absurd hi' (Nat.not_lt_zero _), fun i j hi' => absurd hi' (Nat.not_lt_zero _)⟩⟩, FrP.refl _ _⟩
  case ownA =>
    rintro i a' _ X Y row ⟨Bx, e2, e3, e4⟩ hg hr
    refine ⟨Bx, (hg.block Bx (Array.getElem?_eq_some_iff.1 e2).1 (fun e => ?_)).trans e2, e3, e4⟩
    obtain ⟨_, o, ho, hc⟩ := hr Bx e.symm
    rw [e2] at ho
    cases ho
    cases hc
  case assign =>
    rintro l pre i X K ⟨h2, ⟨v, A, C, hb, n1, bd⟩, hf⟩ hK
    have zX := hf.size
    simp only [chV]
    gi_wp2
    exact hK _ _ ((KeepsOthers.alloc _ _).from _) (kpN_below (below_alloc _ _)) ⟨h2, ⟨v, A, C, hb, ((below_alloc _ _).block Bn (by omega)).trans n1, bd.grow (below_alloc _ _)⟩, hf.trans (FrP.of_below (below_alloc _ _))⟩ ⟨X.heap.size, World.alloc_heap_new X _, zX, rfl⟩
  case body =>
    rintro l0 pre i a' X hl ⟨r, hr'⟩ ⟨h2, ⟨v, A, C, hb, n1, bd⟩, hf⟩ ⟨Bx, bX, zBx0, rfl⟩ hlt
    have zX := hf.size
    have zBx : Bx < X.heap.size := (Array.getElem?_eq_some_iff.1 bX).1
    obtain ⟨ad, cap, g, ev, hca, _⟩ := bd.done
    obtain ⟨nl, hnl⟩ : ∃ nl, (ixs pre).length = nl := ⟨_, rfl⟩
    have hpl : pre.length = nl := by rw [← hnl, ixs_len]
    rw [hnl] at ev hca
    subst ev
    have HCA := hid hca
    clear hca
    have c1 : X.cell? ⟨Bn, 1, none⟩ = some (.slice ad nl cap) := by simp [World.cell?, n1]
    have cm := (hf.cell (p := ⟨w.heap.size + 1 + 1, 0, none⟩) (by show w.heap.size + 1 + 1 < _; omega) (hPkN _ (by show w.heap.size + 1 + 1 < _; omega) (by show ¬ w.heap.size + 1 + 1 = Bn; omega))).trans M0
    have h1' : 1 ≤ m - 1 - 1 := by omega
    have HBD := hid bd
    have HN1 := hid n1
    have HHF := hid hf
    clear bd n1 hf
    by_cases hfull : (nl : Int) = most
    · subst hfull
      obtain ⟨q, rfl⟩ : ∃ q, nl = q + 1 := ⟨nl - 1, by omega⟩
      obtain rfl := HCA.out.addr (by omega)
      obtain ⟨cf, r9, e9⟩ := HCA.out.row (by omega)
      have c9 : X.cell? ⟨g, q * 9, none⟩ = some (.int .i64 (pick xk (ixs pre) q).ver) := by
        have := r9.cell (q * 9) (by omega)
        rw [this]
        exact congrArg some (e9 q (by omega)).1
      clear r9 e9
      have hq6 : q + 1 ≤ 1000000 := by omega
      have HNL := hid hnl
      have HPL := hid hpl
      have HMO := hid hmost
      clear hnl hpl h2 hmost
      have cz2 : X.cell? ⟨Bn, 2, none⟩ = some (.int .i64 B.now) := by simp [World.cell?, HN1.out]
      have cf2 : X.frozen? ⟨Bn, 2, none⟩ = false := by simp [World.frozen?, HN1.out]
      gi_wp2
      have ns : (X.setCell ⟨Bn, 2, none⟩ (.int .i64 (pick xk (ixs pre) q).ver)).heap[Bn]? = some (.cells #[.int .i64 0, .slice (some ⟨g, 0, none⟩) (q + 1) cap, .int .i64 (pick xk (ixs pre) q).ver] 46 (0, 0)) := by
        rw [Go.Sort.setCell_eq]
        show (X.heap.modify Bn _)[Bn]? = _
        rw [Array.getElem?_modify, if_pos rfl, HN1.out]
        rfl
      have FS : FrP (fun q => q = Bn) X (X.setCell ⟨Bn, 2, none⟩ (.int .i64 (pick xk (ixs pre) q).ver)) := FrP.setCell (P := fun q => q = Bn) (FrP.refl _ _) (p := ⟨Bn, 2, none⟩) (by rfl) _
      refine ⟨(KeepsOthers.setCell _ _ _).from _, rfl, ixs pre, i.1, _, A, C, hb, ixs_snoc _ _, by rw [HNL.out], ?_, HBD.out.fr FS (fun q hq _ e => by omega), HHF.out.trans (FS.mono (fun q e => by rw [HPK.out]; exact Or.inl e))⟩
      rw [HNL.out]
      exact ns
    · gi_wp2
      refine nextReg11 F l0 (m - 1 - 1) h1' _ _ _ _ _ _ _ _ _ _ _ _ _ _ _ _ _ _ _ _ _ _ _ _ _ _ _ _ _ _ _ _ _ _ _ _ _ _ _ _ _ _ _ _ _ _ _ _ _ _ _ _ _ _ _ _ _ _ _ Bn Bx X0.heap.size Pk xk (ixs pre) i.1 ad nl cap (p.A2 (k + i.1)) (p.C2 (k + i.1)) _ _ A C hb X (hall 76) (fun W hW => CallsIn.inRound l0 (hcv _ _ _ _ _ (copyCh_own (xk i.1) (p.A2 (k + i.1)) (p.C2 (k + i.1)) W 0 w.heap.size ?z1 ?z2 ?z3))) HN1.out ?z4 zBx ?z5 HBD.out zX (by rw [HPK.out]; exact Or.inl rfl) (fun q hq => by rw [HPK.out]; exact Or.inr hq) (by omega) _ ?_
      case z1 => have := hW.size; omega
      case z2 => rw [HXK.out]; exact (hfit.hs (k + i.1) (by have := i.2; omega)).h
      case z3 =>
        intro j hj
        have hj' : j < (B.hs (k + i.1)).ob.hn := by rw [HXK.out] at hj; exact hj
        obtain ⟨b, off, e1, e2, e3, e4, e5⟩ := HX.out.h.hold (k + i.1) (by have := i.2; omega) j hj'
        have hlt' := HX.out.h.hlt (k + i.1) (by have := i.2; omega) (by omega)
        refine ⟨b, off, e1, Nat.zero_le _, by omega, ?_⟩
        rw [hW.cell (p := ⟨b, off + j, none⟩) (by show b < _; omega), HHF.out.cell (p := ⟨b, off + j, none⟩) (by show b < _; omega) (hPkN _ (by show b < _; omega) (by show ¬ b = _; omega)), hBX.cell (p := ⟨b, off + j, none⟩) (by show b < _; omega), HXK.out]
        exact e4
      case z4 => rw [HXK.out]; exact fun j => by simp [World.cell?, bX]
      case z5 => rw [hnl]; omega
      intro u0' u1' u2' u3' u4' u5' u6' v' X' hcp
      obtain ⟨⟨A', C', hb', bd'⟩, n', ko, fp, k92⟩ := hcp
      gi_wp2
      refine ⟨ko.from _, ⟨fp, k92⟩, by simp; omega, ⟨v', A', C', hb', n', by rw [ixs_snoc]; exact bd'⟩, HHF.out.trans fp⟩
  case done =>
    rintro D xs X hD hS ⟨h2, ⟨v, A, C, hb, n1, bd⟩, hf⟩ hK
    have HL := hid (show nwL B k ki pr most = ixs xs from by unfold nwL; rw [show seen B.hs k B.hn ki pr = ixs xs from hS.symm]; exact List.take_of_length_le (by rw [ixs_len]; omega))
    have HF := hid (show nwF B k ki pr most = B.now from by unfold nwF; rw [show seen B.hs k B.hn ki pr = ixs xs from hS.symm]; exact if_pos (by rw [ixs_len]; omega))
    clear hS h2
    have zX := hf.size
    obtain ⟨ad, cap, g, ev, _, _⟩ := bd.done
    obtain ⟨nl, hnl⟩ : ∃ nl, (ixs xs).length = nl := ⟨_, rfl⟩
    rw [hnl] at ev
    subst ev
    obtain ⟨nv, hnv⟩ : ∃ nv, B.now = nv := ⟨_, rfl⟩
    rw [hnv] at n1
    have n0 : X.cell? ⟨Bn, 0, none⟩ = some (.int .i64 0) := by simp [World.cell?, n1]
    have n2 : X.cell? ⟨Bn, 1, none⟩ = some (.slice ad nl cap) := by simp [World.cell?, n1]
    have n3 : X.cell? ⟨Bn, 2, none⟩ = some (.int .i64 nv) := by simp [World.cell?, n1]
    have rr : ∀ j, X.cell? ⟨w.heap.size + 1 + 1 + 1, j, none⟩ = X0.cell? ⟨w.heap.size + 1 + 1 + 1, j, none⟩ := fun j => hf.cell (p := ⟨w.heap.size + 1 + 1 + 1, j, none⟩) (by show w.heap.size + 1 + 1 + 1 < _; omega) (hPkN _ (by show w.heap.size + 1 + 1 + 1 < _; omega) (by show ¬ w.heap.size + 1 + 1 + 1 = Bn; omega))
    have r0 := (rr 0).trans HR0.out
    have r1 := (rr 1).trans HR1.out
    have r2 := (rr 2).trans HR2.out
    have rf : ∀ j, X.frozen? ⟨w.heap.size + 1 + 1 + 1, j, none⟩ = false := fun j => (hf.frozen (p := ⟨w.heap.size + 1 + 1 + 1, j, none⟩) (by show w.heap.size + 1 + 1 + 1 < _; omega) (hPkN _ (by show w.heap.size + 1 + 1 + 1 < _; omega) (by show ¬ w.heap.size + 1 + 1 + 1 = Bn; omega))).trans (HRF.out j)
    have rf0 := rf 0
    have rf1 := rf 1
    have rf2 := rf 2
    have HBD := hid bd
    have HHF := hid hf
    have HNL := hid hnl
    have HNV := hid hnv
    have HK := hid hK
    clear bd hf rr rf hnl hnv n1
    gi_wp2
    obtain ⟨Y, hY, kY, fY, y0, y1, y2⟩ := nextFin (v0 := .int .i64 0) (v1 := .slice ad nl cap) (v2 := .int .i64 nv) HK.out r0 r1 r2 (show D ≠ w.heap.size + 1 + 1 + 1 by omega)
    rw [hY]
    have FD : FrP (fun q => q = D) Y (Y.putObj D (.deferred none)) := FrP.of_grown (grownBy_putObj' Y D (.deferred none)) |>.mono (fun q e => by cases e; rfl)
    have bdY := ((HBD.out.fr fY (fun q hq _ e => by omega)).turn (grownBy_putObj' Y D (.deferred none)) (fun r e => by cases e; exact ⟨_, kY, rfl⟩)).lower (b' := w.heap.size) (by omega)
    have bY := ((hBX.trans (HHF.out.below (fun q hq e => by rw [HPK.out] at e; omega) (by omega))).trans (fY.below (fun q hq e => by omega) (by omega))).trans (FD.below (fun q hq e => by omega) (by have := fY.size; omega))
    refine ⟨by simp, .inl ⟨_, _, rfl, run_takeDeferred kY, ?_⟩⟩
    refine ⟨.agg #[.int .i64 0, .slice ad nl cap, .int .i64 nv], by simp [results, Tryz.results23, go_sem, y0, y1, y2], .slice ad nl cap, A, C, hb, ?_, ?_, ?_⟩
    · rw [HF.out, HNV.out]
    · rw [HL.out]; rw [← HXK.out]; exact bdY
    · exact bY
  case stop =>
    rintro D cd pre X hD ⟨j, hj, hSp⟩ ⟨rfl, L, q, v, A, C, hb, e1, e2, n1, bd, hf⟩ hK
    obtain ⟨r9, hr9⟩ := seen_pre (x := B.hs) (k := k) (n := B.hn) (ki := ki) (pr := pr) hj
    rw [show (List.range j).filter (fun i => lkB (B.hs (k + i)).ob ki pr) = L ++ [q] from hSp.symm.trans e1] at hr9
    have HL := hid (show nwL B k ki pr most = L from by unfold nwL; rw [hr9, ← e2]; simp)
    have HF := hid (show nwF B k ki pr most = (pick xk L (L.length - 1)).ver from by
      have hn : ¬ (seen B.hs k B.hn ki pr).length ≤ most.toNat := by rw [hr9, ← e2]; simp
      unfold nwF
      rw [if_neg hn, HL.out, HXK.out])
    clear hSp e1 e2 hr9
    have zX := hf.size
    obtain ⟨ad, cap, g, ev, _, _⟩ := bd.done
    obtain ⟨nl, hnl⟩ : ∃ nl, (L).length = nl := ⟨_, rfl⟩
    rw [hnl] at ev
    subst ev
    obtain ⟨nv, hnv⟩ : ∃ nv, (pick xk L (L.length - 1)).ver = nv := ⟨_, rfl⟩
    rw [hnv] at n1
    have n0 : X.cell? ⟨Bn, 0, none⟩ = some (.int .i64 0) := by simp [World.cell?, n1]
    have n2 : X.cell? ⟨Bn, 1, none⟩ = some (.slice ad nl cap) := by simp [World.cell?, n1]
    have n3 : X.cell? ⟨Bn, 2, none⟩ = some (.int .i64 nv) := by simp [World.cell?, n1]
    have rr : ∀ j, X.cell? ⟨w.heap.size + 1 + 1 + 1, j, none⟩ = X0.cell? ⟨w.heap.size + 1 + 1 + 1, j, none⟩ := fun j => hf.cell (p := ⟨w.heap.size + 1 + 1 + 1, j, none⟩) (by show w.heap.size + 1 + 1 + 1 < _; omega) (hPkN _ (by show w.heap.size + 1 + 1 + 1 < _; omega) (by show ¬ w.heap.size + 1 + 1 + 1 = Bn; omega))
    have r0 := (rr 0).trans HR0.out
    have r1 := (rr 1).trans HR1.out
    have r2 := (rr 2).trans HR2.out
    have rf : ∀ j, X.frozen? ⟨w.heap.size + 1 + 1 + 1, j, none⟩ = false := fun j => (hf.frozen (p := ⟨w.heap.size + 1 + 1 + 1, j, none⟩) (by show w.heap.size + 1 + 1 + 1 < _; omega) (hPkN _ (by show w.heap.size + 1 + 1 + 1 < _; omega) (by show ¬ w.heap.size + 1 + 1 + 1 = Bn; omega))).trans (HRF.out j)
    have rf0 := rf 0
    have rf1 := rf 1
    have rf2 := rf 2
    have HBD := hid bd
    have HHF := hid hf
    have HNL := hid hnl
    have HNV := hid hnv
    have HK := hid hK
    clear bd hf rr rf hnl hnv n1
    gi_wp2
    obtain ⟨Y, hY, kY, fY, y0, y1, y2⟩ := nextFin (v0 := .int .i64 0) (v1 := .slice ad nl cap) (v2 := .int .i64 nv) HK.out r0 r1 r2 (show D ≠ w.heap.size + 1 + 1 + 1 by omega)
    rw [hY]
    have FD : FrP (fun q => q = D) Y (Y.putObj D (.deferred none)) := FrP.of_grown (grownBy_putObj' Y D (.deferred none)) |>.mono (fun q e => by cases e; rfl)
    have bdY := ((HBD.out.fr fY (fun q hq _ e => by omega)).turn (grownBy_putObj' Y D (.deferred none)) (fun r e => by cases e; exact ⟨_, kY, rfl⟩)).lower (b' := w.heap.size) (by omega)
    have bY := ((hBX.trans (HHF.out.below (fun q hq e => by rw [HPK.out] at e; omega) (by omega))).trans (fY.below (fun q hq e => by omega) (by omega))).trans (FD.below (fun q hq e => by omega) (by have := fY.size; omega))
    refine ⟨by simp, .inl ⟨_, _, rfl, run_takeDeferred kY, ?_⟩⟩
    refine ⟨.agg #[.int .i64 0, .slice ad nl cap, .int .i64 nv], by simp [results, Tryz.results23, go_sem, y0, y1, y2], .slice ad nl cap, A, C, hb, ?_, ?_, ?_⟩
    · rw [HF.out, HNV.out]
    · rw [HL.out]; rw [← HXK.out]; exact bdY
    · exact bY
end Go.Proofs.YtkecnaaacbckoaaGreat
namespace Go.Proofs.YtkecnaaacbckoaaGreat
open Go.RowKit Go.Shelf
theorem resFin {X : World} {rb : Nat} {o0 o1 o2 v0 v1 v2 : Value} (r0 : X.cell? ⟨rb, 0, none⟩ = some o0) (r1 : X.cell? ⟨rb, 1, none⟩ = some o1) (r2 : X.cell? ⟨rb, 2, none⟩ = some o2) :
    ∃ Y, ((X.setCell ⟨rb, 0, none⟩ v0).setCell ⟨rb, 1, none⟩ v1).setCell ⟨rb, 2, none⟩ v2 = Y ∧ FrP (fun q => q = rb) X Y ∧ Y.cell? ⟨rb, 0, none⟩ = some v0 ∧ Y.cell? ⟨rb, 1, none⟩ = some v1 ∧ Y.cell? ⟨rb, 2, none⟩ = some v2 := by
  have F : FrP (fun q => q = rb) X (((X.setCell ⟨rb, 0, none⟩ v0).setCell ⟨rb, 1, none⟩ v1).setCell ⟨rb, 2, none⟩ v2) := (((FrP.refl _ _).setCell (p := ⟨rb, 0, none⟩) (by rfl) _).setCell (p := ⟨rb, 1, none⟩) (by rfl) _).setCell (p := ⟨rb, 2, none⟩) (by rfl) _
  refine ⟨_, rfl, F, ?_, ?_, ?_⟩
  · rw [World.cell?_setCell_other _ _ _ _ (by simp), World.cell?_setCell_other _ _ _ _ (by simp)]
    exact World.cell?_setCell_same _ _ _ r0
  · rw [World.cell?_setCell_other _ _ _ _ (by simp)]
    exact World.cell?_setCell_same _ _ _ ((World.cell?_setCell_other _ _ _ _ (by simp)).trans r1)
  · exact World.cell?_setCell_same _ _ _ ((World.cell?_setCell_other _ _ _ _ (by simp)).trans ((World.cell?_setCell_other _ _ _ _ (by simp)).trans r2))
/-- the code of a watch -/
def nwC (B : Bk) (fr most : Int) : Int := if (allTo (chk B) 7 && decide (1 ≤ most) && inB fr 0 B.now) = true then (if fr < B.floor then 2 else 0) else 1
set_option maxRecDepth 100000 in
set_option maxHeartbeats 4000000 in
theorem implNextNo_any (B : Bk) (a1 a2 a3 : Option Addr) (c1 c2 c3 : Nat) (ki pr : ByteArray) (fr most : Int) (w : World) (lo hi : Nat) (hhi : hi ≤ w.heap.size) (hfit : BkFit B) (hin : BkIn w lo hi B a1 a2 a3) (hv : nwC B fr most ≠ 0) :
    Calls Tryz.prog 23 #[.agg #[.int .i64 B.now, .int .i64 B.floor, .slice a1 B.on c1, .slice a2 B.hn c2, .slice a3 B.tn c3], .agg #[.string ki, .string pr, .int .i64 fr], .int .i64 most] w fun e w' => e = .returned (.agg #[.int .i64 (nwC B fr most), .slice none 0 0, .int .i64 0]) ∧ Below w.heap.size w w' := by
  have HIN := hid hin
  clear hin
  have hb4 : ∀ o1 o2 o3 o4, Below w.heap.size w ((((w.alloc o1).alloc o2).alloc o3).alloc o4) := fun o1 o2 o3 o4 => (((below_alloc _ _).alloc (by simp) _).alloc (by simp; omega) _).alloc (by simp; omega) _
  cases hc : allTo (chk B) 7 with
  | false =>
    have hK : nwC B fr most = 1 := by simp [nwC, hc]
    rw [hK]
    clear hv hK
    go_enter Tryz.func23, Tryz.ntmps23
    go_wp2_with (go_at_call 44; go_must (refine (implValid_any B a1 a2 a3 c1 c2 c3 _ lo hi (by simp; omega) hfit (HIN.out.below (hb4 _ _ _ _) hhi)).mono ?_; rw [hc]; rintro e w1 ⟨rfl, hb1⟩; obtain ⟨A0, A1, A2, A3, F3⟩ := four_cell hb1; have p0 := A0 0; have p1 := A0 1; have p2 := A0 2; have p3 := A0 3; have p4 := A0 4; have q0 := A1 0; have q1 := A1 1; have q2 := A1 2; have m0 := A2 0; have r0 := A3 0; have r1 := A3 1; have r2 := A3 2; have f0 := F3 0; have f1 := F3 1; have f2 := F3 2; simp only [List.getElem?_toArray, List.getElem?_cons_succ, List.getElem?_cons_zero] at p0 p1 p2 p3 p4 q0 q1 q2 m0 r0 r1 r2; clear A0 A1 A2 A3 F3))
    obtain ⟨Y, hY, fY, y0, y1, y2⟩ := resFin (v0 := .int .i64 1) (v1 := .slice none 0 0) (v2 := .int .i64 0) r0 r1 r2
    have z1 : w.heap.size + 4 ≤ w1.heap.size := by have := hb1.size; simp at this; omega
    have bY := ((hb4 _ _ _ _).trans (hb1.mono (by simp; omega))).trans (fY.below (B := w.heap.size) (fun q hq e => by omega) (by omega))
    rw [hY]
    exact bodyPost_ret (v := .agg #[.int .i64 1, .slice none 0 0, .int .i64 0]) (by simp [results, Tryz.results23, go_sem, y0, y1, y2]) rfl ⟨rfl, bY⟩
  | true =>
    by_cases hm : most < 1
    · have hK : nwC B fr most = 1 := by simp [nwC, hc]; omega
      rw [hK]
      clear hv hK
      go_enter Tryz.func23, Tryz.ntmps23
      go_wp2_with (go_at_call 44; go_must (refine (implValid_any B a1 a2 a3 c1 c2 c3 _ lo hi (by simp; omega) hfit (HIN.out.below (hb4 _ _ _ _) hhi)).mono ?_; rw [hc]; rintro e w1 ⟨rfl, hb1⟩; obtain ⟨A0, A1, A2, A3, F3⟩ := four_cell hb1; have p0 := A0 0; have p1 := A0 1; have p2 := A0 2; have p3 := A0 3; have p4 := A0 4; have q0 := A1 0; have q1 := A1 1; have q2 := A1 2; have m0 := A2 0; have r0 := A3 0; have r1 := A3 1; have r2 := A3 2; have f0 := F3 0; have f1 := F3 1; have f2 := F3 2; simp only [List.getElem?_toArray, List.getElem?_cons_succ, List.getElem?_cons_zero] at p0 p1 p2 p3 p4 q0 q1 q2 m0 r0 r1 r2; clear A0 A1 A2 A3 F3))
      obtain ⟨Y, hY, fY, y0, y1, y2⟩ := resFin (v0 := .int .i64 1) (v1 := .slice none 0 0) (v2 := .int .i64 0) r0 r1 r2
      have z1 : w.heap.size + 4 ≤ w1.heap.size := by have := hb1.size; simp at this; omega
      have bY := ((hb4 _ _ _ _).trans (hb1.mono (by simp; omega))).trans (fY.below (B := w.heap.size) (fun q hq e => by omega) (by omega))
      rw [hY]
      exact bodyPost_ret (v := .agg #[.int .i64 1, .slice none 0 0, .int .i64 0]) (by simp [results, Tryz.results23, go_sem, y0, y1, y2]) rfl ⟨rfl, bY⟩
    cases hi2 : inB fr 0 B.now with
    | false =>
      have hK : nwC B fr most = 1 := by simp [nwC, hi2]
      rw [hK]
      clear hv hK
      go_enter Tryz.func23, Tryz.ntmps23
      go_wp2_with (first | (go_at_call 44; go_must (refine (implValid_any B a1 a2 a3 c1 c2 c3 _ lo hi (by simp; omega) hfit (HIN.out.below (hb4 _ _ _ _) hhi)).mono ?_; rw [hc]; rintro e w1 ⟨rfl, hb1⟩; obtain ⟨A0, A1, A2, A3, F3⟩ := four_cell hb1; have p0 := A0 0; have p1 := A0 1; have p2 := A0 2; have p3 := A0 3; have p4 := A0 4; have q0 := A1 0; have q1 := A1 1; have q2 := A1 2; have m0 := A2 0; have r0 := A3 0; have r1 := A3 1; have r2 := A3 2; have f0 := F3 0; have f1 := F3 1; have f2 := F3 2; simp only [List.getElem?_toArray, List.getElem?_cons_succ, List.getElem?_cons_zero] at p0 p1 p2 p3 p4 q0 q1 q2 m0 r0 r1 r2; clear A0 A1 A2 A3 F3)) | (go_at_call 60; go_must (refine (within_any _ _ _ _).mono ?_; rw [hi2]; rintro e w2 ⟨rfl, rfl⟩)))
      obtain ⟨Y, hY, fY, y0, y1, y2⟩ := resFin (v0 := .int .i64 1) (v1 := .slice none 0 0) (v2 := .int .i64 0) r0 r1 r2
      have z1 : w.heap.size + 4 ≤ w2.heap.size := by have := hb1.size; simp at this; omega
      have bY := ((hb4 _ _ _ _).trans (hb1.mono (by simp; omega))).trans (fY.below (B := w.heap.size) (fun q hq e => by omega) (by omega))
      rw [hY]
      exact bodyPost_ret (v := .agg #[.int .i64 1, .slice none 0 0, .int .i64 0]) (by simp [results, Tryz.results23, go_sem, y0, y1, y2]) rfl ⟨rfl, bY⟩
    | true =>
      have hf : fr < B.floor := Decidable.byContradiction fun h => hv (by simp [nwC, hc, hi2, h]; omega)
      have hK : nwC B fr most = 2 := by simp [nwC, hc, hi2, hf]; omega
      rw [hK]
      clear hv hK
      go_enter Tryz.func23, Tryz.ntmps23
      go_wp2_with (first | (go_at_call 44; go_must (refine (implValid_any B a1 a2 a3 c1 c2 c3 _ lo hi (by simp; omega) hfit (HIN.out.below (hb4 _ _ _ _) hhi)).mono ?_; rw [hc]; rintro e w1 ⟨rfl, hb1⟩; obtain ⟨A0, A1, A2, A3, F3⟩ := four_cell hb1; have p0 := A0 0; have p1 := A0 1; have p2 := A0 2; have p3 := A0 3; have p4 := A0 4; have q0 := A1 0; have q1 := A1 1; have q2 := A1 2; have m0 := A2 0; have r0 := A3 0; have r1 := A3 1; have r2 := A3 2; have f0 := F3 0; have f1 := F3 1; have f2 := F3 2; simp only [List.getElem?_toArray, List.getElem?_cons_succ, List.getElem?_cons_zero] at p0 p1 p2 p3 p4 q0 q1 q2 m0 r0 r1 r2; clear A0 A1 A2 A3 F3)) | (go_at_call 60; go_must (refine (within_any _ _ _ _).mono ?_; rw [hi2]; rintro e w2 ⟨rfl, rfl⟩)))
      obtain ⟨Y, hY, fY, y0, y1, y2⟩ := resFin (v0 := .int .i64 2) (v1 := .slice none 0 0) (v2 := .int .i64 0) r0 r1 r2
      have z1 : w.heap.size + 4 ≤ w2.heap.size := by have := hb1.size; simp at this; omega
      have bY := ((hb4 _ _ _ _).trans (hb1.mono (by simp; omega))).trans (fY.below (B := w.heap.size) (fun q hq e => by omega) (by omega))
      rw [hY]
      exact bodyPost_ret (v := .agg #[.int .i64 2, .slice none 0 0, .int .i64 0]) (by simp [results, Tryz.results23, go_sem, y0, y1, y2]) rfl ⟨rfl, bY⟩
end Go.Proofs.YtkecnaaacbckoaaGreat
