import Derived.Test.YtcpbgoaicnijjaaGreatCe
namespace Go.Proofs.YtcpbgoaicnijjaaGreat
open Go.RowKit Go.Maps
set_option maxRecDepth 100000 in
set_option maxHeartbeats 1000000 in
theorem specCutNo_any (x : Bk) (a1 a2 a3 : Option Addr) (c1 c2 c3 : Nat) (fl : Int) (w : World) (lo hi : Nat) (hhi : hi ≤ w.heap.size) (hf : BkFit x) (hc : BkIn w lo hi x a1 a2 a3) (hv : allTo (chk x) 7 = false) :
    Calls Tryz.prog 5 #[.agg #[.int .i64 x.now, .int .i64 x.floor, .slice a1 x.on c1, .slice a2 x.hn c2, .slice a3 x.tn c3], .int .i64 fl] w fun e w' => e = .returned (.agg #[.int .i64 0, .int .i64 0, .slice none 0 0, .slice none 0 0, .slice none 0 0]) ∧ Below w.heap.size w w' := by
  go_enter Tryz.func5, Tryz.ntmps5
  go_wp2_with (go_at_call 14; go_must (refine (specValid_any x a1 a2 a3 c1 c2 c3 _ lo hi (by simp; omega) hf (hc.below ((below_alloc _ _).alloc (by simp) _) hhi)).mono ?_; rw [hv]; rintro e w1 ⟨rfl, hb1⟩; have R1 := RowF.new (l := [.int .i64 0, .int .i64 0, .slice none 0 0, .slice none 0 0, .slice none 0 0]) hb1; have r0 := R1.cell 0 (by decide); have r1 := R1.cell 1 (by decide); have r2 := R1.cell 2 (by decide); have r3 := R1.cell 3 (by decide); have r4 := R1.cell 4 (by decide); have rf := R1.free; simp only [vec, List.getD_cons_zero, List.getD_cons_succ, World.size_alloc] at r0 r1 r2 r3 r4 rf; have RW := hid R1; clear R1))
  have rw := row5 (v0 := .int .i64 0) (v1 := .int .i64 0) (v2 := .slice none 0 0) (v3 := .slice none 0 0) (v4 := .slice none 0 0) (show RowF w1 (w.heap.size + 1) 5 _ from by have h := RW.out; rw [World.size_alloc] at h; exact h)
  have u0 := rw.cell 0 (by omega)
  have u1 := rw.cell 1 (by omega)
  have u2 := rw.cell 2 (by omega)
  have u3 := rw.cell 3 (by omega)
  have u4 := rw.cell 4 (by omega)
  simp only [vec, List.getD_cons_zero, List.getD_cons_succ] at u0 u1 u2 u3 u4
  refine bodyPost_ret (v := .agg #[.int .i64 0, .int .i64 0, .slice none 0 0, .slice none 0 0, .slice none 0 0]) (by simp [results, Tryz.results5, go_sem, u0, u1, u2, u3, u4]) rfl ⟨rfl, ?_⟩
  have FF := (((((FrP.refl (fun q => q = w.heap.size + 1) w1).setCell (p := ⟨w.heap.size + 1, 0, none⟩) (by rfl) (.int .i64 0)).setCell (p := ⟨w.heap.size + 1, 1, none⟩) (by rfl) (.int .i64 0)).setCell (p := ⟨w.heap.size + 1, 2, none⟩) (by rfl) (.slice none 0 0)).setCell (p := ⟨w.heap.size + 1, 3, none⟩) (by rfl) (.slice none 0 0)).setCell (p := ⟨w.heap.size + 1, 4, none⟩) (by rfl) (.slice none 0 0)
  have zb := hb1.size
  simp only [World.size_alloc] at zb
  exact (((below_alloc _ _).alloc (by simp) _).trans (hb1.mono (by simp; omega))).trans (FF.below (fun q hq e => by omega) (by omega))
theorem bkIn0 (w : World) (lo hi : Nat) (a1 a2 a3 : Option Addr) : BkIn w lo hi bk0 a1 a2 a3 := ⟨fun _i hi' => absurd hi' (Nat.not_lt_zero _), fun _i hi' => absurd hi' (Nat.not_lt_zero _), fun _i hi' => absurd hi' (Nat.not_lt_zero _)⟩
theorem specCut_y (x : Bk) (a1 a2 a3 : Option Addr) (c1 c2 c3 : Nat) (fl : Int) (y : Bk) (hy : resC x fl = y) (w : World) (lo hi : Nat) (hhi : hi ≤ w.heap.size) (l1 : (x.on : Int) ≤ 1048576) (l2 : (x.hn : Int) ≤ 1048576) (l3 : (x.tn : Int) ≤ 1048576) (hf : BkFit x) (hc : BkIn w lo hi x a1 a2 a3) :
    Calls Tryz.prog 5 #[.agg #[.int .i64 x.now, .int .i64 x.floor, .slice a1 x.on c1, .slice a2 x.hn c2, .slice a3 x.tn c3], .int .i64 fl] w fun e w' => ∃ (b1 b2 b3 : Option Addr) (d1 d2 d3 : Nat), e = .returned (.agg #[.int .i64 y.now, .int .i64 y.floor, .slice b1 y.on d1, .slice b2 y.hn d2, .slice b3 y.tn d3]) ∧ BkIn w' w.heap.size w'.heap.size y b1 b2 b3 ∧ Below w.heap.size w w' := by
  cases hv : allTo (chk x) 7 with
  | false =>
    have e : y = bk0 := by rw [← hy]; simp [resC, hv]
    subst e
    refine (specCutNo_any x a1 a2 a3 c1 c2 c3 fl w lo hi hhi hf hc hv).mono ?_
    rintro e w' ⟨rfl, hb⟩
    exact ⟨none, none, none, 0, 0, 0, rfl, bkIn0 _ _ _ _ _ _, hb⟩
  | true =>
    have e : y = cutB x (cutN x fl) := by rw [← hy]; simp [resC, hv]
    subst e
    exact specCutYes_any x a1 a2 a3 c1 c2 c3 fl w lo hi hhi l1 l2 l3 hf hc hv
theorem implCut_y (x : Bk) (a1 a2 a3 : Option Addr) (c1 c2 c3 : Nat) (fl : Int) (y : Bk) (hy : resC x fl = y) (w : World) (lo hi : Nat) (hhi : hi ≤ w.heap.size) (hf : BkFit x) (hc : BkIn w lo hi x a1 a2 a3) :
    Calls Tryz.prog 7 #[.agg #[.int .i64 x.now, .int .i64 x.floor, .slice a1 x.on c1, .slice a2 x.hn c2, .slice a3 x.tn c3], .int .i64 fl] w fun e w' => ∃ (p : Pl) (d1 d2 d3 : Nat), e = .returned (.agg #[.int .i64 y.now, .int .i64 y.floor, .slice p.a1 y.on d1, .slice p.a2 y.hn d2, .slice p.a3 y.tn d3]) ∧ BkAt w' y p ∧ (∀ q, blkB p y q → w.heap.size ≤ q) ∧ Below w.heap.size w w' := by
  cases hv : allTo (chk x) 7 with
  | false =>
    have e : y = bk0 := by rw [← hy]; simp [resC, hv]
    subst e
    refine (implCutNo_any x a1 a2 a3 c1 c2 c3 fl w lo hi hhi hf hc hv).mono ?_
    rintro e w' ⟨rfl, hb⟩
    exact ⟨⟨none, none, none, 0, 0, 0, fun _ => none, fun _ => 0, fun _ => 0, fun _ => none, fun _ => 0, fun _ => 0⟩, 0, 0, 0, rfl, bkAt0 _ _, fun q hq => (blkB0 hq).elim, hb⟩
  | true =>
    have e : y = cutB x (cutN x fl) := by rw [← hy]; simp [resC, hv]
    subst e
    exact implCutYes_any x a1 a2 a3 c1 c2 c3 fl w lo hi hhi hf hc hv
theorem sumTo_shift (g : Nat → Nat) (k : Nat) : ∀ m, sumTo (fun i => g (i + k)) m ≤ sumTo g (k + m)
  | 0 => Nat.zero_le _
  | m + 1 => by
    have ih := sumTo_shift g k m
    rw [show k + (m + 1) = (k + m) + 1 by omega]
    simp only [sumTo]
    rw [Nat.add_comm m k]
    omega
theorem resC_sz (x : Bk) (fl : Int) : szBk (resC x fl) ≤ szBk x := by
  unfold resC
  split
  · show szObs x.on x.os + szChs (x.hn - cutN x fl) (fun i => x.hs (i + cutN x fl)) + szTis x.tn x.ts ≤ szObs x.on x.os + szChs x.hn x.hs + szTis x.tn x.ts
    by_cases h : cutN x fl ≤ x.hn
    · have h1 := sumTo_shift (fun i => szCh (x.hs i)) (cutN x fl) (x.hn - cutN x fl)
      rw [show cutN x fl + (x.hn - cutN x fl) = x.hn by omega] at h1
      have h2 : szChs (x.hn - cutN x fl) (fun i => x.hs (i + cutN x fl)) ≤ szChs x.hn x.hs := by
        unfold szChs
        exact Nat.add_le_add (by omega) h1
      omega
    · rw [show x.hn - cutN x fl = 0 by omega]
      unfold szChs
      simp only [sumTo]
      omega
  · unfold szBk szObs szChs szTis bk0
    simp [sumTo]
theorem resC_fit {x : Bk} (h : BkFit x) (fl : Int) : BkFit (resC x fl) := by
  unfold resC
  split
  · have h1 := h.h
    exact ⟨h.o, by show ((x.hn - cutN x fl : Nat) : Int) ≤ _; omega, h.t, h.os, fun i hi => h.hs (i + cutN x fl) (by have : i < x.hn - cutN x fl := hi; omega), h.ts⟩
  · exact ⟨by decide, by decide, by decide, fun i hi => absurd hi (Nat.not_lt_zero _), fun i hi => absurd hi (Nat.not_lt_zero _), fun i hi => absurd hi (Nat.not_lt_zero _)⟩
theorem lim_of_sz {x : Bk} (h : szBk x ≤ 1048576) : (x.on : Int) ≤ 1048576 ∧ (x.hn : Int) ≤ 1048576 ∧ (x.tn : Int) ≤ 1048576 := by
  unfold szBk szObs szChs szTis at h
  omega
/-- where the law stands, from its first comparison on -/
structure CS (W : World) (s0 : Nat) (x : Bk) (a1 a2 a3 : Option Addr) (c1 c2 c3 : Nat) (y : Bk) (zw zx zg : Nat) (b1 b2 b3 : Option Addr) (e1 e2 e3 : Nat) (p : Pl) (d1 d2 d3 : Nat) (g : Pl) (f1 f2 f3 : Nat) (xm ym : Bk) : Prop where
  bx : Holds W s0 (bkCells x a1 a2 a3 c1 c2 c3)
  arg : BkIn W 0 s0 x a1 a2 a3
  vw : Holds W zw (bkCells y b1 b2 b3 e1 e2 e3)
  ww : BkIn W (s0 + 1) zw y b1 b2 b3
  vx : Holds W zx (bkCells x p.a1 p.a2 p.a3 d1 d2 d3)
  xx : BkAt W xm p
  xb : ∀ q, blkB p xm q → zw < q ∧ q < zx
  vg : Holds W zg (bkCells y g.a1 g.a2 g.a3 f1 f2 f3)
  gg : BkAt W ym g
  gb : ∀ q, blkB g ym q → zx < q ∧ q < zg
  o1 : s0 < zw
  o2 : zw < zx
  o3 : zx < zg
  o4 : zg < W.heap.size
section
variable {W W' : World} {s0 : Nat} {x : Bk} {a1 a2 a3 : Option Addr} {c1 c2 c3 : Nat} {y : Bk} {zw zx zg : Nat} {b1 b2 b3 : Option Addr} {e1 e2 e3 : Nat} {p : Pl} {d1 d2 d3 : Nat} {g : Pl} {f1 f2 f3 : Nat} {xm ym : Bk}
theorem Holds.frP {W W' : World} {B : Nat} {c : Array Value} {P : Nat → Prop} (h : Holds W B c) (hf : FrP P W W') (hB : B < W.heap.size) (hp : ¬ P B) : Holds W' B c := fun i => (hf.cell (p := ⟨B, i, none⟩) hB hp).trans (h i)
theorem CS.below (h : CS W s0 x a1 a2 a3 c1 c2 c3 y zw zx zg b1 b2 b3 e1 e2 e3 p d1 d2 d3 g f1 f2 f3 xm ym) (hb : Below W.heap.size W W') : CS W' s0 x a1 a2 a3 c1 c2 c3 y zw zx zg b1 b2 b3 e1 e2 e3 p d1 d2 d3 g f1 f2 f3 xm ym := by
  have h1 := h.o1
  have h2 := h.o2
  have h3 := h.o3
  have h4 := h.o4
  exact ⟨h.bx.below hb (by omega), h.arg.below hb (by omega), h.vw.below hb (by omega), h.ww.below hb (by omega), h.vx.below hb (by omega), h.xx.grow hb, h.xb, h.vg.below hb (by omega), h.gg.grow hb, h.gb, h1, h2, h3, Nat.lt_of_lt_of_le h4 hb.size⟩
theorem CS.markX (h : CS W s0 x a1 a2 a3 c1 c2 c3 y zw zx zg b1 b2 b3 e1 e2 e3 p d1 d2 d3 g f1 f2 f3 xm ym) (k0 : Nat) (hx : BkAt W' (ykBk k0 xm) p) (hf : FrP (blkB p xm) W W') : CS W' s0 x a1 a2 a3 c1 c2 c3 y zw zx zg b1 b2 b3 e1 e2 e3 p d1 d2 d3 g f1 f2 f3 (ykBk k0 xm) ym := by
  have h1 := h.o1
  have h2 := h.o2
  have h3 := h.o3
  have h4 := h.o4
  have hB : Below zw W W' := hf.below (B := zw) (fun q hq e => by have := h.xb _ e; omega) (by omega)
  exact ⟨h.bx.below hB (by omega), h.arg.below hB (by omega), h.vw.frP hf (by omega) (fun e => by have := h.xb _ e; omega), h.ww.below hB (Nat.le_refl _), h.vx.frP hf (by omega) (fun e => by have := h.xb _ e; omega), hx, by rw [blkB_yk]; exact h.xb, h.vg.frP hf (by omega) (fun e => by have := h.xb _ e; omega), h.gg.fr hf (fun q hq e => by have a := h.gb q hq; have b := h.xb _ e; omega), h.gb, h1, h2, h3, Nat.lt_of_lt_of_le h4 hf.size⟩
theorem CS.markG (h : CS W s0 x a1 a2 a3 c1 c2 c3 y zw zx zg b1 b2 b3 e1 e2 e3 p d1 d2 d3 g f1 f2 f3 xm ym) (k0 : Nat) (hg : BkAt W' (ykBk k0 ym) g) (hf : FrP (blkB g ym) W W') : CS W' s0 x a1 a2 a3 c1 c2 c3 y zw zx zg b1 b2 b3 e1 e2 e3 p d1 d2 d3 g f1 f2 f3 xm (ykBk k0 ym) := by
  have h1 := h.o1
  have h2 := h.o2
  have h3 := h.o3
  have h4 := h.o4
  have hB : Below zx W W' := hf.below (B := zx) (fun q hq e => by have := h.gb _ e; omega) (by omega)
  exact ⟨h.bx.below hB (by omega), h.arg.below hB (by omega), h.vw.below hB (by omega), h.ww.below hB (by omega), h.vx.frP hf (by omega) (fun e => by have := h.gb _ e; omega), h.xx.fr hf (fun q hq e => by have a := h.xb q hq; have b := h.gb _ e; omega), h.xb, h.vg.frP hf (by omega) (fun e => by have := h.gb _ e; omega), hg, by rw [blkB_yk]; exact h.gb, h1, h2, h3, Nat.lt_of_lt_of_le h4 hf.size⟩
theorem CS.lowX (h : CS W s0 x a1 a2 a3 c1 c2 c3 y zw zx zg b1 b2 b3 e1 e2 e3 p d1 d2 d3 g f1 f2 f3 xm ym) (hf : FrP (blkB p xm) W W') : Below s0 W W' := by
  have h1 := h.o1
  have h2 := h.o2
  have h3 := h.o3
  have h4 := h.o4
  exact hf.below (B := s0) (fun k hk e => by have := h.xb _ e; omega) (by omega)
theorem CS.lowG (h : CS W s0 x a1 a2 a3 c1 c2 c3 y zw zx zg b1 b2 b3 e1 e2 e3 p d1 d2 d3 g f1 f2 f3 xm ym) (hf : FrP (blkB g ym) W W') : Below s0 W W' := by
  have h1 := h.o1
  have h2 := h.o2
  have h3 := h.o3
  have h4 := h.o4
  exact hf.below (B := s0) (fun k hk e => by have := h.gb _ e; omega) (by omega)
end
theorem BkOwn.isIn {w : World} {lo hi : Nat} {x : Bk} {g1 g2 g3 : Nat} (h : BkOwn w lo hi x g1 g2 g3) : BkIn w lo w.heap.size x (some ⟨g1, 0, none⟩) (some ⟨g2, 0, none⟩) (some ⟨g3, 0, none⟩) := by
  obtain ⟨p, h1, h2, h3, h4, h5⟩ := h.at
  have := h4.isIn (lo := lo) (fun q hq => (h5 q hq).1)
  rw [h1, h2, h3] at this
  exact this
end Go.Proofs.YtcpbgoaicnijjaaGreat
