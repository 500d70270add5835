import Derived.Test.YtkecnaaacbckoaaGreatKf
import Derived.Test.YtkecnaaacbckoaaGreatL
import Derived.Test.YtkecnaaacbckoaaGreatX
import Derived.ProofKit
import Derived.SizedLaws
namespace Go.Proofs.YtkecnaaacbckoaaGreat
open Go.RowKit Go.Maps
set_option maxRecDepth 100000 in
set_option maxHeartbeats 1000000 in
theorem specCutNo_any (x : Bk) (a1 a2 a3 : Option Addr) (c1 c2 c3 : Nat) (fl : Int) (w : World) (lo hi : Nat) (hhi : hi ≤ w.heap.size) (hf : BkFit x) (hc : BkIn w lo hi x a1 a2 a3) (hv : allTo (chk x) 7 = false) :
    Calls Tryz.prog 9 #[.agg #[.int .i64 x.now, .int .i64 x.floor, .slice a1 x.on c1, .slice a2 x.hn c2, .slice a3 x.tn c3], .int .i64 fl] w fun e w' => e = .returned (.agg #[.int .i64 0, .int .i64 0, .slice none 0 0, .slice none 0 0, .slice none 0 0]) ∧ Below w.heap.size w w' := by
  go_enter Tryz.func9, Tryz.ntmps9
  go_wp2_with (go_at_call 39; go_must (refine (specValid_any x a1 a2 a3 c1 c2 c3 _ lo hi (by simp; omega) hf (hc.below ((below_alloc _ _).alloc (by simp) _) hhi)).mono ?_; rw [hv]; rintro e w1 ⟨rfl, hb1⟩; have R1 := RowF.new (l := [.int .i64 0, .int .i64 0, .slice none 0 0, .slice none 0 0, .slice none 0 0]) hb1; have r0 := R1.cell 0 (by decide); have r1 := R1.cell 1 (by decide); have r2 := R1.cell 2 (by decide); have r3 := R1.cell 3 (by decide); have r4 := R1.cell 4 (by decide); have rf := R1.free; simp only [vec, List.getD_cons_zero, List.getD_cons_succ, World.size_alloc] at r0 r1 r2 r3 r4 rf; have RW := hid R1; clear R1))
  have rw := row5 (v0 := .int .i64 0) (v1 := .int .i64 0) (v2 := .slice none 0 0) (v3 := .slice none 0 0) (v4 := .slice none 0 0) (show RowF w1 (w.heap.size + 1) 5 _ from by have h := RW.out; rw [World.size_alloc] at h; exact h)
  have u0 := rw.cell 0 (by omega)
  have u1 := rw.cell 1 (by omega)
  have u2 := rw.cell 2 (by omega)
  have u3 := rw.cell 3 (by omega)
  have u4 := rw.cell 4 (by omega)
  simp only [vec, List.getD_cons_zero, List.getD_cons_succ] at u0 u1 u2 u3 u4
  refine bodyPost_ret (v := .agg #[.int .i64 0, .int .i64 0, .slice none 0 0, .slice none 0 0, .slice none 0 0]) (by simp [results, Tryz.results9, go_sem, u0, u1, u2, u3, u4]) rfl ⟨rfl, ?_⟩
  have FF := (((((FrP.refl (fun q => q = w.heap.size + 1) w1).setCell (p := ⟨w.heap.size + 1, 0, none⟩) (by rfl) (.int .i64 0)).setCell (p := ⟨w.heap.size + 1, 1, none⟩) (by rfl) (.int .i64 0)).setCell (p := ⟨w.heap.size + 1, 2, none⟩) (by rfl) (.slice none 0 0)).setCell (p := ⟨w.heap.size + 1, 3, none⟩) (by rfl) (.slice none 0 0)).setCell (p := ⟨w.heap.size + 1, 4, none⟩) (by rfl) (.slice none 0 0)
  have zb := hb1.size
  simp only [World.size_alloc] at zb
  exact (((below_alloc _ _).alloc (by simp) _).trans (hb1.mono (by simp; omega))).trans (FF.below (fun q hq e => by omega) (by omega))
theorem bkIn0 (w : World) (lo hi : Nat) (a1 a2 a3 : Option Addr) : BkIn w lo hi bk0 a1 a2 a3 := ⟨fun _i hi' => absurd hi' (Nat.not_lt_zero _), fun _i hi' => absurd hi' (Nat.not_lt_zero _), fun _i hi' => absurd hi' (Nat.not_lt_zero _)⟩
theorem specCut_y (x : Bk) (a1 a2 a3 : Option Addr) (c1 c2 c3 : Nat) (fl : Int) (y : Bk) (hy : resC x fl = y) (w : World) (lo hi : Nat) (hhi : hi ≤ w.heap.size) (l1 : (x.on : Int) ≤ 1048576) (l2 : (x.hn : Int) ≤ 1048576) (l3 : (x.tn : Int) ≤ 1048576) (hf : BkFit x) (hc : BkIn w lo hi x a1 a2 a3) :
    Calls Tryz.prog 9 #[.agg #[.int .i64 x.now, .int .i64 x.floor, .slice a1 x.on c1, .slice a2 x.hn c2, .slice a3 x.tn c3], .int .i64 fl] w fun e w' => ∃ (b1 b2 b3 : Option Addr) (d1 d2 d3 : Nat), e = .returned (.agg #[.int .i64 y.now, .int .i64 y.floor, .slice b1 y.on d1, .slice b2 y.hn d2, .slice b3 y.tn d3]) ∧ BkIn w' w.heap.size w'.heap.size y b1 b2 b3 ∧ Below w.heap.size w w' := by
  cases hv : allTo (chk x) 7 with
  | false =>
    have e : y = bk0 := by rw [← hy]; simp [resC, hv]
    subst e
    refine (specCutNo_any x a1 a2 a3 c1 c2 c3 fl w lo hi hhi hf hc hv).mono ?_
    rintro e w' ⟨rfl, hb⟩
    exact ⟨none, none, none, 0, 0, 0, rfl, bkIn0 _ _ _ _ _ _, hb⟩
  | true =>
    have e : y = cutB x (cutN x fl) := by rw [← hy]; simp [resC, hv]
    subst e
    exact specCutYes_any x a1 a2 a3 c1 c2 c3 fl w lo hi hhi l1 l2 l3 hf hc hv
theorem implCut_y (x : Bk) (a1 a2 a3 : Option Addr) (c1 c2 c3 : Nat) (fl : Int) (y : Bk) (hy : resC x fl = y) (w : World) (lo hi : Nat) (hhi : hi ≤ w.heap.size) (hf : BkFit x) (hc : BkIn w lo hi x a1 a2 a3) :
    Calls Tryz.prog 11 #[.agg #[.int .i64 x.now, .int .i64 x.floor, .slice a1 x.on c1, .slice a2 x.hn c2, .slice a3 x.tn c3], .int .i64 fl] w fun e w' => ∃ (p : Pl) (d1 d2 d3 : Nat), e = .returned (.agg #[.int .i64 y.now, .int .i64 y.floor, .slice p.a1 y.on d1, .slice p.a2 y.hn d2, .slice p.a3 y.tn d3]) ∧ BkAt w' y p ∧ (∀ q, blkB p y q → w.heap.size ≤ q) ∧ Below w.heap.size w w' := by
  cases hv : allTo (chk x) 7 with
  | false =>
    have e : y = bk0 := by rw [← hy]; simp [resC, hv]
    subst e
    refine (implCutNo_any x a1 a2 a3 c1 c2 c3 fl w lo hi hhi hf hc hv).mono ?_
    rintro e w' ⟨rfl, hb⟩
    exact ⟨⟨none, none, none, 0, 0, 0, fun _ => none, fun _ => 0, fun _ => 0, fun _ => none, fun _ => 0, fun _ => 0⟩, 0, 0, 0, rfl, bkAt0 _ _, fun q hq => (blkB0 hq).elim, hb⟩
  | true =>
    have e : y = cutB x (cutN x fl) := by rw [← hy]; simp [resC, hv]
    subst e
    exact implCutYes_any x a1 a2 a3 c1 c2 c3 fl w lo hi hhi hf hc hv
theorem sumTo_shift (g : Nat → Nat) (k : Nat) : ∀ m, sumTo (fun i => g (i + k)) m ≤ sumTo g (k + m)
  | 0 => Nat.zero_le _
  | m + 1 => by
    have ih := sumTo_shift g k m
    rw [show k + (m + 1) = (k + m) + 1 by omega]
    simp only [sumTo]
    rw [Nat.add_comm m k]
    omega
theorem resC_sz (x : Bk) (fl : Int) : szBk (resC x fl) ≤ szBk x := by
  unfold resC
  split
  · show szObs x.on x.os + szChs (x.hn - cutN x fl) (fun i => x.hs (i + cutN x fl)) + szTis x.tn x.ts ≤ szObs x.on x.os + szChs x.hn x.hs + szTis x.tn x.ts
    by_cases h : cutN x fl ≤ x.hn
    · have h1 := sumTo_shift (fun i => szCh (x.hs i)) (cutN x fl) (x.hn - cutN x fl)
      rw [show cutN x fl + (x.hn - cutN x fl) = x.hn by omega] at h1
      have h2 : szChs (x.hn - cutN x fl) (fun i => x.hs (i + cutN x fl)) ≤ szChs x.hn x.hs := by
        unfold szChs
        exact Nat.add_le_add (by omega) h1
      omega
    · rw [show x.hn - cutN x fl = 0 by omega]
      unfold szChs
      simp only [sumTo]
      omega
  · unfold szBk szObs szChs szTis bk0
    simp [sumTo]
theorem resC_fit {x : Bk} (h : BkFit x) (fl : Int) : BkFit (resC x fl) := by
  unfold resC
  split
  · have h1 := h.h
    exact ⟨h.o, by show ((x.hn - cutN x fl : Nat) : Int) ≤ _; omega, h.t, h.os, fun i hi => h.hs (i + cutN x fl) (by have : i < x.hn - cutN x fl := hi; omega), h.ts⟩
  · exact ⟨by decide, by decide, by decide, fun i hi => absurd hi (Nat.not_lt_zero _), fun i hi => absurd hi (Nat.not_lt_zero _), fun i hi => absurd hi (Nat.not_lt_zero _)⟩
theorem lim_of_sz {x : Bk} (h : szBk x ≤ 1048576) : (x.on : Int) ≤ 1048576 ∧ (x.hn : Int) ≤ 1048576 ∧ (x.tn : Int) ≤ 1048576 := by
  unfold szBk szObs szChs szTis at h
  omega
/-- where the law stands, from its first comparison on -/
structure CS (W : World) (s0 : Nat) (x : Bk) (a1 a2 a3 : Option Addr) (c1 c2 c3 : Nat) (y : Bk) (zw zx zg : Nat) (b1 b2 b3 : Option Addr) (e1 e2 e3 : Nat) (p : Pl) (d1 d2 d3 : Nat) (g : Pl) (f1 f2 f3 : Nat) (xm ym : Bk) : Prop where
  bx : Holds W s0 (bkCells x a1 a2 a3 c1 c2 c3)
  arg : BkIn W 0 s0 x a1 a2 a3
  vw : Holds W zw (bkCells y b1 b2 b3 e1 e2 e3)
  ww : BkIn W (s0 + 1) zw y b1 b2 b3
  vx : Holds W zx (bkCells x p.a1 p.a2 p.a3 d1 d2 d3)
  xx : BkAt W xm p
  xb : ∀ q, blkB p xm q → zw < q ∧ q < zx
  vg : Holds W zg (bkCells y g.a1 g.a2 g.a3 f1 f2 f3)
  gg : BkAt W ym g
  gb : ∀ q, blkB g ym q → zx < q ∧ q < zg
  o1 : s0 < zw
  o2 : zw < zx
  o3 : zx < zg
  o4 : zg < W.heap.size
section
variable {W W' : World} {s0 : Nat} {x : Bk} {a1 a2 a3 : Option Addr} {c1 c2 c3 : Nat} {y : Bk} {zw zx zg : Nat} {b1 b2 b3 : Option Addr} {e1 e2 e3 : Nat} {p : Pl} {d1 d2 d3 : Nat} {g : Pl} {f1 f2 f3 : Nat} {xm ym : Bk}
theorem Holds.frP {W W' : World} {B : Nat} {c : Array Value} {P : Nat → Prop} (h : Holds W B c) (hf : FrP P W W') (hB : B < W.heap.size) (hp : ¬ P B) : Holds W' B c := fun i => (hf.cell (p := ⟨B, i, none⟩) hB hp).trans (h i)
theorem CS.below (h : CS W s0 x a1 a2 a3 c1 c2 c3 y zw zx zg b1 b2 b3 e1 e2 e3 p d1 d2 d3 g f1 f2 f3 xm ym) (hb : Below W.heap.size W W') : CS W' s0 x a1 a2 a3 c1 c2 c3 y zw zx zg b1 b2 b3 e1 e2 e3 p d1 d2 d3 g f1 f2 f3 xm ym := by
  have h1 := h.o1
  have h2 := h.o2
  have h3 := h.o3
  have h4 := h.o4
  exact ⟨h.bx.below hb (by omega), h.arg.below hb (by omega), h.vw.below hb (by omega), h.ww.below hb (by omega), h.vx.below hb (by omega), h.xx.grow hb, h.xb, h.vg.below hb (by omega), h.gg.grow hb, h.gb, h1, h2, h3, Nat.lt_of_lt_of_le h4 hb.size⟩
theorem CS.markX (h : CS W s0 x a1 a2 a3 c1 c2 c3 y zw zx zg b1 b2 b3 e1 e2 e3 p d1 d2 d3 g f1 f2 f3 xm ym) (k0 : Nat) (hx : BkAt W' (ykBk k0 xm) p) (hf : FrP (blkB p xm) W W') : CS W' s0 x a1 a2 a3 c1 c2 c3 y zw zx zg b1 b2 b3 e1 e2 e3 p d1 d2 d3 g f1 f2 f3 (ykBk k0 xm) ym := by
  have h1 := h.o1
  have h2 := h.o2
  have h3 := h.o3
  have h4 := h.o4
  have hB : Below zw W W' := hf.below (B := zw) (fun q hq e => by have := h.xb _ e; omega) (by omega)
  exact ⟨h.bx.below hB (by omega), h.arg.below hB (by omega), h.vw.frP hf (by omega) (fun e => by have := h.xb _ e; omega), h.ww.below hB (Nat.le_refl _), h.vx.frP hf (by omega) (fun e => by have := h.xb _ e; omega), hx, by rw [blkB_yk]; exact h.xb, h.vg.frP hf (by omega) (fun e => by have := h.xb _ e; omega), h.gg.fr hf (fun q hq e => by have a := h.gb q hq; have b := h.xb _ e; omega), h.gb, h1, h2, h3, Nat.lt_of_lt_of_le h4 hf.size⟩
theorem CS.markG (h : CS W s0 x a1 a2 a3 c1 c2 c3 y zw zx zg b1 b2 b3 e1 e2 e3 p d1 d2 d3 g f1 f2 f3 xm ym) (k0 : Nat) (hg : BkAt W' (ykBk k0 ym) g) (hf : FrP (blkB g ym) W W') : CS W' s0 x a1 a2 a3 c1 c2 c3 y zw zx zg b1 b2 b3 e1 e2 e3 p d1 d2 d3 g f1 f2 f3 xm (ykBk k0 ym) := by
  have h1 := h.o1
  have h2 := h.o2
  have h3 := h.o3
  have h4 := h.o4
  have hB : Below zx W W' := hf.below (B := zx) (fun q hq e => by have := h.gb _ e; omega) (by omega)
  exact ⟨h.bx.below hB (by omega), h.arg.below hB (by omega), h.vw.below hB (by omega), h.ww.below hB (by omega), h.vx.frP hf (by omega) (fun e => by have := h.gb _ e; omega), h.xx.fr hf (fun q hq e => by have a := h.xb q hq; have b := h.gb _ e; omega), h.xb, h.vg.frP hf (by omega) (fun e => by have := h.gb _ e; omega), hg, by rw [blkB_yk]; exact h.gb, h1, h2, h3, Nat.lt_of_lt_of_le h4 hf.size⟩
theorem CS.lowX (h : CS W s0 x a1 a2 a3 c1 c2 c3 y zw zx zg b1 b2 b3 e1 e2 e3 p d1 d2 d3 g f1 f2 f3 xm ym) (hf : FrP (blkB p xm) W W') : Below s0 W W' := by
  have h1 := h.o1
  have h2 := h.o2
  have h3 := h.o3
  have h4 := h.o4
  exact hf.below (B := s0) (fun k hk e => by have := h.xb _ e; omega) (by omega)
theorem CS.lowG (h : CS W s0 x a1 a2 a3 c1 c2 c3 y zw zx zg b1 b2 b3 e1 e2 e3 p d1 d2 d3 g f1 f2 f3 xm ym) (hf : FrP (blkB g ym) W W') : Below s0 W W' := by
  have h1 := h.o1
  have h2 := h.o2
  have h3 := h.o3
  have h4 := h.o4
  exact hf.below (B := s0) (fun k hk e => by have := h.gb _ e; omega) (by omega)
end
theorem BkOwn.isIn {w : World} {lo hi : Nat} {x : Bk} {g1 g2 g3 : Nat} (h : BkOwn w lo hi x g1 g2 g3) : BkIn w lo w.heap.size x (some ⟨g1, 0, none⟩) (some ⟨g2, 0, none⟩) (some ⟨g3, 0, none⟩) := by
  obtain ⟨p, h1, h2, h3, h4, h5⟩ := h.at
  have := h4.isIn (lo := lo) (fun q hq => (h5 q hq).1)
  rw [h1, h2, h3] at this
  exact this
end Go.Proofs.YtkecnaaacbckoaaGreat
namespace Go.Proofs.YtkecnaaacbckoaaGreat
open Go.RowKit Go.Maps
theorem CS.win {W : World} {s0 : Nat} {x : Bk} {a1 a2 a3 : Option Addr} {c1 c2 c3 : Nat} {y : Bk} {zw zx zg : Nat} {b1 b2 b3 : Option Addr} {e1 e2 e3 : Nat} {p : Pl} {d1 d2 d3 : Nat} {g : Pl} {f1 f2 f3 : Nat} {xm ym : Bk} (h : CS W s0 x a1 a2 a3 c1 c2 c3 y zw zx zg b1 b2 b3 e1 e2 e3 p d1 d2 d3 g f1 f2 f3 xm ym) : BkIn W 0 W.heap.size y b1 b2 b3 := by
  have h2 := h.o2
  have h3 := h.o3
  have h4 := h.o4
  exact ⟨h.ww.o.to (fun _ _ _ _ => rfl) (Nat.zero_le _) (by omega), h.ww.h.to (fun _ _ _ _ => rfl) (Nat.zero_le _) (by omega), h.ww.t.to (fun _ _ _ _ => rfl) (Nat.zero_le _) (by omega)⟩
set_option maxRecDepth 100000 in
set_option maxHeartbeats 4000000 in
theorem law_any (x : Bk) (a1 a2 a3 : Option Addr) (c1 c2 c3 : Nat) (fl : Int) (w : World) (hf0 : BkFit0 x) (hc : BkIn w 0 w.heap.size x a1 a2 a3) :
    Calls Tryz.prog 3 #[.agg #[.int .i64 x.now, .int .i64 x.floor, .slice a1 x.on c1, .slice a2 x.hn c2, .slice a3 x.tn c3], .int .i64 fl] w fun e w' => e = .returned (.bool true) ∧ Below w.heap.size w w' := by
  go_enter Tryz.func3, Tryz.ntmps3
  go_wp2_with fail
  refine (szBk_any x a1 a2 a3 c1 c2 c3 1048576 _ (by omega) (by omega) 0 w.heap.size (by simp) hf0 (hc.below (below_alloc _ _) (Nat.le_refl _))).mono ?_
  rintro e w1 ⟨rfl, hb1⟩
  have hB1 : Below w.heap.size w w1 := (below_alloc _ _).trans (hb1.mono (by simp))
  have H1 : Holds w1 w.heap.size (bkCells x a1 a2 a3 c1 c2 c3) := (holds_new w _ 26).below hb1 (by simp)
  have hz1 : w.heap.size < w1.heap.size := by have := hb1.size; simp at this; omega
  clear hb1
  by_cases hsz : szOut 1048576 (szBk x) < 0
  · clear H1
    go_wp2
    go_ret
    exact ⟨rfl, hB1⟩
  have hs0 : szBk x ≤ 1048576 := by
    have := (szOut_ge (l := 1048576) (s := szBk x) (by omega)).1
    omega
  have hf : BkFit x := by
    have hs1 := hs0
    unfold szBk szObs szChs szTis at hs1
    exact ⟨by omega, by omega, by omega, hf0.os, hf0.hs, hf0.ts⟩
  obtain ⟨lx1, lx2, lx3⟩ := lim_of_sz hs0
  clear hf0
  obtain ⟨p0, p1, p2, p3, p4⟩ := holds_bk H1
  go_wp2_with fail
  refine (toBk_any x a1 a2 a3 c1 c2 c3 w1 0 w.heap.size (by omega) hf (hc.below hB1 (Nat.le_refl _))).mono ?_
  rintro e w2 ⟨e1, e2, e3, f1, f2, f3, rfl, ho2, hb2⟩
  have hB2 : Below w.heap.size w w2 := hB1.trans (hb2.mono hB1.size)
  have H2 := H1.below hb2 hz1
  have hz2 := hb2.size
  obtain ⟨y, hy⟩ : ∃ y, resC x fl = y := ⟨_, rfl⟩
  have hys : szBk y ≤ 1048576 := by rw [← hy]; exact Nat.le_trans (resC_sz x fl) hs0
  have hyf : BkFit y := by rw [← hy]; exact resC_fit hf fl
  obtain ⟨ly1, ly2, ly3⟩ := lim_of_sz hys
  have hmx : (mkBk 1 x : Int) ≤ 1073741824 := by have := mkBk_le 1 x; omega
  have hmy : (mkBk 1 y : Int) ≤ 1073741824 := by have := mkBk_le 1 y; omega
  have HY := hid hy
  clear p0 p1 p2 p3 p4 hb2 hy H1
  have HX := hid ho2
  clear ho2
  go_wp2_with fail
  refine (specCut_y x _ _ _ f1 f2 f3 fl y HY.out w2 w1.heap.size w2.heap.size (Nat.le_refl _) lx1 lx2 lx3 hf HX.out.isIn).mono ?_
  rintro e w3 ⟨b1, b2, b3, u1, u2, u3, rfl, hw3, hb3⟩
  have hB3 : Below w.heap.size w w3 := hB2.trans (hb3.mono hB2.size)
  have hz3 := hb3.size
  have H3 := H2.below hb3 (by omega)
  obtain ⟨p0, p1, p2, p3, p4⟩ := holds_bk H3
  have HW3 := hid (show BkIn w3 (w.heap.size + 1) w3.heap.size y b1 b2 b3 from ⟨hw3.o.to (fun _ _ _ _ => rfl) (by omega) (Nat.le_refl _), hw3.h.to (fun _ _ _ _ => rfl) (by omega) (Nat.le_refl _), hw3.t.to (fun _ _ _ _ => rfl) (by omega) (Nat.le_refl _)⟩)
  have hzw3 : w.heap.size < w3.heap.size := by omega
  clear hw3 H2 hb3 HX
  go_wp2_with fail
  refine (toBk_any x a1 a2 a3 c1 c2 c3 _ 0 w.heap.size (by simp; omega) hf (hc.below (hB3.alloc hB3.size _) (Nat.le_refl _))).mono ?_
  rintro e w4 ⟨g1, g2, g3, d1, d2, d3, rfl, hx4, hb4⟩
  obtain ⟨p, hp1, hp2, hp3, hp4, hp5⟩ := hx4.at
  rw [← hp1, ← hp2, ← hp3]
  have hB4 : Below w.heap.size w w4 := (hB3.alloc hB3.size _).trans (hb4.mono (by simp; omega))
  have H4 := (H3.below (below_alloc _ (.cells #[.int .i64 y.now, .int .i64 y.floor, .slice b1 y.on u1, .slice b2 y.hn u2, .slice b3 y.tn u3] 32)) hzw3).below hb4 (by simp; omega)
  have V4 : Holds w4 w3.heap.size (bkCells y b1 b2 b3 u1 u2 u3) := (holds_new w3 _ 32).below hb4 (by simp)
  have HW4 := hid ((HW3.out.below (below_alloc _ (.cells #[.int .i64 y.now, .int .i64 y.floor, .slice b1 y.on u1, .slice b2 y.hn u2, .slice b3 y.tn u3] 32)) (Nat.le_refl _)).below hb4 (by simp))
  have hz4 : w3.heap.size < w4.heap.size := by have := hb4.size; simp at this; omega
  have XX := hid hp4
  have XB := hid (show ∀ q, blkB p x q → w3.heap.size < q ∧ q < w4.heap.size from fun q hq => by have := hp5 q hq; simp at this; omega)
  clear p0 p1 p2 p3 p4 hb4 H3 HW3 hx4 hp1 hp2 hp3 hp4 hp5
  go_wp2_with fail
  refine (implCut_y x _ _ _ d1 d2 d3 fl y HY.out _ (w3.heap.size + 1) w4.heap.size (by simp) hf (by exact (XX.out.isIn (lo := w3.heap.size + 1) (fun q hq => (XB.out q hq).1)).below (below_alloc _ _) (Nat.le_refl _))).mono ?_
  rintro e w5 ⟨g, v1, v2, v3, rfl, hg5, hq5, hb5⟩
  have hB5 : Below w.heap.size w w5 := (hB4.alloc hB4.size _).trans (hb5.mono (by simp; omega))
  have hz5 : w4.heap.size < w5.heap.size := by have := hb5.size; simp at this; omega
  have S5 : CS (w5.alloc (.cells #[.int .i64 y.now, .int .i64 y.floor, .slice g.a1 y.on v1, .slice g.a2 y.hn v2, .slice g.a3 y.tn v3] 32)) w.heap.size x a1 a2 a3 c1 c2 c3 y w3.heap.size w4.heap.size w5.heap.size b1 b2 b3 u1 u2 u3 p d1 d2 d3 g v1 v2 v3 x y :=
    ⟨((H4.below (below_alloc _ _) (by omega)).below hb5 (by simp; omega)).below (below_alloc _ _) (by omega), hc.below (hB5.alloc hB5.size _) (Nat.le_refl _), ((V4.below (below_alloc _ _) (by omega)).below hb5 (by simp; omega)).below (below_alloc _ _) (by omega), ((HW4.out.below (below_alloc _ _) (by omega)).below hb5 (by simp; omega)).below (below_alloc _ _) (by omega), ((holds_new w4 _ 32).below hb5 (by simp)).below (below_alloc _ _) (by omega), ((XX.out.grow (below_alloc _ _)).grow hb5).grow (below_alloc _ _), XB.out, holds_new w5 _ 32, hg5.grow (below_alloc _ _), fun q hq => ⟨by have := hq5 q hq; simp at this; omega, hg5.blt hq⟩, hzw3, hz4, hz5, by simp⟩
  have HS5 := hid S5
  have hB5' : Below w.heap.size w (w5.alloc (.cells #[.int .i64 y.now, .int .i64 y.floor, .slice g.a1 y.on v1, .slice g.a2 y.hn v2, .slice g.a3 y.tn v3] 32)) := hB5.alloc hB5.size _
  clear hg5 hq5 hb5 H4 V4 HW4 XX XB S5
  obtain ⟨q0, q1, q2, q3, q4⟩ := holds_bk HS5.out.vg
  obtain ⟨r0, r1, r2, r3, r4⟩ := holds_bk HS5.out.vw
  go_wp2_with fail
  refine (eqBk_any y _ _ _ _ _ _ v1 v2 v3 u1 u2 u3 _ 0 _ 0 _ (Nat.le_refl _) (Nat.le_refl _) hyf (by exact HS5.out.gg.isIn (fun _ _ => Nat.zero_le _)) (by exact ⟨HS5.out.ww.o.to (fun _ _ _ _ => rfl) (Nat.zero_le _) (by have := HS5.out.o2; have := HS5.out.o3; have := HS5.out.o4; omega), HS5.out.ww.h.to (fun _ _ _ _ => rfl) (Nat.zero_le _) (by have := HS5.out.o2; have := HS5.out.o3; have := HS5.out.o4; omega), HS5.out.ww.t.to (fun _ _ _ _ => rfl) (Nat.zero_le _) (by have := HS5.out.o2; have := HS5.out.o3; have := HS5.out.o4; omega)⟩)).mono ?_
  rintro e w6 ⟨rfl, hb6⟩
  have HS6 := hid (HS5.out.below hb6)
  have hB6 : Below w.heap.size w w6 := hB5'.trans (hb6.mono hB5'.size)
  clear hb6 HS5 hB5' q0 q1 q2 q3 q4 r0 r1 r2 r3 r4
  obtain ⟨p0, p1, p2, p3, p4⟩ := holds_bk HS6.out.bx
  obtain ⟨q0, q1, q2, q3, q4⟩ := holds_bk HS6.out.vx
  go_wp2
  go_region_with (first
    | (go_at_call 10; go_must (refine (toBk_any x a1 a2 a3 c1 c2 c3 _ 0 w.heap.size (by exact hB6.size) hf (by exact HS6.out.arg.below ((Below.refl _ _).drew) (Nat.le_refl _))).mono ?_; rintro e w7 ⟨g1', g2', g3', d1', d2', d3', rfl, hx7, hb70⟩; have hb7 : Below w6.heap.size w6 w7 := ((Below.refl _ _).drew).trans hb70; clear hb70; have HS7 := hid (HS6.out.below hb7); have HX7 := hid hx7; have HB7 := hid hb7; have hz7 := hb7.size; obtain ⟨r0, r1, r2, r3, r4⟩ := holds_bk HS7.out.vx; clear hx7 hb7))
    | (go_at_call 12; go_must (refine (eqBk_any x _ _ _ _ _ _ d1 d2 d3 d1' d2' d3' _ 0 w7.heap.size w6.heap.size w7.heap.size (by exact Nat.le_refl _) (by exact Nat.le_refl _) hf (by exact HS7.out.xx.isIn (fun _ _ => Nat.zero_le _)) (by exact HX7.out.isIn)).mono ?_; rintro e w8 ⟨rfl, hb8⟩)))
  all_goals
    have hb78 : Below w6.heap.size w6 w8 := HB7.out.trans (hb8.mono hz7)
    have HS8 := hid (HS6.out.below hb78)
    have hB8 : Below w.heap.size w w8 := hB6.trans (hb78.mono hB6.size)
    clear p0 p1 p2 p3 p4 q0 q1 q2 q3 q4 r0 r1 r2 r3 r4 HS6 HX7 HS7 HB7 hb8 hb78
    obtain ⟨q0, q1, q2, q3, q4⟩ := holds_bk HS8.out.vx
    go_wp2_with fail
    refine (markBk_own x p d1 d2 d3 1 w8 lx1 lx2 lx3 (by decide) hmx HS8.out.xx).mono ?_
    rintro e w9 ⟨rfl, hx9, hf9⟩
    have HS9 := hid (HS8.out.markX 1 hx9 hf9)
    have hB9 : Below w.heap.size w w9 := hB8.trans (HS8.out.lowX hf9)
    obtain ⟨k9, hk9⟩ : ∃ k9, mkBk 1 x = k9 := ⟨_, rfl⟩
    rw [hk9]
    clear q0 q1 q2 q3 q4 HS8 hB8 hx9 hf9
    obtain ⟨q0, q1, q2, q3, q4⟩ := holds_bk HS9.out.vg
    obtain ⟨r0, r1, r2, r3, r4⟩ := holds_bk HS9.out.vw
    go_wp2_with fail
    refine (eqBk_any y _ _ _ _ _ _ v1 v2 v3 u1 u2 u3 _ 0 _ 0 _ (Nat.le_refl _) (Nat.le_refl _) hyf (by exact HS9.out.gg.isIn (fun _ _ => Nat.zero_le _)) (by exact HS9.out.win)).mono ?_
    rintro e w10 ⟨rfl, hb10⟩
    have HS10 := hid (HS9.out.below hb10)
    have hB10 : Below w.heap.size w w10 := hB9.trans (hb10.mono hB9.size)
    clear HS9 hB9 hb10 q0 q1 q2 q3 q4 r0 r1 r2 r3 r4
    obtain ⟨q0, q1, q2, q3, q4⟩ := holds_bk HS10.out.vg
    go_wp2_with fail
    refine (markBk_own y g v1 v2 v3 1 w10 ly1 ly2 ly3 (by decide) hmy HS10.out.gg).mono ?_
    rintro e w11 ⟨rfl, hg11, hf11⟩
    have HS11 := hid (HS10.out.markG 1 hg11 hf11)
    have hB11 : Below w.heap.size w w11 := hB10.trans (HS10.out.lowG hf11)
    obtain ⟨m9, hm9⟩ : ∃ m9, mkBk 1 y = m9 := ⟨_, rfl⟩
    have HM9 := hid hm9
    rw [hm9]
    clear HS10 hB10 hg11 hf11 hm9 q0 q1 q2 q3 q4
    obtain ⟨q0, q1, q2, q3, q4⟩ := holds_bk HS11.out.vg
    go_wp2_with fail
    refine (heldBk_own y g v1 v2 v3 1 w11 ly1 ly2 ly3 (by decide) hmy _ _ HS11.out.gg).mono ?_
    rw [HM9.out]
    rintro e w12 ⟨rfl, hb12⟩
    have HS12 := hid (HS11.out.below hb12)
    have hB12 : Below w.heap.size w w12 := hB11.trans (hb12.mono hB11.size)
    clear HS11 hB11 hb12 q0 q1 q2 q3 q4
    obtain ⟨p0, p1, p2, p3, p4⟩ := holds_bk HS12.out.bx
    go_wp2_with fail
    refine (toBk_any x a1 a2 a3 c1 c2 c3 w12 0 w.heap.size hB12.size hf HS12.out.arg).mono ?_
    rintro e w13 ⟨k1, k2, k3, m1, m2, m3, rfl, hx13, hb13⟩
    have HS13 := hid (HS12.out.below hb13)
    have hB13 : Below w.heap.size w w13 := hB12.trans (hb13.mono hB12.size)
    have HX13 := hid hx13
    clear p0 p1 p2 p3 p4 HS12 hB12 hb13 hx13
    go_wp2_with fail
    refine (implCut_y x _ _ _ m1 m2 m3 fl y HY.out w13 w12.heap.size w13.heap.size (Nat.le_refl _) hf HX13.out.isIn).mono ?_
    rintro e w14 ⟨gh, t1, t2, t3, rfl, hh14, hq14, hb14⟩
    have HS14 := hid (HS13.out.below hb14)
    have hB14 : Below w.heap.size w w14 := hB13.trans (hb14.mono hB13.size)
    have HH14 := hid hh14
    clear HS13 hB13 hb14 hh14 HX13 hq14
    obtain ⟨r0, r1, r2, r3, r4⟩ := holds_bk (HS14.out.below (below_alloc _ (.cells #[.int .i64 y.now, .int .i64 y.floor, .slice gh.a1 y.on t1, .slice gh.a2 y.hn t2, .slice gh.a3 y.tn t3] 32))).vw
    go_wp2_with fail
    refine (eqBk_any y _ _ _ _ _ _ t1 t2 t3 u1 u2 u3 _ 0 _ 0 _ (Nat.le_refl _) (Nat.le_refl _) hyf (by exact (HH14.out.grow (below_alloc _ _)).isIn (fun _ _ => Nat.zero_le _)) (by exact (HS14.out.below (below_alloc _ _)).win)).mono ?_
    rintro e w15 ⟨rfl, hb15⟩
    have HS15 := hid ((HS14.out.below (below_alloc _ _)).below hb15)
    have hB15 : Below w.heap.size w w15 := (hB14.alloc hB14.size _).trans (hb15.mono (by have := hB14.size; simp; omega))
    clear HS14 hB14 hb15 HH14 r0 r1 r2 r3 r4
    obtain ⟨q0, q1, q2, q3, q4⟩ := holds_bk HS15.out.vg
    go_wp2_with fail
    refine (heldBk_own y g v1 v2 v3 1 w15 ly1 ly2 ly3 (by decide) hmy _ _ HS15.out.gg).mono ?_
    rw [HM9.out]
    rintro e w16 ⟨rfl, hb16⟩
    have hB16 : Below w.heap.size w w16 := hB15.trans (hb16.mono hB15.size)
    clear HS15 hB15 hb16 q0 q1 q2 q3 q4
    go_wp2
    go_ret
    exact ⟨rfl, hB16⟩
end Go.Proofs.YtkecnaaacbckoaaGreat
namespace Go.Proofs.YtkecnaaacbckoaaGreat
open Go.ChangeShapes Go.WideShapes Go.ChangeAt Go.RowKit
open Go.WideMaps Go.WideElems
theorem Tryz.own : ownKnob Tryz.prog.godebug = none := by kernel_rfl
set_option maxRecDepth 100000 in
theorem cut_lifted (os : Os) (started : os.Started) (H : Type) (enc : TypeId × Value → H) :
    ReturnsInHanded {} Tryz.checked os 3 .any (Rows.fnExactBookCutSpec.pre6 enc Tryz.prog Tryz.f3 Rows.fnExactBookCutRow.domain false) (Rows.fnExactBookCutSpec.post enc Tryz.prog Tryz.f3 false true false false) := by
  refine returnsInHanded_of_change_sized (C := Tryz.checked) Tryz.own started (by kernel_rfl) Tryz.func3
    (ChangeSpec.witness6 (enc := enc) (C := Tryz.checked) false ⟨#[], #[.agg #[.int .i64 0, .int .i64 0, .slice none 0 0, .slice none 0 0, .slice none 0 0], .int .i64 0], []⟩ 8 (by kernel_rfl) (by kernel_rfl) (by kernel_rfl) (by kernel_rfl)) ?_
  intro W base args ds gs before hval0 hW _ hsz0 _
  have hsz : (DataW.weightsEach Tryz.prog (Tryz.f3.params.toList ++ Rows.fnExactBookCutSpec.plain.varTypes Tryz.prog) (ds ++ gs)).all (· ≤ reachBytes) = true := hsz0
  clear hsz0
  have hval : ∀ (j : Nat) t v, Tryz.f3.params[j]? = some t → args[j]? = some v → Value.okWide Tryz.prog W .any base t v := hval0
  have hW' := hW
  obtain ⟨p, q, hA0, hV, rfl, _, _⟩ := hW
  have hA : DataW.TrodAll enc Tryz.prog W 0 (fun _ => true) true Tryz.f3.params.toList args.toList ds p := hA0
  rw [Tryz.params3] at hA hval hsz
  obtain ⟨v0, v1, d0, d1, p0, p1, rfl, rfl, rfl, h0, h1⟩ := trodAll_two hA
  obtain ⟨rfl, rfl⟩ := trodVars_none hV
  have hfit : Fits 26 d0 := fun x hx => by
    have := List.all_eq_true.1 hsz x (DataW.weights_mem_each (j := 0) (t := 26) rfl rfl x hx)
    simpa using this
  obtain ⟨n1, rfl, rfl, rfl, hn1⟩ := open_int Tryz.underlying3 (hval 1 3 v1 rfl rfl) h1
  have h0k := h0
  obtain ⟨x, a1, a2, a3, c1, c2, c3, rfl, hin, hbf⟩ := openBk (hval 0 26 v0 rfl rfl) h0 hfit
  clear hA0 hval0 hsz
  simp only [List.append_nil] at hW'
  have hlt : ∀ y ∈ p0, y.block < W.heap.size := fun y hy => by simpa using hW'.lt y (by simp [hy])
  refine (law_any x a1 a2 a3 c1 c2 c3 n1 W hbf hin).mono fun e W' ⟨he, hb⟩ => ?_
  subst he
  refine ⟨_, rfl, _, _, _, [], p0 ++ [], [], hW', ?_, ?_, rfl, hb.frame _, fun h => by cases h⟩
  · exact trodAll_mk1 (shut_bool Tryz.underlying4 true)
  · exact trodAll_mk2 (Below.trod Tryz.laidOut (by kernel_rfl) (of_decide_eq_true (by kernel_rfl)) h0k hb hlt) (shut_int Tryz.underlying3 hn1)
theorem cut_holds : Rows.FnExactBookCutSaid :=
  OpenClaim.holds_of_wide 3 Tryz.f3 rfl rfl rfl rfl rfl rfl rfl ⟨rfl, rfl, rfl, rfl, rfl⟩ rfl rfl rfl rfl rfl (by kernel_rfl) Tryz.func3 (by kernel_rfl)
    (of_decide_eq_true (by kernel_rfl)) (by unfold Func.isWrapper; rw [if_neg (of_decide_eq_false (by kernel_rfl))]; exact ⟨rfl, rfl⟩)
    (fun os started H enc _ => cut_lifted os started H enc)
end Go.Proofs.YtkecnaaacbckoaaGreat
