import Derived.Test.YtcpbgoaicnijjaaGreatCf
import Derived.Test.YtcpbgoaicnijjaaGreatL
namespace Go.Proofs.YtcpbgoaicnijjaaGreat
open Go.RowKit Go.Maps
theorem CS.win {W : World} {s0 : Nat} {x : Bk} {a1 a2 a3 : Option Addr} {c1 c2 c3 : Nat} {y : Bk} {zw zx zg : Nat} {b1 b2 b3 : Option Addr} {e1 e2 e3 : Nat} {p : Pl} {d1 d2 d3 : Nat} {g : Pl} {f1 f2 f3 : Nat} {xm ym : Bk} (h : CS W s0 x a1 a2 a3 c1 c2 c3 y zw zx zg b1 b2 b3 e1 e2 e3 p d1 d2 d3 g f1 f2 f3 xm ym) : BkIn W 0 W.heap.size y b1 b2 b3 := by
  have h2 := h.o2
  have h3 := h.o3
  have h4 := h.o4
  exact ⟨h.ww.o.to (fun _ _ _ _ => rfl) (Nat.zero_le _) (by omega), h.ww.h.to (fun _ _ _ _ => rfl) (Nat.zero_le _) (by omega), h.ww.t.to (fun _ _ _ _ => rfl) (Nat.zero_le _) (by omega)⟩
set_option maxRecDepth 100000 in
set_option maxHeartbeats 4000000 in
theorem law_any (x : Bk) (a1 a2 a3 : Option Addr) (c1 c2 c3 : Nat) (fl : Int) (w : World) (hf0 : BkFit0 x) (hc : BkIn w 0 w.heap.size x a1 a2 a3) :
    Calls Tryz.prog 3 #[.agg #[.int .i64 x.now, .int .i64 x.floor, .slice a1 x.on c1, .slice a2 x.hn c2, .slice a3 x.tn c3], .int .i64 fl] w fun e w' => e = .returned (.bool true) ∧ Below w.heap.size w w' := by
  go_enter Tryz.func3, Tryz.ntmps3
  go_wp2_with fail
  refine (szBk_any x a1 a2 a3 c1 c2 c3 1048576 _ (by omega) (by omega) 0 w.heap.size (by simp) hf0 (hc.below (below_alloc _ _) (Nat.le_refl _))).mono ?_
  rintro e w1 ⟨rfl, hb1⟩
  have hB1 : Below w.heap.size w w1 := (below_alloc _ _).trans (hb1.mono (by simp))
  have H1 : Holds w1 w.heap.size (bkCells x a1 a2 a3 c1 c2 c3) := (holds_new w _ 26).below hb1 (by simp)
  have hz1 : w.heap.size < w1.heap.size := by have := hb1.size; simp at this; omega
  clear hb1
  by_cases hsz : szOut 1048576 (szBk x) < 0
  · clear H1
    go_wp2
    go_ret
    exact ⟨rfl, hB1⟩
  have hs0 : szBk x ≤ 1048576 := by
    have := (szOut_ge (l := 1048576) (s := szBk x) (by omega)).1
    omega
  have hf : BkFit x := by
    have hs1 := hs0
    unfold szBk szObs szChs szTis at hs1
    exact ⟨by omega, by omega, by omega, hf0.os, hf0.hs, hf0.ts⟩
  obtain ⟨lx1, lx2, lx3⟩ := lim_of_sz hs0
  clear hf0
  obtain ⟨p0, p1, p2, p3, p4⟩ := holds_bk H1
  go_wp2_with fail
  refine (toBk_any x a1 a2 a3 c1 c2 c3 w1 0 w.heap.size (by omega) hf (hc.below hB1 (Nat.le_refl _))).mono ?_
  rintro e w2 ⟨e1, e2, e3, f1, f2, f3, rfl, ho2, hb2⟩
  have hB2 : Below w.heap.size w w2 := hB1.trans (hb2.mono hB1.size)
  have H2 := H1.below hb2 hz1
  have hz2 := hb2.size
  obtain ⟨y, hy⟩ : ∃ y, resC x fl = y := ⟨_, rfl⟩
  have hys : szBk y ≤ 1048576 := by rw [← hy]; exact Nat.le_trans (resC_sz x fl) hs0
  have hyf : BkFit y := by rw [← hy]; exact resC_fit hf fl
  obtain ⟨ly1, ly2, ly3⟩ := lim_of_sz hys
  have hmx : (mkBk 1 x : Int) ≤ 1073741824 := by have := mkBk_le 1 x; omega
  have hmy : (mkBk 1 y : Int) ≤ 1073741824 := by have := mkBk_le 1 y; omega
  have HY := hid hy
  clear p0 p1 p2 p3 p4 hb2 hy H1
  have HX := hid ho2
  clear ho2
  go_wp2_with fail
  refine (specCut_y x _ _ _ f1 f2 f3 fl y HY.out w2 w1.heap.size w2.heap.size (Nat.le_refl _) lx1 lx2 lx3 hf HX.out.isIn).mono ?_
  rintro e w3 ⟨b1, b2, b3, u1, u2, u3, rfl, hw3, hb3⟩
  have hB3 : Below w.heap.size w w3 := hB2.trans (hb3.mono hB2.size)
  have hz3 := hb3.size
  have H3 := H2.below hb3 (by omega)
  obtain ⟨p0, p1, p2, p3, p4⟩ := holds_bk H3
  have HW3 := hid (show BkIn w3 (w.heap.size + 1) w3.heap.size y b1 b2 b3 from ⟨hw3.o.to (fun _ _ _ _ => rfl) (by omega) (Nat.le_refl _), hw3.h.to (fun _ _ _ _ => rfl) (by omega) (Nat.le_refl _), hw3.t.to (fun _ _ _ _ => rfl) (by omega) (Nat.le_refl _)⟩)
  have hzw3 : w.heap.size < w3.heap.size := by omega
  clear hw3 H2 hb3 HX
  go_wp2_with fail
  refine (toBk_any x a1 a2 a3 c1 c2 c3 _ 0 w.heap.size (by simp; omega) hf (hc.below (hB3.alloc hB3.size _) (Nat.le_refl _))).mono ?_
  rintro e w4 ⟨g1, g2, g3, d1, d2, d3, rfl, hx4, hb4⟩
  obtain ⟨p, hp1, hp2, hp3, hp4, hp5⟩ := hx4.at
  rw [← hp1, ← hp2, ← hp3]
  have hB4 : Below w.heap.size w w4 := (hB3.alloc hB3.size _).trans (hb4.mono (by simp; omega))
  have H4 := (H3.below (below_alloc _ (.cells #[.int .i64 y.now, .int .i64 y.floor, .slice b1 y.on u1, .slice b2 y.hn u2, .slice b3 y.tn u3] 32)) hzw3).below hb4 (by simp; omega)
  have V4 : Holds w4 w3.heap.size (bkCells y b1 b2 b3 u1 u2 u3) := (holds_new w3 _ 32).below hb4 (by simp)
  have HW4 := hid ((HW3.out.below (below_alloc _ (.cells #[.int .i64 y.now, .int .i64 y.floor, .slice b1 y.on u1, .slice b2 y.hn u2, .slice b3 y.tn u3] 32)) (Nat.le_refl _)).below hb4 (by simp))
  have hz4 : w3.heap.size < w4.heap.size := by have := hb4.size; simp at this; omega
  have XX := hid hp4
  have XB := hid (show ∀ q, blkB p x q → w3.heap.size < q ∧ q < w4.heap.size from fun q hq => by have := hp5 q hq; simp at this; omega)
  clear p0 p1 p2 p3 p4 hb4 H3 HW3 hx4 hp1 hp2 hp3 hp4 hp5
  go_wp2_with fail
  refine (implCut_y x _ _ _ d1 d2 d3 fl y HY.out _ (w3.heap.size + 1) w4.heap.size (by simp) hf (by exact (XX.out.isIn (lo := w3.heap.size + 1) (fun q hq => (XB.out q hq).1)).below (below_alloc _ _) (Nat.le_refl _))).mono ?_
  rintro e w5 ⟨g, v1, v2, v3, rfl, hg5, hq5, hb5⟩
  have hB5 : Below w.heap.size w w5 := (hB4.alloc hB4.size _).trans (hb5.mono (by simp; omega))
  have hz5 : w4.heap.size < w5.heap.size := by have := hb5.size; simp at this; omega
  have S5 : CS (w5.alloc (.cells #[.int .i64 y.now, .int .i64 y.floor, .slice g.a1 y.on v1, .slice g.a2 y.hn v2, .slice g.a3 y.tn v3] 32)) w.heap.size x a1 a2 a3 c1 c2 c3 y w3.heap.size w4.heap.size w5.heap.size b1 b2 b3 u1 u2 u3 p d1 d2 d3 g v1 v2 v3 x y :=
    ⟨((H4.below (below_alloc _ _) (by omega)).below hb5 (by simp; omega)).below (below_alloc _ _) (by omega), hc.below (hB5.alloc hB5.size _) (Nat.le_refl _), ((V4.below (below_alloc _ _) (by omega)).below hb5 (by simp; omega)).below (below_alloc _ _) (by omega), ((HW4.out.below (below_alloc _ _) (by omega)).below hb5 (by simp; omega)).below (below_alloc _ _) (by omega), ((holds_new w4 _ 32).below hb5 (by simp)).below (below_alloc _ _) (by omega), ((XX.out.grow (below_alloc _ _)).grow hb5).grow (below_alloc _ _), XB.out, holds_new w5 _ 32, hg5.grow (below_alloc _ _), fun q hq => ⟨by have := hq5 q hq; simp at this; omega, hg5.blt hq⟩, hzw3, hz4, hz5, by simp⟩
  have HS5 := hid S5
  have hB5' : Below w.heap.size w (w5.alloc (.cells #[.int .i64 y.now, .int .i64 y.floor, .slice g.a1 y.on v1, .slice g.a2 y.hn v2, .slice g.a3 y.tn v3] 32)) := hB5.alloc hB5.size _
  clear hg5 hq5 hb5 H4 V4 HW4 XX XB S5
  obtain ⟨q0, q1, q2, q3, q4⟩ := holds_bk HS5.out.vg
  obtain ⟨r0, r1, r2, r3, r4⟩ := holds_bk HS5.out.vw
  go_wp2_with fail
  refine (eqBk_any y _ _ _ _ _ _ v1 v2 v3 u1 u2 u3 _ 0 _ 0 _ (Nat.le_refl _) (Nat.le_refl _) hyf (by exact HS5.out.gg.isIn (fun _ _ => Nat.zero_le _)) (by exact ⟨HS5.out.ww.o.to (fun _ _ _ _ => rfl) (Nat.zero_le _) (by have := HS5.out.o2; have := HS5.out.o3; have := HS5.out.o4; omega), HS5.out.ww.h.to (fun _ _ _ _ => rfl) (Nat.zero_le _) (by have := HS5.out.o2; have := HS5.out.o3; have := HS5.out.o4; omega), HS5.out.ww.t.to (fun _ _ _ _ => rfl) (Nat.zero_le _) (by have := HS5.out.o2; have := HS5.out.o3; have := HS5.out.o4; omega)⟩)).mono ?_
  rintro e w6 ⟨rfl, hb6⟩
  have HS6 := hid (HS5.out.below hb6)
  have hB6 : Below w.heap.size w w6 := hB5'.trans (hb6.mono hB5'.size)
  clear hb6 HS5 hB5' q0 q1 q2 q3 q4 r0 r1 r2 r3 r4
  obtain ⟨p0, p1, p2, p3, p4⟩ := holds_bk HS6.out.bx
  obtain ⟨q0, q1, q2, q3, q4⟩ := holds_bk HS6.out.vx
  go_wp2
  go_region_with (first
    | (go_at_call 6; go_must (refine (toBk_any x a1 a2 a3 c1 c2 c3 _ 0 w.heap.size (by exact hB6.size) hf (by exact HS6.out.arg.below ((Below.refl _ _).drew) (Nat.le_refl _))).mono ?_; rintro e w7 ⟨g1', g2', g3', d1', d2', d3', rfl, hx7, hb70⟩; have hb7 : Below w6.heap.size w6 w7 := ((Below.refl _ _).drew).trans hb70; clear hb70; have HS7 := hid (HS6.out.below hb7); have HX7 := hid hx7; have HB7 := hid hb7; have hz7 := hb7.size; obtain ⟨r0, r1, r2, r3, r4⟩ := holds_bk HS7.out.vx; clear hx7 hb7))
    | (go_at_call 8; go_must (refine (eqBk_any x _ _ _ _ _ _ d1 d2 d3 d1' d2' d3' _ 0 w7.heap.size w6.heap.size w7.heap.size (by exact Nat.le_refl _) (by exact Nat.le_refl _) hf (by exact HS7.out.xx.isIn (fun _ _ => Nat.zero_le _)) (by exact HX7.out.isIn)).mono ?_; rintro e w8 ⟨rfl, hb8⟩)))
  all_goals
    have hb78 : Below w6.heap.size w6 w8 := HB7.out.trans (hb8.mono hz7)
    have HS8 := hid (HS6.out.below hb78)
    have hB8 : Below w.heap.size w w8 := hB6.trans (hb78.mono hB6.size)
    clear p0 p1 p2 p3 p4 q0 q1 q2 q3 q4 r0 r1 r2 r3 r4 HS6 HX7 HS7 HB7 hb8 hb78
    obtain ⟨q0, q1, q2, q3, q4⟩ := holds_bk HS8.out.vx
    go_wp2_with fail
    refine (markBk_own x p d1 d2 d3 1 w8 lx1 lx2 lx3 (by decide) hmx HS8.out.xx).mono ?_
    rintro e w9 ⟨rfl, hx9, hf9⟩
    have HS9 := hid (HS8.out.markX 1 hx9 hf9)
    have hB9 : Below w.heap.size w w9 := hB8.trans (HS8.out.lowX hf9)
    obtain ⟨k9, hk9⟩ : ∃ k9, mkBk 1 x = k9 := ⟨_, rfl⟩
    rw [hk9]
    clear q0 q1 q2 q3 q4 HS8 hB8 hx9 hf9
    obtain ⟨q0, q1, q2, q3, q4⟩ := holds_bk HS9.out.vg
    obtain ⟨r0, r1, r2, r3, r4⟩ := holds_bk HS9.out.vw
    go_wp2_with fail
    refine (eqBk_any y _ _ _ _ _ _ v1 v2 v3 u1 u2 u3 _ 0 _ 0 _ (Nat.le_refl _) (Nat.le_refl _) hyf (by exact HS9.out.gg.isIn (fun _ _ => Nat.zero_le _)) (by exact HS9.out.win)).mono ?_
    rintro e w10 ⟨rfl, hb10⟩
    have HS10 := hid (HS9.out.below hb10)
    have hB10 : Below w.heap.size w w10 := hB9.trans (hb10.mono hB9.size)
    clear HS9 hB9 hb10 q0 q1 q2 q3 q4 r0 r1 r2 r3 r4
    obtain ⟨q0, q1, q2, q3, q4⟩ := holds_bk HS10.out.vg
    go_wp2_with fail
    refine (markBk_own y g v1 v2 v3 1 w10 ly1 ly2 ly3 (by decide) hmy HS10.out.gg).mono ?_
    rintro e w11 ⟨rfl, hg11, hf11⟩
    have HS11 := hid (HS10.out.markG 1 hg11 hf11)
    have hB11 : Below w.heap.size w w11 := hB10.trans (HS10.out.lowG hf11)
    obtain ⟨m9, hm9⟩ : ∃ m9, mkBk 1 y = m9 := ⟨_, rfl⟩
    have HM9 := hid hm9
    rw [hm9]
    clear HS10 hB10 hg11 hf11 hm9 q0 q1 q2 q3 q4
    obtain ⟨q0, q1, q2, q3, q4⟩ := holds_bk HS11.out.vg
    go_wp2_with fail
    refine (heldBk_own y g v1 v2 v3 1 w11 ly1 ly2 ly3 (by decide) hmy _ _ HS11.out.gg).mono ?_
    rw [HM9.out]
    rintro e w12 ⟨rfl, hb12⟩
    have HS12 := hid (HS11.out.below hb12)
    have hB12 : Below w.heap.size w w12 := hB11.trans (hb12.mono hB11.size)
    clear HS11 hB11 hb12 q0 q1 q2 q3 q4
    obtain ⟨p0, p1, p2, p3, p4⟩ := holds_bk HS12.out.bx
    go_wp2_with fail
    refine (toBk_any x a1 a2 a3 c1 c2 c3 w12 0 w.heap.size hB12.size hf HS12.out.arg).mono ?_
    rintro e w13 ⟨k1, k2, k3, m1, m2, m3, rfl, hx13, hb13⟩
    have HS13 := hid (HS12.out.below hb13)
    have hB13 : Below w.heap.size w w13 := hB12.trans (hb13.mono hB12.size)
    have HX13 := hid hx13
    clear p0 p1 p2 p3 p4 HS12 hB12 hb13 hx13
    go_wp2_with fail
    refine (implCut_y x _ _ _ m1 m2 m3 fl y HY.out w13 w12.heap.size w13.heap.size (Nat.le_refl _) hf HX13.out.isIn).mono ?_
    rintro e w14 ⟨gh, t1, t2, t3, rfl, hh14, hq14, hb14⟩
    have HS14 := hid (HS13.out.below hb14)
    have hB14 : Below w.heap.size w w14 := hB13.trans (hb14.mono hB13.size)
    have HH14 := hid hh14
    clear HS13 hB13 hb14 hh14 HX13 hq14
    obtain ⟨r0, r1, r2, r3, r4⟩ := holds_bk (HS14.out.below (below_alloc _ (.cells #[.int .i64 y.now, .int .i64 y.floor, .slice gh.a1 y.on t1, .slice gh.a2 y.hn t2, .slice gh.a3 y.tn t3] 32))).vw
    go_wp2_with fail
    refine (eqBk_any y _ _ _ _ _ _ t1 t2 t3 u1 u2 u3 _ 0 _ 0 _ (Nat.le_refl _) (Nat.le_refl _) hyf (by exact (HH14.out.grow (below_alloc _ _)).isIn (fun _ _ => Nat.zero_le _)) (by exact (HS14.out.below (below_alloc _ _)).win)).mono ?_
    rintro e w15 ⟨rfl, hb15⟩
    have HS15 := hid ((HS14.out.below (below_alloc _ _)).below hb15)
    have hB15 : Below w.heap.size w w15 := (hB14.alloc hB14.size _).trans (hb15.mono (by have := hB14.size; simp; omega))
    clear HS14 hB14 hb15 HH14 r0 r1 r2 r3 r4
    obtain ⟨q0, q1, q2, q3, q4⟩ := holds_bk HS15.out.vg
    go_wp2_with fail
    refine (heldBk_own y g v1 v2 v3 1 w15 ly1 ly2 ly3 (by decide) hmy _ _ HS15.out.gg).mono ?_
    rw [HM9.out]
    rintro e w16 ⟨rfl, hb16⟩
    have hB16 : Below w.heap.size w w16 := hB15.trans (hb16.mono hB15.size)
    clear HS15 hB15 hb16 q0 q1 q2 q3 q4
    go_wp2
    go_ret
    exact ⟨rfl, hB16⟩
end Go.Proofs.YtcpbgoaicnijjaaGreat
