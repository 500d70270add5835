import Derived.Test.YtahppmcmffgnfaaLf
namespace Go.Proofs.Ytahppmcmffgnfaa
open Go.RowKit Go.Maps
theorem BkOwn.isIn {w : World} {lo hi : Nat} {x : Bk} {g1 g2 g3 : Nat} (h : BkOwn w lo hi x g1 g2 g3) : BkIn w lo w.heap.size x (some ⟨g1, 0, none⟩) (some ⟨g2, 0, none⟩) (some ⟨g3, 0, none⟩) := by
  obtain ⟨p, h1, h2, h3, h4, h5⟩ := h.at
  have := h4.isIn (lo := lo) (fun q hq => (h5 q hq).1)
  rw [h1, h2, h3] at this
  exact this
set_option maxRecDepth 100000 in
set_option maxHeartbeats 4000000 in
theorem law_any (x : Bk) (a1 a2 a3 : Option Addr) (c1 c2 c3 : Nat) (ki pr : ByteArray) (w : World) (hf0 : BkFit0 x) (hc : BkIn w 0 w.heap.size x a1 a2 a3) :
    Calls Try.prog 3 #[.agg #[.int .i64 x.now, .int .i64 x.floor, .slice a1 x.on c1, .slice a2 x.hn c2, .slice a3 x.tn c3], .string ki, .string pr] w fun e w' => e = .returned (.bool true) ∧ Below w.heap.size w w' := by
  by_cases hk : (1048576 : Int) < ki.size
  · go_enter Try.func3, Try.ntmps3
    go_wp2
    go_ret
    exact ⟨rfl, below_alloc _ _⟩
  by_cases hn : (1048576 : Int) < pr.size
  · go_enter Try.func3, Try.ntmps3
    go_wp2
    go_ret
    exact ⟨rfl, below_alloc _ _⟩
  go_enter Try.func3, Try.ntmps3
  go_wp2_with fail
  refine (szBk_any x a1 a2 a3 c1 c2 c3 1048576 _ (by omega) (by omega) 0 w.heap.size (by simp) hf0 (hc.below (below_alloc _ _) (Nat.le_refl _))).mono ?_
  rintro e w1 ⟨rfl, hb1⟩
  have hB1 : Below w.heap.size w w1 := (below_alloc _ _).trans (hb1.mono (by simp))
  have H1 : Holds w1 w.heap.size (bkCells x a1 a2 a3 c1 c2 c3) := (holds_new w _ 26).below hb1 (by simp)
  have hz1 : w.heap.size < w1.heap.size := by have := hb1.size; simp at this; omega
  clear hb1
  by_cases hsz : szOut 1048576 (szBk x) < 0
  · clear H1
    go_wp2
    go_ret
    exact ⟨rfl, hB1⟩
  have hs0 : szBk x ≤ 1048576 := by
    have := (szOut_ge (l := 1048576) (s := szBk x) (by omega)).1
    omega
  have hf : BkFit x := by
    have hs1 := hs0
    unfold szBk szObs szChs szTis at hs1
    exact ⟨by omega, by omega, by omega, hf0.os, hf0.hs, hf0.ts⟩
  have hon := (fit_of_sz hs0).1
  have hlim : (x.hn : Int) ≤ 1048576 ∧ (x.tn : Int) ≤ 1048576 := by
    have hs1 := hs0
    unfold szBk szObs szChs szTis at hs1
    omega
  clear hf0
  obtain ⟨p0, p1, p2, p3, p4⟩ := holds_bk H1
  go_wp2_with fail
  refine (toBk_any x a1 a2 a3 c1 c2 c3 w1 0 w.heap.size (by omega) hf (hc.below hB1 (Nat.le_refl _))).mono ?_
  rintro e w2 ⟨e1, e2, e3, f1, f2, f3, rfl, ho2, hb2⟩
  have hB2 : Below w.heap.size w w2 := hB1.trans (hb2.mono hB1.size)
  have H2 := H1.below hb2 hz1
  have hz2 := hb2.size
  obtain ⟨n, hnn⟩ : ∃ n, (resL x ki pr).length = n := ⟨_, rfl⟩
  obtain ⟨y, hy⟩ : ∃ y, pick x.os (resL x ki pr) = y := ⟨_, rfl⟩
  obtain ⟨nw, hnw⟩ : ∃ nw, resN x = nw := ⟨_, rfl⟩
  have hyn : (n : Int) ≤ 1048576 := by have := res_len x ki pr; omega
  have hyh : ∀ i, i < n → ((y i).hn : Int) ≤ 140737488355328 := fun i hi => by
    obtain ⟨k, hk1, hk2⟩ := res_hn (x := x) (ki := ki) (pr := pr) (i := i) (by omega)
    rw [← hy, hk2]
    have := (fit_of_sz hs0).2 k hk1
    omega
  have hmk : (mkObs 1 y n : Int) ≤ 1073741824 := by
    have h1 := res_mk x ki pr
    rw [hy, hnn] at h1
    have h2 := mkObs_le 1 x.os x.on
    have hs1 := hs0
    unfold szBk at hs1
    omega
  have hmb : (mkBk 1 x : Int) ≤ 1073741824 := by have := mkBk_le 1 x; omega
  have HN := hid hnn
  have HY := hid hy
  have HW := hid hnw
  have HYH := hid hyh
  clear p0 p1 p2 p3 p4 hb2 hy hnn hnw H1 hyh
  have HX := hid ho2
  clear ho2
  go_wp2_with fail
  refine (specList_y x _ _ _ f1 f2 f3 ki pr n y nw HN.out HY.out HW.out w2 w1.heap.size w2.heap.size (Nat.le_refl _) hf hon (by omega) HX.out.isIn).mono ?_
  rintro e w3 ⟨adw, cw, gw, Aw, Cw, hw, rfl, hw3, hq3, hb3⟩
  have hB3 : Below w.heap.size w w3 := hB2.trans (hb3.mono hB2.size)
  have hz3 := hb3.size
  have H3 := H2.below hb3 (by omega)
  obtain ⟨p0, p1, p2, p3, p4⟩ := holds_bk H3
  have VW := hid hw3
  have BW := hid (show ∀ q, blkH gw n (fun i => (y i).hn) hw q → w.heap.size < q ∧ q < w3.heap.size from fun q hq => ⟨by have := hq3 q hq; omega, hw3.blt hq⟩)
  have hzw3 : w.heap.size < w3.heap.size := by omega
  clear hw3 hq3 H2 hb3 HX
  go_wp2_with fail
  refine (toBk_any x a1 a2 a3 c1 c2 c3 w3 0 w.heap.size (by omega) hf (hc.below hB3 (Nat.le_refl _))).mono ?_
  rintro e w4 ⟨g1, g2, g3, d1, d2, d3, rfl, hx4, hb4⟩
  obtain ⟨p, hp1, hp2, hp3, hp4, hp5⟩ := hx4.at
  rw [← hp1, ← hp2, ← hp3]
  have hB4 : Below w.heap.size w w4 := hB3.trans (hb4.mono hB3.size)
  have H4 := H3.below hb4 hzw3
  have VW4 := hid (VW.out.grow hb4)
  have hz4 := hb4.size
  have XX := hid hp4
  have XB := hid hp5
  clear p0 p1 p2 p3 p4 hb4 H3 VW hx4 hp1 hp2 hp3 hp4 hp5
  go_wp2_with fail
  refine (implList_y x _ _ _ d1 d2 d3 ki pr n y nw HN.out HY.out HW.out _ w3.heap.size w4.heap.size (by simp) hf hon (by omega) (by exact (XX.out.isIn (lo := w3.heap.size) (fun q hq => (XB.out q hq).1)).below (below_alloc _ _) (Nat.le_refl _))).mono ?_
  rintro e w5 ⟨adg, cg, gg, Ag, Cg, hg, rfl, hg5, hq5, hb5⟩
  have hB5 : Below w.heap.size w w5 := (hB4.alloc hB4.size _).trans (hb5.mono (by simp; omega))
  have hz5 : w4.heap.size < w5.heap.size := by have := hb5.size; simp at this; omega
  have S5 : LS w5 w.heap.size x a1 a2 a3 c1 c2 c3 n y w3.heap.size w4.heap.size adw gw Aw Cw hw p d1 d2 d3 adg gg Ag Cg hg x y :=
    ⟨(H4.below (below_alloc _ _) (by omega)).below hb5 (by simp; omega), hc.below hB5 (Nat.le_refl _), (VW4.out.grow (below_alloc _ _)).grow hb5, BW.out, (holds_new w4 _ 34).below hb5 (by simp), (XX.out.grow (below_alloc _ _)).grow hb5, XB.out, hg5, fun q hq => by have := hq5 q hq; simp at this; omega, hzw3, hz4, hz5⟩
  have HS5 := hid S5
  clear hg5 hq5 hb5 H4 VW4 XX XB S5 BW
  go_wp2_with fail
  refine (eqObs_any n y adg adw cg cw w5 0 w5.heap.size 0 w5.heap.size (Nat.le_refl _) (Nat.le_refl _) (by omega) HYH.out (by exact HS5.out.vg.isIn (fun _ _ => Nat.zero_le _)) (by exact HS5.out.vw.isIn (fun _ _ => Nat.zero_le _))).mono ?_
  rintro e w6 ⟨rfl, hb6⟩
  have HS6 := hid (HS5.out.below hb6)
  have hB6 : Below w.heap.size w w6 := hB5.trans (hb6.mono hB5.size)
  have hz6 := hb6.size
  clear hb6 HS5
  obtain ⟨p0, p1, p2, p3, p4⟩ := holds_bk HS6.out.bx
  obtain ⟨q0, q1, q2, q3, q4⟩ := holds_bk HS6.out.vx
  go_wp2
  go_region_with (first
    | (go_at_call 6; go_must (refine (toBk_any x a1 a2 a3 c1 c2 c3 _ 0 w.heap.size (by exact hB6.size) hf (by exact HS6.out.arg.below ((Below.refl _ _).drew) (Nat.le_refl _))).mono ?_; rintro e w7 ⟨g1', g2', g3', d1', d2', d3', rfl, hx7, hb70⟩; have hb7 : Below w6.heap.size w6 w7 := ((Below.refl _ _).drew).trans hb70; clear hb70; have HS7 := hid (HS6.out.below hb7); have HX7 := hid hx7; have HB7 := hid hb7; have hz7 := hb7.size; obtain ⟨r0, r1, r2, r3, r4⟩ := holds_bk HS7.out.vx; clear hx7 hb7))
    | (go_at_call 9; go_must (refine (eqBk_any x _ _ _ _ _ _ d1 d2 d3 d1' d2' d3' _ 0 w7.heap.size w6.heap.size w7.heap.size (by exact Nat.le_refl _) (by exact Nat.le_refl _) hf (by exact HS7.out.xx.isIn (fun _ _ => Nat.zero_le _)) (by exact HX7.out.isIn)).mono ?_; rintro e w8 ⟨rfl, hb8⟩)))
  all_goals
    have hb78 : Below w6.heap.size w6 w8 := HB7.out.trans (hb8.mono hz7)
    have HS8 := hid (HS6.out.below hb78)
    have hB8 : Below w.heap.size w w8 := hB6.trans (hb78.mono hB6.size)
    clear p0 p1 p2 p3 p4 q0 q1 q2 q3 q4 r0 r1 r2 r3 r4 HS6 HX7 HS7 HB7 hb8 hb78
    obtain ⟨q0, q1, q2, q3, q4⟩ := holds_bk HS8.out.vx
    go_wp2_with fail
    refine (markBk_own x p d1 d2 d3 1 w8 hon hlim.1 hlim.2 (by decide) hmb HS8.out.xx).mono ?_
    rintro e w9 ⟨rfl, hx9, hf9⟩
    have HS9 := hid (HS8.out.markX 1 hx9 hf9)
    have hB9 : Below w.heap.size w w9 := hB8.trans (HS8.out.low hf9)
    obtain ⟨k9, hk9⟩ : ∃ k9, mkBk 1 x = k9 := ⟨_, rfl⟩
    rw [hk9]
    clear q0 q1 q2 q3 q4 HS8 hB8 hx9 hf9
    go_wp2_with fail
    refine (eqObs_any n y adg adw cg cw w9 0 w9.heap.size 0 w9.heap.size (Nat.le_refl _) (Nat.le_refl _) (by omega) HYH.out (by exact HS9.out.vg.isIn (fun _ _ => Nat.zero_le _)) (by exact HS9.out.vw.isIn (fun _ _ => Nat.zero_le _))).mono ?_
    rintro e w10 ⟨rfl, hb10⟩
    have HS10 := hid (HS9.out.below hb10)
    have hB10 : Below w.heap.size w w10 := hB9.trans (hb10.mono hB9.size)
    clear HS9 hB9 hb10
    go_wp2_with fail
    refine (markObs_own adg gg n y Ag Cg hg cg 1 w10 hyn (by decide) hmk HS10.out.vg).mono ?_
    rintro e w11 ⟨rfl, hg11, hf11⟩
    have HS11 := hid (HS10.out.markG 1 hg11 hf11)
    have hB11 : Below w.heap.size w w11 := hB10.trans (HS10.out.lowG hf11)
    obtain ⟨m9, hm9⟩ : ∃ m9, mkObs 1 y n = m9 := ⟨_, rfl⟩
    have HM9 := hid hm9
    rw [hm9]
    clear HS10 hB10 hg11 hf11 hm9
    go_wp2_with fail
    refine (heldObs_own adg gg n y Ag Cg hg cg 1 w11 hyn (by decide) hmk HS11.out.vg).mono ?_
    rw [HM9.out]
    rintro e w12 ⟨rfl, hb12⟩
    have HS12 := hid (HS11.out.below hb12)
    have hB12 : Below w.heap.size w w12 := hB11.trans (hb12.mono hB11.size)
    clear HS11 hB11 hb12
    obtain ⟨p0, p1, p2, p3, p4⟩ := holds_bk HS12.out.bx
    go_wp2_with fail
    refine (toBk_any x a1 a2 a3 c1 c2 c3 w12 0 w.heap.size hB12.size hf HS12.out.arg).mono ?_
    rintro e w13 ⟨k1, k2, k3, m1, m2, m3, rfl, hx13, hb13⟩
    have HS13 := hid (HS12.out.below hb13)
    have hB13 : Below w.heap.size w w13 := hB12.trans (hb13.mono hB12.size)
    have HX13 := hid hx13
    clear p0 p1 p2 p3 p4 HS12 hB12 hb13 hx13
    go_wp2_with fail
    refine (implList_y x _ _ _ m1 m2 m3 ki pr n y nw HN.out HY.out HW.out w13 w12.heap.size w13.heap.size (Nat.le_refl _) hf hon (by omega) HX13.out.isIn).mono ?_
    rintro e w14 ⟨adh, ch, gh, Ah, Ch', hh, rfl, hh14, hq14, hb14⟩
    have HS14 := hid (HS13.out.below hb14)
    have hB14 : Below w.heap.size w w14 := hB13.trans (hb14.mono hB13.size)
    have HH14 := hid hh14
    clear HS13 hB13 hb14 hh14 HX13 hq14
    go_wp2_with fail
    refine (eqObs_any n y adh adw ch cw w14 0 w14.heap.size 0 w14.heap.size (Nat.le_refl _) (Nat.le_refl _) (by omega) HYH.out (by exact HH14.out.isIn (fun _ _ => Nat.zero_le _)) (by exact HS14.out.vw.isIn (fun _ _ => Nat.zero_le _))).mono ?_
    rintro e w15 ⟨rfl, hb15⟩
    have HS15 := hid (HS14.out.below hb15)
    have hB15 : Below w.heap.size w w15 := hB14.trans (hb15.mono hB14.size)
    clear HS14 hB14 hb15 HH14
    go_wp2_with fail
    refine (heldObs_own adg gg n y Ag Cg hg cg 1 w15 hyn (by decide) hmk HS15.out.vg).mono ?_
    rw [HM9.out]
    rintro e w16 ⟨rfl, hb16⟩
    have hB16 : Below w.heap.size w w16 := hB15.trans (hb16.mono hB15.size)
    clear HS15 hB15 hb16
    go_wp2
    go_ret
    exact ⟨rfl, hB16⟩
end Go.Proofs.Ytahppmcmffgnfaa
