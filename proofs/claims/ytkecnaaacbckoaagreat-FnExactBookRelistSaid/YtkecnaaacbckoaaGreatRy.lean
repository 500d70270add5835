import Derived.Test.YtkecnaaacbckoaaGreatRa
import Derived.Test.YtkecnaaacbckoaaGreatX
import Derived.Test.YtkecnaaacbckoaaGreatRf
import Derived.Deep.RegionWith
import Derived.ProofKit
import Derived.SizedLaws
namespace Go.Proofs.YtkecnaaacbckoaaGreat
open Go.ChangeShapes Go.WideShapes Go.ChangeAt Go.RowKit Go.Deep
theorem Tryz.c54 : Tryz.prog.cellsOf 54 = 5 := by kernel_rfl
set_option maxRecDepth 100000 in
/-- a mirror that came in by value -/
theorem openMr {H : Type} {enc : TypeId × Value → H} {W : World} {b0 : Nat} {v : Value} {d : DataW H} {p : List MemPlace} (hv : Value.okWide Tryz.prog W .any b0 54 v) (h : DataW.Trod enc Tryz.prog W 0 (fun _ => true) true 54 v d p) (hs : Fits 54 d) :
    ∃ (m : Mr) (a : Option Addr) (c : Nat), v = .agg #[.string m.kind, .string m.pre, .int .i64 m.at_, .slice a m.n c, .int .i64 m.seen] ∧ ObjsIn W 0 W.heap.size a m.n m.os ∧ MrFit m := by
  obtain ⟨cs, rfl, hsz⟩ := okWide_struct Tryz.underlying54 hv
  obtain ⟨fuel, hf0⟩ := h
  obtain ⟨xs, n, _, hx, hlen, hxl, hf⟩ := DataW.trod_struct Tryz.underlying54 hf0
  simp only [Prod.mk.injEq] at hx
  obtain ⟨rfl, rfl⟩ := hx
  rw [Tryz.c54] at hsz
  obtain ⟨e0, e1, e2, e3, e4, he⟩ := list5 (show cs.toList.length = 5 by simpa using hsz)
  obtain rfl : cs = #[e0, e1, e2, e3, e4] := by
    apply Array.ext'
    simpa using he
  obtain ⟨y0, y1, y2, y3, y4, rfl⟩ := list5 (show xs.length = 5 from hxl)
  have g0 := hf 0 _ rfl
  have g1 := hf 1 _ rfl
  have g2 := hf 2 _ rfl
  have g3 := hf 3 _ rfl
  have g4 := hf 4 _ rfl
  simp only [List.getElem?_cons_succ, List.getElem?_cons_zero] at g0 g1 g2 g3 g4
  have hs' : ∀ z, z ∈ DataW.weights Tryz.prog 9 y0.1 ∨ z ∈ DataW.weights Tryz.prog 9 y1.1 ∨ z ∈ DataW.weights Tryz.prog 22 y3.1 → z ≤ reachBytes := fun z hz => hs z (by
    simp only [List.map_cons, List.map_nil, DataW.weights, Tryz.underlying54, DataW.weightsEach, List.mem_append]
    rcases hz with hz | hz | hz <;> simp [hz])
  obtain ⟨k, rfl, fk⟩ := fit_str g0 (fun z hz => hs' z (Or.inl hz))
  obtain ⟨pr, rfl, fp⟩ := fit_str g1 (fun z hz => hs' z (Or.inr (Or.inl hz)))
  obtain ⟨at', rfl⟩ := fit_int g2
  obtain ⟨a1, n1, c1, x1, rfl, b1, i1, j1⟩ := openObs g3 (fun z hz => hs' z (Or.inr (Or.inr hz)))
  obtain ⟨se, rfl⟩ := fit_int g4
  exact ⟨⟨k, pr, at', n1, x1, se⟩, a1, c1, rfl, i1, ⟨fk, fp, b1, j1⟩⟩
end Go.Proofs.YtkecnaaacbckoaaGreat
namespace Go.Proofs.YtkecnaaacbckoaaGreat
open Go.RowKit Go.Maps
theorem mkBk_pos' (x : Bk) : 1 ≤ mkBk 1 x := by
  unfold mkBk
  exact mkTis_pos _ _ _ (mkChs_pos _ _ _ (mkObs_pos 1 _ _ (Nat.le_refl _)))
set_option maxRecDepth 100000 in
set_option maxHeartbeats 4000000 in
theorem relist_law (x : Bk) (a1 a2 a3 : Option Addr) (c1 c2 c3 : Nat) (m : Mr) (a : Option Addr) (c : Nat) (w : World) (hf0 : BkFit0 x) (hmf : MrFit m) (hc : BkIn w 0 w.heap.size x a1 a2 a3) (hmc : ObjsIn w 0 w.heap.size a m.n m.os) :
    Calls Tryz.prog 6 #[.agg #[.int .i64 x.now, .int .i64 x.floor, .slice a1 x.on c1, .slice a2 x.hn c2, .slice a3 x.tn c3], .agg #[.string m.kind, .string m.pre, .int .i64 m.at_, .slice a m.n c, .int .i64 m.seen]] w fun e w' => e = .returned (.bool true) ∧ Below w.heap.size w w' := by
  have hb0 : ∀ o1 o2, Below w.heap.size w ((w.alloc o1).alloc o2) := fun o1 o2 => (below_alloc _ _).alloc (by simp) _
  have HC := hid hc
  have HM := hid hmc
  clear hc hmc
  go_enter Tryz.func6, Tryz.ntmps6
  go_wp2_with fail
  refine (szBk_any x a1 a2 a3 c1 c2 c3 1048576 _ (by omega) (by omega) 0 w.heap.size (by simp; omega) hf0 (HC.out.below (hb0 _ _) (Nat.le_refl _))).mono ?_
  rintro e w1 ⟨rfl, hb1⟩
  have hB1 : Below w.heap.size w w1 := (hb0 _ _).trans (hb1.mono (by simp; omega))
  have hz1 : w.heap.size + 1 < w1.heap.size := by have := hb1.size; simp at this; omega
  obtain ⟨A0, A1, _, _⟩ := two_cell hb1
  have H1 : Holds w1 w.heap.size (bkCells x a1 a2 a3 c1 c2 c3) := A0
  have M1 : Holds w1 (w.heap.size + 1) (mrC m a c) := A1
  clear A0 A1 hb1
  generalize hl1 : szOut 1048576 (szBk x) = l1
  by_cases hsz : l1 < 0
  · clear H1 M1
    go_wp2
    go_ret
    exact ⟨rfl, hB1⟩
  obtain ⟨hs0, hs0'⟩ := szOut_ge (l := 1048576) (s := szBk x) (by omega)
  have hl1' : l1 ≤ 1048576 := by omega
  obtain ⟨q0, q1, q2, q3, q4⟩ := holds_mr M1
  have HH := hid H1
  have HMM := hid M1
  clear H1 M1
  go_wp2_with fail
  refine (szMr_any m a c _ w1 (by omega) (by omega) 0 w.heap.size (by omega) hmf (HM.out.below hB1 (Nat.le_refl _))).mono ?_
  rintro e w2 ⟨rfl, hb2⟩
  have hB2 : Below w.heap.size w w2 := hB1.trans (hb2.mono (by omega))
  have hz2 := hb2.size
  have H2 := HH.out.below hb2 (by omega)
  have M2 := HMM.out.below hb2 (by omega)
  clear hb2 q0 q1 q2 q3 q4 HH HMM
  generalize hl2 : szOut l1 (szMr m) = l2
  by_cases hsz2 : l2 < 0
  · clear H2 M2
    go_wp2
    go_ret
    exact ⟨rfl, hB2⟩
  obtain ⟨hm0, hm0'⟩ := szOut_ge (l := l1) (s := szMr m) (by omega)
  have hs1 : szBk x ≤ 1048576 := by omega
  have hs2 : szMr m ≤ 1048576 := by omega
  have hf : BkFit x := by
    have h := hs1
    unfold szBk szObs szChs szTis at h
    exact ⟨by omega, by omega, by omega, hf0.os, hf0.hs, hf0.ts⟩
  have hon := (fit_of_sz hs1).1
  have hlim : (x.hn : Int) ≤ 1048576 ∧ (x.tn : Int) ≤ 1048576 := by
    have h := hs1
    unfold szBk szObs szChs szTis at h
    omega
  have hmn : (m.n : Int) ≤ 1048576 ∧ (m.pre.size : Int) ≤ 1048576 := by
    have h := hs2
    unfold szMr szObs at h
    omega
  obtain ⟨p0, p1, p2, p3, p4⟩ := holds_bk H2
  obtain ⟨q0, q1, q2, q3, q4⟩ := holds_mr M2
  obtain ⟨n, hnn⟩ : ∃ n, (resL x m.kind m.pre).length = n := ⟨_, rfl⟩
  obtain ⟨y, hy⟩ : ∃ y, pick x.os (resL x m.kind m.pre) = y := ⟨_, rfl⟩
  obtain ⟨nw, hnw⟩ : ∃ nw, resN x = nw := ⟨_, rfl⟩
  have HN := hid hnn
  have HY := hid hy
  have HW := hid hnw
  have HMO := hid hmf.os
  have H2h := hid H2
  have M2h := hid M2
  have HF := hid hf
  clear hf0 hmf hnn hy hnw H2 M2 hl1 hl2 hs0 hs0' hm0 hm0' hb0 hf
  have za : w.heap.size < w2.heap.size := by omega
  have zb : w.heap.size + 1 < w2.heap.size := by omega
  go_wp2_with fail
  refine relReg8 _ _ _ _ _ _ _ _ _ _ _ _ _ _ _ _ _ _ _ _ _ _ _ _ _ _ _ _ _ _ _ _ _ _ _ _ _ _ _ _ _ _ _ _ _ _ _ _ _ _ _ _ _ _ _ _ _ _ _ _ _ _ _ _ _ _ _ _ _ _ _ _ _ _ _ _ _ _ _ _ _ _ _ _ w.heap.size x a1 a2 a3 c1 c2 c3 m a c n y nw HN.out HY.out HW.out HF.out hon hmn.2 hmn.1 HMO.out w2 H2h.out M2h.out (HC.out.below hB2 (Nat.le_refl _)) (HM.out.below hB2 (Nat.le_refl _)) zb _ ?_
  intro u0 u1 u2 u3 adw cw gw Aw Cw hw b6 w3 ho3 hq3 h63 z6 z6' hb3
  have hB3 : Below w.heap.size w w3 := hB2.trans (hb3.mono (by omega))
  have hz3 := hb3.size
  have H3 := hid (H2h.out.below hb3 za)
  have M3 := hid (M2h.out.below hb3 zb)
  have HO3 := hid ho3
  have HQ3 := hid hq3
  have H63 := hid h63
  clear p0 p1 p2 p3 p4 q0 q1 q2 q3 q4 ho3 hq3 h63 hb3 H2h M2h
  obtain ⟨p0, p1, p2, p3, p4⟩ := holds_bk H3.out
  go_wp2_with fail
  refine (toBk_any x a1 a2 a3 c1 c2 c3 w3 0 w.heap.size (by omega) HF.out (HC.out.below hB3 (Nat.le_refl _))).mono ?_
  rintro e w4 ⟨g1, g2, g3, d1, d2, d3, rfl, hx4, hb4⟩
  obtain ⟨p, hp1, hp2, hp3, hp4, hp5⟩ := hx4.at
  rw [← hp1, ← hp2, ← hp3]
  have hz4 := hb4.size
  have hb4' : Below w3.heap.size w3 (w4.alloc (.cells (bkCells x p.a1 p.a2 p.a3 d1 d2 d3) 32)) := hb4.alloc hb4.size _
  have hB4 : Below w.heap.size w (w4.alloc (.cells (bkCells x p.a1 p.a2 p.a3 d1 d2 d3) 32)) := hB3.trans (hb4'.mono (by omega))
  have M4 := hid (M3.out.below hb4' (by omega))
  have H4 := hid (H3.out.below hb4' (by omega))
  have HO4 := hid (HO3.out.grow hb4')
  have H64 := hid (H63.out.below hb4' (by omega))
  have XX := hid (hp4.grow (below_alloc w4 (.cells (bkCells x p.a1 p.a2 p.a3 d1 d2 d3) 32)))
  have XB := hid hp5
  have V7 := hid (holds_new w4 (bkCells x p.a1 p.a2 p.a3 d1 d2 d3) 32)
  obtain ⟨q0, q1, q2, q3, q4⟩ := holds_mr (M3.out.below hb4 (by omega))
  have zm1 : w.heap.size + 1 < w4.heap.size := by omega
  clear p0 p1 p2 p3 p4 hb4 H3 M3 HO3 H63 hx4 hp1 hp2 hp3 hp4 hp5 hb4'
  go_wp2_with fail
  refine (toMr_any m a c (w4.alloc (.cells (bkCells x p.a1 p.a2 p.a3 d1 d2 d3) 32)) 0 w.heap.size (by simp; omega) (by omega) HMO.out (HM.out.below hB4 (Nat.le_refl _))).mono ?_
  rintro e w5 ⟨gm, dm, Am, Cm, hm, rfl, hm5, hqm, hb5⟩
  have hz5 : w4.heap.size < w5.heap.size := by have := hb5.size; simp at this; omega
  have hb5' : Below (w4.heap.size + 1) (w4.alloc (.cells (bkCells x p.a1 p.a2 p.a3 d1 d2 d3) 32)) (w5.alloc (.cells (mrC m (some ⟨gm, 0, none⟩) dm) 57)) := by have := hb5.alloc hb5.size (.cells (mrC m (some ⟨gm, 0, none⟩) dm) 57); simpa using this
  have hB5 : Below w.heap.size w (w5.alloc (.cells (mrC m (some ⟨gm, 0, none⟩) dm) 57)) := hB4.trans (hb5'.mono (by omega))
  have hs4 : (w4.alloc (.cells (bkCells x p.a1 p.a2 p.a3 d1 d2 d3) 32)).heap.size = w4.heap.size + 1 := by simp
  have hb5'' : Below (w4.alloc (.cells (bkCells x p.a1 p.a2 p.a3 d1 d2 d3) 32)).heap.size (w4.alloc (.cells (bkCells x p.a1 p.a2 p.a3 d1 d2 d3) 32)) (w5.alloc (.cells (mrC m (some ⟨gm, 0, none⟩) dm) 57)) := by rw [hs4]; exact hb5'
  have M5 := hid (M4.out.below hb5' (by omega))
  have H5 := hid (H4.out.below hb5' (by omega))
  have HO5 := hid (HO4.out.grow hb5'')
  have H65 := hid (H64.out.below hb5' (by omega))
  have XX5 := hid (XX.out.grow hb5'')
  have V75 := hid (V7.out.below hb5' (by omega))
  have V8 := hid (holds_new w5 (mrC m (some ⟨gm, 0, none⟩) dm) 57)
  have MM := hid (hm5.grow (below_alloc w5 (.cells (mrC m (some ⟨gm, 0, none⟩) dm) 57)))
  have MB := hid (show ∀ q, blkH gm m.n (fun i => (m.os i).hn) hm q → w4.heap.size < q ∧ q < w5.heap.size from fun q hq => ⟨by have := hqm q hq; simp at this; omega, hm5.blt hq⟩)
  obtain ⟨p0, p1, p2, p3, p4⟩ := holds_bk (V7.out.below hb5 (by simp))
  have zm2 : w4.heap.size < w5.heap.size := hz5
  clear q0 q1 q2 q3 q4 hb5 hb5' M4 H4 HO4 H64 XX V7 hm5 hqm hs4
  go_wp2_with fail
  refine (implRelist_any x _ _ _ d1 d2 d3 m _ dm n y nw HN.out HY.out HW.out _ 0 (w5.alloc (.cells (mrC m (some ⟨gm, 0, none⟩) dm) 57)).heap.size (Nat.le_refl _) HF.out hon (by omega) (by exact XX5.out.isIn (fun _ _ => Nat.zero_le _))).mono ?_
  rintro e w6 ⟨adg, cg, gg, Ag, Cg, hg, rfl, hg6, hq6, hb6⟩
  have hz6 : w5.heap.size < w6.heap.size := by have := hb6.size; simp at this; omega
  have hb6' : Below (w5.heap.size + 1) (w5.alloc (.cells (mrC m (some ⟨gm, 0, none⟩) dm) 57)) (w6.alloc (.cells (mrC ⟨m.kind, m.pre, nw, n, y, m.seen⟩ adg cg) 57)) := by have := hb6.alloc hb6.size (.cells (mrC ⟨m.kind, m.pre, nw, n, y, m.seen⟩ adg cg) 57); simpa using this
  have hs5 : (w5.alloc (.cells (mrC m (some ⟨gm, 0, none⟩) dm) 57)).heap.size = w5.heap.size + 1 := by simp
  have hb6'' : Below (w5.alloc (.cells (mrC m (some ⟨gm, 0, none⟩) dm) 57)).heap.size (w5.alloc (.cells (mrC m (some ⟨gm, 0, none⟩) dm) 57)) (w6.alloc (.cells (mrC ⟨m.kind, m.pre, nw, n, y, m.seen⟩ adg cg) 57)) := by rw [hs5]; exact hb6'
  have hB6 : Below w.heap.size w (w6.alloc (.cells (mrC ⟨m.kind, m.pre, nw, n, y, m.seen⟩ adg cg) 57)) := hB5.trans (hb6'.mono (by omega))
  have S6 : RS (w6.alloc (.cells (mrC ⟨m.kind, m.pre, nw, n, y, m.seen⟩ adg cg) 57)) w.heap.size w3.heap.size b6 w4.heap.size w5.heap.size w6.heap.size x a1 a2 a3 c1 c2 c3 m a c ⟨m.kind, m.pre, nw, n, y, m.seen⟩ adw cw gw Aw Cw hw p d1 d2 d3 x (some ⟨gm, 0, none⟩) dm gm Am Cm hm m.os adg cg gg Ag Cg hg y :=
    ⟨H5.out.below hb6' (by omega), M5.out.below hb6' (by omega), HC.out.below hB6 (Nat.le_refl _), HM.out.below hB6 (Nat.le_refl _), H65.out.below hb6' (by omega), HO5.out.grow hb6'', fun q hq => by have := HQ3.out q hq; omega, V75.out.below hb6' (by omega), XX5.out.grow hb6'', fun q hq => XB.out q hq, V8.out.below hb6' (by omega), MM.out.grow hb6'', MB.out, holds_new w6 (mrC ⟨m.kind, m.pre, nw, n, y, m.seen⟩ adg cg) 57, hg6.grow (below_alloc _ _), fun q hq => ⟨by have := hq6 q hq; simp at this; omega, hg6.blt hq⟩, ⟨by omega, by omega⟩, by omega, by omega, by omega, by simp⟩
  have HS6 := hid S6
  obtain ⟨n0, n1, n2, n3, n4⟩ := holds_mr (H65.out.below hb6 (by simp; omega))
  have zm3 : b6 < w6.heap.size := by omega
  clear p0 p1 p2 p3 p4 hb6 hb6' hb6'' hg6 hq6 S6 H5 M5 H65 HO5 V75 XX5 V8 MM MB HQ3 XB hb5'' hs5 hB5 hB4
  go_wp2_with fail
  have hnn2 : (n : Int) ≤ 1048576 := by have := res_len x m.kind m.pre; have := HN.out; omega
  have HYH := hid (show ∀ i, i < n → ((y i).hn : Int) ≤ 140737488355328 from fun i hi => by
    obtain ⟨k, hk1, hk2⟩ := res_hn (x := x) (ki := m.kind) (pr := m.pre) (i := i) (by have := HN.out; omega)
    rw [← HY.out, hk2]
    have := (fit_of_sz hs1).2 k hk1
    omega)
  have HMH := hid (show ∀ i, i < m.n → ((m.os i).hn : Int) ≤ 140737488355328 from fun i hi => by have := (HMO.out i hi).h; omega)
  have hmk : (mkObs 1 y n : Int) ≤ 1073741824 := by
    have h1 := res_mk x m.kind m.pre
    rw [HY.out, HN.out] at h1
    have h2 := mkObs_le 1 x.os x.on
    have h3 := hs1
    unfold szBk at h3
    omega
  have hmb : (mkBk 1 x : Int) ≤ 1073741824 := by have := mkBk_le 1 x; omega
  have hmk2 : (mkObs (mkBk 1 x) m.os m.n : Int) ≤ 1073741824 := by
    have h1 := mkBk_le 1 x
    have h2 := mkObs_le (mkBk 1 x) m.os m.n
    have h3 := hs2
    unfold szMr at h3
    omega
  have hbpos : 1 ≤ mkBk 1 x := mkBk_pos' x
  refine (eqMr_any ⟨m.kind, m.pre, nw, n, y, m.seen⟩ adg adw cg cw _ 0 (w6.alloc (.cells (mrC ⟨m.kind, m.pre, nw, n, y, m.seen⟩ adg cg) 57)).heap.size 0 (w6.alloc (.cells (mrC ⟨m.kind, m.pre, nw, n, y, m.seen⟩ adg cg) 57)).heap.size (Nat.le_refl _) (Nat.le_refl _) (by show (n : Int) ≤ _; omega) HYH.out (by exact HS6.out.vg.isIn (fun _ _ => Nat.zero_le _)) (by exact HS6.out.vw.isIn (fun _ _ => Nat.zero_le _))).mono ?_
  rintro e w7 ⟨rfl, hb7⟩
  have HS7 := hid (HS6.out.below hb7)
  have hB7 : Below w.heap.size w w7 := hB6.trans (hb7.mono hB6.size)
  clear n0 n1 n2 n3 n4 hb7 HS6 hB6 zm3
  obtain ⟨p0, p1, p2, p3, p4⟩ := holds_bk HS7.out.bx
  obtain ⟨q0, q1, q2, q3, q4⟩ := holds_bk HS7.out.v7
  go_wp2
  refine relReg14 _ _ _ _ _ _ _ _ _ _ _ _ _ _ _ _ _ _ _ _ _ _ _ _ _ _ _ _ _ _ _ _ _ _ _ _ _ _ _ _ _ _ _ _ _ _ _ _ _ _ _ _ _ _ _ _ _ _ _ _ _ _ _ _ _ _ _ _ _ _ _ _ _ _ _ _ _ _ _ _ _ _ _ _ _ w.heap.size w4.heap.size x a1 a2 a3 c1 c2 c3 p d1 d2 d3 HF.out w7 HS7.out.v7 HS7.out.bx HS7.out.xx HS7.out.arg (by have := HS7.out.o1; have := HS7.out.o2; omega) (by have := HS7.out.o2; omega) _ ?_
  intro u0' u1' u2' u3' w8 hb8
  have HS8 := hid (HS7.out.below hb8)
  have hB8 : Below w.heap.size w w8 := hB7.trans (hb8.mono hB7.size)
  clear p0 p1 p2 p3 p4 q0 q1 q2 q3 q4 hb8 HS7 hB7
  obtain ⟨p0, p1, p2, p3, p4⟩ := holds_mr HS8.out.bm
  obtain ⟨q0, q1, q2, q3, q4⟩ := holds_mr HS8.out.v8
  go_wp2
  refine relReg16 _ _ _ _ _ _ _ _ _ _ _ _ _ _ _ _ _ _ _ _ _ _ _ _ _ _ _ _ _ _ _ _ _ _ _ _ _ _ _ _ _ _ _ _ _ _ _ _ _ _ _ _ _ _ _ _ _ _ _ _ _ _ _ _ _ _ _ _ _ _ _ _ _ _ _ _ _ _ _ _ _ _ _ _ _ w.heap.size w5.heap.size m a c _ dm hmn.1 HMO.out w8 HS8.out.v8 HS8.out.bm (HS8.out.mm.isIn (fun _ _ => Nat.zero_le _)) HS8.out.argm (by have := HS8.out.o1; have := HS8.out.o2; omega) (by have := HS8.out.o2; omega) _ ?_
  intro u0'' u1'' u2'' u3'' w9 hb9
  have HS9 := hid (HS8.out.below hb9)
  have hB9 : Below w.heap.size w w9 := hB8.trans (hb9.mono hB8.size)
  clear p0 p1 p2 p3 p4 q0 q1 q2 q3 q4 hb9 HS8 hB8
  obtain ⟨q0, q1, q2, q3, q4⟩ := holds_bk HS9.out.v7
  go_wp2_with fail
  refine (markBk_own x p d1 d2 d3 1 w9 hon hlim.1 hlim.2 (by decide) hmb HS9.out.xx).mono ?_
  rintro e w10 ⟨rfl, hx10, hf10⟩
  have HS10 := hid (HS9.out.markX 1 hx10 hf10)
  have hB10 : Below w.heap.size w w10 := hB9.trans (HS9.out.lowX hf10)
  clear q0 q1 q2 q3 q4 HS9 hB9 hx10 hf10
  obtain ⟨q0, q1, q2, q3, q4⟩ := holds_mr HS10.out.v8
  go_wp2_with fail
  refine (markMr_own m _ gm Am Cm hm dm (mkBk 1 x) w10 hmn.1 (by omega) hmk2 HS10.out.mm).mono ?_
  rintro e w11 ⟨rfl, hx11, hf11⟩
  have HS11 := hid (HS10.out.markM (mkBk 1 x) hx11 hf11)
  have hB11 : Below w.heap.size w w11 := hB10.trans (HS10.out.lowM hf11)
  obtain ⟨k9, hk9⟩ : ∃ k9, mkObs (mkBk 1 x) m.os m.n = k9 := ⟨_, rfl⟩
  have hk9p : 0 ≤ (k9 : Int) := by omega
  rw [hk9]
  clear q0 q1 q2 q3 q4 HS10 hB10 hx11 hf11 hk9
  obtain ⟨q0, q1, q2, q3, q4⟩ := holds_mr HS11.out.v9
  obtain ⟨n0, n1, n2, n3, n4⟩ := holds_mr HS11.out.v6
  go_wp2_with fail
  refine (eqMr_any ⟨m.kind, m.pre, nw, n, y, m.seen⟩ adg adw cg cw w11 0 w11.heap.size 0 w11.heap.size (Nat.le_refl _) (Nat.le_refl _) (by show (n : Int) ≤ _; omega) HYH.out (by exact HS11.out.vg.isIn (fun _ _ => Nat.zero_le _)) (by exact HS11.out.vw.isIn (fun _ _ => Nat.zero_le _))).mono ?_
  rintro e w12 ⟨rfl, hb12⟩
  have HS12 := hid (HS11.out.below hb12)
  have hB12 : Below w.heap.size w w12 := hB11.trans (hb12.mono hB11.size)
  clear q0 q1 q2 q3 q4 n0 n1 n2 n3 n4 HS11 hB11 hb12
  obtain ⟨q0, q1, q2, q3, q4⟩ := holds_mr HS12.out.v9
  go_wp2_with fail
  refine (markMr_own ⟨m.kind, m.pre, nw, n, y, m.seen⟩ adg gg Ag Cg hg cg 1 w12 hnn2 (by decide) hmk HS12.out.vg).mono ?_
  rintro e w13 ⟨rfl, hx13, hf13⟩
  have HS13 := hid (HS12.out.markG 1 hx13 hf13)
  have hB13 : Below w.heap.size w w13 := hB12.trans (HS12.out.lowG hf13)
  obtain ⟨m9, hm9⟩ : ∃ m9, mkObs 1 y n = m9 := ⟨_, rfl⟩
  have HM9 := hid hm9
  have hm9p : 0 ≤ (m9 : Int) := by omega
  rw [show mkObs 1 (Mr.os ⟨m.kind, m.pre, nw, n, y, m.seen⟩) (Mr.n ⟨m.kind, m.pre, nw, n, y, m.seen⟩) = m9 from hm9]
  clear q0 q1 q2 q3 q4 HS12 hB12 hx13 hf13 hm9
  obtain ⟨q0, q1, q2, q3, q4⟩ := holds_mr HS13.out.v9
  go_wp2_with fail
  refine (heldMr_own ⟨m.kind, m.pre, nw, n, y, m.seen⟩ adg gg Ag Cg hg cg 1 w13 y hnn2 (by decide) hmk HS13.out.vg).mono ?_
  rw [show mkObs 1 y (Mr.n ⟨m.kind, m.pre, nw, n, y, m.seen⟩) = m9 from HM9.out]
  rintro e w14 ⟨rfl, hb14⟩
  have HS14 := hid (HS13.out.below hb14)
  have hB14 : Below w.heap.size w w14 := hB13.trans (hb14.mono hB13.size)
  clear q0 q1 q2 q3 q4 HS13 hB13 hb14
  go_wp2_with fail
  refine relReg31 _ _ _ _ _ _ _ _ _ _ _ _ _ _ _ _ _ _ _ _ _ _ _ _ _ _ _ _ _ _ _ _ _ _ _ _ _ _ _ _ _ _ _ _ _ _ _ _ _ _ _ _ _ _ _ _ _ _ _ _ _ _ _ _ _ _ _ _ _ _ _ _ _ _ _ _ _ _ _ _ _ _ _ _ w.heap.size x a1 a2 a3 c1 c2 c3 m a c n y nw HN.out HY.out HW.out HF.out hon hmn.2 hmn.1 HMO.out w14 HS14.out.bx HS14.out.bm HS14.out.arg HS14.out.argm (by have := HS14.out.o1; have := HS14.out.o2; omega) _ ?_
  intro u0a u1a u2a u3a adh ch gh Ah Ch' hh b13 w15 ho15 hq15 h15 z15 z15' hb15
  have HS15 := hid (HS14.out.below hb15)
  have hB15 : Below w.heap.size w w15 := hB14.trans (hb15.mono hB14.size)
  obtain ⟨q0, q1, q2, q3, q4⟩ := holds_mr h15
  obtain ⟨n0, n1, n2, n3, n4⟩ := holds_mr HS15.out.v6
  have HH := hid ho15
  clear HS14 hB14 hb15 ho15 hq15 h15
  go_wp2_with fail
  refine (eqMr_any ⟨m.kind, m.pre, nw, n, y, m.seen⟩ adh adw ch cw w15 0 w15.heap.size 0 w15.heap.size (Nat.le_refl _) (Nat.le_refl _) (by show (n : Int) ≤ _; omega) HYH.out (by exact HH.out.isIn (fun _ _ => Nat.zero_le _)) (by exact HS15.out.vw.isIn (fun _ _ => Nat.zero_le _))).mono ?_
  rintro e w16 ⟨rfl, hb16⟩
  have HS16 := hid (HS15.out.below hb16)
  have hB16 : Below w.heap.size w w16 := hB15.trans (hb16.mono hB15.size)
  clear q0 q1 q2 q3 q4 n0 n1 n2 n3 n4 HS15 hB15 hb16 HH
  obtain ⟨q0, q1, q2, q3, q4⟩ := holds_mr HS16.out.v9
  go_wp2_with fail
  refine (heldMr_own ⟨m.kind, m.pre, nw, n, y, m.seen⟩ adg gg Ag Cg hg cg 1 w16 y hnn2 (by decide) hmk HS16.out.vg).mono ?_
  rw [show mkObs 1 y (Mr.n ⟨m.kind, m.pre, nw, n, y, m.seen⟩) = m9 from HM9.out]
  rintro e w17 ⟨rfl, hb17⟩
  have hB17 : Below w.heap.size w w17 := hB16.trans (hb17.mono hB16.size)
  clear q0 q1 q2 q3 q4 HS16 hB16 hb17
  go_wp2
  go_ret
  exact ⟨rfl, hB17⟩
end Go.Proofs.YtkecnaaacbckoaaGreat
namespace Go.Proofs.YtkecnaaacbckoaaGreat
open Go.ChangeShapes Go.WideShapes Go.ChangeAt Go.RowKit
open Go.WideMaps Go.WideElems
theorem Tryz.own : ownKnob Tryz.prog.godebug = none := by kernel_rfl
set_option maxRecDepth 100000 in
theorem relist_lifted (os : Os) (started : os.Started) (H : Type) (enc : TypeId × Value → H) :
    ReturnsInHanded {} Tryz.checked os 6 .any (Rows.fnExactBookRelistSpec.pre6 enc Tryz.prog Tryz.f6 Rows.fnExactBookRelistRow.domain false) (Rows.fnExactBookRelistSpec.post enc Tryz.prog Tryz.f6 false true false false) := by
  refine returnsInHanded_of_change_sized (C := Tryz.checked) Tryz.own started (by kernel_rfl) Tryz.func6
    (ChangeSpec.witness6 (enc := enc) (C := Tryz.checked) false ⟨#[], #[.agg #[.int .i64 0, .int .i64 0, .slice none 0 0, .slice none 0 0, .slice none 0 0], .agg #[.string ⟨#[]⟩, .string ⟨#[]⟩, .int .i64 0, .slice none 0 0, .int .i64 0]], []⟩ 8 (by kernel_rfl) (by kernel_rfl) (by kernel_rfl) (by kernel_rfl)) ?_
  intro W base args ds gs before hval0 hW _ hsz0 _
  have hsz : (DataW.weightsEach Tryz.prog (Tryz.f6.params.toList ++ Rows.fnExactBookRelistSpec.plain.varTypes Tryz.prog) (ds ++ gs)).all (· ≤ reachBytes) = true := hsz0
  clear hsz0
  have hval : ∀ (j : Nat) t v, Tryz.f6.params[j]? = some t → args[j]? = some v → Value.okWide Tryz.prog W .any base t v := hval0
  have hW' := hW
  obtain ⟨p, q, hA0, hV, rfl, _, _⟩ := hW
  have hA : DataW.TrodAll enc Tryz.prog W 0 (fun _ => true) true Tryz.f6.params.toList args.toList ds p := hA0
  rw [Tryz.params6] at hA hval hsz
  obtain ⟨v0, v1, d0, d1, p0, p1, rfl, rfl, rfl, h0, h1⟩ := trodAll_two hA
  obtain ⟨rfl, rfl⟩ := trodVars_none hV
  have hfit : Fits 26 d0 := fun x hx => by
    have := List.all_eq_true.1 hsz x (DataW.weights_mem_each (j := 0) (t := 26) rfl rfl x hx)
    simpa using this
  have hfit1 : Fits 54 d1 := fun x hx => by
    have := List.all_eq_true.1 hsz x (DataW.weights_mem_each (j := 1) (t := 54) rfl rfl x hx)
    simpa using this
  have h0k := h0
  have h1k := h1
  obtain ⟨x, a1, a2, a3, c1, c2, c3, rfl, hin, hbf⟩ := openBk (hval 0 26 v0 rfl rfl) h0 hfit
  obtain ⟨m, a, c, rfl, him, hmf⟩ := openMr (hval 1 54 v1 rfl rfl) h1 hfit1
  clear hA0 hval0 hsz
  simp only [List.append_nil] at hW'
  have hlt : ∀ y ∈ p0, y.block < W.heap.size := fun y hy => by simpa using hW'.lt y (by simp [hy])
  have hlt1 : ∀ y ∈ p1, y.block < W.heap.size := fun y hy => by simpa using hW'.lt y (by simp [hy])
  refine (relist_law x a1 a2 a3 c1 c2 c3 m a c W hbf hmf hin him).mono fun e W' ⟨he, hb⟩ => ?_
  subst he
  refine ⟨_, rfl, _, _, _, [], p0 ++ p1, [], hW', ?_, ?_, rfl, hb.frame _, fun h => by cases h⟩
  · exact trodAll_mk1 (shut_bool Tryz.underlying4 true)
  · exact trodAll_mk2 (Below.trod Tryz.laidOut (by kernel_rfl) (of_decide_eq_true (by kernel_rfl)) h0k hb hlt) (Below.trod Tryz.laidOut (by kernel_rfl) (of_decide_eq_true (by kernel_rfl)) h1k hb hlt1)
theorem relist_holds : Rows.FnExactBookRelistSaid :=
  OpenClaim.holds_of_wide 6 Tryz.f6 rfl rfl rfl rfl rfl rfl rfl ⟨rfl, rfl, rfl, rfl, rfl⟩ rfl rfl rfl rfl rfl (by kernel_rfl) Tryz.func6 (by kernel_rfl)
    (of_decide_eq_true (by kernel_rfl)) (by unfold Func.isWrapper; rw [if_neg (of_decide_eq_false (by kernel_rfl))]; exact ⟨rfl, rfl⟩)
    (fun os started H enc _ => relist_lifted os started H enc)
end Go.Proofs.YtkecnaaacbckoaaGreat
