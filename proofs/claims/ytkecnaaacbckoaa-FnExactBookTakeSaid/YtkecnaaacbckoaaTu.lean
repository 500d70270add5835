import Derived.Test.YtkecnaaacbckoaaTs
namespace Go.Proofs.Ytkecnaaacbckoaa
open Go.RowKit Go.Maps
set_option maxRecDepth 100000 in
set_option maxHeartbeats 4000000 in
theorem take_law (m : Mr) (a : Option Addr) (c : Nat) (cd fv : Int) (n : Nat) (x : Nat → Ch) (an : Option Addr) (cn : Nat) (w : World) (hmf : MrFit m) (hnl : (n : Int) ≤ 8796093022208) (hfx : ∀ i, i < n → ObFit (x i).ob) (hc : ObjsIn w 0 w.heap.size a m.n m.os) (hx : ChgsIn w 0 w.heap.size an n x) :
    Calls Try.prog 3 #[.agg #[.string m.kind, .string m.pre, .int .i64 m.at_, .slice a m.n c, .int .i64 m.seen], .agg #[.int .i64 cd, .slice an n cn, .int .i64 fv]] w fun e w' => e = .returned (.bool true) ∧ Below w.heap.size w w' := by
  have hb0 : ∀ o1 o2, Below w.heap.size w ((w.alloc o1).alloc o2) := fun o1 o2 => (below_alloc _ _).alloc (by simp) _
  have HC := hid hc
  have HX := hid hx
  have HFX := hid hfx
  clear hc hx hfx
  go_enter Try.func3, Try.ntmps3
  go_wp2_with fail
  refine (szMr_any m a c 1048576 _ (by omega) (by omega) 0 w.heap.size (by simp; omega) hmf (HC.out.below (hb0 _ _) (Nat.le_refl _))).mono ?_
  rintro e w1 ⟨rfl, hb1⟩
  have hB1 : Below w.heap.size w w1 := (hb0 _ _).trans (hb1.mono (by simp; omega))
  have hz1 : w.heap.size + 1 < w1.heap.size := by have := hb1.size; simp at this; omega
  obtain ⟨A0, A1, _, _⟩ := two_cell hb1
  have H1 : Holds w1 w.heap.size #[.string m.kind, .string m.pre, .int .i64 m.at_, .slice a m.n c, .int .i64 m.seen] := A0
  have M1 : Holds w1 (w.heap.size + 1) #[.int .i64 cd, .slice an n cn, .int .i64 fv] := A1
  clear A0 A1 hb1
  generalize hl1 : szOut 1048576 (szMr m) = l1
  by_cases hsz : l1 < 0
  · clear H1 M1
    go_wp2
    go_ret
    exact ⟨rfl, hB1⟩
  obtain ⟨hs0, hs0'⟩ := szOut_ge (l := 1048576) (s := szMr m) (by omega)
  have hl1' : l1 ≤ 1048576 := by omega
  obtain ⟨q0, q1, q2⟩ := holds_n3 M1
  have HH := hid H1
  have HMM := hid M1
  clear H1 M1
  go_wp2_with fail
  refine (szNw_any cd fv n x an cn _ w1 (by omega) (by omega) 0 w.heap.size (by omega) hnl HFX.out (HX.out.below hB1 (Nat.le_refl _))).mono ?_
  rintro e w2 ⟨rfl, hb2⟩
  have hB2 : Below w.heap.size w w2 := hB1.trans (hb2.mono (by omega))
  have hz2 := hb2.size
  have H2 := HH.out.below hb2 (by omega)
  have M2 := HMM.out.below hb2 (by omega)
  clear hb2 q0 q1 q2 HH HMM
  generalize hl2 : szOut l1 (szChs n x) = l2
  by_cases hsz2 : l2 < 0
  · clear H2 M2
    go_wp2
    go_ret
    exact ⟨rfl, hB2⟩
  obtain ⟨hm0, hm0'⟩ := szOut_ge (l := l1) (s := szChs n x) (by omega)
  have hsm : (szObs m.n m.os : Int) + szChs n x ≤ 1048576 := by
    have h : l1 = 1048576 - szMr m := by omega
    have h' := hs0
    unfold szMr at h h'
    omega
  have hsum : (m.n : Int) + n ≤ 1048576 := by
    have h := hsm
    unfold szObs szChs at h
    omega
  have hmn : (m.n : Int) ≤ 1048576 := by omega
  have hnn : (n : Int) ≤ 1048576 := by omega
  obtain ⟨hbd1, hbd2⟩ := tkS_bound m cd fv n x
  obtain ⟨AT, hAT⟩ : ∃ AT, (tkS m cd fv n x).at_ = AT := ⟨_, rfl⟩
  obtain ⟨SE, hSE⟩ : ∃ SE, (tkS m cd fv n x).seen = SE := ⟨_, rfl⟩
  obtain ⟨ll, hll⟩ : ∃ ll, (tkS m cd fv n x).l = ll := ⟨_, rfl⟩
  obtain ⟨rc, hrc⟩ : ∃ rc, tkC m.at_ cd fv n x = rc := ⟨_, rfl⟩
  rw [hll] at hbd1 hbd2
  have HAT := hid hAT
  have HSE := hid hSE
  have HLL := hid hll
  have HRC := hid hrc
  have HMO := hid hmf.os
  have H2h := hid H2
  have M2h := hid M2
  clear hAT hSE hll hrc H2 M2 hl1 hl2 hs0 hs0' hm0 hm0' hb0 hmf hnl
  have za : w.heap.size < w2.heap.size := by omega
  have zb : w.heap.size + 1 < w2.heap.size := by omega
  go_wp2_with fail
  refine takReg8 _ _ _ _ _ _ _ _ _ _ _ _ _ _ _ _ _ _ _ _ _ _ _ _ _ _ _ _ _ _ _ _ _ _ _ _ _ _ _ _ _ _ _ _ _ _ _ _ _ _ _ _ _ _ _ _ _ _ _ _ _ _ _ _ _ _ _ _ _ _ _ _ _ _ _ _ _ _ _ _ _ _ _ _ _ _ _ _ _ _ _ _ _ _ _ _ _ _ _ _ _ _ _ _ _ _ _ w.heap.size m a c cd fv n x an cn hsum HMO.out HFX.out w2 H2h.out M2h.out (HC.out.below hB2 (Nat.le_refl _)) (HX.out.below hB2 (Nat.le_refl _)) zb _ ?_
  rintro u0 u1 u2 u3 u4 u5 u6 u7 b6 w3 ⟨adw, cw, nw0, yw0, lo6, hi6, z6, z6', ⟨c60, c61, c62, c63, c64⟩, hlw, hinw, hlo6, hhi6⟩ hb3
  rw [HAT.out] at c62
  rw [HSE.out] at c64
  rw [HLL.out] at hlw
  rw [HRC.out]
  have hB3 : Below w.heap.size w w3 := hB2.trans (hb3.mono (by omega))
  have hz3 := hb3.size
  have H3 := hid (H2h.out.below hb3 za)
  have M3 := hid (M2h.out.below hb3 zb)
  have HIW := hid hinw
  have HLW := hid hlw
  have C6 : Hid (H5 w3 b6 m.kind m.pre AT adw nw0 cw SE) := ⟨c60, c61, c62, c63, c64⟩
  clear c60 c61 c62 c63 c64 hinw hlw hb3 H2h M2h
  obtain ⟨p0, p1, p2, p3, p4⟩ := holds_m5 H3.out
  go_wp2_with fail
  refine (toMr_any m a c w3 0 w.heap.size (by omega) (by omega) HMO.out (HC.out.below hB3 (Nat.le_refl _))).mono ?_
  rintro e w4 ⟨gm, dm, Am, Cm, hm, rfl, hm4, hqm, hb4⟩
  have hz4 := hb4.size
  have hb4' : Below w3.heap.size w3 (w4.alloc (.cells #[.string m.kind, .string m.pre, .int .i64 m.at_, .slice (some ⟨gm, 0, none⟩) m.n dm, .int .i64 m.seen] 32)) := hb4.alloc hb4.size _
  have hB4 : Below w.heap.size w (w4.alloc (.cells #[.string m.kind, .string m.pre, .int .i64 m.at_, .slice (some ⟨gm, 0, none⟩) m.n dm, .int .i64 m.seen] 32)) := hB3.trans (hb4'.mono (by omega))
  have H4 := hid (H3.out.below hb4' (by omega))
  have M4 := hid (M3.out.below hb4' (by omega))
  have HIW4 := hid (HIW.out.below hb4' hhi6)
  have C64 := hid (C6.out.below hb4' z6')
  have MM := hid (hm4.grow (below_alloc w4 (.cells #[.string m.kind, .string m.pre, .int .i64 m.at_, .slice (some ⟨gm, 0, none⟩) m.n dm, .int .i64 m.seen] 32)))
  have MBB := hid (show ∀ q, blkH gm m.n (fun i => (m.os i).hn) hm q → w3.heap.size ≤ q ∧ q < w4.heap.size from fun q hq => ⟨hqm q hq, hm4.blt hq⟩)
  have V8 := hid (holds_new w4 #[.string m.kind, .string m.pre, .int .i64 m.at_, .slice (some ⟨gm, 0, none⟩) m.n dm, .int .i64 m.seen] 32)
  have zm1 : w.heap.size + 1 < w4.heap.size := by omega
  have hs4 : (w4.alloc (.cells #[.string m.kind, .string m.pre, .int .i64 m.at_, .slice (some ⟨gm, 0, none⟩) m.n dm, .int .i64 m.seen] 32)).heap.size = w4.heap.size + 1 := by simp
  obtain ⟨q0, q1, q2⟩ := holds_n3 (M3.out.below hb4 (by omega))
  clear p0 p1 p2 p3 p4 hb4 H3 M3 HIW C6 hm4 hqm hb4'
  go_wp2_with fail
  refine (toNw_any cd fv n x an cn (w4.alloc (.cells #[.string m.kind, .string m.pre, .int .i64 m.at_, .slice (some ⟨gm, 0, none⟩) m.n dm, .int .i64 m.seen] 32)) 0 w.heap.size (by rw [hs4]; omega) (by omega) HFX.out (HX.out.below hB4 (Nat.le_refl _))).mono ?_
  rintro e w5 ⟨gn, dn, An, Cn, hn, rfl, hn5, hqn, hb5⟩
  have hz5 : w4.heap.size < w5.heap.size := by have := hb5.size; omega
  have hb5' : Below (w4.alloc (.cells #[.string m.kind, .string m.pre, .int .i64 m.at_, .slice (some ⟨gm, 0, none⟩) m.n dm, .int .i64 m.seen] 32)).heap.size (w4.alloc (.cells #[.string m.kind, .string m.pre, .int .i64 m.at_, .slice (some ⟨gm, 0, none⟩) m.n dm, .int .i64 m.seen] 32)) (w5.alloc (.cells #[.int .i64 cd, .slice (some ⟨gn, 0, none⟩) n dn, .int .i64 fv] 38)) := hb5.alloc hb5.size _
  have hB5 : Below w.heap.size w (w5.alloc (.cells #[.int .i64 cd, .slice (some ⟨gn, 0, none⟩) n dn, .int .i64 fv] 38)) := hB4.trans (hb5'.mono (by omega))
  have hs5 : (w5.alloc (.cells #[.int .i64 cd, .slice (some ⟨gn, 0, none⟩) n dn, .int .i64 fv] 38)).heap.size = w5.heap.size + 1 := by simp
  have H5 := hid (H4.out.below hb5' (by omega))
  have M5 := hid (M4.out.below hb5' (by omega))
  have HIW5 := hid (HIW4.out.below hb5' (by omega))
  have C65 := hid (C64.out.below hb5' (by omega))
  have MM5 := hid (MM.out.grow hb5')
  have V85 := hid (V8.out.below hb5' (by rw [hs4]; omega))
  have NN := hid (hn5.grow (below_alloc w5 (.cells #[.int .i64 cd, .slice (some ⟨gn, 0, none⟩) n dn, .int .i64 fv] 38)))
  have NBB := hid (show ∀ q, blkH gn n (fun i => (x i).ob.hn) hn q → w4.heap.size < q ∧ q < w5.heap.size from fun q hq => ⟨by have := hqn q hq; omega, hn5.blt hq⟩)
  have V9 := hid (holds_new w5 #[.int .i64 cd, .slice (some ⟨gn, 0, none⟩) n dn, .int .i64 fv] 38)
  obtain ⟨p0, p1, p2, p3, p4⟩ := holds_m5 (V8.out.below hb5 (by rw [hs4]; omega))
  have zm2 : w4.heap.size < w5.heap.size := hz5
  clear q0 q1 q2 hb5 hb5' H4 M4 HIW4 C64 MM V8 hn5 hqn
  go_wp2_with fail
  refine (implTake_any m _ dm cd fv n x _ dn (w5.alloc (.cells #[.int .i64 cd, .slice (some ⟨gn, 0, none⟩) n dn, .int .i64 fv] 38)) 0 (w5.alloc (.cells #[.int .i64 cd, .slice (some ⟨gn, 0, none⟩) n dn, .int .i64 fv] 38)).heap.size (Nat.le_refl _) hmn hnn HMO.out HFX.out (by exact MM5.out.isIn (fun _ _ => Nat.zero_le _)) (by exact NN.out.isIn (fun _ _ => Nat.zero_le _))).mono ?_
  rintro e w6 ⟨adg, cg, gg, L, rfl, hL, hLr, hLh, hLg, hLb, hb6⟩
  rw [HAT.out, HSE.out, HRC.out]
  rw [HLL.out] at hL
  have hz6 : w5.heap.size < w6.heap.size := by have := hb6.size; omega
  obtain ⟨nw, hnw⟩ : ∃ nw, L.length = nw := ⟨_, rfl⟩
  obtain ⟨y, hy⟩ : ∃ y : Nat → Ob, (fun i => (ixE L i).ob) = y := ⟨_, rfl⟩
  have hg6 := obsAt_of (ad := adg) (fun h => (hLr h).1) (fun h => (hLr h).2) hLh (fun e he h0 => (hLb e he h0).1)
  have hyl : toL nw y = ll := by rw [← hnw, ← hy, toL_map]; exact hL
  have hbg : ∀ q, blkH gg L.length (fun i => (ixE L i).ob.hn) (fun i => (ixE L i).hb) q → w5.heap.size < q := fun q hq => by
    rcases hq with ⟨h1, h2⟩ | ⟨i, h1, h2, h3⟩
    · have := hLg (fun e => by rw [e] at h1; exact absurd h1 (Nat.lt_irrefl _))
      omega
    · have h4 := (hLb _ (ixE_mem h1) h2).2
      have h5 : q = (ixE L i).hb := h3
      omega
  rw [hnw] at hg6
  have e6 : ∀ i, (ixE L i).ob = y i := fun i => by rw [← hy]
  simp only [e6] at hg6 hbg
  rw [hnw] at hbg
  have hcmp := toL_eq (HLW.out.trans hyl.symm)
  obtain ⟨hn6, hy6⟩ := hcmp
  subst hn6
  have hnwl : nw0 ≤ m.n + n := by
    have := congrArg List.length hyl
    rw [toL_len] at this
    omega
  have hmk : (mkObs 1 y nw0 : Int) ≤ 1073741824 := by
    rw [mkObs_wt, hyl]
    omega
  have HYH := hid (show ∀ i, i < nw0 → ((y i).hn : Int) ≤ 140737488355328 from fun i hi => by
    have h1 := wtL_mem (toL_mem' (n := nw0) (y := y) hi)
    rw [hyl] at h1
    omega)
  have hnw2 : (nw0 : Int) ≤ 1048576 := by omega
  have HNW := hid hnw
  have HYL := hid hyl
  rw [hnw]
  have hb6' : Below (w5.alloc (.cells #[.int .i64 cd, .slice (some ⟨gn, 0, none⟩) n dn, .int .i64 fv] 38)).heap.size (w5.alloc (.cells #[.int .i64 cd, .slice (some ⟨gn, 0, none⟩) n dn, .int .i64 fv] 38)) (w6.alloc (.cells #[.string m.kind, .string m.pre, .int .i64 AT, .slice adg nw0 cg, .int .i64 SE] 32)) := hb6.alloc hb6.size _
  have hB6 : Below w.heap.size w (w6.alloc (.cells #[.string m.kind, .string m.pre, .int .i64 AT, .slice adg nw0 cg, .int .i64 SE] 32)) := hB5.trans (hb6'.mono (by omega))
  have S6 : TSt (w6.alloc (.cells #[.string m.kind, .string m.pre, .int .i64 AT, .slice adg nw0 cg, .int .i64 SE] 32)) w.heap.size w3.heap.size b6 w4.heap.size w5.heap.size w6.heap.size m a c cd fv n x an cn AT SE nw0 y adw cw gm dm Am Cm hm m.os gn dn An Cn hn x adg cg gg (fun i => (ixE L i).A) (fun i => (ixE L i).C) (fun i => (ixE L i).hb) y :=
    ⟨H5.out.below hb6' (by omega), M5.out.below hb6' (by omega), HC.out.below hB6 (Nat.le_refl _), HX.out.below hB6 (Nat.le_refl _), C65.out.below hb6' (by omega), ((HIW5.out.below hb6' (by omega)).congr hy6).wide (Nat.zero_le _) hhi6, V85.out.below hb6' (by omega), MM5.out.grow hb6', MBB.out, V9.out.below hb6' (by omega), NN.out.grow hb6', NBB.out, holds_new w6 _ 32, hg6.grow (below_alloc _ _), fun q hq => ⟨hbg q hq, hg6.blt hq⟩, ⟨by omega, by omega⟩, by omega, by omega, by omega, by simp⟩
  have HS6 := hid S6
  have hmk1 : (mkObs 1 m.os m.n : Int) ≤ 1073741824 := by have := mkObs_le 1 m.os m.n; omega
  have hmp1 : 1 ≤ mkObs 1 m.os m.n := mkObs_pos 1 m.os m.n (Nat.le_refl _)
  have hmk2 : (mkChs (mkObs 1 m.os m.n) x n : Int) ≤ 1073741824 := by have h1 := mkObs_le 1 m.os m.n; have h2 := mkChs_le (mkObs 1 m.os m.n) x n; omega
  have z36 : w3.heap.size ≤ w6.heap.size := by omega
  clear S6 hb6 hb6' hg6 hbg e6 hy hL hLr hLh hLg hLb H5 M5 HIW5 C65 V85 MM5 MBB V9 NN NBB hyl hbd1 hbd2 hsm hs4 hs5 hB4 hB5 p0 p1 p2 p3 p4 hy6
  obtain ⟨n0, n1, n2, n3, n4⟩ := HS6.out.v6
  have zb6 : b6 < w6.heap.size := by omega
  go_wp2_with fail
  refine (eqMr_any ⟨m.kind, m.pre, AT, nw0, y, SE⟩ adg adw cg cw _ 0 (w6.alloc (.cells #[.string m.kind, .string m.pre, .int .i64 AT, .slice adg nw0 cg, .int .i64 SE] 32)).heap.size 0 w3.heap.size (Nat.le_refl _) (by simp; omega) (by show (nw0 : Int) ≤ _; omega) HYH.out (by exact HS6.out.vg.isIn (fun _ _ => Nat.zero_le _)) HS6.out.vw).mono ?_
  rintro e w7 ⟨rfl, hb7⟩
  have HS7 := hid (HS6.out.below hb7)
  have hB7 : Below w.heap.size w w7 := hB6.trans (hb7.mono hB6.size)
  clear n0 n1 n2 n3 n4 hb7 HS6 hB6 zb6
  have o7 := HS7.out.o2
  go_wp2
  refine takReg14 _ _ _ _ _ _ _ _ _ _ _ _ _ _ _ _ _ _ _ _ _ _ _ _ _ _ _ _ _ _ _ _ _ _ _ _ _ _ _ _ _ _ _ _ _ _ _ _ _ _ _ _ _ _ _ _ _ _ _ _ _ _ _ _ _ _ _ _ _ _ _ _ _ _ _ _ _ _ _ _ _ _ _ _ _ _ _ _ _ _ _ _ _ _ _ _ _ _ _ _ _ _ _ _ _ _ _ _ _ _ _ _ w.heap.size w4.heap.size m a c gm dm Am Cm hm hmn HMO.out w7 HS7.out.v8 HS7.out.bm HS7.out.mm HS7.out.argm (by omega) (by omega) _ ?_
  intro t0 t1 t2 t3 w8 hb8
  have HS8 := hid (HS7.out.below hb8)
  have hB8 : Below w.heap.size w w8 := hB7.trans (hb8.mono hB7.size)
  clear hb8 HS7 hB7 o7
  have o8 := HS8.out.o2
  go_wp2
  refine takReg16 _ _ _ _ _ _ _ _ _ _ _ _ _ _ _ _ _ _ _ _ _ _ _ _ _ _ _ _ _ _ _ _ _ _ _ _ _ _ _ _ _ _ _ _ _ _ _ _ _ _ _ _ _ _ _ _ _ _ _ _ _ _ _ _ _ _ _ _ _ _ _ _ _ _ _ _ _ _ _ _ _ _ _ _ _ _ _ _ _ _ _ _ _ _ _ _ _ _ _ _ _ _ _ _ _ _ _ _ _ _ _ _ w.heap.size w5.heap.size cd fv n x an cn gn dn An Cn hn hnn HFX.out w8 HS8.out.v9 HS8.out.bn HS8.out.nn HS8.out.argn (by omega) (by omega) _ ?_
  intro t4 t5 t6 t7 w9 hb9
  have HS9 := hid (HS8.out.below hb9)
  have hB9 : Below w.heap.size w w9 := hB8.trans (hb9.mono hB8.size)
  clear hb9 HS8 hB8 o8
  obtain ⟨q0, q1, q2, q3, q4⟩ := holds_m5 HS9.out.v8
  go_wp2_with fail
  refine (markMr_own m _ gm Am Cm hm dm 1 w9 hmn (by decide) hmk1 HS9.out.mm).mono ?_
  rintro e w10 ⟨rfl, hx10, hf10⟩
  have HS10 := hid (HS9.out.markM 1 hx10 hf10)
  have hB10 : Below w.heap.size w w10 := hB9.trans (HS9.out.lowM hf10)
  clear q0 q1 q2 q3 q4 HS9 hB9 hx10 hf10
  obtain ⟨q0, q1, q2⟩ := holds_n3 HS10.out.v9
  go_wp2_with fail
  refine (markNw_own cd fv n x _ gn An Cn hn dn (mkObs 1 m.os m.n) w10 hnn (by omega) hmk2 HS10.out.nn).mono ?_
  rintro e w11 ⟨rfl, hx11, hf11⟩
  have HS11 := hid (HS10.out.markN (mkObs 1 m.os m.n) hx11 hf11)
  have hB11 : Below w.heap.size w w11 := hB10.trans (HS10.out.lowN hf11)
  obtain ⟨k9, hk9⟩ : ∃ k9, mkChs (mkObs 1 m.os m.n) x n = k9 := ⟨_, rfl⟩
  rw [hk9]
  have hk9p : 0 ≤ (k9 : Int) := by omega
  clear q0 q1 q2 HS10 hB10 hx11 hf11 hk9
  obtain ⟨q0, q1, q2, q3, q4⟩ := holds_m5 HS11.out.v10
  obtain ⟨n0, n1, n2, n3, n4⟩ := HS11.out.v6
  have o11 := HS11.out.o2
  go_wp2_with fail
  refine (eqMr_any ⟨m.kind, m.pre, AT, nw0, y, SE⟩ adg adw cg cw w11 0 w11.heap.size 0 w3.heap.size (Nat.le_refl _) (by omega) (by show (nw0 : Int) ≤ _; omega) HYH.out (by exact HS11.out.vg.isIn (fun _ _ => Nat.zero_le _)) HS11.out.vw).mono ?_
  rintro e w12 ⟨rfl, hb12⟩
  have HS12 := hid (HS11.out.below hb12)
  have hB12 : Below w.heap.size w w12 := hB11.trans (hb12.mono hB11.size)
  clear q0 q1 q2 q3 q4 n0 n1 n2 n3 n4 HS11 hB11 hb12 o11
  obtain ⟨q0, q1, q2, q3, q4⟩ := holds_m5 HS12.out.v10
  go_wp2_with fail
  refine (markMr_own ⟨m.kind, m.pre, AT, nw0, y, SE⟩ adg gg _ _ _ cg 1 w12 hnw2 (by decide) hmk HS12.out.vg).mono ?_
  rintro e w13 ⟨rfl, hx13, hf13⟩
  have HS13 := hid (HS12.out.markG 1 hx13 hf13)
  have hB13 : Below w.heap.size w w13 := hB12.trans (HS12.out.lowG hf13)
  obtain ⟨m9, hm9⟩ : ∃ m9, mkObs 1 y nw0 = m9 := ⟨_, rfl⟩
  have HM9 := hid hm9
  have hm9p : 0 ≤ (m9 : Int) := by omega
  rw [show mkObs 1 (Mr.os ⟨m.kind, m.pre, AT, nw0, y, SE⟩) (Mr.n ⟨m.kind, m.pre, AT, nw0, y, SE⟩) = m9 from hm9]
  clear q0 q1 q2 q3 q4 HS12 hB12 hx13 hf13 hm9
  obtain ⟨q0, q1, q2, q3, q4⟩ := holds_m5 HS13.out.v10
  go_wp2_with fail
  refine (heldMr_own ⟨m.kind, m.pre, AT, nw0, y, SE⟩ adg gg _ _ _ cg 1 w13 y hnw2 (by decide) hmk HS13.out.vg).mono ?_
  rw [show mkObs 1 y (Mr.n ⟨m.kind, m.pre, AT, nw0, y, SE⟩) = m9 from HM9.out]
  rintro e w14 ⟨rfl, hb14⟩
  have HS14 := hid (HS13.out.below hb14)
  have hB14 : Below w.heap.size w w14 := hB13.trans (hb14.mono hB13.size)
  clear q0 q1 q2 q3 q4 HS13 hB13 hb14
  have o14 := HS14.out.o2
  go_wp2_with fail
  refine takReg31 _ _ _ _ _ _ _ _ _ _ _ _ _ _ _ _ _ _ _ _ _ _ _ _ _ _ _ _ _ _ _ _ _ _ _ _ _ _ _ _ _ _ _ _ _ _ _ _ _ _ _ _ _ _ _ _ _ _ _ _ _ _ _ _ _ _ _ _ _ _ _ _ _ _ _ _ _ _ _ _ _ _ _ _ _ _ _ _ _ _ _ _ _ _ _ _ _ _ _ _ _ _ _ _ _ _ _ w.heap.size m a c cd fv n x an cn hsum HMO.out HFX.out w14 HS14.out.bm HS14.out.bn HS14.out.argm HS14.out.argn (by omega) _ ?_
  rintro r0 r1 r2 r3 r4 r5 r6 r7 b15 w15 ⟨adh, ch, nh, yh, loh, hih, zh, zh', ⟨d0, d1, d2, d3, d4⟩, hlh, hinh, hloh, hhih⟩ hb15
  rw [HAT.out] at d2
  rw [HSE.out] at d4
  rw [HLL.out] at hlh
  rw [HRC.out]
  obtain ⟨rfl, hyh⟩ := toL_eq (hlh.trans HYL.out.symm)
  have HIH := hid (hinh.congr hyh)
  have HS15 := hid (HS14.out.below hb15)
  have hB15 : Below w.heap.size w w15 := hB14.trans (hb15.mono hB14.size)
  obtain ⟨n0, n1, n2, n3, n4⟩ := HS15.out.v6
  have o15 := HS15.out.o2
  clear HS14 hB14 hb15 hinh hlh hyh o14
  go_wp2_with fail
  refine (eqMr_any ⟨m.kind, m.pre, AT, nh, y, SE⟩ adh adw ch cw w15 loh hih 0 w3.heap.size hhih (by omega) (by show (nh : Int) ≤ _; omega) HYH.out HIH.out HS15.out.vw).mono ?_
  rintro e w16 ⟨rfl, hb16⟩
  have HS16 := hid (HS15.out.below hb16)
  have hB16 : Below w.heap.size w w16 := hB15.trans (hb16.mono hB15.size)
  clear d0 d1 d2 d3 d4 n0 n1 n2 n3 n4 HS15 hB15 hb16 HIH o15
  obtain ⟨q0, q1, q2, q3, q4⟩ := holds_m5 HS16.out.v10
  go_wp2_with fail
  refine (heldMr_own ⟨m.kind, m.pre, AT, nh, y, SE⟩ adg gg _ _ _ cg 1 w16 y hnw2 (by decide) hmk HS16.out.vg).mono ?_
  rw [show mkObs 1 y (Mr.n ⟨m.kind, m.pre, AT, nh, y, SE⟩) = m9 from HM9.out]
  rintro e w17 ⟨rfl, hb17⟩
  have hB17 : Below w.heap.size w w17 := hB16.trans (hb17.mono hB16.size)
  clear q0 q1 q2 q3 q4 HS16 hB16 hb17
  go_wp2
  go_ret
  exact ⟨rfl, hB17⟩
end Go.Proofs.Ytkecnaaacbckoaa
