import Derived.Test.YtkecnaaacbckoaaTk
namespace Go.Proofs.Ytkecnaaacbckoaa
open Go.RowKit Go.Maps
set_option maxRecDepth 100000 in
set_option maxHeartbeats 4000000 in
theorem specTake_any (m : Mr) (a : Option Addr) (c : Nat) (cd fv : Int) (n : Nat) (x : Nat → Ch) (an : Option Addr) (cn : Nat) (w : World) (lo hi : Nat) (hhi : hi ≤ w.heap.size) (hsum : (m.n : Int) + n ≤ 1048576) (hf : ∀ i, i < m.n → ObFit (m.os i)) (hfx : ∀ i, i < n → ObFit (x i).ob) (hc : ObjsIn w lo hi a m.n m.os) (hx : ChgsIn w lo hi an n x) :
    Calls Try.prog 6 #[.agg #[.string m.kind, .string m.pre, .int .i64 m.at_, .slice a m.n c, .int .i64 m.seen], .agg #[.int .i64 cd, .slice an n cn, .int .i64 fv]] w fun r w' => ∃ (ad' : Option Addr) (cap' n' : Nat) (y : Nat → Ob), r = .returned (.tuple #[.agg #[.string m.kind, .string m.pre, .int .i64 (tkS m cd fv n x).at_, .slice ad' n' cap', .int .i64 (tkS m cd fv n x).seen], .int .i64 (tkC m.at_ cd fv n x)]) ∧ toL n' y = (tkS m cd fv n x).l ∧ ObjsIn w' w.heap.size w'.heap.size ad' n' y ∧ Below w.heap.size w w' := by
  have HC := hid hc
  have HX := hid hx
  have HF := hid hf
  have HFX := hid hfx
  clear hc hx hf hfx
  have hb0 : ∀ o1 o2 o3, Below w.heap.size w (((w.alloc o1).alloc o2).alloc o3) := fun o1 o2 o3 => ((below_alloc _ _).alloc (by simp) _).alloc (by simp; omega) _
  have X0 : BoxC (((w.alloc (.cells #[.string m.kind, .string m.pre, .int .i64 m.at_, .slice a m.n c, .int .i64 m.seen] 32)).alloc (.cells #[.int .i64 cd, .slice an n cn, .int .i64 fv] 38)).alloc (.cells #[.string ByteArray.empty, .string ByteArray.empty, .int .i64 0, .slice none 0 0, .int .i64 0] 32)) w.heap.size #[.string m.kind, .string m.pre, .int .i64 m.at_, .slice a m.n c, .int .i64 m.seen] := ((boxC_new (w := w) (t := 32) (Below.refl _ _)).below (below_alloc _ (.cells #[.int .i64 cd, .slice an n cn, .int .i64 fv] 38))).below (below_alloc _ _)
  have X1 : BoxC (((w.alloc (.cells #[.string m.kind, .string m.pre, .int .i64 m.at_, .slice a m.n c, .int .i64 m.seen] 32)).alloc (.cells #[.int .i64 cd, .slice an n cn, .int .i64 fv] 38)).alloc (.cells #[.string ByteArray.empty, .string ByteArray.empty, .int .i64 0, .slice none 0 0, .int .i64 0] 32)) (w.heap.size + 1) #[.int .i64 cd, .slice an n cn, .int .i64 fv] := by
    have := (boxC_new (w := w.alloc (.cells #[.string m.kind, .string m.pre, .int .i64 m.at_, .slice a m.n c, .int .i64 m.seen] 32)) (c := #[.int .i64 cd, .slice an n cn, .int .i64 fv]) (t := 38) (Below.refl _ _)).below (below_alloc _ (.cells #[.string ByteArray.empty, .string ByteArray.empty, .int .i64 0, .slice none 0 0, .int .i64 0] 32))
    simpa using this
  have X2 : BoxC (((w.alloc (.cells #[.string m.kind, .string m.pre, .int .i64 m.at_, .slice a m.n c, .int .i64 m.seen] 32)).alloc (.cells #[.int .i64 cd, .slice an n cn, .int .i64 fv] 38)).alloc (.cells #[.string ByteArray.empty, .string ByteArray.empty, .int .i64 0, .slice none 0 0, .int .i64 0] 32)) (w.heap.size + 1 + 1) #[.string ByteArray.empty, .string ByteArray.empty, .int .i64 0, .slice none 0 0, .int .i64 0] := by
    have := boxC_new (w := (w.alloc (.cells #[.string m.kind, .string m.pre, .int .i64 m.at_, .slice a m.n c, .int .i64 m.seen] 32)).alloc (.cells #[.int .i64 cd, .slice an n cn, .int .i64 fv] 38)) (c := #[.string ByteArray.empty, .string ByteArray.empty, .int .i64 0, .slice none 0 0, .int .i64 0]) (t := 32) (Below.refl _ _)
    simpa using this
  have HX0 := hid X0
  have HX1 := hid X1
  have HX2 := hid X2
  clear X0 X1 X2
  go_enter Try.func6, Try.ntmps6
  go_wp2_with fail
  refine (copyMr_any m a c _ lo hi (by simp; omega) (by omega) HF.out (HC.out.below (hb0 _ _ _) hhi)).mono ?_
  rintro e w1 ⟨ad1, cap1, g1, A, C, hb, rfl, hob, hq, hb1⟩
  have hz1 : w.heap.size + 3 ≤ w1.heap.size := by have := hb1.size; simp at this; omega
  have hBX := below_alloc w1 (.cells #[.string m.kind, .string m.pre, .int .i64 m.at_, .slice ad1 m.n cap1, .int .i64 m.seen] 32)
  have hB1 : Below w.heap.size w (w1.alloc (.cells #[.string m.kind, .string m.pre, .int .i64 m.at_, .slice ad1 m.n cap1, .int .i64 m.seen] 32)) := ((hb0 _ _ _).trans (hb1.mono (by simp; omega))).trans (hBX.mono (by omega))
  have Y0 := (HX0.out.below (by exact hb1)).below hBX
  have Y1 := (HX1.out.below (by exact hb1)).below hBX
  have Y2 := (HX2.out.below (by exact hb1)).below hBX
  have YX : BoxC (w1.alloc (.cells #[.string m.kind, .string m.pre, .int .i64 m.at_, .slice ad1 m.n cap1, .int .i64 m.seen] 32)) w1.heap.size #[.string m.kind, .string m.pre, .int .i64 m.at_, .slice ad1 m.n cap1, .int .i64 m.seen] := boxC_new (Below.refl _ _)
  have SK0 := hid ((skL_obs (X := w1.heap.size) (LO := w.heap.size + 3) hob (Nat.le_refl _) (fun q h => by have := hq q h; simp at this; omega)).grow hBX)
  have hzX : (w1.alloc (.cells #[.string m.kind, .string m.pre, .int .i64 m.at_, .slice ad1 m.n cap1, .int .i64 m.seen] 32)).heap.size = w1.heap.size + 1 := by simp
  clear hob hq hb1 HX0 HX1 HX2 HC HF hb0 hBX
  obtain ⟨W, hW⟩ : ∃ W, w1.alloc (.cells #[.string m.kind, .string m.pre, .int .i64 m.at_, .slice ad1 m.n cap1, .int .i64 m.seen] 32) = W := ⟨_, rfl⟩
  rw [hW] at hB1 Y0 Y1 Y2 YX SK0 hzX
  have HY0 := hid Y0
  have HY1 := hid Y1
  have HY2 := hid Y2
  have HYX := hid YX
  obtain ⟨q0, q1, q2⟩ : W.cell? ⟨w.heap.size + 1, 0, none⟩ = some (.int .i64 cd) ∧ W.cell? ⟨w.heap.size + 1, 1, none⟩ = some (.slice an n cn) ∧ W.cell? ⟨w.heap.size + 1, 2, none⟩ = some (.int .i64 fv) := ⟨Y1.cell 0, Y1.cell 1, Y1.cell 2⟩
  obtain ⟨x0, x1, x2, x3, x4⟩ : W.cell? ⟨w1.heap.size, 0, none⟩ = some (.string m.kind) ∧ W.cell? ⟨w1.heap.size, 1, none⟩ = some (.string m.pre) ∧ W.cell? ⟨w1.heap.size, 2, none⟩ = some (.int .i64 m.at_) ∧ W.cell? ⟨w1.heap.size, 3, none⟩ = some (.slice ad1 m.n cap1) ∧ W.cell? ⟨w1.heap.size, 4, none⟩ = some (.int .i64 m.seen) := ⟨YX.cell 0, YX.cell 1, YX.cell 2, YX.cell 3, YX.cell 4⟩
  obtain ⟨r0, r1, r2, r3, r4⟩ : W.cell? ⟨w.heap.size + 1 + 1, 0, none⟩ = some (.string ByteArray.empty) ∧ W.cell? ⟨w.heap.size + 1 + 1, 1, none⟩ = some (.string ByteArray.empty) ∧ W.cell? ⟨w.heap.size + 1 + 1, 2, none⟩ = some (.int .i64 0) ∧ W.cell? ⟨w.heap.size + 1 + 1, 3, none⟩ = some (.slice none 0 0) ∧ W.cell? ⟨w.heap.size + 1 + 1, 4, none⟩ = some (.int .i64 0) := ⟨Y2.cell 0, Y2.cell 1, Y2.cell 2, Y2.cell 3, Y2.cell 4⟩
  have e0 := Y2.free 0
  have e1 := Y2.free 1
  have e2 := Y2.free 2
  have e3 := Y2.free 3
  have e4 := Y2.free 4
  clear Y0 Y1 Y2 YX
  have hret : ∀ (V : World) (rc : Int), Below W.heap.size W V → tkC m.at_ cd fv n x = rc → ¬ rc = 0 → ∀ Y : World, FrP (fun q => q = w.heap.size + 1 + 1) V Y → (∃ (ad' : Option Addr) (cap' n' : Nat) (y : Nat → Ob), Ending.returned (.tuple #[.agg #[.string m.kind, .string m.pre, .int .i64 m.at_, .slice ad1 m.n cap1, .int .i64 m.seen], .int .i64 rc]) = .returned (.tuple #[.agg #[.string m.kind, .string m.pre, .int .i64 (tkS m cd fv n x).at_, .slice ad' n' cap', .int .i64 (tkS m cd fv n x).seen], .int .i64 (tkC m.at_ cd fv n x)]) ∧ toL n' y = (tkS m cd fv n x).l ∧ ObjsIn Y w.heap.size Y.heap.size ad' n' y ∧ Below w.heap.size w Y) := fun V rc hV h1 h2 Y hY => by
    have hS : tkS m cd fv n x = ⟨m.at_, m.seen, toL m.n m.os⟩ := if_neg (by rw [h1]; exact h2)
    have hlow := hB1.trans (hV.mono hB1.size)
    rw [hS, h1]
    exact ⟨ad1, cap1, m.n, m.os, rfl, rfl, fun i hi => by
      obtain ⟨b, off, ah, ch, f1, f2, f3, f4, f5⟩ := (((SK0.out.grow hV).frLow hY (fun q hq e => by omega)).isIn) i hi
      exact ⟨b, off, ah, ch, f1, by omega, f3, f4, fun k hk => by
        obtain ⟨b', off', g1, g2, g3, g4⟩ := f5 k hk
        exact ⟨b', off', g1, by omega, g3, g4⟩⟩, hlow.trans (hY.below (fun q hq e => by have : q = w.heap.size + 1 + 1 := e; omega) hlow.size)⟩
  have HRT := hid hret
  clear hret
  by_cases h0 : cd = 0
  · subst h0
    subst hW
    go_wp2
    generalize w1.alloc (.cells #[.string m.kind, .string m.pre, .int .i64 m.at_, .slice ad1 m.n cap1, .int .i64 m.seen] 32) = W at *
    go_loopw [7] (fun i wr => ∃ k : Nat, 1 ≤ k ∧ (k ≤ n ∨ k = 1) ∧ i = .int .i64 k ∧ Hid (∀ j, j < k → (j == 0 || decide ((x (j - 1)).ver < (x j).ver)) = true) ∧ Below W.heap.size W wr) (fun i _ => n - (intOf i).toNat)
    case atStart => exact ⟨1, Nat.le_refl _, Or.inr rfl, rfl, fun j hj => (by have : j = 0 := by omega
                                                                              subst this; rfl), Below.refl _ _⟩
    case round =>
      obtain ⟨k, hk1, hk, rfl, HA, hb⟩ := hrel
      have Z1 := HY1.out.below hb
      have Z2 := HY2.out.below hb
      have ZX := HYX.out.below hb
      have z1 : wr.cell? ⟨w.heap.size + 1, 1, none⟩ = some (.slice an n cn) := Z1.cell 1
      have hzr := hb.size
      have zb1 : w.heap.size + 1 < wr.heap.size := by omega
      clear q0 q1 q2 x0 x1 x2 x3 x4 r0 r1 r2 r3 r4 e0 e1 e2 e3 e4
      by_cases hkn : k < n
      · obtain ⟨j, rfl⟩ : ∃ j, k = j + 1 := ⟨k - 1, by omega⟩
        have hlow := hB1.trans (hb.mono hB1.size)
        obtain ⟨b, off, ah, ch, rfl, hlo, hbh, hcx, _⟩ := HX.out (j + 1) hkn
        obtain ⟨b', off', ah', ch', e, _, hbh', hcm, _⟩ := HX.out j (by omega)
        cases e
        have d0 := (hcx.below hlow (by omega)).c0
        have q0 := (hcm.below hlow (by omega)).c0
        have hbw : b < wr.heap.size := by omega
        have rd0 := subcell d0 hbw
        have rq0 := subcell q0 hbw
        have rz1 := subcell z1 zb1
        have hne : Nonempty (GW wr) := ⟨⟨wr, Below.refl _ _⟩⟩
        have hkz : (j : Int) + 1 < n := by omega
        by_cases hlt : (x j).ver < (x (j + 1)).ver
        · have HN := hid (show (j + 1 == 0 || decide ((x (j + 1 - 1)).ver < (x (j + 1)).ver)) = true by simpa using hlt)
          have hge : ¬ (x j).ver ≥ (x (j + 1)).ver := by omega
          have hgeb : decide ((x (j + 1)).ver ≤ (x j).ver) = false := by simp; omega
          clear hlt Z1 Z2 ZX
          go_wp2
          refine wp_region_grow (by kernel_rfl) (by kernel_rfl) ?_
          repeat (go_big_quiet_step (fail))
          refine wpQuiet_nil ?_
          rintro w2 ⟨u, hu⟩
          have hw2 : Below wr.heap.size wr w2 := hu ▸ u.prop
          clear hu u
          go_wp2
          go_roundw
          case rel => exact ⟨j + 2, by omega, Or.inl (by omega), by go_num, (fun p hp => by
            rcases Nat.lt_or_ge p (j + 1) with h3 | h3
            · exact HA.out p h3
            · have : p = j + 1 := by omega
              subst this; exact HN.out : ∀ p, p < j + 2 → (p == 0 || decide ((x (p - 1)).ver < (x p).ver)) = true), hb.trans (hw2.mono hb.size)⟩
          case measure => simp [intOf]; omega
        · have HE := hid (show chAsc n x = false from allTo_no (p := fun i => i == 0 || decide ((x (i - 1)).ver < (x i).ver)) hkn (by simpa using hlt))
          have hge : (x j).ver ≥ (x (j + 1)).ver := by omega
          have hgeb : decide ((x (j + 1)).ver ≤ (x j).ver) = true := by simp; omega
          clear hlt
          have HZ1 := hid Z1
          have HZ2' := hid Z2
          have HZX := hid ZX
          clear Z1 Z2 ZX
          go_wp2
          refine wp_region_grow (by kernel_rfl) (by kernel_rfl) ?_
          repeat (go_big_quiet_step (fail))
          refine wpQuiet_nil ?_
          rintro w2 ⟨u, hu⟩
          have hw2 : Below wr.heap.size wr w2 := hu ▸ u.prop
          have ZX := HZX.out.below hw2
          have Z2 := HZ2'.out.below hw2
          have hbw2 := hb.trans (hw2.mono hb.size)
          clear hu u rd0 rq0 rz1 d0 q0 z1 hne
          obtain ⟨x0, x1, x2, x3, x4⟩ : w2.cell? ⟨w1.heap.size, 0, none⟩ = some (.string m.kind) ∧ w2.cell? ⟨w1.heap.size, 1, none⟩ = some (.string m.pre) ∧ w2.cell? ⟨w1.heap.size, 2, none⟩ = some (.int .i64 m.at_) ∧ w2.cell? ⟨w1.heap.size, 3, none⟩ = some (.slice ad1 m.n cap1) ∧ w2.cell? ⟨w1.heap.size, 4, none⟩ = some (.int .i64 m.seen) := ⟨ZX.cell 0, ZX.cell 1, ZX.cell 2, ZX.cell 3, ZX.cell 4⟩
          obtain ⟨r0, r1, r2, r3, r4⟩ : w2.cell? ⟨w.heap.size + 1 + 1, 0, none⟩ = some (.string ByteArray.empty) ∧ w2.cell? ⟨w.heap.size + 1 + 1, 1, none⟩ = some (.string ByteArray.empty) ∧ w2.cell? ⟨w.heap.size + 1 + 1, 2, none⟩ = some (.int .i64 0) ∧ w2.cell? ⟨w.heap.size + 1 + 1, 3, none⟩ = some (.slice none 0 0) ∧ w2.cell? ⟨w.heap.size + 1 + 1, 4, none⟩ = some (.int .i64 0) := ⟨Z2.cell 0, Z2.cell 1, Z2.cell 2, Z2.cell 3, Z2.cell 4⟩
          have e0 := Z2.free 0
          have e1 := Z2.free 1
          have e2 := Z2.free 2
          have e3 := Z2.free 3
          have e4 := Z2.free 4
          have HZ2 := hid Z2
          clear ZX Z2
          go_wp2
          obtain ⟨Y, hY, fY, y0, y1, y2, y3, y4⟩ := resFin5 HZ2.out rfl (.string m.kind) (.string m.pre) (.int .i64 m.at_) (.slice ad1 m.n cap1) (.int .i64 m.seen)
          rw [hY]
          refine bodyPost_ret (v := .tuple #[.agg #[.string m.kind, .string m.pre, .int .i64 m.at_, .slice ad1 m.n cap1, .int .i64 m.seen], .int .i64 2]) (by simp [results, Try.results6, go_sem, y0, y1, y2, y3, y4]) rfl ?_
          exact HRT.out _ 2 hbw2 (by have := HE.out; simp [tkC, this]) (by decide) Y fY
      · have HE := hid (show chAsc n x = true from allTo_iff.2 (fun j hj => HA.out j (by omega)))
        have Z0 := HY0.out.below hb
        have m2 : wr.cell? ⟨w.heap.size, 2, none⟩ = some (.int .i64 m.at_) := Z0.cell 2
        have z2 : wr.cell? ⟨w.heap.size + 1, 2, none⟩ = some (.int .i64 fv) := Z1.cell 2
        clear Z0
        by_cases hfa : fv < m.at_
        · clear Z1
          obtain ⟨x0, x1, x2, x3, x4⟩ : wr.cell? ⟨w1.heap.size, 0, none⟩ = some (.string m.kind) ∧ wr.cell? ⟨w1.heap.size, 1, none⟩ = some (.string m.pre) ∧ wr.cell? ⟨w1.heap.size, 2, none⟩ = some (.int .i64 m.at_) ∧ wr.cell? ⟨w1.heap.size, 3, none⟩ = some (.slice ad1 m.n cap1) ∧ wr.cell? ⟨w1.heap.size, 4, none⟩ = some (.int .i64 m.seen) := ⟨ZX.cell 0, ZX.cell 1, ZX.cell 2, ZX.cell 3, ZX.cell 4⟩
          obtain ⟨r0, r1, r2, r3, r4⟩ : wr.cell? ⟨w.heap.size + 1 + 1, 0, none⟩ = some (.string ByteArray.empty) ∧ wr.cell? ⟨w.heap.size + 1 + 1, 1, none⟩ = some (.string ByteArray.empty) ∧ wr.cell? ⟨w.heap.size + 1 + 1, 2, none⟩ = some (.int .i64 0) ∧ wr.cell? ⟨w.heap.size + 1 + 1, 3, none⟩ = some (.slice none 0 0) ∧ wr.cell? ⟨w.heap.size + 1 + 1, 4, none⟩ = some (.int .i64 0) := ⟨Z2.cell 0, Z2.cell 1, Z2.cell 2, Z2.cell 3, Z2.cell 4⟩
          have e0 := Z2.free 0
          have e1 := Z2.free 1
          have e2 := Z2.free 2
          have e3 := Z2.free 3
          have e4 := Z2.free 4
          have HZ2 := hid Z2
          clear ZX Z2
          go_wp2
          obtain ⟨Y, hY, fY, y0, y1, y2, y3, y4⟩ := resFin5 HZ2.out rfl (.string m.kind) (.string m.pre) (.int .i64 m.at_) (.slice ad1 m.n cap1) (.int .i64 m.seen)
          rw [hY]
          refine bodyPost_ret (v := .tuple #[.agg #[.string m.kind, .string m.pre, .int .i64 m.at_, .slice ad1 m.n cap1, .int .i64 m.seen], .int .i64 2]) (by simp [results, Try.results6, go_sem, y0, y1, y2, y3, y4]) rfl ?_
          exact HRT.out _ 2 hb (by simp [tkC, hfa]) (by decide) Y fY
        · have hC : tkC m.at_ 0 fv n x = 0 := by have := HE.out; simp [tkC, this]; omega
          have HCC := hid hC
          have hlow := hB1.trans (hb.mono hB1.size)
          have HD : Hid (SkR w m 0 fv n x an cn w1.heap.size (.int .i64 0) wr) := ⟨0, m.n, m.os, ad1, cap1, Nat.zero_le _, rfl, Z1, Z2, ZX, SK0.out.grow hb, rfl, by omega, hlow, by omega⟩
          have hS : tkS m 0 fv n x = ⟨max (tkTo ⟨m.at_, m.seen, toL m.n m.os⟩ x n).at_ fv, (tkTo ⟨m.at_, m.seen, toL m.n m.os⟩ x n).seen, (tkTo ⟨m.at_, m.seen, toL m.n m.os⟩ x n).l⟩ := if_pos hC
          have HS := hid hS
          clear Z1 Z2 ZX hC hS hlow
          obtain ⟨V0, hV0⟩ : ∃ V0, V0 = wr := ⟨_, rfl⟩
          subst hV0
          go_wp2
          go_loopw [8, 9] (fun v _ wr => SkR w m 0 fv n x an cn w1.heap.size v wr) (fun v _ _ => n - (intOf v).toNat)
          case atStart => exact HD.out
          case round =>
            clear HD z1 m2 z2 HY0 HY1 HY2 HYX SK0 hB1 hb HA HE zb1 hfa
            obtain ⟨i, n', y, ad, cap, hile, rfl, hI⟩ := hrel
            have HI := hid hI
            have n1 : wr.cell? ⟨w.heap.size + 1, 1, none⟩ = some (.slice an n cn) := hI.bn.cell 1
            have zn1 : w.heap.size + 1 < wr.heap.size := hI.bn.lt
            have zx1 : w1.heap.size < wr.heap.size := hI.bx.lt
            by_cases hin : i < n
            · obtain ⟨b, off, ah, chh, rfl, hlo, hbh, hcx, hsx⟩ := HX.out i hin
              obtain ⟨c0, c1, c2, c3, c4, c5, c6, c7, c8⟩ := hcx.below hI.low (by omega)
              have HSX := hid (hsx.below hI.low hhi)
              have hlow := hI.low.size
              have hbw : b < wr.heap.size := by omega
              obtain ⟨s, hs⟩ : ∃ s, tkTo ⟨m.at_, m.seen, toL m.n m.os⟩ x i = s := ⟨_, rfl⟩
              have HSS := hid (show tkTo ⟨m.at_, m.seen, toL m.n m.os⟩ x (i + 1) = tkStep (x i) s from by rw [← hs]; rfl)
              rw [hs] at hI HI
              have p2 : wr.cell? ⟨w1.heap.size, 2, none⟩ = some (.int .i64 s.at_) := hI.bx.cell 2
              have hiz : (i : Int) < n := by omega
              have hofx := (HFX.out i hin).h
              have hln := hI.len
              clear hI hs hcx hsx
              by_cases hv : (x i).ver ≤ s.at_
              · go_wp2
                go_roundw
                case rel => exact ⟨i + 1, n', y, ad, cap, hin, by go_num, by rw [HSS.out, tkStep, if_pos hv]; exact (HI.out.grow (below_alloc _ _)).skip⟩
                case measure => simp [intOf]; omega
              · have HV := hid hv
                go_wp2_with fail
                have hBw := below_alloc wr (.cells #[.int .i64 (x i).ver, .bool (x i).gone, .string (x i).ob.kind, .string (x i).ob.name, .int .i64 (x i).ob.ver, .int .i64 (x i).ob.born, .string (x i).ob.text, .bool (x i).ob.ending, .slice ah (x i).ob.hn chh] 52)
                refine (specOb_any (x i).ob ah chh _ lo hi (by simp; omega) hofx (by exact HSX.out.below hBw (by omega))).mono ?_
                rintro r w3 ⟨ad', cap', rfl, hs3, hb3⟩
                have hb3' : Below wr.heap.size wr w3 := hBw.trans (hb3.mono (by simp))
                have CBB : Hid (BoxC w3 wr.heap.size #[.int .i64 (x i).ver, .bool (x i).gone, .string (x i).ob.kind, .string (x i).ob.name, .int .i64 (x i).ob.ver, .int .i64 (x i).ob.born, .string (x i).ob.text, .bool (x i).ob.ending, .slice ah (x i).ob.hn chh]) := boxC_new hb3
                have hz3 : wr.heap.size < w3.heap.size := by have := hb3.size; simp at this; omega
                have hs3' : StrsIn w3 (wr.heap.size + 1) w3.heap.size ad' (x i).ob.hn (x i).ob.hs := fun k hk => by
                  obtain ⟨b', off', g1, g2, g3, g4, _⟩ := hs3 k hk
                  exact ⟨b', off', g1, by simp at g2; omega, g3, g4⟩
                have HS3 := hid hs3'
                have HB3 := hid hb3'
                have x3 : w3.cell? ⟨w1.heap.size, 3, none⟩ = some (.slice ad n' cap) := (hb3'.cell (p := ⟨w1.heap.size, 3, none⟩) zx1).trans (HI.out.bx.cell 3)
                have zx3 : w1.heap.size < w3.heap.size := by omega
                have hnx : ¬ w1.heap.size = wr.heap.size := by omega
                have hnx' : ¬ wr.heap.size = w1.heap.size := by omega
                obtain ⟨b0, b1, b2, b3, b4, b5, b6, b7, b8⟩ : w3.cell? ⟨wr.heap.size, 0, none⟩ = some (.int .i64 (x i).ver) ∧ w3.cell? ⟨wr.heap.size, 1, none⟩ = some (.bool (x i).gone) ∧ w3.cell? ⟨wr.heap.size, 2, none⟩ = some (.string (x i).ob.kind) ∧ w3.cell? ⟨wr.heap.size, 3, none⟩ = some (.string (x i).ob.name) ∧ w3.cell? ⟨wr.heap.size, 4, none⟩ = some (.int .i64 (x i).ob.ver) ∧ w3.cell? ⟨wr.heap.size, 5, none⟩ = some (.int .i64 (x i).ob.born) ∧ w3.cell? ⟨wr.heap.size, 6, none⟩ = some (.string (x i).ob.text) ∧ w3.cell? ⟨wr.heap.size, 7, none⟩ = some (.bool (x i).ob.ending) ∧ w3.cell? ⟨wr.heap.size, 8, none⟩ = some (.slice ah (x i).ob.hn chh) := ⟨CBB.out.cell 0, CBB.out.cell 1, CBB.out.cell 2, CBB.out.cell 3, CBB.out.cell 4, CBB.out.cell 5, CBB.out.cell 6, CBB.out.cell 7, CBB.out.cell 8⟩
                have f2 := CBB.out.free 2
                have f3 := CBB.out.free 3
                have f4 := CBB.out.free 4
                have f5 := CBB.out.free 5
                have f6 := CBB.out.free 6
                have f7 := CBB.out.free 7
                have f8 := CBB.out.free 8
                clear hBw hb3 hb3' hs3 hs3' c0 c1 c2 c3 c4 c5 c6 c7 c8 p2 HSX
                go_wp2_with fail
                have F : FrP (fun q => q = wr.heap.size) w3 (w3.setCells wr.heap.size 2 [.string (x i).ob.kind, .string (x i).ob.name, .int .i64 (x i).ob.ver, .int .i64 (x i).ob.born, .string (x i).ob.text, .bool (x i).ob.ending, .slice ad' (x i).ob.hn cap']) := FrP.setCells (P := fun q => q = wr.heap.size) rfl [.string (x i).ob.kind, .string (x i).ob.name, .int .i64 (x i).ob.ver, .int .i64 (x i).ob.born, .string (x i).ob.text, .bool (x i).ob.ending, .slice ad' (x i).ob.hn cap'] 2 w3 w3 (FrP.refl _ _)
                have hcW : (w3.setCells wr.heap.size 2 [.string (x i).ob.kind, .string (x i).ob.name, .int .i64 (x i).ob.ver, .int .i64 (x i).ob.born, .string (x i).ob.text, .bool (x i).ob.ending, .slice ad' (x i).ob.hn cap']).cell? ⟨wr.heap.size, 0, none⟩ = some (.int .i64 (x i).ver) := (World.cell?_setCells_out wr.heap.size [.string (x i).ob.kind, .string (x i).ob.name, .int .i64 (x i).ob.ver, .int .i64 (x i).ob.born, .string (x i).ob.text, .bool (x i).ob.ending, .slice ad' (x i).ob.hn cap'] 2 w3 ⟨wr.heap.size, 0, none⟩ (fun _ _ => Or.inl (by show 0 < 2; omega))).trans b0
                have hWB : Below wr.heap.size wr (w3.setCells wr.heap.size 2 [.string (x i).ob.kind, .string (x i).ob.name, .int .i64 (x i).ob.ver, .int .i64 (x i).ob.born, .string (x i).ob.text, .bool (x i).ob.ending, .slice ad' (x i).ob.hn cap']) := HB3.out.trans (F.below (B := wr.heap.size) (fun q hq e => by have : q = wr.heap.size := e; omega) HB3.out.size)
                have hWz : (w3.setCells wr.heap.size 2 [.string (x i).ob.kind, .string (x i).ob.name, .int .i64 (x i).ob.ver, .int .i64 (x i).ob.born, .string (x i).ob.text, .bool (x i).ob.ending, .slice ad' (x i).ob.hn cap']).heap.size = w3.heap.size := size_setCells' _ _ _ _
                have hX3 := HI.out.X3
                have hSI : StrsIn (w3.setCells wr.heap.size 2 [.string (x i).ob.kind, .string (x i).ob.name, .int .i64 (x i).ob.ver, .int .i64 (x i).ob.born, .string (x i).ob.text, .bool (x i).ob.ending, .slice ad' (x i).ob.hn cap']) (w.heap.size + 3) (w3.setCells wr.heap.size 2 [.string (x i).ob.kind, .string (x i).ob.name, .int .i64 (x i).ob.ver, .int .i64 (x i).ob.born, .string (x i).ob.text, .bool (x i).ob.ending, .slice ad' (x i).ob.hn cap']).heap.size ad' (x i).ob.hn (x i).ob.hs := fun k hk => by
                  obtain ⟨b', off', g1, g2, g3, g4⟩ := HS3.out k hk
                  exact ⟨b', off', g1, by omega, by rw [hWz]; exact g3, (F.cell (p := ⟨b', off' + k, none⟩) g3 (fun e => by have e2 : b' = wr.heap.size := e; omega)).trans g4⟩
                have hcall := l2Put_any n' y ad cap (x i) ad' cap' (w3.setCells wr.heap.size 2 [.string (x i).ob.kind, .string (x i).ob.name, .int .i64 (x i).ob.ver, .int .i64 (x i).ob.born, .string (x i).ob.text, .bool (x i).ob.ending, .slice ad' (x i).ob.hn cap']) (w.heap.size + 3) (w3.setCells wr.heap.size 2 [.string (x i).ob.kind, .string (x i).ob.name, .int .i64 (x i).ob.ver, .int .i64 (x i).ob.born, .string (x i).ob.text, .bool (x i).ob.ending, .slice ad' (x i).ob.hn cap']).heap.size (Nat.le_refl _) (by omega) ((HI.out.list.grow hWB).isIn) hSI
                obtain ⟨PA, hPA⟩ : ∃ PA, putAll n' y (x i).ob (x i).gone = PA := ⟨_, rfl⟩
                have hturn := fun (w4 : World) (A : Nat → Option Addr) (C : Nat → Nat) (v : Value) (base hi2 : Nat) => HI.out.turn (c := x i) (w' := w4) (A := A) (C := C) (v := v) (base := base) (hi := hi2) (by have := HV.out; omega)
                rw [hPA] at hcall
                simp only [hPA] at hturn
                refine hcall.mono ?_
                rintro r w4 ⟨v, A, C, rfl, hbd, hb4⟩
                have hW4 : Below wr.heap.size wr w4 := hWB.trans (hb4.mono hWB.size)
                obtain ⟨ad2, cap2, hv2, hSK⟩ := hturn w4 A C v _ _ hW4 hbd (by omega) hb4.size
                subst hv2
                have IF : Hid (SkI w (((w4.setCell ⟨w1.heap.size, 3, none⟩ (.slice ad2 PA.m cap2)).setCell ⟨w1.heap.size, 2, none⟩ (.int .i64 (x i).ver)).setCell ⟨w1.heap.size, 4, none⟩ (.int .i64 (wrap64 (s.seen + 1)))) m 0 fv n (some ⟨b, off, none⟩) cn w1.heap.size (tkTo ⟨m.at_, m.seen, toL m.n m.os⟩ x (i + 1)) (i + 1) PA.m PA.y ad2 cap2) := by
                  show SkI w (((w4.setCell ⟨w1.heap.size, 3, none⟩ (.slice ad2 PA.m cap2)).setCell ⟨w1.heap.size, 2, none⟩ (.int .i64 (x i).ver)).setCell ⟨w1.heap.size, 4, none⟩ (.int .i64 (wrap64 (s.seen + 1)))) m 0 fv n (some ⟨b, off, none⟩) cn w1.heap.size (tkTo ⟨m.at_, m.seen, toL m.n m.os⟩ x (i + 1)) (i + 1) PA.m PA.y ad2 cap2
                  rw [HSS.out]
                  exact hSK
                have BX := HI.out.bx.below hW4
                have k2 : w4.cell? ⟨w1.heap.size, 2, none⟩ = some (.int .i64 s.at_) := BX.cell 2
                have k3 : w4.cell? ⟨w1.heap.size, 3, none⟩ = some (.slice ad n' cap) := BX.cell 3
                have k4 : w4.cell? ⟨w1.heap.size, 4, none⟩ = some (.int .i64 s.seen) := BX.cell 4
                have j2 := BX.free 2
                have j3 := BX.free 3
                have j4 := BX.free 4
                have cb0 := (hb4.cell (p := ⟨wr.heap.size, 0, none⟩) (by rw [hWz]; exact hz3)).trans hcW
                have hz4 : w3.heap.size ≤ w4.heap.size := by have := hb4.size; omega
                clear BX hSK hbd hb4 hturn hcall hSI hWz hWB hcW F x3 b0 b1 b2 b3 b4 b5 b6 b7 b8 f2 f3 f4 f5 f6 f7 f8
                go_wp2
                go_roundw
                case rel => exact ⟨i + 1, PA.m, PA.y, ad2, cap2, hin, by go_num, IF.out⟩
                case measure => simp [intOf]; omega
            · obtain rfl : n = i := by omega
              obtain ⟨s, hs⟩ : ∃ s, tkTo ⟨m.at_, m.seen, toL m.n m.os⟩ x n = s := ⟨_, rfl⟩
              have HSS := hid hs
              rw [hs] at hI HI
              clear hs
              obtain ⟨x0, x1, x2, x3, x4⟩ : wr.cell? ⟨w1.heap.size, 0, none⟩ = some (.string m.kind) ∧ wr.cell? ⟨w1.heap.size, 1, none⟩ = some (.string m.pre) ∧ wr.cell? ⟨w1.heap.size, 2, none⟩ = some (.int .i64 s.at_) ∧ wr.cell? ⟨w1.heap.size, 3, none⟩ = some (.slice ad n' cap) ∧ wr.cell? ⟨w1.heap.size, 4, none⟩ = some (.int .i64 s.seen) := ⟨hI.bx.cell 0, hI.bx.cell 1, hI.bx.cell 2, hI.bx.cell 3, hI.bx.cell 4⟩
              have q2 : wr.cell? ⟨w.heap.size + 1, 2, none⟩ = some (.int .i64 fv) := hI.bn.cell 2
              have f2 := hI.bx.free 2
              obtain ⟨r0, r1, r2, r3, r4⟩ : wr.cell? ⟨w.heap.size + 1 + 1, 0, none⟩ = some (.string ByteArray.empty) ∧ wr.cell? ⟨w.heap.size + 1 + 1, 1, none⟩ = some (.string ByteArray.empty) ∧ wr.cell? ⟨w.heap.size + 1 + 1, 2, none⟩ = some (.int .i64 0) ∧ wr.cell? ⟨w.heap.size + 1 + 1, 3, none⟩ = some (.slice none 0 0) ∧ wr.cell? ⟨w.heap.size + 1 + 1, 4, none⟩ = some (.int .i64 0) := ⟨hI.br.cell 0, hI.br.cell 1, hI.br.cell 2, hI.br.cell 3, hI.br.cell 4⟩
              have e0 := hI.br.free 0
              have e1 := hI.br.free 1
              have e2 := hI.br.free 2
              have e3 := hI.br.free 3
              have e4 := hI.br.free 4
              have hX3 := hI.X3
              have hn1 : ¬ w1.heap.size = w.heap.size + 1 + 1 := by omega
              have hn2 : ¬ w.heap.size + 1 + 1 = w1.heap.size := by omega
              clear hI
              by_cases hfx : fv > s.at_
              · have hmx : max s.at_ fv = fv := by omega
                go_wp2
                have F1 : FrP (fun q => q = w1.heap.size) wr (wr.setCell ⟨w1.heap.size, 2, none⟩ (.int .i64 fv)) := FrP.setCell (P := fun q => q = w1.heap.size) (FrP.refl _ wr) (p := ⟨w1.heap.size, 2, none⟩) rfl _
                obtain ⟨Y, hY, fY, y0, y1, y2, y3, y4⟩ := resFin5 (HI.out.br.fr F1 (by show ¬ _ = _; omega)) rfl (.string m.kind) (.string m.pre) (.int .i64 fv) (.slice ad n' cap) (.int .i64 s.seen)
                rw [hY]
                refine bodyPost_ret (v := .tuple #[.agg #[.string m.kind, .string m.pre, .int .i64 fv, .slice ad n' cap, .int .i64 s.seen], .int .i64 0]) (by simp [results, Try.results6, go_sem, y0, y1, y2, y3, y4]) rfl ?_
                have hS2 := HS.out
                rw [HSS.out] at hS2
                rw [hS2, HCC.out, hmx]
                have F2 : FrP (fun q => q = w1.heap.size ∨ q = w.heap.size + 1 + 1) wr Y := (F1.mono (fun q e => Or.inl e)).trans (fY.mono (fun q e => Or.inr e))
                have hL := (HI.out.list.set x2 (fun t e => by cases e) (.int .i64 fv)).frLow fY (fun q hq e => by have : q = w.heap.size + 1 + 1 := e; omega)
                refine ⟨ad, cap, n', y, rfl, HI.out.obs, fun k hk => ?_, HI.out.low.trans (F2.below (fun q hq e => by have := HI.out.X3; omega) HI.out.low.size)⟩
                obtain ⟨b', off', ah', ch', g1, g2, g3, g4, g5⟩ := hL.isIn k hk
                exact ⟨b', off', ah', ch', g1, by omega, g3, g4, fun k2 hk2 => by
                  obtain ⟨b3, off3, h1, h2, h3, h4⟩ := g5 k2 hk2
                  exact ⟨b3, off3, h1, by omega, h3, h4⟩⟩
              · have hmx : max s.at_ fv = s.at_ := by omega
                go_wp2
                obtain ⟨Y, hY, fY, y0, y1, y2, y3, y4⟩ := resFin5 (HI.out.br) rfl (.string m.kind) (.string m.pre) (.int .i64 s.at_) (.slice ad n' cap) (.int .i64 s.seen)
                rw [hY]
                refine bodyPost_ret (v := .tuple #[.agg #[.string m.kind, .string m.pre, .int .i64 s.at_, .slice ad n' cap, .int .i64 s.seen], .int .i64 0]) (by simp [results, Try.results6, go_sem, y0, y1, y2, y3, y4]) rfl ?_
                have hS2 := HS.out
                rw [HSS.out] at hS2
                rw [hS2, HCC.out, hmx]
                have F2 : FrP (fun q => q = w1.heap.size ∨ q = w.heap.size + 1 + 1) wr Y := fY.mono (fun q e => Or.inr e)
                have hL := HI.out.list.frLow fY (fun q hq e => by have : q = w.heap.size + 1 + 1 := e; omega)
                refine ⟨ad, cap, n', rfl, y, HI.out.obs, fun k hk => ?_, HI.out.low.trans (F2.below (fun q hq e => by have := HI.out.X3; omega) HI.out.low.size)⟩
                obtain ⟨b', off', ah', ch', g1, g2, g3, g4, g5⟩ := hL.isIn k hk
                exact ⟨b', off', ah', ch', g1, by omega, g3, g4, fun k2 hk2 => by
                  obtain ⟨b3, off3, h1, h2, h3, h4⟩ := g5 k2 hk2
                  exact ⟨b3, off3, h1, by omega, h3, h4⟩⟩
  · have h0b : (cd == 0) = false := by simpa using h0
    have hrc : tkC m.at_ cd fv n x = 1 := if_neg h0
    have HRC := hid hrc
    clear hrc
    subst hW
    go_wp2
    obtain ⟨Y, hY, fY, y0, y1, y2, y3, y4⟩ := resFin5 HY2.out rfl (.string m.kind) (.string m.pre) (.int .i64 m.at_) (.slice ad1 m.n cap1) (.int .i64 m.seen)
    rw [hY]
    refine bodyPost_ret (v := .tuple #[.agg #[.string m.kind, .string m.pre, .int .i64 m.at_, .slice ad1 m.n cap1, .int .i64 m.seen], .int .i64 1]) (by simp [results, Try.results6, go_sem, y0, y1, y2, y3, y4]) rfl ?_
    exact HRT.out _ 1 (Below.refl _ _) HRC.out (by decide) Y fY
end Go.Proofs.Ytkecnaaacbckoaa
