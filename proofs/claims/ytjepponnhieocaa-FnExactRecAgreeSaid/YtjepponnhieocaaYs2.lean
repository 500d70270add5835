import Derived.Test.YtjepponnhieocaaYsh
namespace Go.Proofs.Ytjepponnhieocaa
open Go.RowKit
set_option maxRecDepth 100000 in
set_option maxHeartbeats 8000000 in
theorem svtft (r0 : Rc) (A : RcA) (w : World) (lo hi : Nat) (hhi : hi ≤ w.heap.size) (hf : RcFit (setR r0 true false true)) (hc : RcIn w lo hi (setR r0 true false true) A) :
    Calls Try.prog 46 #[rcV (setR r0 true false true) A] w fun e w' => e = .returned (.bool (rcB (setR r0 true false true))) ∧ Below w.heap.size w w' := by
  have HF := hid hf
  have HC := hid hc
  have y1 := hf.yn
  have y2 := hf.bn
  have y3 := hf.an
  have y4 := hf.hn
  have y5 := hf.wn
  clear hf hc
  have mark : Nat := 0
  obtain ⟨b0, h0⟩ : ∃ b, inB (setR r0 true false true).of 1 5 = b := ⟨_, rfl⟩
  obtain ⟨b1, h1⟩ : ∃ b, inB (setR r0 true false true).num 1 (setR r0 true false true).of = b := ⟨_, rfl⟩
  obtain ⟨b2, h2⟩ : ∃ b, dkB (setR r0 true false true).sf = b := ⟨_, rfl⟩
  obtain ⟨b3, h3⟩ : ∃ b, dkB (setR r0 true false true).dk = b := ⟨_, rfl⟩
  obtain ⟨b5, h5⟩ : ∃ b, wishesB (setR r0 true false true).wn (setR r0 true false true).ws = b := ⟨_, rfl⟩
  obtain ⟨b6, h6⟩ : ∃ b, inB (setR r0 true false true).hd 0 1000000 = b := ⟨_, rfl⟩
  obtain ⟨b7, h7⟩ : ∃ b, numB (setR r0 true false true).of (setR r0 true false true).yn (setR r0 true false true).ys = b := ⟨_, rfl⟩
  obtain ⟨b8, h8⟩ : ∃ b, slsB (setR r0 true false true).bn (setR r0 true false true).bs = b := ⟨_, rfl⟩
  obtain ⟨b9, h9⟩ : ∃ b, aksB (setR r0 true false true).of (setR r0 true false true).an (setR r0 true false true).as_ = b := ⟨_, rfl⟩
  obtain ⟨b10, h10⟩ : ∃ b, inB (setR r0 true false true).bal 1 (setR r0 true false true).dk.pr = b := ⟨_, rfl⟩
  have HR := hid (show rcB (setR r0 true false true) = (!(true && false) && ((b0 && b1) && (b2 && (b3 && (heldB (setR r0 true false true) && (b5 && (b6 && (b7 && (b8 && (b9 && (roleB (setR r0 true false true) && (true || bareB (setR r0 true false true))))))))))))) by rw [← h0, ← h1, ← h2, ← h3, ← h5, ← h6, ← h7, ← h8, ← h9]; rfl)
  generalize rcB (setR r0 true false true) = RB at *
  cases b0
  · go_enter Try.func46, Try.ntmps46
    go_wp2_with (first | ((with_reducible show wpList _ _ _ (⟨some 4, _, _, _, _, _⟩ :: _) _ _); clear mark; have hB0 := below_alloc w (.cells (rcC (setR r0 true false true) A) 58); have H0 := holds_new w (rcC (setR r0 true false true) A) 58; have hz0 : w.heap.size < (w.alloc (.cells (rcC (setR r0 true false true) A) 58)).heap.size := (by simp); generalize w.alloc (.cells (rcC (setR r0 true false true) A) 58) = W at *; obtain ⟨p0, p1, p2, p3, p4, p5, p6, p7, p8, p9, p10, p11, p12, p13, p14, p15, p16, p17⟩ := holds18 H0) | (go_at_call 30; refine (in_any _ _ _ _).mono ?_; rintro e w0' ⟨rfl, hq⟩; replace hq := hq.symm; subst hq; first | rw [h0] | rw [h1] | rw [h6] | rw [h10]))
    go_ret
    exact ⟨ret_bool (by rw [HR.out]; simp), hB0⟩
  cases b1
  · go_enter Try.func46, Try.ntmps46
    go_wp2_with (first | ((with_reducible show wpList _ _ _ (⟨some 4, _, _, _, _, _⟩ :: _) _ _); clear mark; have hB0 := below_alloc w (.cells (rcC (setR r0 true false true) A) 58); have H0 := holds_new w (rcC (setR r0 true false true) A) 58; have hz0 : w.heap.size < (w.alloc (.cells (rcC (setR r0 true false true) A) 58)).heap.size := (by simp); generalize w.alloc (.cells (rcC (setR r0 true false true) A) 58) = W at *; obtain ⟨p0, p1, p2, p3, p4, p5, p6, p7, p8, p9, p10, p11, p12, p13, p14, p15, p16, p17⟩ := holds18 H0) | (go_at_call 30; refine (in_any _ _ _ _).mono ?_; rintro e w0' ⟨rfl, hq⟩; replace hq := hq.symm; subst hq; first | rw [h0] | rw [h1] | rw [h6] | rw [h10]))
    go_ret
    exact ⟨ret_bool (by rw [HR.out]; simp), hB0⟩
  go_enter Try.func46, Try.ntmps46
  go_wp2_with (first | ((with_reducible show wpList _ _ _ (⟨some 4, _, _, _, _, _⟩ :: _) _ _); clear mark; have hB0 := below_alloc w (.cells (rcC (setR r0 true false true) A) 58); have H0 := holds_new w (rcC (setR r0 true false true) A) 58; have hz0 : w.heap.size < (w.alloc (.cells (rcC (setR r0 true false true) A) 58)).heap.size := (by simp); generalize w.alloc (.cells (rcC (setR r0 true false true) A) 58) = W at *; obtain ⟨p0, p1, p2, p3, p4, p5, p6, p7, p8, p9, p10, p11, p12, p13, p14, p15, p16, p17⟩ := holds18 H0) | (go_at_call 30; refine (in_any _ _ _ _).mono ?_; rintro e w0' ⟨rfl, hq⟩; replace hq := hq.symm; subst hq; first | rw [h0] | rw [h1] | rw [h6] | rw [h10]))
  refine (specDisk_any (setR r0 true false true).sf A.sa A.sc W lo hi (Nat.le_trans hhi hB0.size) HF.out.sf (HC.out.below hB0 hhi).sf).mono ?_
  rintro e w1 ⟨rfl, hbw1⟩
  rw [h2]
  clear p0 p1 p2 p3 p4 p5 p6 p7 p8 p9 p10 p11 p12 p13 p14 p15 p16 p17
  have hBw1 : Below w.heap.size w w1 := hB0.trans (hbw1.mono hB0.size)
  have Hw1 : Holds w1 w.heap.size (rcC (setR r0 true false true) A) := H0.below hbw1 hz0
  have hzw1 : w.heap.size < w1.heap.size := Nat.lt_of_lt_of_le hz0 hbw1.size
  clear hbw1 H0
  obtain ⟨p0, p1, p2, p3, p4, p5, p6, p7, p8, p9, p10, p11, p12, p13, p14, p15, p16, p17⟩ := holds18 Hw1
  cases b2
  · go_wp2
    go_ret
    exact ⟨ret_bool (by rw [HR.out]; simp), hBw1⟩
  go_wp2_with fail
  refine (specDisk_any (setR r0 true false true).dk A.da A.dc w1 lo hi (Nat.le_trans hhi hBw1.size) HF.out.dk (HC.out.below hBw1 hhi).dk).mono ?_
  rintro e w2 ⟨rfl, hbw2⟩
  rw [h3]
  clear p0 p1 p2 p3 p4 p5 p6 p7 p8 p9 p10 p11 p12 p13 p14 p15 p16 p17
  have hBw2 : Below w.heap.size w w2 := hBw1.trans (hbw2.mono hBw1.size)
  have Hw2 : Holds w2 w.heap.size (rcC (setR r0 true false true) A) := Hw1.below hbw2 hzw1
  have hzw2 : w.heap.size < w2.heap.size := Nat.lt_of_lt_of_le hzw1 hbw2.size
  clear hbw2 Hw1
  obtain ⟨p0, p1, p2, p3, p4, p5, p6, p7, p8, p9, p10, p11, p12, p13, p14, p15, p16, p17⟩ := holds18 Hw2
  cases b3
  · go_wp2
    go_ret
    exact ⟨ret_bool (by rw [HR.out]; simp), hBw2⟩
  by_cases h4 : (setR r0 true false true).hn ≤ 400
  rotate_left
  · have HX := hid (show heldB (setR r0 true false true) = false by simp [heldB, h4])
    go_wp2
    go_ret
    exact ⟨ret_bool (by rw [HR.out, HX.out]; simp), hBw2⟩
  go_wp2_with fail
  refine (wishesS_any (setR r0 true false true).wn (setR r0 true false true).ws A.wa A.wc w2 lo hi HF.out.wn HF.out.ws (HC.out.below hBw2 hhi).ws).mono ?_
  rintro e w3 ⟨rfl, q3, he3⟩
  have hbw3 : Below w2.heap.size w2 w3 := by rw [he3]; exact below_drewN' _ _
  rw [h5]
  clear p0 p1 p2 p3 p4 p5 p6 p7 p8 p9 p10 p11 p12 p13 p14 p15 p16 p17 he3
  have hBw3 : Below w.heap.size w w3 := hBw2.trans (hbw3.mono hBw2.size)
  have Hw3 : Holds w3 w.heap.size (rcC (setR r0 true false true) A) := Hw2.below hbw3 hzw2
  have hzw3 : w.heap.size < w3.heap.size := Nat.lt_of_lt_of_le hzw2 hbw3.size
  clear hbw3 Hw2
  obtain ⟨p0, p1, p2, p3, p4, p5, p6, p7, p8, p9, p10, p11, p12, p13, p14, p15, p16, p17⟩ := holds18 Hw3
  cases b5
  · go_wp2
    go_ret
    exact ⟨ret_bool (by rw [HR.out]; simp), hBw3⟩
  cases b6
  · go_wp2_with (first | (go_at_call 30; refine (in_any _ _ _ _).mono ?_; rintro e w0' ⟨rfl, hq⟩; replace hq := hq.symm; subst hq; first | rw [h0] | rw [h1] | rw [h6] | rw [h10]))
    go_ret
    exact ⟨ret_bool (by rw [HR.out]; simp), hBw3⟩
  go_wp2_with (first | (go_at_call 30; refine (in_any _ _ _ _).mono ?_; rintro e w0' ⟨rfl, hq⟩; replace hq := hq.symm; subst hq; first | rw [h0] | rw [h1] | rw [h6] | rw [h10]))
  clear p0 p1 p2 p3 p4 p5 p6 p7 p8 p9 p10 p11 p12 p13 p14 p15 p16 p17
  go_loopw [3] (fun i wr => ∃ k : Nat, k ≤ (setR r0 true false true).hn ∧ i = .int .i64 k ∧ Below w3.heap.size w3 wr ∧ Hid (∀ j, j < k → oneB (setR r0 true false true) j = true)) (fun i _ => (setR r0 true false true).hn - (intOf i).toNat)
  case atStart => exact ⟨0, Nat.zero_le _, rfl, Below.refl _ _, fun j hj => absurd hj (Nat.not_lt_zero _)⟩
  case round =>
    obtain ⟨k, hk, rfl, hb, HA⟩ := hrel
    have HB := hid (hBw3.trans (hb.mono hBw3.size))
    obtain ⟨p0, p1, p2, p3, p4, p5, p6, p7, p8, p9, p10, p11, p12, p13, p14, p15, p16, p17⟩ := holds18 (Hw3.below hb hzw3)
    have hww : w.heap.size < wr.heap.size := Nat.lt_of_lt_of_le hzw3 hb.size
    by_cases hkn : k < (setR r0 true false true).hn
    · obtain ⟨b, off, ah, ch, e, hlo, hbh, hcx, hs⟩ := HC.out.hs k hkn
      have hs1 := hs.below HB.out hhi
      obtain ⟨d0, d1, d2, d3, d4, d5, d6, d7⟩ := hcx.below HB.out (by omega)
      have hfk := HF.out.hs k hkn
      have hbw : b < wr.heap.size := by have := HB.out.size; omega
      have hw1 : ∀ u : GW wr, hi ≤ u.val.heap.size := fun u => Nat.le_trans hhi (Nat.le_trans HB.out.size u.prop.size)
      have hs2 : ∀ u : GW wr, SlsIn u.val lo hi ah ((setR r0 true false true).hs k).n ((setR r0 true false true).hs k).s := fun u => hs1.below u.prop (Nat.le_trans hhi HB.out.size)
      rw [e] at p9
      have hne : Nonempty (GW wr) := ⟨⟨wr, Below.refl _ _⟩⟩
      have q0 := subcell p0 hww
      have q1 := subcell p1 hww
      have q9 := subcell p9 hww
      have e0 := subcell d0 hbw
      have e1 := subcell d1 hbw
      have e2 := subcell d2 hbw
      have e3 := subcell d3 hbw
      have e4 := subcell d4 hbw
      have e5 := subcell d5 hbw
      have e6 := subcell d6 hbw
      have e7 := subcell d7 hbw
      clear hcx hs p0 p1 p2 p3 p4 p5 p6 p7 p8 p10 p11 p12 p13 p14 p15 p16 p17 d0 d1 d2 d3 d4 d5 d6 d7 e
      cases g2 : msB ((setR r0 true false true).hs k) (setR r0 true false true).of with
      | false =>
        have HX := hid (heldB_no hkn (by rw [oneB, g2]; simp))
        go_wp2
        refine wp_region_grow (by kernel_rfl) (by kernel_rfl) ?_
        repeat (first | (go_big_quiet_step ((go_at_call 47; go_must (exact grow_of (specMessage_any ((setR r0 true false true).hs k) (setR r0 true false true).of ah ch _ lo hi (hw1 _) hfk (hs2 _)))))) | (refine wpQuiet_step (fun K hK => ?_); go_simp; refine hK _ ?_; clear hK K))
        refine wpQuiet_nil ?_
        rintro w5 ⟨u, hu⟩
        have hw5 : Below wr.heap.size wr w5 := hu ▸ u.prop
        clear hu u
        go_wp2
        go_ret
        exact ⟨ret_bool (by rw [HR.out, HX.out]; simp), HB.out.trans (hw5.mono HB.out.size)⟩
      | true =>
        cases g1 : (((setR r0 true false true).hs k).from_ != (setR r0 true false true).num) with
        | true =>
          have HX := hid (heldB_no hkn (by rw [oneB, g1]; rfl))
          go_wp2
          refine wp_region_grow (by kernel_rfl) (by kernel_rfl) ?_
          repeat (first | (go_big_quiet_step ((go_at_call 47; go_must (exact grow_of (specMessage_any ((setR r0 true false true).hs k) (setR r0 true false true).of ah ch _ lo hi (hw1 _) hfk (hs2 _)))))) | (refine wpQuiet_step (fun K hK => ?_); go_simp; refine hK _ ?_; clear hK K))
          refine wpQuiet_nil ?_
          rintro w5 ⟨u, hu⟩
          have hw5 : Below wr.heap.size wr w5 := hu ▸ u.prop
          clear hu u
          go_wp2
          go_ret
          exact ⟨ret_bool (by rw [HR.out, HX.out]; simp), HB.out.trans (hw5.mono HB.out.size)⟩
        | false =>
          have HN := hid (show oneB (setR r0 true false true) k = true by rw [oneB, g1, g2]; rfl)
          go_wp2
          refine wp_region_grow (by kernel_rfl) (by kernel_rfl) ?_
          repeat (first | (go_big_quiet_step ((go_at_call 47; go_must (exact grow_of (specMessage_any ((setR r0 true false true).hs k) (setR r0 true false true).of ah ch _ lo hi (hw1 _) hfk (hs2 _)))))) | (refine wpQuiet_step (fun K hK => ?_); go_simp; refine hK _ ?_; clear hK K))
          refine wpQuiet_nil ?_
          rintro w5 ⟨u, hu⟩
          have hw5 : Below wr.heap.size wr w5 := hu ▸ u.prop
          clear hu u
          go_wp2
          go_roundw
          case rel => exact ⟨k + 1, by omega, by go_num, hb.trans (hw5.mono hb.size), fun j hj => by
            by_cases e : j = k
            · rw [e]; exact HN.out
            · exact HA.out j (by omega)⟩
          case measure => simp [intOf]; omega
    · have hkn' : ¬ k < r0.hn := hkn
      have HX := hid (@heldB_yes (setR r0 true false true) h4 (fun i hi => HA.out i (by have hi' : i < r0.hn := hi; omega)))
      have hB4 := HB.out
      have H4 := Hw3.below hb hzw3
      have hz4 := hww
      clear hb Hw3
      go_wp2_with fail
      refine (numbersS_any (setR r0 true false true).of (setR r0 true false true).yn (setR r0 true false true).ys A.ya A.yc wr lo hi (Int.le_trans y1 (by omega)) (HC.out.below hB4 hhi).ys).mono ?_
      rintro e w5 ⟨rfl, q5, he5⟩
      have hbw5 : Below wr.heap.size wr w5 := by rw [he5]; exact below_drewN' _ _
      rw [h7]
      clear p0 p1 p2 p3 p4 p5 p6 p7 p8 p9 p10 p11 p12 p13 p14 p15 p16 p17 he5
      have hBw5 : Below w.heap.size w w5 := hB4.trans (hbw5.mono hB4.size)
      have Hw5 : Holds w5 w.heap.size (rcC (setR r0 true false true) A) := H4.below hbw5 hz4
      have hzw5 : w.heap.size < w5.heap.size := Nat.lt_of_lt_of_le hz4 hbw5.size
      clear hbw5 H4
      obtain ⟨p0, p1, p2, p3, p4, p5, p6, p7, p8, p9, p10, p11, p12, p13, p14, p15, p16, p17⟩ := holds18 Hw5
      cases b7
      · go_wp2
        go_ret
        exact ⟨ret_bool (by rw [HR.out]; simp), hBw5⟩
      go_wp2_with fail
      refine (slotsOkS_any (setR r0 true false true).bn (setR r0 true false true).bs A.ba A.bc w5 lo hi (Nat.le_trans hhi hBw5.size) HF.out.bn HF.out.bs (HC.out.below hBw5 hhi).bs).mono ?_
      rintro e w6 ⟨rfl, hbw6⟩
      rw [h8]
      clear p0 p1 p2 p3 p4 p5 p6 p7 p8 p9 p10 p11 p12 p13 p14 p15 p16 p17
      have hBw6 : Below w.heap.size w w6 := hBw5.trans (hbw6.mono hBw5.size)
      have Hw6 : Holds w6 w.heap.size (rcC (setR r0 true false true) A) := Hw5.below hbw6 hzw5
      have hzw6 : w.heap.size < w6.heap.size := Nat.lt_of_lt_of_le hzw5 hbw6.size
      clear hbw6 Hw5
      obtain ⟨p0, p1, p2, p3, p4, p5, p6, p7, p8, p9, p10, p11, p12, p13, p14, p15, p16, p17⟩ := holds18 Hw6
      cases b8
      · go_wp2
        go_ret
        exact ⟨ret_bool (by rw [HR.out]; simp), hBw6⟩
      go_wp2_with fail
      refine (acksS_any (setR r0 true false true).of (setR r0 true false true).an (setR r0 true false true).as_ A.aa A.ac w6 lo hi (Int.le_trans y3 (by omega)) (fun i h => by have := (HF.out.as_ i h).n; omega) (HC.out.below hBw6 hhi).as_).mono ?_
      rintro e w7 ⟨rfl, q7, he7⟩
      have hbw7 : Below w6.heap.size w6 w7 := by rw [he7]; exact below_drewN' _ _
      rw [h9]
      clear p0 p1 p2 p3 p4 p5 p6 p7 p8 p9 p10 p11 p12 p13 p14 p15 p16 p17 he7
      have hBw7 : Below w.heap.size w w7 := hBw6.trans (hbw7.mono hBw6.size)
      have Hw7 : Holds w7 w.heap.size (rcC (setR r0 true false true) A) := Hw6.below hbw7 hzw6
      have hzw7 : w.heap.size < w7.heap.size := Nat.lt_of_lt_of_le hzw6 hbw7.size
      clear hbw7 Hw6
      have HRG : Hid (w7.rangeAt w.heap.size 0 (rcC (setR r0 true false true) A).toList) := hid (Holds.range (cs := (rcC (setR r0 true false true) A).toList) Hw7)
      obtain ⟨p0, p1, p2, p3, p4, p5, p6, p7, p8, p9, p10, p11, p12, p13, p14, p15, p16, p17⟩ := holds18 Hw7
      cases b9
      · go_wp2
        go_ret
        exact ⟨ret_bool (by rw [HR.out]; simp), hBw7⟩
      have HRL := hid (show roleB (setR r0 true false true) = (b10 && (((((setR r0 true false true).yn : Int) == 0)) && (((setR r0 true false true).bn : Int) == 0))) by rw [← h10]; rfl)
      cases b10
      · go_wp2_with (first | (go_at_call 30; refine (in_any _ _ _ _).mono ?_; rintro e w0' ⟨rfl, hq⟩; replace hq := hq.symm; subst hq; first | rw [h0] | rw [h1] | rw [h6] | rw [h10]))
        go_ret
        exact ⟨ret_bool (by rw [HR.out, HRL.out]; simp), hBw7⟩
      have hqq : quietS (setR r0 true false true) = false := rfl
      have HBR := hid (show bareB (setR r0 true false true) = false from rfl)
      by_cases hz : (r0.yn : Int) + (r0.bn : Int) ≤ 0
      rotate_left
      · have HZ := hid (show (((((setR r0 true false true).yn : Int) == 0)) && (((setR r0 true false true).bn : Int) == 0)) = false by simp; omega)
        go_wp2_with (first | (go_at_call 30; refine (in_any _ _ _ _).mono ?_; rintro e w0' ⟨rfl, hq⟩; replace hq := hq.symm; subst hq; first | rw [h0] | rw [h1] | rw [h6] | rw [h10]))
        go_ret
        exact ⟨ret_bool (by rw [HR.out, HRL.out, HZ.out]; simp), hBw7⟩
      have HZ := hid (show (((((setR r0 true false true).yn : Int) == 0)) && (((setR r0 true false true).bn : Int) == 0)) = true by simp; omega)
      go_wp2_with (first | (go_at_call 30; refine (in_any _ _ _ _).mono ?_; rintro e w0' ⟨rfl, hq⟩; replace hq := hq.symm; subst hq; first | rw [h0] | rw [h1] | rw [h6] | rw [h10]))
      go_ret
      exact ⟨ret_bool (by rw [HR.out, HRL.out, HZ.out, HX.out]; simp), hBw7⟩
set_option maxRecDepth 100000 in
set_option maxHeartbeats 8000000 in
theorem svftf (r0 : Rc) (A : RcA) (w : World) (lo hi : Nat) (hhi : hi ≤ w.heap.size) (hf : RcFit (setR r0 false true false)) (hc : RcIn w lo hi (setR r0 false true false) A) :
    Calls Try.prog 46 #[rcV (setR r0 false true false) A] w fun e w' => e = .returned (.bool (rcB (setR r0 false true false))) ∧ Below w.heap.size w w' := by
  have HF := hid hf
  have HC := hid hc
  have y1 := hf.yn
  have y2 := hf.bn
  have y3 := hf.an
  have y4 := hf.hn
  have y5 := hf.wn
  clear hf hc
  have mark : Nat := 0
  obtain ⟨b0, h0⟩ : ∃ b, inB (setR r0 false true false).of 1 5 = b := ⟨_, rfl⟩
  obtain ⟨b1, h1⟩ : ∃ b, inB (setR r0 false true false).num 1 (setR r0 false true false).of = b := ⟨_, rfl⟩
  obtain ⟨b2, h2⟩ : ∃ b, dkB (setR r0 false true false).sf = b := ⟨_, rfl⟩
  obtain ⟨b3, h3⟩ : ∃ b, dkB (setR r0 false true false).dk = b := ⟨_, rfl⟩
  obtain ⟨b5, h5⟩ : ∃ b, wishesB (setR r0 false true false).wn (setR r0 false true false).ws = b := ⟨_, rfl⟩
  obtain ⟨b6, h6⟩ : ∃ b, inB (setR r0 false true false).hd 0 1000000 = b := ⟨_, rfl⟩
  obtain ⟨b7, h7⟩ : ∃ b, numB (setR r0 false true false).of (setR r0 false true false).yn (setR r0 false true false).ys = b := ⟨_, rfl⟩
  obtain ⟨b8, h8⟩ : ∃ b, slsB (setR r0 false true false).bn (setR r0 false true false).bs = b := ⟨_, rfl⟩
  obtain ⟨b9, h9⟩ : ∃ b, aksB (setR r0 false true false).of (setR r0 false true false).an (setR r0 false true false).as_ = b := ⟨_, rfl⟩
  obtain ⟨b10, h10⟩ : ∃ b, inB (setR r0 false true false).bal 1 (setR r0 false true false).dk.pr = b := ⟨_, rfl⟩
  have HR := hid (show rcB (setR r0 false true false) = (!(false && true) && ((b0 && b1) && (b2 && (b3 && (heldB (setR r0 false true false) && (b5 && (b6 && (b7 && (b8 && (b9 && (roleB (setR r0 false true false) && (false || bareB (setR r0 false true false))))))))))))) by rw [← h0, ← h1, ← h2, ← h3, ← h5, ← h6, ← h7, ← h8, ← h9]; rfl)
  generalize rcB (setR r0 false true false) = RB at *
  cases b0
  · go_enter Try.func46, Try.ntmps46
    go_wp2_with (first | ((with_reducible show wpList _ _ _ (⟨some 4, _, _, _, _, _⟩ :: _) _ _); clear mark; have hB0 := below_alloc w (.cells (rcC (setR r0 false true false) A) 58); have H0 := holds_new w (rcC (setR r0 false true false) A) 58; have hz0 : w.heap.size < (w.alloc (.cells (rcC (setR r0 false true false) A) 58)).heap.size := (by simp); generalize w.alloc (.cells (rcC (setR r0 false true false) A) 58) = W at *; obtain ⟨p0, p1, p2, p3, p4, p5, p6, p7, p8, p9, p10, p11, p12, p13, p14, p15, p16, p17⟩ := holds18 H0) | (go_at_call 30; refine (in_any _ _ _ _).mono ?_; rintro e w0' ⟨rfl, hq⟩; replace hq := hq.symm; subst hq; first | rw [h0] | rw [h1] | rw [h6] | rw [h10]))
    go_ret
    exact ⟨ret_bool (by rw [HR.out]; simp), hB0⟩
  cases b1
  · go_enter Try.func46, Try.ntmps46
    go_wp2_with (first | ((with_reducible show wpList _ _ _ (⟨some 4, _, _, _, _, _⟩ :: _) _ _); clear mark; have hB0 := below_alloc w (.cells (rcC (setR r0 false true false) A) 58); have H0 := holds_new w (rcC (setR r0 false true false) A) 58; have hz0 : w.heap.size < (w.alloc (.cells (rcC (setR r0 false true false) A) 58)).heap.size := (by simp); generalize w.alloc (.cells (rcC (setR r0 false true false) A) 58) = W at *; obtain ⟨p0, p1, p2, p3, p4, p5, p6, p7, p8, p9, p10, p11, p12, p13, p14, p15, p16, p17⟩ := holds18 H0) | (go_at_call 30; refine (in_any _ _ _ _).mono ?_; rintro e w0' ⟨rfl, hq⟩; replace hq := hq.symm; subst hq; first | rw [h0] | rw [h1] | rw [h6] | rw [h10]))
    go_ret
    exact ⟨ret_bool (by rw [HR.out]; simp), hB0⟩
  go_enter Try.func46, Try.ntmps46
  go_wp2_with (first | ((with_reducible show wpList _ _ _ (⟨some 4, _, _, _, _, _⟩ :: _) _ _); clear mark; have hB0 := below_alloc w (.cells (rcC (setR r0 false true false) A) 58); have H0 := holds_new w (rcC (setR r0 false true false) A) 58; have hz0 : w.heap.size < (w.alloc (.cells (rcC (setR r0 false true false) A) 58)).heap.size := (by simp); generalize w.alloc (.cells (rcC (setR r0 false true false) A) 58) = W at *; obtain ⟨p0, p1, p2, p3, p4, p5, p6, p7, p8, p9, p10, p11, p12, p13, p14, p15, p16, p17⟩ := holds18 H0) | (go_at_call 30; refine (in_any _ _ _ _).mono ?_; rintro e w0' ⟨rfl, hq⟩; replace hq := hq.symm; subst hq; first | rw [h0] | rw [h1] | rw [h6] | rw [h10]))
  refine (specDisk_any (setR r0 false true false).sf A.sa A.sc W lo hi (Nat.le_trans hhi hB0.size) HF.out.sf (HC.out.below hB0 hhi).sf).mono ?_
  rintro e w1 ⟨rfl, hbw1⟩
  rw [h2]
  clear p0 p1 p2 p3 p4 p5 p6 p7 p8 p9 p10 p11 p12 p13 p14 p15 p16 p17
  have hBw1 : Below w.heap.size w w1 := hB0.trans (hbw1.mono hB0.size)
  have Hw1 : Holds w1 w.heap.size (rcC (setR r0 false true false) A) := H0.below hbw1 hz0
  have hzw1 : w.heap.size < w1.heap.size := Nat.lt_of_lt_of_le hz0 hbw1.size
  clear hbw1 H0
  obtain ⟨p0, p1, p2, p3, p4, p5, p6, p7, p8, p9, p10, p11, p12, p13, p14, p15, p16, p17⟩ := holds18 Hw1
  cases b2
  · go_wp2
    go_ret
    exact ⟨ret_bool (by rw [HR.out]; simp), hBw1⟩
  go_wp2_with fail
  refine (specDisk_any (setR r0 false true false).dk A.da A.dc w1 lo hi (Nat.le_trans hhi hBw1.size) HF.out.dk (HC.out.below hBw1 hhi).dk).mono ?_
  rintro e w2 ⟨rfl, hbw2⟩
  rw [h3]
  clear p0 p1 p2 p3 p4 p5 p6 p7 p8 p9 p10 p11 p12 p13 p14 p15 p16 p17
  have hBw2 : Below w.heap.size w w2 := hBw1.trans (hbw2.mono hBw1.size)
  have Hw2 : Holds w2 w.heap.size (rcC (setR r0 false true false) A) := Hw1.below hbw2 hzw1
  have hzw2 : w.heap.size < w2.heap.size := Nat.lt_of_lt_of_le hzw1 hbw2.size
  clear hbw2 Hw1
  obtain ⟨p0, p1, p2, p3, p4, p5, p6, p7, p8, p9, p10, p11, p12, p13, p14, p15, p16, p17⟩ := holds18 Hw2
  cases b3
  · go_wp2
    go_ret
    exact ⟨ret_bool (by rw [HR.out]; simp), hBw2⟩
  by_cases h4 : (setR r0 false true false).hn ≤ 400
  rotate_left
  · have HX := hid (show heldB (setR r0 false true false) = false by simp [heldB, h4])
    go_wp2
    go_ret
    exact ⟨ret_bool (by rw [HR.out, HX.out]; simp), hBw2⟩
  go_wp2_with fail
  refine (wishesS_any (setR r0 false true false).wn (setR r0 false true false).ws A.wa A.wc w2 lo hi HF.out.wn HF.out.ws (HC.out.below hBw2 hhi).ws).mono ?_
  rintro e w3 ⟨rfl, q3, he3⟩
  have hbw3 : Below w2.heap.size w2 w3 := by rw [he3]; exact below_drewN' _ _
  rw [h5]
  clear p0 p1 p2 p3 p4 p5 p6 p7 p8 p9 p10 p11 p12 p13 p14 p15 p16 p17 he3
  have hBw3 : Below w.heap.size w w3 := hBw2.trans (hbw3.mono hBw2.size)
  have Hw3 : Holds w3 w.heap.size (rcC (setR r0 false true false) A) := Hw2.below hbw3 hzw2
  have hzw3 : w.heap.size < w3.heap.size := Nat.lt_of_lt_of_le hzw2 hbw3.size
  clear hbw3 Hw2
  obtain ⟨p0, p1, p2, p3, p4, p5, p6, p7, p8, p9, p10, p11, p12, p13, p14, p15, p16, p17⟩ := holds18 Hw3
  cases b5
  · go_wp2
    go_ret
    exact ⟨ret_bool (by rw [HR.out]; simp), hBw3⟩
  cases b6
  · go_wp2_with (first | (go_at_call 30; refine (in_any _ _ _ _).mono ?_; rintro e w0' ⟨rfl, hq⟩; replace hq := hq.symm; subst hq; first | rw [h0] | rw [h1] | rw [h6] | rw [h10]))
    go_ret
    exact ⟨ret_bool (by rw [HR.out]; simp), hBw3⟩
  go_wp2_with (first | (go_at_call 30; refine (in_any _ _ _ _).mono ?_; rintro e w0' ⟨rfl, hq⟩; replace hq := hq.symm; subst hq; first | rw [h0] | rw [h1] | rw [h6] | rw [h10]))
  clear p0 p1 p2 p3 p4 p5 p6 p7 p8 p9 p10 p11 p12 p13 p14 p15 p16 p17
  go_loopw [3] (fun i wr => ∃ k : Nat, k ≤ (setR r0 false true false).hn ∧ i = .int .i64 k ∧ Below w3.heap.size w3 wr ∧ Hid (∀ j, j < k → oneB (setR r0 false true false) j = true)) (fun i _ => (setR r0 false true false).hn - (intOf i).toNat)
  case atStart => exact ⟨0, Nat.zero_le _, rfl, Below.refl _ _, fun j hj => absurd hj (Nat.not_lt_zero _)⟩
  case round =>
    obtain ⟨k, hk, rfl, hb, HA⟩ := hrel
    have HB := hid (hBw3.trans (hb.mono hBw3.size))
    obtain ⟨p0, p1, p2, p3, p4, p5, p6, p7, p8, p9, p10, p11, p12, p13, p14, p15, p16, p17⟩ := holds18 (Hw3.below hb hzw3)
    have hww : w.heap.size < wr.heap.size := Nat.lt_of_lt_of_le hzw3 hb.size
    by_cases hkn : k < (setR r0 false true false).hn
    · obtain ⟨b, off, ah, ch, e, hlo, hbh, hcx, hs⟩ := HC.out.hs k hkn
      have hs1 := hs.below HB.out hhi
      obtain ⟨d0, d1, d2, d3, d4, d5, d6, d7⟩ := hcx.below HB.out (by omega)
      have hfk := HF.out.hs k hkn
      have hbw : b < wr.heap.size := by have := HB.out.size; omega
      have hw1 : ∀ u : GW wr, hi ≤ u.val.heap.size := fun u => Nat.le_trans hhi (Nat.le_trans HB.out.size u.prop.size)
      have hs2 : ∀ u : GW wr, SlsIn u.val lo hi ah ((setR r0 false true false).hs k).n ((setR r0 false true false).hs k).s := fun u => hs1.below u.prop (Nat.le_trans hhi HB.out.size)
      rw [e] at p9
      have hne : Nonempty (GW wr) := ⟨⟨wr, Below.refl _ _⟩⟩
      have q0 := subcell p0 hww
      have q1 := subcell p1 hww
      have q9 := subcell p9 hww
      have e0 := subcell d0 hbw
      have e1 := subcell d1 hbw
      have e2 := subcell d2 hbw
      have e3 := subcell d3 hbw
      have e4 := subcell d4 hbw
      have e5 := subcell d5 hbw
      have e6 := subcell d6 hbw
      have e7 := subcell d7 hbw
      clear hcx hs p0 p1 p2 p3 p4 p5 p6 p7 p8 p10 p11 p12 p13 p14 p15 p16 p17 d0 d1 d2 d3 d4 d5 d6 d7 e
      cases g2 : msB ((setR r0 false true false).hs k) (setR r0 false true false).of with
      | false =>
        have HX := hid (heldB_no hkn (by rw [oneB, g2]; simp))
        go_wp2
        refine wp_region_grow (by kernel_rfl) (by kernel_rfl) ?_
        repeat (first | (go_big_quiet_step ((go_at_call 47; go_must (exact grow_of (specMessage_any ((setR r0 false true false).hs k) (setR r0 false true false).of ah ch _ lo hi (hw1 _) hfk (hs2 _)))))) | (refine wpQuiet_step (fun K hK => ?_); go_simp; refine hK _ ?_; clear hK K))
        refine wpQuiet_nil ?_
        rintro w5 ⟨u, hu⟩
        have hw5 : Below wr.heap.size wr w5 := hu ▸ u.prop
        clear hu u
        go_wp2
        go_ret
        exact ⟨ret_bool (by rw [HR.out, HX.out]; simp), HB.out.trans (hw5.mono HB.out.size)⟩
      | true =>
        cases g1 : (((setR r0 false true false).hs k).from_ != (setR r0 false true false).num) with
        | true =>
          have HX := hid (heldB_no hkn (by rw [oneB, g1]; rfl))
          go_wp2
          refine wp_region_grow (by kernel_rfl) (by kernel_rfl) ?_
          repeat (first | (go_big_quiet_step ((go_at_call 47; go_must (exact grow_of (specMessage_any ((setR r0 false true false).hs k) (setR r0 false true false).of ah ch _ lo hi (hw1 _) hfk (hs2 _)))))) | (refine wpQuiet_step (fun K hK => ?_); go_simp; refine hK _ ?_; clear hK K))
          refine wpQuiet_nil ?_
          rintro w5 ⟨u, hu⟩
          have hw5 : Below wr.heap.size wr w5 := hu ▸ u.prop
          clear hu u
          go_wp2
          go_ret
          exact ⟨ret_bool (by rw [HR.out, HX.out]; simp), HB.out.trans (hw5.mono HB.out.size)⟩
        | false =>
          have HN := hid (show oneB (setR r0 false true false) k = true by rw [oneB, g1, g2]; rfl)
          go_wp2
          refine wp_region_grow (by kernel_rfl) (by kernel_rfl) ?_
          repeat (first | (go_big_quiet_step ((go_at_call 47; go_must (exact grow_of (specMessage_any ((setR r0 false true false).hs k) (setR r0 false true false).of ah ch _ lo hi (hw1 _) hfk (hs2 _)))))) | (refine wpQuiet_step (fun K hK => ?_); go_simp; refine hK _ ?_; clear hK K))
          refine wpQuiet_nil ?_
          rintro w5 ⟨u, hu⟩
          have hw5 : Below wr.heap.size wr w5 := hu ▸ u.prop
          clear hu u
          go_wp2
          go_roundw
          case rel => exact ⟨k + 1, by omega, by go_num, hb.trans (hw5.mono hb.size), fun j hj => by
            by_cases e : j = k
            · rw [e]; exact HN.out
            · exact HA.out j (by omega)⟩
          case measure => simp [intOf]; omega
    · have hkn' : ¬ k < r0.hn := hkn
      have HX := hid (@heldB_yes (setR r0 false true false) h4 (fun i hi => HA.out i (by have hi' : i < r0.hn := hi; omega)))
      have hB4 := HB.out
      have H4 := Hw3.below hb hzw3
      have hz4 := hww
      clear hb Hw3
      go_wp2_with fail
      refine (numbersS_any (setR r0 false true false).of (setR r0 false true false).yn (setR r0 false true false).ys A.ya A.yc wr lo hi (Int.le_trans y1 (by omega)) (HC.out.below hB4 hhi).ys).mono ?_
      rintro e w5 ⟨rfl, q5, he5⟩
      have hbw5 : Below wr.heap.size wr w5 := by rw [he5]; exact below_drewN' _ _
      rw [h7]
      clear p0 p1 p2 p3 p4 p5 p6 p7 p8 p9 p10 p11 p12 p13 p14 p15 p16 p17 he5
      have hBw5 : Below w.heap.size w w5 := hB4.trans (hbw5.mono hB4.size)
      have Hw5 : Holds w5 w.heap.size (rcC (setR r0 false true false) A) := H4.below hbw5 hz4
      have hzw5 : w.heap.size < w5.heap.size := Nat.lt_of_lt_of_le hz4 hbw5.size
      clear hbw5 H4
      obtain ⟨p0, p1, p2, p3, p4, p5, p6, p7, p8, p9, p10, p11, p12, p13, p14, p15, p16, p17⟩ := holds18 Hw5
      cases b7
      · go_wp2
        go_ret
        exact ⟨ret_bool (by rw [HR.out]; simp), hBw5⟩
      go_wp2_with fail
      refine (slotsOkS_any (setR r0 false true false).bn (setR r0 false true false).bs A.ba A.bc w5 lo hi (Nat.le_trans hhi hBw5.size) HF.out.bn HF.out.bs (HC.out.below hBw5 hhi).bs).mono ?_
      rintro e w6 ⟨rfl, hbw6⟩
      rw [h8]
      clear p0 p1 p2 p3 p4 p5 p6 p7 p8 p9 p10 p11 p12 p13 p14 p15 p16 p17
      have hBw6 : Below w.heap.size w w6 := hBw5.trans (hbw6.mono hBw5.size)
      have Hw6 : Holds w6 w.heap.size (rcC (setR r0 false true false) A) := Hw5.below hbw6 hzw5
      have hzw6 : w.heap.size < w6.heap.size := Nat.lt_of_lt_of_le hzw5 hbw6.size
      clear hbw6 Hw5
      obtain ⟨p0, p1, p2, p3, p4, p5, p6, p7, p8, p9, p10, p11, p12, p13, p14, p15, p16, p17⟩ := holds18 Hw6
      cases b8
      · go_wp2
        go_ret
        exact ⟨ret_bool (by rw [HR.out]; simp), hBw6⟩
      go_wp2_with fail
      refine (acksS_any (setR r0 false true false).of (setR r0 false true false).an (setR r0 false true false).as_ A.aa A.ac w6 lo hi (Int.le_trans y3 (by omega)) (fun i h => by have := (HF.out.as_ i h).n; omega) (HC.out.below hBw6 hhi).as_).mono ?_
      rintro e w7 ⟨rfl, q7, he7⟩
      have hbw7 : Below w6.heap.size w6 w7 := by rw [he7]; exact below_drewN' _ _
      rw [h9]
      clear p0 p1 p2 p3 p4 p5 p6 p7 p8 p9 p10 p11 p12 p13 p14 p15 p16 p17 he7
      have hBw7 : Below w.heap.size w w7 := hBw6.trans (hbw7.mono hBw6.size)
      have Hw7 : Holds w7 w.heap.size (rcC (setR r0 false true false) A) := Hw6.below hbw7 hzw6
      have hzw7 : w.heap.size < w7.heap.size := Nat.lt_of_lt_of_le hzw6 hbw7.size
      clear hbw7 Hw6
      have HRG : Hid (w7.rangeAt w.heap.size 0 (rcC (setR r0 false true false) A).toList) := hid (Holds.range (cs := (rcC (setR r0 false true false) A).toList) Hw7)
      obtain ⟨p0, p1, p2, p3, p4, p5, p6, p7, p8, p9, p10, p11, p12, p13, p14, p15, p16, p17⟩ := holds18 Hw7
      cases b9
      · go_wp2
        go_ret
        exact ⟨ret_bool (by rw [HR.out]; simp), hBw7⟩
      have HRL := hid (show roleB (setR r0 false true false) = (b10 && (((setR r0 false true false).an : Int) == 0)) by rw [← h10]; rfl)
      cases b10
      · go_wp2_with (first | (go_at_call 30; refine (in_any _ _ _ _).mono ?_; rintro e w0' ⟨rfl, hq⟩; replace hq := hq.symm; subst hq; first | rw [h0] | rw [h1] | rw [h6] | rw [h10]))
        go_ret
        exact ⟨ret_bool (by rw [HR.out, HRL.out]; simp), hBw7⟩
      have hqq : quietS (setR r0 false true false) = false := rfl
      have HBR := hid (show bareB (setR r0 false true false) = false from rfl)
      by_cases hz : (r0.an : Int) ≤ 0
      rotate_left
      · have HZ := hid (show (((setR r0 false true false).an : Int) == 0) = false by simp; omega)
        go_wp2_with (first | (go_at_call 30; refine (in_any _ _ _ _).mono ?_; rintro e w0' ⟨rfl, hq⟩; replace hq := hq.symm; subst hq; first | rw [h0] | rw [h1] | rw [h6] | rw [h10]))
        go_ret
        exact ⟨ret_bool (by rw [HR.out, HRL.out, HZ.out]; simp), hBw7⟩
      have HZ := hid (show (((setR r0 false true false).an : Int) == 0) = true by simp; omega)
      go_wp2_with (first | (go_at_call 30; refine (in_any _ _ _ _).mono ?_; rintro e w0' ⟨rfl, hq⟩; replace hq := hq.symm; subst hq; first | rw [h0] | rw [h1] | rw [h6] | rw [h10]) | ((with_reducible show wpList _ _ _ (⟨some 141, _, _, _, _, _⟩ :: _) _ _); clear hz; rename (r0.an = 0) => hz9; clear hz9) | ((with_reducible show wpList _ _ _ (⟨some 144, Op.load 58 _, _, _, _, _⟩ :: _) _ _); refine wpList_load_want ?hw 58 _ rfl w.heap.size 0 rfl (rcC (setR r0 false true false) A).toList _ HRG.out Try.underlying58 rfl Try.sz58 ?_; (case hw => (go_simp; done))) | (go_at_call 93; refine (quietS_any (setR r0 false true false) A _ y1 y2 y3).mono ?_; rintro e w8 ⟨rfl, hbw8⟩; rw [hqq]; have H8 := Hw7.below hbw8 hzw7; have HRG8 : Hid (w8.rangeAt w.heap.size 0 (rcC (setR r0 false true false) A).toList) := hid (World.rangeAt_below HRG.out hbw8 hzw7); have hB8 : Below w.heap.size w w8 := hBw7.trans (hbw8.mono hBw7.size); have hz8 : w.heap.size < w8.heap.size := Nat.lt_of_lt_of_le hzw7 hbw8.size; clear hbw8 Hw7 HRG p0 p1 p2 p3 p4 p5 p6 p7 p8 p9 p10 p11 p12 p13 p14 p15 p16 p17; obtain ⟨p0, p1, p2, p3, p4, p5, p6, p7, p8, p9, p10, p11, p12, p13, p14, p15, p16, p17⟩ := holds18 H8))
      go_ret
      exact ⟨ret_bool (by rw [HR.out, HBR.out]; simp), hB8⟩
end Go.Proofs.Ytjepponnhieocaa
