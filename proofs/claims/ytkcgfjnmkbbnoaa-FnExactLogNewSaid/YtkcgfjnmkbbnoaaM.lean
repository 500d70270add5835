import Derived.Test.YtkcgfjnmkbbnoaaL
namespace Go.Proofs.Ytkcgfjnmkbbnoaa
open Go.RowKit
set_option maxRecDepth 100000 in
set_option maxHeartbeats 4000000 in
theorem eqRc_any (r : Rc) (A A2 : RcA) (w : World) (lo hi lo2 hi2 : Nat) (hhi : hi ≤ w.heap.size) (hhi2 : hi2 ≤ w.heap.size) (hf : RcFit r) (hc : RcIn w lo hi r A) (hc2 : RcIn w lo2 hi2 r A2) :
    Calls Try.prog 37 #[rcV r A, rcV r A2] w fun e w' => e = .returned (.bool true) ∧ Below w.heap.size w w' := by
  have HF := hid hf
  have HI := hid hc
  have HJ := hid hc2
  clear hf hc hc2
  have hB0 : Below w.heap.size w ((w.alloc (.cells (rcC r A) 47)).alloc (.cells (rcC r A2) 47)) := (below_alloc _ _).alloc (by simp) _
  have H0 : Holds ((w.alloc (.cells (rcC r A) 47)).alloc (.cells (rcC r A2) 47)) w.heap.size (rcC r A) := (holds_new w (rcC r A) 47).below (below_alloc _ _) (by simp)
  have K0 : Holds ((w.alloc (.cells (rcC r A) 47)).alloc (.cells (rcC r A2) 47)) (w.heap.size + 1) (rcC r A2) := by
    have := holds_new (w.alloc (.cells (rcC r A) 47)) (rcC r A2) 47
    rw [World.size_alloc] at this
    exact this
  have hz0 : w.heap.size + 1 < ((w.alloc (.cells (rcC r A) 47)).alloc (.cells (rcC r A2) 47)).heap.size := by simp
  go_enter Try.func37, Try.ntmps37
  have c1 := eqDk_any r.sf A.sa A2.sa A.sc A2.sc ((w.alloc (.cells (rcC r A) 47)).alloc (.cells (rcC r A2) 47)) lo hi lo2 hi2 (Nat.le_trans hhi hB0.size) (Nat.le_trans hhi2 hB0.size) (by have := HF.out.sf.n; omega) (HI.out.below hB0 hhi).sf (HJ.out.below hB0 hhi2).sf
  go_wp2_with fail
  refine c1.mono ?_
  clear c1
  rintro e w1 ⟨rfl, hb1⟩
  have hB1 : Below w.heap.size w w1 := hB0.trans (hb1.mono hB0.size)
  have H1 : Holds w1 w.heap.size (rcC r A) := H0.below hb1 (Nat.lt_of_succ_lt hz0)
  have K1 : Holds w1 (w.heap.size + 1) (rcC r A2) := K0.below hb1 hz0
  have hz1 : w.heap.size + 1 < w1.heap.size := Nat.lt_of_lt_of_le hz0 hb1.size
  clear hb1 H0 K0
  have c2 := eqDk_any r.dk A.da A2.da A.dc A2.dc w1 lo hi lo2 hi2 (Nat.le_trans hhi hB1.size) (Nat.le_trans hhi2 hB1.size) (by have := HF.out.dk.n; omega) (HI.out.below hB1 hhi).dk (HJ.out.below hB1 hhi2).dk
  obtain ⟨p0, p1, p2, p3, p4, p5, p6, p7, p8, p9, p10, p11, p12, p13, p14, p15, p16, p17⟩ := holds18 H1
  obtain ⟨q0, q1, q2, q3, q4, q5, q6, q7, q8, q9, q10, q11, q12, q13, q14, q15, q16, q17⟩ := holds18 K1
  go_wp2_with fail
  refine c2.mono ?_
  clear c2
  rintro e w2 ⟨rfl, hb2⟩
  clear p0 p1 p2 p3 p4 p5 p6 p7 p8 p9 p10 p11 p12 p13 p14 p15 p16 p17 q0 q1 q2 q3 q4 q5 q6 q7 q8 q9 q10 q11 q12 q13 q14 q15 q16 q17
  have hB2 : Below w.heap.size w w2 := hB1.trans (hb2.mono hB1.size)
  have H2 : Holds w2 w.heap.size (rcC r A) := H1.below hb2 (Nat.lt_of_succ_lt hz1)
  have K2 : Holds w2 (w.heap.size + 1) (rcC r A2) := K1.below hb2 hz1
  have hz2 : w.heap.size + 1 < w2.heap.size := Nat.lt_of_lt_of_le hz1 hb2.size
  clear hb2 H1 K1
  have c3 := eqMss_any r.hn r.hs A.ha A2.ha A.hc A2.hc w2 lo hi lo2 hi2 (Nat.le_trans hhi hB2.size) (Nat.le_trans hhi2 hB2.size) (by have := HF.out.hn; omega) (fun i h => by have := (HF.out.hs i h).n; omega) (HI.out.below hB2 hhi).hs (HJ.out.below hB2 hhi2).hs
  obtain ⟨p0, p1, p2, p3, p4, p5, p6, p7, p8, p9, p10, p11, p12, p13, p14, p15, p16, p17⟩ := holds18 H2
  obtain ⟨q0, q1, q2, q3, q4, q5, q6, q7, q8, q9, q10, q11, q12, q13, q14, q15, q16, q17⟩ := holds18 K2
  go_wp2_with fail
  refine c3.mono ?_
  clear c3
  rintro e w3 ⟨rfl, hb3⟩
  clear p0 p1 p2 p3 p4 p5 p6 p7 p8 p9 p10 p11 p12 p13 p14 p15 p16 p17 q0 q1 q2 q3 q4 q5 q6 q7 q8 q9 q10 q11 q12 q13 q14 q15 q16 q17
  have hB3 : Below w.heap.size w w3 := hB2.trans (hb3.mono hB2.size)
  have H3 : Holds w3 w.heap.size (rcC r A) := H2.below hb3 (Nat.lt_of_succ_lt hz2)
  have K3 : Holds w3 (w.heap.size + 1) (rcC r A2) := K2.below hb3 hz2
  have hz3 : w.heap.size + 1 < w3.heap.size := Nat.lt_of_lt_of_le hz2 hb3.size
  clear hb3 H2 K2
  have c4 := eqStrs_any r.wn r.ws A.wa A2.wa A.wc A2.wc w3 lo hi lo2 hi2 (by have := HF.out.wn; omega) (HI.out.below hB3 hhi).ws (HJ.out.below hB3 hhi2).ws
  obtain ⟨p0, p1, p2, p3, p4, p5, p6, p7, p8, p9, p10, p11, p12, p13, p14, p15, p16, p17⟩ := holds18 H3
  obtain ⟨q0, q1, q2, q3, q4, q5, q6, q7, q8, q9, q10, q11, q12, q13, q14, q15, q16, q17⟩ := holds18 K3
  go_wp2_with fail
  refine c4.mono ?_
  clear c4
  rintro e w4 ⟨rfl, q, he4⟩
  have hb4 : Below w3.heap.size w3 w4 := by rw [he4]; exact below_drewN' _ _
  clear he4
  clear p0 p1 p2 p3 p4 p5 p6 p7 p8 p9 p10 p11 p12 p13 p14 p15 p16 p17 q0 q1 q2 q3 q4 q5 q6 q7 q8 q9 q10 q11 q12 q13 q14 q15 q16 q17
  have hB4 : Below w.heap.size w w4 := hB3.trans (hb4.mono hB3.size)
  have H4 : Holds w4 w.heap.size (rcC r A) := H3.below hb4 (Nat.lt_of_succ_lt hz3)
  have K4 : Holds w4 (w.heap.size + 1) (rcC r A2) := K3.below hb4 hz3
  have hz4 : w.heap.size + 1 < w4.heap.size := Nat.lt_of_lt_of_le hz3 hb4.size
  clear hb4 H3 K3
  have c5 := eqInts_any r.yn r.ys A.ya A2.ya A.yc A2.yc w4 lo hi lo2 hi2 (by have := HF.out.yn; omega) (HI.out.below hB4 hhi).ys (HJ.out.below hB4 hhi2).ys
  obtain ⟨p0, p1, p2, p3, p4, p5, p6, p7, p8, p9, p10, p11, p12, p13, p14, p15, p16, p17⟩ := holds18 H4
  obtain ⟨q0, q1, q2, q3, q4, q5, q6, q7, q8, q9, q10, q11, q12, q13, q14, q15, q16, q17⟩ := holds18 K4
  go_wp2_with fail
  refine c5.mono ?_
  clear c5
  rintro e w5 ⟨rfl, q, he5⟩
  have hb5 : Below w4.heap.size w4 w5 := by rw [he5]; exact below_drewN' _ _
  clear he5
  clear p0 p1 p2 p3 p4 p5 p6 p7 p8 p9 p10 p11 p12 p13 p14 p15 p16 p17 q0 q1 q2 q3 q4 q5 q6 q7 q8 q9 q10 q11 q12 q13 q14 q15 q16 q17
  have hB5 : Below w.heap.size w w5 := hB4.trans (hb5.mono hB4.size)
  have H5 : Holds w5 w.heap.size (rcC r A) := H4.below hb5 (Nat.lt_of_succ_lt hz4)
  have K5 : Holds w5 (w.heap.size + 1) (rcC r A2) := K4.below hb5 hz4
  have hz5 : w.heap.size + 1 < w5.heap.size := Nat.lt_of_lt_of_le hz4 hb5.size
  clear hb5 H4 K4
  have c6 := eqSls_any r.bn r.bs A.ba A2.ba A.bc A2.bc w5 lo hi lo2 hi2 (Nat.le_trans hhi hB5.size) (Nat.le_trans hhi2 hB5.size) (by have := HF.out.bn; omega) (HI.out.below hB5 hhi).bs (HJ.out.below hB5 hhi2).bs
  obtain ⟨p0, p1, p2, p3, p4, p5, p6, p7, p8, p9, p10, p11, p12, p13, p14, p15, p16, p17⟩ := holds18 H5
  obtain ⟨q0, q1, q2, q3, q4, q5, q6, q7, q8, q9, q10, q11, q12, q13, q14, q15, q16, q17⟩ := holds18 K5
  go_wp2_with fail
  refine c6.mono ?_
  clear c6
  rintro e w6 ⟨rfl, hb6⟩
  clear p0 p1 p2 p3 p4 p5 p6 p7 p8 p9 p10 p11 p12 p13 p14 p15 p16 p17 q0 q1 q2 q3 q4 q5 q6 q7 q8 q9 q10 q11 q12 q13 q14 q15 q16 q17
  have hB6 : Below w.heap.size w w6 := hB5.trans (hb6.mono hB5.size)
  have H6 : Holds w6 w.heap.size (rcC r A) := H5.below hb6 (Nat.lt_of_succ_lt hz5)
  have K6 : Holds w6 (w.heap.size + 1) (rcC r A2) := K5.below hb6 hz5
  have hz6 : w.heap.size + 1 < w6.heap.size := Nat.lt_of_lt_of_le hz5 hb6.size
  clear hb6 H5 K5
  have c7 := eqAks_any r.an r.as_ A.aa A2.aa A.ac A2.ac w6 lo hi lo2 hi2 (Nat.le_trans hhi hB6.size) (Nat.le_trans hhi2 hB6.size) (by have := HF.out.an; omega) (fun i h => by have := (HF.out.as_ i h).n; omega) (HI.out.below hB6 hhi).as_ (HJ.out.below hB6 hhi2).as_
  obtain ⟨p0, p1, p2, p3, p4, p5, p6, p7, p8, p9, p10, p11, p12, p13, p14, p15, p16, p17⟩ := holds18 H6
  obtain ⟨q0, q1, q2, q3, q4, q5, q6, q7, q8, q9, q10, q11, q12, q13, q14, q15, q16, q17⟩ := holds18 K6
  go_wp2_with fail
  refine c7.mono ?_
  clear c7
  rintro e w7 ⟨rfl, hb7⟩
  clear p0 p1 p2 p3 p4 p5 p6 p7 p8 p9 p10 p11 p12 p13 p14 p15 p16 p17 q0 q1 q2 q3 q4 q5 q6 q7 q8 q9 q10 q11 q12 q13 q14 q15 q16 q17
  have hB7 : Below w.heap.size w w7 := hB6.trans (hb7.mono hB6.size)
  have H7 : Holds w7 w.heap.size (rcC r A) := H6.below hb7 (Nat.lt_of_succ_lt hz6)
  have K7 : Holds w7 (w.heap.size + 1) (rcC r A2) := K6.below hb7 hz6
  have hz7 : w.heap.size + 1 < w7.heap.size := Nat.lt_of_lt_of_le hz6 hb7.size
  clear hb7 H6 K6
  obtain ⟨p0, p1, p2, p3, p4, p5, p6, p7, p8, p9, p10, p11, p12, p13, p14, p15, p16, p17⟩ := holds18 H7
  obtain ⟨q0, q1, q2, q3, q4, q5, q6, q7, q8, q9, q10, q11, q12, q13, q14, q15, q16, q17⟩ := holds18 K7
  go_wp2
  go_ret
  exact ⟨rfl, hB7⟩
end Go.Proofs.Ytkcgfjnmkbbnoaa
