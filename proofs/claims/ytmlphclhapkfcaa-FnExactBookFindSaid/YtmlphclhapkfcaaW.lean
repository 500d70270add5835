import Derived.Test.YtmlphclhapkfcaaV
namespace Go.Proofs.Ytmlphclhapkfcaa
open Go.RowKit Go.Maps
theorem fit_of_sz {x : Bk} (h : szBk x ≤ 1048576) : (x.on : Int) ≤ 1048576 ∧ (∀ i, i < x.on → ((x.os i).hn : Int) ≤ 1048576) := by
  unfold szBk at h
  have h1 : szObs x.on x.os ≤ 1048576 := by omega
  unfold szObs at h1
  refine ⟨by omega, fun i hi => ?_⟩
  have h2 := sumTo_mono (fun i => szOb (x.os i)) (show i + 1 ≤ x.on by omega)
  simp only [sumTo, szOb, szStrs] at h2 h1
  omega
theorem fndOb_fit {x : Bk} (h : szBk x ≤ 1048576) (a b : ByteArray) : ((fndOb x.os a b x.on).hn : Int) ≤ 1048576 := by
  unfold fndOb
  cases hf : fnd x.os a b x.on with
  | none => simp [ob0]
  | some i => exact (fit_of_sz h).2 i (fnd_lt hf).1
theorem implFind_y (now floor : Int) (n : Nat) (x : Nat → Ob) (a1 a2 a3 : Option Addr) (c1 n2 c2 n3 c3 : Nat) (ki na : ByteArray) (y : Ob) (fo : Bool) (hy : fndOb x ki na n = y) (hfo : fndIs x ki na n = fo) (hki : ki.size ≤ 1048576) (hna : na.size ≤ 1048576) (w : World) (lo hi : Nat) (hhi : hi ≤ w.heap.size) (hl : (n : Int) ≤ 1099511627776) (hf : ∀ i, i < n → ObFit (x i)) (hc : ObjsIn w lo hi a1 n x) :
    Calls Try.prog 7 #[.agg #[.int .i64 now, .int .i64 floor, .slice a1 n c1, .slice a2 n2 c2, .slice a3 n3 c3], .string ki, .string na] w fun e w' => ∃ ad' cap',
      e = .returned (.tuple #[.agg #[.string y.kind, .string y.name, .int .i64 y.ver, .int .i64 y.born, .string y.text, .bool y.ending, .slice ad' y.hn cap'], .bool fo]) ∧
      StrsOwn w' w.heap.size w'.heap.size ad' y.hn y.hs ∧ Below w.heap.size w w' := by
  subst hy; subst hfo
  exact implFind_any now floor n x a1 a2 a3 c1 n2 c2 n3 c3 ki na hki hna w lo hi hhi hl hf hc
theorem specFind_y (now floor : Int) (n : Nat) (x : Nat → Ob) (a1 a2 a3 : Option Addr) (c1 n2 c2 n3 c3 : Nat) (ki na : ByteArray) (y : Ob) (fo : Bool) (hy : fndOb x ki na n = y) (hfo : fndIs x ki na n = fo) (w : World) (lo hi : Nat) (hhi : hi ≤ w.heap.size) (hl : (n : Int) ≤ 1099511627776) (hf : ∀ i, i < n → ObFit (x i)) (hc : ObjsIn w lo hi a1 n x) :
    Calls Try.prog 5 #[.agg #[.int .i64 now, .int .i64 floor, .slice a1 n c1, .slice a2 n2 c2, .slice a3 n3 c3], .string ki, .string na] w fun e w' => ∃ ad' cap',
      e = .returned (.tuple #[.agg #[.string y.kind, .string y.name, .int .i64 y.ver, .int .i64 y.born, .string y.text, .bool y.ending, .slice ad' y.hn cap'], .bool fo]) ∧
      StrsOwn w' w.heap.size w'.heap.size ad' y.hn y.hs ∧ Below w.heap.size w w' := by
  subst hy; subst hfo
  exact specFind_any now floor n x a1 a2 a3 c1 n2 c2 n3 c3 ki na w lo hi hhi hl hf hc
set_option maxRecDepth 100000 in
set_option maxHeartbeats 4000000 in
theorem law_any (x : Bk) (a1 a2 a3 : Option Addr) (c1 c2 c3 : Nat) (ki na : ByteArray) (w : World) (hf0 : BkFit0 x) (hc : BkIn w 0 w.heap.size x a1 a2 a3) :
    Calls Try.prog 3 #[.agg #[.int .i64 x.now, .int .i64 x.floor, .slice a1 x.on c1, .slice a2 x.hn c2, .slice a3 x.tn c3], .string ki, .string na] w fun e w' => e = .returned (.bool true) ∧ Below w.heap.size w w' := by
  by_cases hk : (1048576 : Int) < ki.size
  · go_enter Try.func3, Try.ntmps3
    go_wp2
    go_ret
    exact ⟨rfl, below_alloc _ _⟩
  by_cases hn : (1048576 : Int) < na.size
  · go_enter Try.func3, Try.ntmps3
    go_wp2
    go_ret
    exact ⟨rfl, below_alloc _ _⟩
  go_enter Try.func3, Try.ntmps3
  go_wp2_with fail
  refine (szBk_any x a1 a2 a3 c1 c2 c3 1048576 _ (by omega) (by omega) 0 w.heap.size (by simp) hf0 (hc.below (below_alloc _ _) (Nat.le_refl _))).mono ?_
  rintro e w1 ⟨rfl, hb1⟩
  have hB1 : Below w.heap.size w w1 := (below_alloc _ _).trans (hb1.mono (by simp))
  have H1 : Holds w1 w.heap.size (bkCells x a1 a2 a3 c1 c2 c3) := (holds_new w _ 26).below hb1 (by simp)
  have hz1 : w.heap.size < w1.heap.size := by have := hb1.size; simp at this; omega
  clear hb1
  by_cases hsz : szOut 1048576 (szBk x) < 0
  · clear H1
    go_wp2
    go_ret
    exact ⟨rfl, hB1⟩
  have hs0 : szBk x ≤ 1048576 := by
    have := (szOut_ge (l := 1048576) (s := szBk x) (by omega)).1
    omega
  have hf : BkFit x := by
    have hs1 := hs0
    unfold szBk szObs szChs szTis at hs1
    exact ⟨by omega, by omega, by omega, hf0.os, hf0.hs, hf0.ts⟩
  clear hf0
  obtain ⟨p0, p1, p2, p3, p4⟩ := holds_bk H1
  go_wp2_with fail
  refine (toBk_any x a1 a2 a3 c1 c2 c3 w1 0 w.heap.size (by omega) hf (hc.below hB1 (Nat.le_refl _))).mono ?_
  rintro e w2 ⟨e1, e2, e3, f1, f2, f3, rfl, ho2, hb2⟩
  have hB2 : Below w.heap.size w w2 := hB1.trans (hb2.mono hB1.size)
  have H2 := H1.below hb2 hz1
  have hz2 := hb2.size
  obtain ⟨y, hy⟩ : ∃ y, fndOb x.os ki na x.on = y := ⟨_, rfl⟩
  obtain ⟨fo, hfo⟩ : ∃ fo, fndIs x.os ki na x.on = fo := ⟨_, rfl⟩
  have hyn : (y.hn : Int) ≤ 1048576 := hy ▸ fndOb_fit hs0 ki na
  have HY := hid hy
  have HFO := hid hfo
  clear p0 p1 p2 p3 p4 hb2 hy hfo H1
  have HX := hid ho2
  clear ho2
  go_wp2_with fail
  refine (specFind_y x.now x.floor x.on x.os _ _ _ f1 x.hn f2 x.tn f3 ki na y fo HY.out HFO.out w2 w1.heap.size w2.heap.size (Nat.le_refl _) hf.o hf.os HX.out.isIn.o).mono ?_
  rintro e w3 ⟨adw, cw, rfl, hw3, hb3⟩
  have hB3 : Below w.heap.size w w3 := hB2.trans (hb3.mono hB2.size)
  have hz3 := hb3.size
  have H3 := H2.below hb3 (by omega)
  obtain ⟨p0, p1, p2, p3, p4⟩ := holds_bk H3
  have HW := hid hw3
  have hzw3 : w.heap.size < w3.heap.size := by omega
  clear hw3 H2 hb3 HX
  go_wp2_with fail
  refine (toBk_any x a1 a2 a3 c1 c2 c3 _ 0 w.heap.size (by simp; omega) hf (hc.below (hB3.alloc hB3.size _) (Nat.le_refl _))).mono ?_
  rintro e w4 ⟨g1, g2, g3, d1, d2, d3, rfl, hx4, hb4⟩
  have V4 : Holds w4 w3.heap.size (obCells y adw cw) := (holds_new w3 _ 30).below hb4 (by simp)
  have W4 : StrsIn w4 w2.heap.size w3.heap.size adw y.hn y.hs := (HW.out.isIn.alloc (Nat.le_refl _) _).below hb4 (by simp)
  have H4 : Holds w4 w.heap.size (bkCells x a1 a2 a3 c1 c2 c3) := (H3.below (below_alloc _ _) (by omega)).below hb4 (by simp; omega)
  have hB4 : Below w.heap.size w w4 := (hB3.alloc hB3.size _).trans (hb4.mono (by simp; omega))
  have hz4 : w3.heap.size < w4.heap.size := by have := hb4.size; simp at this; omega
  simp only [World.size_alloc] at hx4
  have HX := hid hx4
  clear p0 p1 p2 p3 p4 hb4 H3 HW hx4
  go_wp2_with fail
  refine (implFind_y x.now x.floor x.on x.os _ _ _ d1 x.hn d2 x.tn d3 ki na y fo HY.out HFO.out (by omega) (by omega) _ (w3.heap.size + 1) w4.heap.size (by simp) hf.o hf.os (by exact HX.out.isIn.o.below (below_alloc _ _) (Nat.le_refl _))).mono ?_
  rintro e w5 ⟨adg, cg, rfl, hg5, hb5⟩
  have V5 := (V4.below (below_alloc w4 _) hz4).below hb5 (by simp; omega)
  have W5 := (W4.below (below_alloc w4 _) (Nat.le_of_lt hz4)).below hb5 (by simp; omega)
  have H5 := (H4.below (below_alloc w4 _) (by omega)).below hb5 (by simp; omega)
  have X5 : Holds w5 w4.heap.size (bkCells x (some ⟨g1, 0, none⟩) (some ⟨g2, 0, none⟩) (some ⟨g3, 0, none⟩) d1 d2 d3) := (holds_new w4 _ 37).below hb5 (by simp)
  have HX5 := hid ((HX.out.fr (Fr.of_below (lo := 0) (hi := 0) (below_alloc w4 _)) (Or.inr (Nat.zero_le _))).fr (Fr.of_below (lo := 0) (hi := 0) hb5) (Or.inr (Nat.zero_le _)))
  have hB5 : Below w.heap.size w w5 := (hB4.alloc hB4.size _).trans (hb5.mono (by simp; omega))
  have hz5 : w4.heap.size < w5.heap.size := by have := hb5.size; simp at this; omega
  simp only [World.size_alloc] at hg5
  have HG5 := hid hg5
  have hzw5 : w3.heap.size < w5.heap.size := by omega
  obtain ⟨p0, p1, p2, p3, p4, p5, p6⟩ := holds_ob V5
  clear hb5 hg5 HX V4 W4 H4
  go_wp2_with fail
  have S5 : St (w5.alloc (.cells (obCells y adg cg) 30)) w.heap.size x a1 a2 a3 c1 c2 c3 y w2.heap.size w3.heap.size adw cw w4.heap.size g1 g2 g3 d1 d2 d3 w5.heap.size adg cg :=
    ⟨H5.below (below_alloc _ _) (by omega), hc.below (hB5.alloc hB5.size _) (Nat.le_refl _), V5.below (below_alloc _ _) hzw5, W5.below (below_alloc _ _) (by omega), X5.below (below_alloc _ _) hz5, holds_new w5 _ 30, by omega, hz3, by omega, hz5, by simp⟩
  refine (eqOb_any y adg adw cg cw _ (w4.heap.size + 1) w5.heap.size w2.heap.size w3.heap.size (by simp) (by simp; omega) (by omega) (by exact HG5.out.isIn.alloc (Nat.le_refl _) _) (by exact W5.below (below_alloc _ _) (by omega))).mono ?_
  rintro e w6 ⟨rfl, hb6⟩
  have HS6 := hid (St.below S5 hb6)
  have HX6 := hid ((HX5.out.fr (Fr.of_below (lo := 0) (hi := 0) (below_alloc w5 _)) (Or.inr (Nat.zero_le _))).fr (Fr.of_below (lo := 0) (hi := 0) hb6) (Or.inr (Nat.zero_le _)))
  have HG6 := hid ((HG5.out.fr (Fr.of_below (lo := 0) (hi := 0) (below_alloc w5 _)) (Nat.le_refl _) (Or.inr (Nat.zero_le _))).fr (Fr.of_below (lo := 0) (hi := 0) hb6) (by simp) (Or.inr (Nat.zero_le _)))
  have hB6 : Below w.heap.size w w6 := (hB5.alloc hB5.size _).trans (hb6.mono (by simp; omega))
  have hz6 : w5.heap.size < w6.heap.size := by have := hb6.size; simp at this; omega
  clear p0 p1 p2 p3 p4 p5 p6 S5 HX5 HG5 V5 W5 H5 X5 hb6
  have hz3' := hid hz3
  clear hz1 hz2 hz3 hzw3 hzw5
  obtain ⟨p0, p1, p2, p3, p4⟩ := holds_bk HS6.out.bx
  obtain ⟨q0, q1, q2, q3, q4⟩ := holds_bk HS6.out.vx
  go_wp2
  go_region_with (first
    | (go_at_call 6; go_must (refine (toBk_any x a1 a2 a3 c1 c2 c3 _ 0 w.heap.size (by exact hB6.size) hf (by exact HS6.out.arg.below ((Below.refl _ _).drew) (Nat.le_refl _))).mono ?_; rintro e w7 ⟨g1', g2', g3', d1', d2', d3', rfl, hx7, hb70⟩; have hb7 : Below w6.heap.size w6 w7 := ((Below.refl _ _).drew).trans hb70; clear hb70; have HS7 := hid (St.below HS6.out hb7); have HX7 := hid hx7; have hz7 := hb7.size; obtain ⟨r0, r1, r2, r3, r4⟩ := holds_bk HS7.out.vx; have HB7 := hid hb7; clear hx7 hb7))
    | (go_at_call 9; go_must (refine (eqBk_any x _ _ _ _ _ _ d1 d2 d3 d1' d2' d3' _ (w3.heap.size + 1) w4.heap.size w6.heap.size w7.heap.size (by omega) (by exact Nat.le_refl _) hf (by exact (HX6.out.fr (Fr.of_below (lo := 0) (hi := 0) HB7.out) (Or.inr (Nat.zero_le _))).isIn) (by exact HX7.out.isIn)).mono ?_; rintro e w8 ⟨rfl, hb8⟩)))
  all_goals
    have hb78 : Below w6.heap.size w6 w8 := HB7.out.trans (hb8.mono hz7)
    have HS8 := hid (St.below HS6.out hb78)
    have HX8 := hid (HX6.out.fr (Fr.of_below (lo := 0) (hi := 0) hb78) (Or.inr (Nat.zero_le _)))
    have HG8 := hid (HG6.out.fr (Fr.of_below (lo := 0) (hi := 0) hb78) (Nat.le_of_lt hz6) (Or.inr (Nat.zero_le _)))
    have hB8 : Below w.heap.size w w8 := hB6.trans (hb78.mono hB6.size)
    have hz8 : w5.heap.size < w8.heap.size := Nat.lt_of_lt_of_le hz6 hb78.size
    clear p0 p1 p2 p3 p4 q0 q1 q2 q3 q4 r0 r1 r2 r3 r4 HS6 HX6 HG6 HX7 HS7 HB7 hb8 hb78
    obtain ⟨q0, q1, q2, q3, q4⟩ := holds_bk HS8.out.vx
    go_wp2_with fail
    refine (markBk_any x g1 g2 g3 d1 d2 d3 _ (w3.heap.size + 1) w4.heap.size hs0 HX8.out).mono ?_
    rintro e w9 ⟨k9, rfl, hf9⟩
    have HS9 := hid (HS8.out.fr hf9 (Or.inr (Or.inl ⟨Nat.lt_succ_self _, Nat.le_refl _⟩)))
    have HG9 := hid (HG8.out.fr hf9 (Nat.le_of_lt hz8) (Or.inr (Nat.le_succ _)))
    have hB9 : Below w.heap.size w w9 := hB8.trans (hf9.below (by have h1 := HS8.out.o1; have h2 := HS8.out.o2; omega) hB8.size)
    have hz9 : w5.heap.size < w9.heap.size := Nat.lt_of_lt_of_le hz8 hf9.size
    clear q0 q1 q2 q3 q4 HS8 HX8 HG8 hf9 hB8
    obtain ⟨p0, p1, p2, p3, p4, p5, p6⟩ := holds_ob HS9.out.vw
    obtain ⟨q0, q1, q2, q3, q4, q5, q6⟩ := holds_ob HS9.out.vg
    go_wp2_with fail
    refine (eqOb_any y adg adw cg cw _ (w4.heap.size + 1) w5.heap.size w2.heap.size w3.heap.size (by omega) (by omega) (by omega) HG9.out.isIn HS9.out.hw).mono ?_
    rintro e w10 ⟨rfl, hb10⟩
    have HS10 := hid (St.below HS9.out hb10)
    have HG10 := hid (HG9.out.fr (Fr.of_below (lo := 0) (hi := 0) hb10) (Nat.le_of_lt hz9) (Or.inr (Nat.zero_le _)))
    have hB10 : Below w.heap.size w w10 := hB9.trans (hb10.mono hB9.size)
    have hz10 : w5.heap.size < w10.heap.size := Nat.lt_of_lt_of_le hz9 hb10.size
    clear p0 p1 p2 p3 p4 p5 p6 q0 q1 q2 q3 q4 q5 q6 HS9 HG9 hB9 hb10
    obtain ⟨q0, q1, q2, q3, q4, q5, q6⟩ := holds_ob HS10.out.vg
    go_wp2_with fail
    refine (markOb_any y adg cg _ (w4.heap.size + 1) w5.heap.size (by omega) (by omega) HG10.out).mono ?_
    rintro e w11 ⟨rfl, hg11, hf11⟩
    have HS11 := hid (HS10.out.fr hf11 (Or.inr (Or.inr ⟨Nat.lt_succ_self _, Nat.le_refl _⟩)))
    have HG11 := hid hg11
    have hB11 : Below w.heap.size w w11 := hB10.trans (hf11.below (by have h1 := HS10.out.o1; have h2 := HS10.out.o2; have h3 := HS10.out.o3; omega) hB10.size)
    have hz11 : w5.heap.size < w11.heap.size := Nat.lt_of_lt_of_le hz10 hf11.size
    clear q0 q1 q2 q3 q4 q5 q6 HS10 HG10 hB10 hg11 hf11
    obtain ⟨q0, q1, q2, q3, q4, q5, q6⟩ := holds_ob HS11.out.vg
    go_wp2_with fail
    refine (heldOb_any y adg cg _ (w4.heap.size + 1) w5.heap.size (by omega) (by omega) HG11.out).mono ?_
    rintro e w12 ⟨rfl, hb12⟩
    have HS12 := hid (St.below HS11.out hb12)
    have HG12 := hid (HG11.out.fr (Fr.of_below (lo := 0) (hi := 0) hb12) (Nat.le_of_lt hz11) (Or.inr (Nat.zero_le _)))
    have hB12 : Below w.heap.size w w12 := hB11.trans (hb12.mono hB11.size)
    have hz12 : w5.heap.size < w12.heap.size := Nat.lt_of_lt_of_le hz11 hb12.size
    clear q0 q1 q2 q3 q4 q5 q6 HS11 HG11 hB11 hb12
    obtain ⟨p0, p1, p2, p3, p4⟩ := holds_bk HS12.out.bx
    go_wp2_with fail
    refine (toBk_any x a1 a2 a3 c1 c2 c3 _ 0 w.heap.size hB12.size hf HS12.out.arg).mono ?_
    rintro e w13 ⟨k1, k2, k3, m1, m2, m3, rfl, hx13, hb13⟩
    have HS13 := hid (St.below HS12.out hb13)
    have HG13 := hid (HG12.out.fr (Fr.of_below (lo := 0) (hi := 0) hb13) (Nat.le_of_lt hz12) (Or.inr (Nat.zero_le _)))
    have hB13 : Below w.heap.size w w13 := hB12.trans (hb13.mono hB12.size)
    have hz13 : w5.heap.size < w13.heap.size := Nat.lt_of_lt_of_le hz12 hb13.size
    have HX13 := hid hx13
    clear p0 p1 p2 p3 p4 HS12 HG12 hB12 hb13 hx13
    go_wp2_with fail
    refine (implFind_y x.now x.floor x.on x.os _ _ _ m1 x.hn m2 x.tn m3 ki na y fo HY.out HFO.out (by omega) (by omega) _ w12.heap.size w13.heap.size (Nat.le_refl _) hf.o hf.os HX13.out.isIn.o).mono ?_
    rintro e w14 ⟨adh, ch, rfl, hh14, hb14⟩
    have HS14 := hid (St.below HS13.out hb14)
    have HG14 := hid (HG13.out.fr (Fr.of_below (lo := 0) (hi := 0) hb14) (Nat.le_of_lt hz13) (Or.inr (Nat.zero_le _)))
    have hB14 : Below w.heap.size w w14 := hB13.trans (hb14.mono hB13.size)
    have hz14 : w5.heap.size < w14.heap.size := Nat.lt_of_lt_of_le hz13 hb14.size
    have HH14 := hid hh14
    clear HS13 HG13 hB13 hb14 hh14 HX13
    have hz14' : w3.heap.size < w14.heap.size := by have h3 := HS14.out.o3; have h4 := HS14.out.o4; omega
    obtain ⟨p0, p1, p2, p3, p4, p5, p6⟩ := holds_ob HS14.out.vw
    go_wp2_with fail
    refine (eqOb_any y adh adw ch cw _ w13.heap.size w14.heap.size w2.heap.size w3.heap.size (by simp) (by simp; omega) (by omega) (by exact HH14.out.isIn.alloc (Nat.le_refl _) _) (by exact HS14.out.hw.alloc (by omega) _)).mono ?_
    rintro e w15 ⟨rfl, hb15⟩
    have HS15 := hid (St.below (St.below HS14.out (below_alloc w14 _)) hb15)
    have HG15 := hid ((HG14.out.fr (Fr.of_below (lo := 0) (hi := 0) (below_alloc w14 _)) (Nat.le_of_lt hz14) (Or.inr (Nat.zero_le _))).fr (Fr.of_below (lo := 0) (hi := 0) hb15) (by simp; omega) (Or.inr (Nat.zero_le _)))
    have hB15 : Below w.heap.size w w15 := (hB14.alloc hB14.size _).trans (hb15.mono (by simp; have := hB14.size; omega))
    have hz15 : w5.heap.size < w15.heap.size := by have := hb15.size; simp at this; omega
    clear p0 p1 p2 p3 p4 p5 p6 HS14 HG14 hB14 hb15
    obtain ⟨q0, q1, q2, q3, q4, q5, q6⟩ := holds_ob HS15.out.vg
    go_wp2_with fail
    refine (heldOb_any y adg cg _ (w4.heap.size + 1) w5.heap.size (by omega) (by omega) HG15.out).mono ?_
    rintro e w16 ⟨rfl, hb16⟩
    have hB16 : Below w.heap.size w w16 := hB15.trans (hb16.mono hB15.size)
    clear q0 q1 q2 q3 q4 q5 q6 HS15 HG15 hB15 hb16
    go_wp2
    go_ret
    exact ⟨rfl, hB16⟩
end Go.Proofs.Ytmlphclhapkfcaa
