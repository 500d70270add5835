import Derived.Test.YtkecnaaacbckoaaGreatRw
namespace Go.Proofs.YtkecnaaacbckoaaGreat
open Go.RowKit Go.Maps
theorem BkOwn.isIn {w : World} {lo hi : Nat} {x : Bk} {g1 g2 g3 : Nat} (h : BkOwn w lo hi x g1 g2 g3) : BkIn w lo w.heap.size x (some ⟨g1, 0, none⟩) (some ⟨g2, 0, none⟩) (some ⟨g3, 0, none⟩) := by
  obtain ⟨p, h1, h2, h3, h4, h5⟩ := h.at
  have := h4.isIn (lo := lo) (fun q hq => (h5 q hq).1)
  rw [h1, h2, h3] at this
  exact this
theorem frP_set5 {w w1 : World} {b : Nat} {u0 u1 u2 u3 u4 : Value} (h : FrP (fun q => q = b) w w1) : FrP (fun q => q = b) w (((((w1.setCell ⟨b, 0, none⟩ u0).setCell ⟨b, 1, none⟩ u1).setCell ⟨b, 2, none⟩ u2).setCell ⟨b, 3, none⟩ u3).setCell ⟨b, 4, none⟩ u4) := by
  iterate 5 refine FrP.setCell (P := fun q => q = b) ?_ (by rfl) _
  exact h
theorem below_set5 {w w1 : World} {B b : Nat} {u0 u1 u2 u3 u4 : Value} (h : Below B w w1) (hb : B ≤ b) : Below B w (((((w1.setCell ⟨b, 0, none⟩ u0).setCell ⟨b, 1, none⟩ u1).setCell ⟨b, 2, none⟩ u2).setCell ⟨b, 3, none⟩ u3).setCell ⟨b, 4, none⟩ u4) := by
  iterate 5 refine Below.setCell ?_ hb _
  exact h
theorem holds_set {w : World} {b : Nat} {c : Array Value} {o : Nat} {v : Value} (h : Holds w b c) (ho : o < c.size) : Holds (w.setCell ⟨b, o, none⟩ v) b (c.setIfInBounds o v) := fun i => by
  by_cases e : i = o
  · subst e
    rw [World.cell?_setCell_same _ _ _ ((h i).trans (Array.getElem?_eq_getElem ho))]
    simp [ho]
  · rw [World.cell?_setCell_other _ _ _ _ (fun q => e (by injection q with _ q2; exact q2.symm)), h i, Array.getElem?_setIfInBounds, if_neg (fun q => e q.symm)]
theorem boxC_put5 {w : World} {b : Nat} {v0 v1 v2 v3 v4 u0 u1 u2 u3 u4 : Value} (h : BoxC w b #[v0, v1, v2, v3, v4]) : Holds (((((w.setCell ⟨b, 0, none⟩ u0).setCell ⟨b, 1, none⟩ u1).setCell ⟨b, 2, none⟩ u2).setCell ⟨b, 3, none⟩ u3).setCell ⟨b, 4, none⟩ u4) b #[u0, u1, u2, u3, u4] := by
  have h0 : Holds w b #[v0, v1, v2, v3, v4] := h.cell
  have h5 := holds_set (o := 4) (v := u4) (holds_set (o := 3) (v := u3) (holds_set (o := 2) (v := u2) (holds_set (o := 1) (v := u1) (holds_set (o := 0) (v := u0) h0 (by simp)) (by simp)) (by simp)) (by simp)) (by simp)
  simpa using h5
theorem StrsIn.mono0 {w : World} {lo hi hi' : Nat} {ad : Option Addr} {n : Nat} {s : Nat → ByteArray} (h : StrsIn w lo hi ad n s) (hh : hi ≤ hi') : StrsIn w 0 hi' ad n s := fun i hi2 => by
  obtain ⟨b, off, e1, e2, e3, e4⟩ := h i hi2
  exact ⟨b, off, e1, Nat.zero_le _, by omega, e4⟩
theorem ObjsIn.mono0 {w : World} {lo hi hi' : Nat} {ad : Option Addr} {n : Nat} {x : Nat → Ob} (h : ObjsIn w lo hi ad n x) (hh : hi ≤ hi') : ObjsIn w 0 hi' ad n x := fun i hi2 => by
  obtain ⟨b, off, ah, ch, e1, e2, e3, e4, e5⟩ := h i hi2
  exact ⟨b, off, ah, ch, e1, Nat.zero_le _, by omega, e4, e5.mono0 hh⟩
theorem BkIn.mono0 {w : World} {lo hi hi' : Nat} {x : Bk} {a1 a2 a3 : Option Addr} (h : BkIn w lo hi x a1 a2 a3) (hh : hi ≤ hi') : BkIn w 0 hi' x a1 a2 a3 :=
  ⟨h.o.mono0 hh, fun i hi2 => by
    obtain ⟨b, off, ah, ch, e1, e2, e3, e4, e5⟩ := h.h i hi2
    exact ⟨b, off, ah, ch, e1, Nat.zero_le _, by omega, e4, e5.mono0 hh⟩, fun i hi2 => by
    obtain ⟨b, off, e1, e2, e3, e4⟩ := h.t i hi2
    exact ⟨b, off, e1, Nat.zero_le _, by omega, e4⟩⟩
set_option maxRecDepth 100000 in
set_option maxHeartbeats 4000000 in
theorem relReg8 (p0 p1 p4 p5 p7 p8 p9 p10 p11 p12 p13 p14 p15 p16 p17 p18 p19 p20 p21 p22 p23 p29 p30 p31 p32 p33 p34 p35 p36 p37 p38 p39 p40 p41 p42 p43 p44 p45 p46 p47 p48 p49 p50 p51 p52 p53 p54 p55 p56 p57 p58 p59 p60 p61 p62 p63 p64 p65 p66 p67 p68 p69 p70 p71 p72 p73 p74 p75 p76 p77 p78 p79 p80 p81 p82 p83 p84 p85 p86 p87 p88 p89 p90 p91 : Value) (s0 : Nat) (x : Bk) (a1 a2 a3 : Option Addr) (c1 c2 c3 : Nat) (m : Mr) (a : Option Addr) (c : Nat) (n : Nat) (y : Nat → Ob) (nw : Int) (hn : (resL x m.kind m.pre).length = n) (hy : pick x.os (resL x m.kind m.pre) = y) (hN : resN x = nw) (hfit : BkFit x) (hon : (x.on : Int) ≤ 1048576) (hpr : (m.pre.size : Int) ≤ 1048576) (hmn : (m.n : Int) ≤ 1048576) (hmo : ∀ i, i < m.n → ObFit (m.os i)) (W : World)
    (hbx : Holds W s0 (bkCells x a1 a2 a3 c1 c2 c3)) (hbm : Holds W (s0 + 1) (mrC m a c)) (hin : BkIn W 0 s0 x a1 a2 a3) (him : ObjsIn W 0 s0 a m.n m.os) (hs : s0 + 1 < W.heap.size) (Q : Exit → Act → World → Prop)
    (hQ : ∀ u0 u1 u2 u3 adw cw gw Aw Cw hw b6 X, ObsAt X adw gw n y Aw Cw hw → (∀ q, blkH gw n (fun i => (y i).hn) hw q → W.heap.size ≤ q ∧ q < X.heap.size) → Holds X b6 (mrC ⟨m.kind, m.pre, nw, n, y, m.seen⟩ adw cw) → W.heap.size ≤ b6 → b6 < X.heap.size → Below W.heap.size W X → Q .normal ⟨#[p0, p1, .pointer (some ⟨s0, 0, none⟩), .pointer (some ⟨s0 + 1, 0, none⟩), p4, p5, .pointer (some ⟨b6, 0, none⟩), p7, p8, p9, p10, p11, p12, p13, p14, p15, p16, p17, p18, p19, p20, p21, p22, p23, u0, u1, u2, u3, .agg #[.string m.kind, .string m.pre, .int .i64 nw, .slice adw n cw, .int .i64 m.seen], p29, p30, p31, p32, p33, p34, p35, p36, p37, p38, p39, p40, p41, p42, p43, p44, p45, p46, p47, p48, p49, p50, p51, p52, p53, p54, p55, p56, p57, p58, p59, p60, p61, p62, p63, p64, p65, p66, p67, p68, p69, p70, p71, p72, p73, p74, p75, p76, p77, p78, p79, p80, p81, p82, p83, p84, p85, p86, p87, p88, p89, p90, p91], []⟩ X) :
    Code.wp Tryz.prog (Code.region 8 #[{ dst := some 24, op := Op.load 26 (Operand.tmp 2), type := 26, pos := "exact.go:4043", after := #[], guard := none }, { dst := some 25, op := Op.call { callee := Callee.value (Operand.func 10), args := #[Operand.tmp 24], argTypes := #[26] }, type := 32, pos := "exact.go:4043", after := #[{ on := 0, ground := Ground.data }], guard := none }, { dst := some 26, op := Op.load 54 (Operand.tmp 3), type := 54, pos := "exact.go:4043", after := #[], guard := none }, { dst := some 27, op := Op.call { callee := Callee.value (Operand.func 29), args := #[Operand.tmp 26], argTypes := #[54] }, type := 57, pos := "exact.go:4043", after := #[{ on := 2, ground := Ground.data }, { on := 1, ground := Ground.chain }], guard := none }, { dst := some 28, op := Op.call { callee := Callee.value (Operand.func 28), args := #[Operand.tmp 25, Operand.tmp 27], argTypes := #[32, 57] }, type := 57, pos := "exact.go:4043", after := #[{ on := 1, ground := Ground.data }, { on := 3, ground := Ground.data }, { on := 3, ground := Ground.chain }], guard := none }, { dst := some 6, op := Op.alloc 57, type := 0, pos := "exact.go:4043", after := #[], guard := none }, { dst := none, op := Op.store 57 (Operand.tmp 6) (Operand.tmp 28), type := 0, pos := "exact.go:4043", after := #[{ on := 5, ground := Ground.data }, { on := 4, ground := Ground.data }, { on := 4, ground := Ground.chain }, { on := 0, ground := Ground.phase }, { on := 1, ground := Ground.phase }, { on := 2, ground := Ground.phase }, { on := 3, ground := Ground.phase }, { on := 4, ground := Ground.phase }, { on := 5, ground := Ground.phase }], guard := none }] true) Q ⟨#[p0, p1, .pointer (some ⟨s0, 0, none⟩), .pointer (some ⟨s0 + 1, 0, none⟩), p4, p5, undef, p7, p8, p9, p10, p11, p12, p13, p14, p15, p16, p17, p18, p19, p20, p21, p22, p23, undef, undef, undef, undef, undef, p29, p30, p31, p32, p33, p34, p35, p36, p37, p38, p39, p40, p41, p42, p43, p44, p45, p46, p47, p48, p49, p50, p51, p52, p53, p54, p55, p56, p57, p58, p59, p60, p61, p62, p63, p64, p65, p66, p67, p68, p69, p70, p71, p72, p73, p74, p75, p76, p77, p78, p79, p80, p81, p82, p83, p84, p85, p86, p87, p88, p89, p90, p91], []⟩ W := by
  refine region7 (by kernel_rfl) (fun t : Nat → Value => #[p0, p1, .pointer (some ⟨s0, 0, none⟩), .pointer (some ⟨s0 + 1, 0, none⟩), p4, p5, t 5, p7, p8, p9, p10, p11, p12, p13, p14, p15, p16, p17, p18, p19, p20, p21, p22, p23, t 0, t 1, t 2, t 3, t 4, p29, p30, p31, p32, p33, p34, p35, p36, p37, p38, p39, p40, p41, p42, p43, p44, p45, p46, p47, p48, p49, p50, p51, p52, p53, p54, p55, p56, p57, p58, p59, p60, p61, p62, p63, p64, p65, p66, p67, p68, p69, p70, p71, p72, p73, p74, p75, p76, p77, p78, p79, p80, p81, p82, p83, p84, p85, p86, p87, p88, p89, p90, p91]) (.agg #[.int .i64 x.now, .int .i64 x.floor, .slice a1 x.on c1, .slice a2 x.hn c2, .slice a3 x.tn c3]) (.agg #[.string m.kind, .string m.pre, .int .i64 m.at_, .slice a m.n c, .int .i64 m.seen]) (fun v X => ∃ g1 g2 g3 e1 e2 e3 : Nat, v = .agg #[.int .i64 x.now, .int .i64 x.floor, .slice (some ⟨g1, 0, none⟩) x.on e1, .slice (some ⟨g2, 0, none⟩) x.hn e2, .slice (some ⟨g3, 0, none⟩) x.tn e3] ∧ BkIn X 0 X.heap.size x (some ⟨g1, 0, none⟩) (some ⟨g2, 0, none⟩) (some ⟨g3, 0, none⟩)) (fun v X => ∃ gm dm : Nat, v = .agg #[.string m.kind, .string m.pre, .int .i64 m.at_, .slice (some ⟨gm, 0, none⟩) m.n dm, .int .i64 m.seen] ∧ ObjsIn X 0 X.heap.size (some ⟨gm, 0, none⟩) m.n m.os) (fun v lo hi X => ∃ (adw : Option Addr) (cw gw : Nat) (Aw : Nat → Option Addr) (Cw hw : Nat → Nat), v = .agg #[.string m.kind, .string m.pre, .int .i64 nw, .slice adw n cw, .int .i64 m.seen] ∧ ObsAt X adw gw n y Aw Cw hw ∧ (∀ q, blkH gw n (fun i => (y i).hn) hw q → lo ≤ q ∧ q < hi) ∧ hi ≤ X.heap.size) #[.string ⟨#[]⟩, .string ⟨#[]⟩, .int .i64 0, .slice none 0 0, .int .i64 0] 57 (fun v4 v5 X => ∃ (adw : Option Addr) (cw gw : Nat) (Aw : Nat → Option Addr) (Cw hw : Nat → Nat) (b : Nat), v4 = .agg #[.string m.kind, .string m.pre, .int .i64 nw, .slice adw n cw, .int .i64 m.seen] ∧ v5 = .pointer (some ⟨b, 0, none⟩) ∧ ObsAt X adw gw n y Aw Cw hw ∧ (∀ q, blkH gw n (fun i => (y i).hn) hw q → W.heap.size ≤ q ∧ q < X.heap.size) ∧ Holds X b (mrC ⟨m.kind, m.pre, nw, n, y, m.seen⟩ adw cw) ∧ W.heap.size ≤ b ∧ b < X.heap.size) rfl (by kernel_rfl) ?hd ?st1 ?st3 ?st4 ?hi4 rfl ?s0 ?s1 ?s2 ?s3 ?s4 ?s5 ?s6 ?hfin
  case hd =>
    intro l i hr
    obtain ⟨_, o, ho, hdep⟩ := mem_ready.1 hr
    refine ⟨fun e => ?_, fun e => ?_, fun e => ?_, fun e => ?_⟩ <;> subst e <;> simp only [List.getElem?_toArray, List.getElem?_cons_succ, List.getElem?_cons_zero, Option.some.injEq] at ho <;> subst ho
    · exact hdep ⟨0, .data⟩ (by simp) rfl
    · exact hdep ⟨2, .data⟩ (by simp) rfl
    · exact ⟨hdep ⟨1, .data⟩ (by simp) rfl, hdep ⟨3, .data⟩ (by simp) rfl⟩
    · intro j hj
      rcases (show j = 0 ∨ j = 1 ∨ j = 2 ∨ j = 3 ∨ j = 4 ∨ j = 5 by omega) with rfl | rfl | rfl | rfl | rfl | rfl
      · exact hdep ⟨0, .phase⟩ (by simp) rfl
      · exact hdep ⟨1, .phase⟩ (by simp) rfl
      · exact hdep ⟨2, .phase⟩ (by simp) rfl
      · exact hdep ⟨3, .phase⟩ (by simp) rfl
      · exact hdep ⟨4, .phase⟩ (by simp) rfl
      · exact hdep ⟨5, .phase⟩ (by simp) rfl
  case st1 =>
    rintro v X Y ⟨g1, g2, g3, e1, e2, e3, rfl, h⟩ hb
    exact ⟨g1, g2, g3, e1, e2, e3, rfl, (h.below hb (Nat.le_refl _)).mono0 hb.size⟩
  case st3 =>
    rintro v X Y ⟨gm, dm, rfl, h⟩ hb
    exact ⟨gm, dm, rfl, (h.below hb (Nat.le_refl _)).mono0 hb.size⟩
  case st4 =>
    rintro v lo hi X Y ⟨adw, cw, gw, Aw, Cw, hw, rfl, h1, h2, h3⟩ hb
    exact ⟨adw, cw, gw, Aw, Cw, hw, rfl, h1.grow hb, h2, Nat.le_trans h3 hb.size⟩
  case hi4 =>
    rintro v lo hi X ⟨adw, cw, gw, Aw, Cw, hw, rfl, h1, h2, h3⟩
    exact h3
  case s0 =>
    intro t X K hb hK
    obtain ⟨q0, q1, q2, q3, q4⟩ := holds_bk (hbx.below hb (by omega))
    refine wpOp_of rfl rfl ?_
    go_simp
    exact hK
  case s2 =>
    intro t X K hb hK
    obtain ⟨q0, q1, q2, q3, q4⟩ := holds_mr (hbm.below hb (by omega))
    refine wpOp_of rfl rfl ?_
    go_simp
    exact hK
  case s1 =>
    intro t X K hb e0 hK
    refine wpOp_of rfl rfl ?_
    have HK := hid hK
    clear hK
    go_simp
    go_at_call 10
    refine (toBk_any x a1 a2 a3 c1 c2 c3 X 0 s0 (by have := hb.size; omega) hfit (hin.below hb (by omega))).mono ?_
    rintro e Y ⟨g1, g2, g3, d1, d2, d3, rfl, ho, hbY⟩
    have h := HK.out _ Y ⟨g1, g2, g3, d1, d2, d3, rfl, ho.isIn.mono0 (Nat.le_refl _)⟩ hbY
    simpa [updT, e0] using h
  case s3 =>
    intro t X K hb e2 hK
    refine wpOp_of rfl rfl ?_
    have HK := hid hK
    clear hK
    go_simp
    go_at_call 29
    refine (toMr_any m a c X 0 s0 (by have := hb.size; omega) (by omega) hmo (him.below hb (by omega))).mono ?_
    rintro e Y ⟨g, d, A, C, hb', rfl, ho, hq, hbY⟩
    have h := HK.out _ Y ⟨g, d, rfl, ho.isIn (fun _ _ => Nat.zero_le _)⟩ hbY
    simpa [updT, e2] using h
  case s4 =>
    intro t X K hb h1 h3 hK
    obtain ⟨g1, g2, g3, d1, d2, d3, e1, i1⟩ := h1
    obtain ⟨gm, dm, e3, i3⟩ := h3
    refine wpOp_of rfl rfl ?_
    have HK := hid hK
    have HI1 := hid i1
    have HI3 := hid i3
    clear hK i1 i3
    go_simp
    go_at_call 28
    refine (specRelist_any x _ _ _ d1 d2 d3 m _ dm n y nw hn hy hN X 0 X.heap.size (Nat.le_refl _) hfit hon (by omega) HI1.out (by omega) hmo HI3.out).mono ?_
    rintro e Y ⟨adw, cw, gw, Aw, Cw, hw, rfl, ho, hq, hbY⟩
    have h := HK.out _ Y ⟨adw, cw, gw, Aw, Cw, hw, rfl, ho, fun q hq' => ⟨hq q hq', ho.blt hq'⟩, Nat.le_refl _⟩ hbY
    simpa [updT, e1, e3] using h
  case s5 =>
    intro t X K hK
    refine wpOp_of rfl rfl ?_
    go_simp
    exact hK
  case s6 =>
    intro t X K b lo hi hb e5 zb hbox h4 zlo hd hK
    obtain ⟨adw, cw, gw, Aw, Cw, hw, e4, ho, hq, hh⟩ := h4
    have r0 := hbox.cell 0
    have r1 := hbox.cell 1
    have r2 := hbox.cell 2
    have r3 := hbox.cell 3
    have r4 := hbox.cell 4
    have rf := hbox.free
    simp only [List.getElem?_toArray, List.getElem?_cons_succ, List.getElem?_cons_zero] at r0 r1 r2 r3 r4
    refine wpOp_of rfl rfl ?_
    have HK := hid hK
    have HO := hid ho
    have HQ := hid hq
    clear hK ho hq
    go_simp
    have h := HK.out (((((X.setCell ⟨b, 0, none⟩ (.string m.kind)).setCell ⟨b, 1, none⟩ (.string m.pre)).setCell ⟨b, 2, none⟩ (.int .i64 nw)).setCell ⟨b, 3, none⟩ (.slice adw n cw)).setCell ⟨b, 4, none⟩ (.int .i64 m.seen)) ⟨adw, cw, gw, Aw, Cw, hw, b, e4, e5, HO.out.fr (frP_set5 (FrP.refl _ _)) (fun q hq' e => by have := HQ.out q hq'; omega), fun q hq' => by
      have := HQ.out q hq'
      simp only [World.size_setCell]
      omega, boxC_put5 hbox, zb, by
      simp only [World.size_setCell]
      exact hbox.lt⟩ (below_set5 hb zb)
    simpa [e4, e5] using h
  case hfin =>
    rintro t X ⟨adw, cw, gw, Aw, Cw, hw, b, e4, e5, ho, hq, hh, z1, z2⟩ hb
    have h := hQ (t 0) (t 1) (t 2) (t 3) adw cw gw Aw Cw hw b X ho hq hh z1 z2 hb
    rw [← e4, ← e5] at h
    exact h
set_option maxRecDepth 100000 in
set_option maxHeartbeats 4000000 in
theorem relReg31 (p0 p1 p4 p5 p6 p7 p8 p9 p10 p11 p12 p14 p15 p16 p17 p18 p19 p20 p21 p22 p23 p24 p25 p26 p27 p28 p29 p30 p31 p32 p33 p34 p35 p36 p37 p38 p39 p40 p41 p42 p43 p44 p45 p46 p47 p48 p49 p50 p51 p52 p53 p54 p55 p56 p57 p58 p59 p60 p61 p62 p63 p64 p65 p66 p67 p68 p69 p70 p71 p72 p73 p74 p80 p81 p82 p83 p84 p85 p86 p87 p88 p89 p90 p91 : Value) (s0 : Nat) (x : Bk) (a1 a2 a3 : Option Addr) (c1 c2 c3 : Nat) (m : Mr) (a : Option Addr) (c : Nat) (n : Nat) (y : Nat → Ob) (nw : Int) (hn : (resL x m.kind m.pre).length = n) (hy : pick x.os (resL x m.kind m.pre) = y) (hN : resN x = nw) (hfit : BkFit x) (hon : (x.on : Int) ≤ 1048576) (hpr : (m.pre.size : Int) ≤ 1048576) (hmn : (m.n : Int) ≤ 1048576) (hmo : ∀ i, i < m.n → ObFit (m.os i)) (W : World)
    (hbx : Holds W s0 (bkCells x a1 a2 a3 c1 c2 c3)) (hbm : Holds W (s0 + 1) (mrC m a c)) (hin : BkIn W 0 s0 x a1 a2 a3) (him : ObjsIn W 0 s0 a m.n m.os) (hs : s0 + 1 < W.heap.size) (Q : Exit → Act → World → Prop)
    (hQ : ∀ u0 u1 u2 u3 adw cw gw Aw Cw hw b6 X, ObsAt X adw gw n y Aw Cw hw → (∀ q, blkH gw n (fun i => (y i).hn) hw q → W.heap.size ≤ q ∧ q < X.heap.size) → Holds X b6 (mrC ⟨m.kind, m.pre, nw, n, y, m.seen⟩ adw cw) → W.heap.size ≤ b6 → b6 < X.heap.size → Below W.heap.size W X → Q .normal ⟨#[p0, p1, .pointer (some ⟨s0, 0, none⟩), .pointer (some ⟨s0 + 1, 0, none⟩), p4, p5, p6, p7, p8, p9, p10, p11, p12, .pointer (some ⟨b6, 0, none⟩), p14, p15, p16, p17, p18, p19, p20, p21, p22, p23, p24, p25, p26, p27, p28, p29, p30, p31, p32, p33, p34, p35, p36, p37, p38, p39, p40, p41, p42, p43, p44, p45, p46, p47, p48, p49, p50, p51, p52, p53, p54, p55, p56, p57, p58, p59, p60, p61, p62, p63, p64, p65, p66, p67, p68, p69, p70, p71, p72, p73, p74, u0, u1, u2, u3, .agg #[.string m.kind, .string m.pre, .int .i64 nw, .slice adw n cw, .int .i64 m.seen], p80, p81, p82, p83, p84, p85, p86, p87, p88, p89, p90, p91], []⟩ X) :
    Code.wp Tryz.prog (Code.region 31 #[{ dst := some 75, op := Op.load 26 (Operand.tmp 2), type := 26, pos := "exact.go:4072", after := #[], guard := none }, { dst := some 76, op := Op.call { callee := Callee.value (Operand.func 10), args := #[Operand.tmp 75], argTypes := #[26] }, type := 32, pos := "exact.go:4072", after := #[{ on := 0, ground := Ground.data }], guard := none }, { dst := some 77, op := Op.load 54 (Operand.tmp 3), type := 54, pos := "exact.go:4072", after := #[], guard := none }, { dst := some 78, op := Op.call { callee := Callee.value (Operand.func 29), args := #[Operand.tmp 77], argTypes := #[54] }, type := 57, pos := "exact.go:4072", after := #[{ on := 2, ground := Ground.data }, { on := 1, ground := Ground.chain }], guard := none }, { dst := some 79, op := Op.call { callee := Callee.value (Operand.func 30), args := #[Operand.tmp 76, Operand.tmp 78], argTypes := #[32, 57] }, type := 57, pos := "exact.go:4072", after := #[{ on := 1, ground := Ground.data }, { on := 3, ground := Ground.data }, { on := 3, ground := Ground.chain }], guard := none }, { dst := some 13, op := Op.alloc 57, type := 0, pos := "exact.go:4072", after := #[], guard := none }, { dst := none, op := Op.store 57 (Operand.tmp 13) (Operand.tmp 79), type := 0, pos := "exact.go:4072", after := #[{ on := 5, ground := Ground.data }, { on := 4, ground := Ground.data }, { on := 4, ground := Ground.chain }, { on := 0, ground := Ground.phase }, { on := 1, ground := Ground.phase }, { on := 2, ground := Ground.phase }, { on := 3, ground := Ground.phase }, { on := 4, ground := Ground.phase }, { on := 5, ground := Ground.phase }], guard := none }] true) Q ⟨#[p0, p1, .pointer (some ⟨s0, 0, none⟩), .pointer (some ⟨s0 + 1, 0, none⟩), p4, p5, p6, p7, p8, p9, p10, p11, p12, undef, p14, p15, p16, p17, p18, p19, p20, p21, p22, p23, p24, p25, p26, p27, p28, p29, p30, p31, p32, p33, p34, p35, p36, p37, p38, p39, p40, p41, p42, p43, p44, p45, p46, p47, p48, p49, p50, p51, p52, p53, p54, p55, p56, p57, p58, p59, p60, p61, p62, p63, p64, p65, p66, p67, p68, p69, p70, p71, p72, p73, p74, undef, undef, undef, undef, undef, p80, p81, p82, p83, p84, p85, p86, p87, p88, p89, p90, p91], []⟩ W := by
  refine region7 (by kernel_rfl) (fun t : Nat → Value => #[p0, p1, .pointer (some ⟨s0, 0, none⟩), .pointer (some ⟨s0 + 1, 0, none⟩), p4, p5, p6, p7, p8, p9, p10, p11, p12, t 5, p14, p15, p16, p17, p18, p19, p20, p21, p22, p23, p24, p25, p26, p27, p28, p29, p30, p31, p32, p33, p34, p35, p36, p37, p38, p39, p40, p41, p42, p43, p44, p45, p46, p47, p48, p49, p50, p51, p52, p53, p54, p55, p56, p57, p58, p59, p60, p61, p62, p63, p64, p65, p66, p67, p68, p69, p70, p71, p72, p73, p74, t 0, t 1, t 2, t 3, t 4, p80, p81, p82, p83, p84, p85, p86, p87, p88, p89, p90, p91]) (.agg #[.int .i64 x.now, .int .i64 x.floor, .slice a1 x.on c1, .slice a2 x.hn c2, .slice a3 x.tn c3]) (.agg #[.string m.kind, .string m.pre, .int .i64 m.at_, .slice a m.n c, .int .i64 m.seen]) (fun v X => ∃ g1 g2 g3 e1 e2 e3 : Nat, v = .agg #[.int .i64 x.now, .int .i64 x.floor, .slice (some ⟨g1, 0, none⟩) x.on e1, .slice (some ⟨g2, 0, none⟩) x.hn e2, .slice (some ⟨g3, 0, none⟩) x.tn e3] ∧ BkIn X 0 X.heap.size x (some ⟨g1, 0, none⟩) (some ⟨g2, 0, none⟩) (some ⟨g3, 0, none⟩)) (fun v X => ∃ gm dm : Nat, v = .agg #[.string m.kind, .string m.pre, .int .i64 m.at_, .slice (some ⟨gm, 0, none⟩) m.n dm, .int .i64 m.seen] ∧ ObjsIn X 0 X.heap.size (some ⟨gm, 0, none⟩) m.n m.os) (fun v lo hi X => ∃ (adw : Option Addr) (cw gw : Nat) (Aw : Nat → Option Addr) (Cw hw : Nat → Nat), v = .agg #[.string m.kind, .string m.pre, .int .i64 nw, .slice adw n cw, .int .i64 m.seen] ∧ ObsAt X adw gw n y Aw Cw hw ∧ (∀ q, blkH gw n (fun i => (y i).hn) hw q → lo ≤ q ∧ q < hi) ∧ hi ≤ X.heap.size) #[.string ⟨#[]⟩, .string ⟨#[]⟩, .int .i64 0, .slice none 0 0, .int .i64 0] 57 (fun v4 v5 X => ∃ (adw : Option Addr) (cw gw : Nat) (Aw : Nat → Option Addr) (Cw hw : Nat → Nat) (b : Nat), v4 = .agg #[.string m.kind, .string m.pre, .int .i64 nw, .slice adw n cw, .int .i64 m.seen] ∧ v5 = .pointer (some ⟨b, 0, none⟩) ∧ ObsAt X adw gw n y Aw Cw hw ∧ (∀ q, blkH gw n (fun i => (y i).hn) hw q → W.heap.size ≤ q ∧ q < X.heap.size) ∧ Holds X b (mrC ⟨m.kind, m.pre, nw, n, y, m.seen⟩ adw cw) ∧ W.heap.size ≤ b ∧ b < X.heap.size) rfl (by kernel_rfl) ?hd ?st1 ?st3 ?st4 ?hi4 rfl ?s0 ?s1 ?s2 ?s3 ?s4 ?s5 ?s6 ?hfin
  case hd =>
    intro l i hr
    obtain ⟨_, o, ho, hdep⟩ := mem_ready.1 hr
    refine ⟨fun e => ?_, fun e => ?_, fun e => ?_, fun e => ?_⟩ <;> subst e <;> simp only [List.getElem?_toArray, List.getElem?_cons_succ, List.getElem?_cons_zero, Option.some.injEq] at ho <;> subst ho
    · exact hdep ⟨0, .data⟩ (by simp) rfl
    · exact hdep ⟨2, .data⟩ (by simp) rfl
    · exact ⟨hdep ⟨1, .data⟩ (by simp) rfl, hdep ⟨3, .data⟩ (by simp) rfl⟩
    · intro j hj
      rcases (show j = 0 ∨ j = 1 ∨ j = 2 ∨ j = 3 ∨ j = 4 ∨ j = 5 by omega) with rfl | rfl | rfl | rfl | rfl | rfl
      · exact hdep ⟨0, .phase⟩ (by simp) rfl
      · exact hdep ⟨1, .phase⟩ (by simp) rfl
      · exact hdep ⟨2, .phase⟩ (by simp) rfl
      · exact hdep ⟨3, .phase⟩ (by simp) rfl
      · exact hdep ⟨4, .phase⟩ (by simp) rfl
      · exact hdep ⟨5, .phase⟩ (by simp) rfl
  case st1 =>
    rintro v X Y ⟨g1, g2, g3, e1, e2, e3, rfl, h⟩ hb
    exact ⟨g1, g2, g3, e1, e2, e3, rfl, (h.below hb (Nat.le_refl _)).mono0 hb.size⟩
  case st3 =>
    rintro v X Y ⟨gm, dm, rfl, h⟩ hb
    exact ⟨gm, dm, rfl, (h.below hb (Nat.le_refl _)).mono0 hb.size⟩
  case st4 =>
    rintro v lo hi X Y ⟨adw, cw, gw, Aw, Cw, hw, rfl, h1, h2, h3⟩ hb
    exact ⟨adw, cw, gw, Aw, Cw, hw, rfl, h1.grow hb, h2, Nat.le_trans h3 hb.size⟩
  case hi4 =>
    rintro v lo hi X ⟨adw, cw, gw, Aw, Cw, hw, rfl, h1, h2, h3⟩
    exact h3
  case s0 =>
    intro t X K hb hK
    obtain ⟨q0, q1, q2, q3, q4⟩ := holds_bk (hbx.below hb (by omega))
    refine wpOp_of rfl rfl ?_
    go_simp
    exact hK
  case s2 =>
    intro t X K hb hK
    obtain ⟨q0, q1, q2, q3, q4⟩ := holds_mr (hbm.below hb (by omega))
    refine wpOp_of rfl rfl ?_
    go_simp
    exact hK
  case s1 =>
    intro t X K hb e0 hK
    refine wpOp_of rfl rfl ?_
    have HK := hid hK
    clear hK
    go_simp
    go_at_call 10
    refine (toBk_any x a1 a2 a3 c1 c2 c3 X 0 s0 (by have := hb.size; omega) hfit (hin.below hb (by omega))).mono ?_
    rintro e Y ⟨g1, g2, g3, d1, d2, d3, rfl, ho, hbY⟩
    have h := HK.out _ Y ⟨g1, g2, g3, d1, d2, d3, rfl, ho.isIn.mono0 (Nat.le_refl _)⟩ hbY
    simpa [updT, e0] using h
  case s3 =>
    intro t X K hb e2 hK
    refine wpOp_of rfl rfl ?_
    have HK := hid hK
    clear hK
    go_simp
    go_at_call 29
    refine (toMr_any m a c X 0 s0 (by have := hb.size; omega) (by omega) hmo (him.below hb (by omega))).mono ?_
    rintro e Y ⟨g, d, A, C, hb', rfl, ho, hq, hbY⟩
    have h := HK.out _ Y ⟨g, d, rfl, ho.isIn (fun _ _ => Nat.zero_le _)⟩ hbY
    simpa [updT, e2] using h
  case s4 =>
    intro t X K hb h1 h3 hK
    obtain ⟨g1, g2, g3, d1, d2, d3, e1, i1⟩ := h1
    obtain ⟨gm, dm, e3, i3⟩ := h3
    refine wpOp_of rfl rfl ?_
    have HK := hid hK
    have HI1 := hid i1
    have HI3 := hid i3
    clear hK i1 i3
    go_simp
    go_at_call 30
    refine (implRelist_any x _ _ _ d1 d2 d3 m _ dm n y nw hn hy hN X 0 X.heap.size (Nat.le_refl _) hfit hon (by omega) HI1.out).mono ?_
    rintro e Y ⟨adw, cw, gw, Aw, Cw, hw, rfl, ho, hq, hbY⟩
    have h := HK.out _ Y ⟨adw, cw, gw, Aw, Cw, hw, rfl, ho, fun q hq' => ⟨hq q hq', ho.blt hq'⟩, Nat.le_refl _⟩ hbY
    simpa [updT, e1, e3] using h
  case s5 =>
    intro t X K hK
    refine wpOp_of rfl rfl ?_
    go_simp
    exact hK
  case s6 =>
    intro t X K b lo hi hb e5 zb hbox h4 zlo hd hK
    obtain ⟨adw, cw, gw, Aw, Cw, hw, e4, ho, hq, hh⟩ := h4
    have r0 := hbox.cell 0
    have r1 := hbox.cell 1
    have r2 := hbox.cell 2
    have r3 := hbox.cell 3
    have r4 := hbox.cell 4
    have rf := hbox.free
    simp only [List.getElem?_toArray, List.getElem?_cons_succ, List.getElem?_cons_zero] at r0 r1 r2 r3 r4
    refine wpOp_of rfl rfl ?_
    have HK := hid hK
    have HO := hid ho
    have HQ := hid hq
    clear hK ho hq
    go_simp
    have h := HK.out (((((X.setCell ⟨b, 0, none⟩ (.string m.kind)).setCell ⟨b, 1, none⟩ (.string m.pre)).setCell ⟨b, 2, none⟩ (.int .i64 nw)).setCell ⟨b, 3, none⟩ (.slice adw n cw)).setCell ⟨b, 4, none⟩ (.int .i64 m.seen)) ⟨adw, cw, gw, Aw, Cw, hw, b, e4, e5, HO.out.fr (frP_set5 (FrP.refl _ _)) (fun q hq' e => by have := HQ.out q hq'; omega), fun q hq' => by
      have := HQ.out q hq'
      simp only [World.size_setCell]
      omega, boxC_put5 hbox, zb, by
      simp only [World.size_setCell]
      exact hbox.lt⟩ (below_set5 hb zb)
    simpa [e4, e5] using h
  case hfin =>
    rintro t X ⟨adw, cw, gw, Aw, Cw, hw, b, e4, e5, ho, hq, hh, z1, z2⟩ hb
    have h := hQ (t 0) (t 1) (t 2) (t 3) adw cw gw Aw Cw hw b X ho hq hh z1 z2 hb
    rw [← e4, ← e5] at h
    exact h
end Go.Proofs.YtkecnaaacbckoaaGreat
namespace Go.Proofs.YtkecnaaacbckoaaGreat
open Go.RowKit Go.Maps
set_option maxRecDepth 100000 in
set_option maxHeartbeats 4000000 in
theorem relReg14 (p0 p1 p3 p4 p5 p6 p8 p9 p10 p11 p12 p13 p14 p15 p16 p17 p18 p19 p20 p21 p22 p23 p24 p25 p26 p27 p28 p29 p30 p31 p32 p33 p34 p35 p36 p37 p38 p39 p45 p46 p47 p48 p49 p50 p51 p52 p53 p54 p55 p56 p57 p58 p59 p60 p61 p62 p63 p64 p65 p66 p67 p68 p69 p70 p71 p72 p73 p74 p75 p76 p77 p78 p79 p80 p81 p82 p83 p84 p85 p86 p87 p88 p89 p90 p91 : Value) (s0 b7 : Nat) (x : Bk) (a1 a2 a3 : Option Addr) (c1 c2 c3 : Nat) (p : Pl) (d1 d2 d3 : Nat) (hfit : BkFit x) (W : World) (hv : Holds W b7 (bkCells x p.a1 p.a2 p.a3 d1 d2 d3)) (hbx : Holds W s0 (bkCells x a1 a2 a3 c1 c2 c3)) (hat : BkAt W x p) (hin : BkIn W 0 s0 x a1 a2 a3) (hs : s0 + 1 < W.heap.size) (zb : b7 < W.heap.size) (Q : Exit → Act → World → Prop)
    (hQ : ∀ u0 u1 u2 u3 X, Below W.heap.size W X → Q .normal ⟨#[p0, p1, .pointer (some ⟨s0, 0, none⟩), p3, p4, p5, p6, .pointer (some ⟨b7, 0, none⟩), p8, p9, p10, p11, p12, p13, p14, p15, p16, p17, p18, p19, p20, p21, p22, p23, p24, p25, p26, p27, p28, p29, p30, p31, p32, p33, p34, p35, p36, p37, p38, p39, u0, u1, u2, u3, .bool false, p45, p46, p47, p48, p49, p50, p51, p52, p53, p54, p55, p56, p57, p58, p59, p60, p61, p62, p63, p64, p65, p66, p67, p68, p69, p70, p71, p72, p73, p74, p75, p76, p77, p78, p79, p80, p81, p82, p83, p84, p85, p86, p87, p88, p89, p90, p91], []⟩ X) :
    Code.wp Tryz.prog (Code.region 14 #[{ dst := some 40, op := Op.load 32 (Operand.tmp 7), type := 32, pos := "exact.go:4050", after := #[], guard := none }, { dst := some 41, op := Op.load 26 (Operand.tmp 2), type := 26, pos := "exact.go:4050", after := #[], guard := none }, { dst := some 42, op := Op.call { callee := Callee.value (Operand.func 10), args := #[Operand.tmp 41], argTypes := #[26] }, type := 32, pos := "exact.go:4050", after := #[{ on := 1, ground := Ground.data }], guard := none }, { dst := some 43, op := Op.call { callee := Callee.value (Operand.func 12), args := #[Operand.tmp 40, Operand.tmp 42], argTypes := #[32, 32] }, type := 4, pos := "exact.go:4050", after := #[{ on := 0, ground := Ground.data }, { on := 2, ground := Ground.data }, { on := 2, ground := Ground.chain }], guard := none }, { dst := some 44, op := Op.unOp UnOp.not 4 (Operand.tmp 43), type := 4, pos := "exact.go:4050", after := #[{ on := 3, ground := Ground.data }], guard := none }] true) Q ⟨#[p0, p1, .pointer (some ⟨s0, 0, none⟩), p3, p4, p5, p6, .pointer (some ⟨b7, 0, none⟩), p8, p9, p10, p11, p12, p13, p14, p15, p16, p17, p18, p19, p20, p21, p22, p23, p24, p25, p26, p27, p28, p29, p30, p31, p32, p33, p34, p35, p36, p37, p38, p39, undef, undef, undef, undef, undef, p45, p46, p47, p48, p49, p50, p51, p52, p53, p54, p55, p56, p57, p58, p59, p60, p61, p62, p63, p64, p65, p66, p67, p68, p69, p70, p71, p72, p73, p74, p75, p76, p77, p78, p79, p80, p81, p82, p83, p84, p85, p86, p87, p88, p89, p90, p91], []⟩ W := by
  refine region5 (by kernel_rfl) (fun t : Nat → Value => #[p0, p1, .pointer (some ⟨s0, 0, none⟩), p3, p4, p5, p6, .pointer (some ⟨b7, 0, none⟩), p8, p9, p10, p11, p12, p13, p14, p15, p16, p17, p18, p19, p20, p21, p22, p23, p24, p25, p26, p27, p28, p29, p30, p31, p32, p33, p34, p35, p36, p37, p38, p39, t 0, t 1, t 2, t 3, t 4, p45, p46, p47, p48, p49, p50, p51, p52, p53, p54, p55, p56, p57, p58, p59, p60, p61, p62, p63, p64, p65, p66, p67, p68, p69, p70, p71, p72, p73, p74, p75, p76, p77, p78, p79, p80, p81, p82, p83, p84, p85, p86, p87, p88, p89, p90, p91]) (.agg #[.int .i64 x.now, .int .i64 x.floor, .slice p.a1 x.on d1, .slice p.a2 x.hn d2, .slice p.a3 x.tn d3]) (.agg #[.int .i64 x.now, .int .i64 x.floor, .slice a1 x.on c1, .slice a2 x.hn c2, .slice a3 x.tn c3]) (fun v X => ∃ g1 g2 g3 e1 e2 e3 : Nat, v = .agg #[.int .i64 x.now, .int .i64 x.floor, .slice (some ⟨g1, 0, none⟩) x.on e1, .slice (some ⟨g2, 0, none⟩) x.hn e2, .slice (some ⟨g3, 0, none⟩) x.tn e3] ∧ BkIn X 0 X.heap.size x (some ⟨g1, 0, none⟩) (some ⟨g2, 0, none⟩) (some ⟨g3, 0, none⟩)) rfl (by kernel_rfl) ?hd ?st2 rfl ?s0 ?s1 ?s2 ?s3 ?s4 ?hfin
  case hd =>
    intro l i hr
    obtain ⟨_, o, ho, hdep⟩ := mem_ready.1 hr
    refine ⟨fun e => ?_, fun e => ?_, fun e => ?_⟩ <;> subst e <;> simp only [List.getElem?_toArray, List.getElem?_cons_succ, List.getElem?_cons_zero, Option.some.injEq] at ho <;> subst ho
    · exact hdep ⟨1, .data⟩ (by simp) rfl
    · exact ⟨hdep ⟨0, .data⟩ (by simp) rfl, hdep ⟨2, .data⟩ (by simp) rfl⟩
    · exact hdep ⟨3, .data⟩ (by simp) rfl
  case st2 =>
    rintro v X Y ⟨g1, g2, g3, e1, e2, e3, rfl, h⟩ hb
    exact ⟨g1, g2, g3, e1, e2, e3, rfl, (h.below hb (Nat.le_refl _)).mono0 hb.size⟩
  case s0 =>
    intro t X K hb hK
    obtain ⟨q0, q1, q2, q3, q4⟩ := holds_bk (hv.below hb zb)
    refine wpOp_of rfl rfl ?_
    go_simp
    exact hK
  case s1 =>
    intro t X K hb hK
    obtain ⟨q0, q1, q2, q3, q4⟩ := holds_bk (hbx.below hb (by omega))
    refine wpOp_of rfl rfl ?_
    go_simp
    exact hK
  case s2 =>
    intro t X K hb e1 hK
    refine wpOp_of rfl rfl ?_
    have HK := hid hK
    clear hK
    go_simp
    go_at_call 10
    refine (toBk_any x a1 a2 a3 c1 c2 c3 X 0 s0 (by have := hb.size; omega) hfit (hin.below hb (by omega))).mono ?_
    rintro e Y ⟨g1, g2, g3, e1', e2', e3', rfl, ho, hbY⟩
    have h := HK.out _ Y ⟨g1, g2, g3, e1', e2', e3', rfl, ho.isIn.mono0 (Nat.le_refl _)⟩ hbY
    simpa [updT, e1] using h
  case s3 =>
    intro t X K hb e0 h2 hK
    obtain ⟨g1, g2, g3, d1', d2', d3', e2, i2⟩ := h2
    refine wpOp_of rfl rfl ?_
    have HK := hid hK
    have HI2 := hid i2
    clear hK i2
    go_simp
    go_at_call 12
    refine (eqBk_any x _ _ _ _ _ _ d1 d2 d3 d1' d2' d3' X 0 X.heap.size 0 X.heap.size (Nat.le_refl _) (Nat.le_refl _) hfit ((hat.isIn (fun _ _ => Nat.zero_le _)).below hb (Nat.le_refl _) |>.mono0 hb.size) HI2.out).mono ?_
    rintro e Y ⟨rfl, hbY⟩
    have h := HK.out Y hbY
    simpa [updT, e0, e2] using h
  case s4 =>
    intro t X K e3 hK
    refine wpOp_of rfl rfl ?_
    go_simp
    simpa [updT, e3] using hK
  case hfin =>
    intro t X e4 hb
    have h := hQ (t 0) (t 1) (t 2) (t 3) X hb
    rw [← e4] at h
    exact h
set_option maxRecDepth 100000 in
set_option maxHeartbeats 4000000 in
theorem relReg16 (p0 p1 p2 p4 p5 p6 p7 p9 p10 p11 p12 p13 p14 p15 p16 p17 p18 p19 p20 p21 p22 p23 p24 p25 p26 p27 p28 p29 p30 p31 p32 p33 p34 p35 p36 p37 p38 p39 p40 p41 p42 p43 p44 p50 p51 p52 p53 p54 p55 p56 p57 p58 p59 p60 p61 p62 p63 p64 p65 p66 p67 p68 p69 p70 p71 p72 p73 p74 p75 p76 p77 p78 p79 p80 p81 p82 p83 p84 p85 p86 p87 p88 p89 p90 p91 : Value) (s0 b7 : Nat) (m : Mr) (a : Option Addr) (c : Nat) (am : Option Addr) (cm : Nat) (hmn : (m.n : Int) ≤ 1048576) (hmo : ∀ i, i < m.n → ObFit (m.os i)) (W : World) (hv : Holds W b7 (mrC m am cm)) (hbx : Holds W (s0 + 1) (mrC m a c)) (hat : ObjsIn W 0 W.heap.size am m.n m.os) (hin : ObjsIn W 0 s0 a m.n m.os) (hs : s0 + 1 < W.heap.size) (zb : b7 < W.heap.size) (Q : Exit → Act → World → Prop)
    (hQ : ∀ u0 u1 u2 u3 X, Below W.heap.size W X → Q .normal ⟨#[p0, p1, p2, .pointer (some ⟨s0 + 1, 0, none⟩), p4, p5, p6, p7, .pointer (some ⟨b7, 0, none⟩), p9, p10, p11, p12, p13, p14, p15, p16, p17, p18, p19, p20, p21, p22, p23, p24, p25, p26, p27, p28, p29, p30, p31, p32, p33, p34, p35, p36, p37, p38, p39, p40, p41, p42, p43, p44, u0, u1, u2, u3, .bool false, p50, p51, p52, p53, p54, p55, p56, p57, p58, p59, p60, p61, p62, p63, p64, p65, p66, p67, p68, p69, p70, p71, p72, p73, p74, p75, p76, p77, p78, p79, p80, p81, p82, p83, p84, p85, p86, p87, p88, p89, p90, p91], []⟩ X) :
    Code.wp Tryz.prog (Code.region 16 #[{ dst := some 45, op := Op.load 57 (Operand.tmp 8), type := 57, pos := "exact.go:4053", after := #[], guard := none }, { dst := some 46, op := Op.load 54 (Operand.tmp 3), type := 54, pos := "exact.go:4053", after := #[], guard := none }, { dst := some 47, op := Op.call { callee := Callee.value (Operand.func 29), args := #[Operand.tmp 46], argTypes := #[54] }, type := 57, pos := "exact.go:4053", after := #[{ on := 1, ground := Ground.data }], guard := none }, { dst := some 48, op := Op.call { callee := Callee.value (Operand.func 31), args := #[Operand.tmp 45, Operand.tmp 47], argTypes := #[57, 57] }, type := 4, pos := "exact.go:4053", after := #[{ on := 0, ground := Ground.data }, { on := 2, ground := Ground.data }, { on := 2, ground := Ground.chain }], guard := none }, { dst := some 49, op := Op.unOp UnOp.not 4 (Operand.tmp 48), type := 4, pos := "exact.go:4053", after := #[{ on := 3, ground := Ground.data }], guard := none }] true) Q ⟨#[p0, p1, p2, .pointer (some ⟨s0 + 1, 0, none⟩), p4, p5, p6, p7, .pointer (some ⟨b7, 0, none⟩), p9, p10, p11, p12, p13, p14, p15, p16, p17, p18, p19, p20, p21, p22, p23, p24, p25, p26, p27, p28, p29, p30, p31, p32, p33, p34, p35, p36, p37, p38, p39, p40, p41, p42, p43, p44, undef, undef, undef, undef, undef, p50, p51, p52, p53, p54, p55, p56, p57, p58, p59, p60, p61, p62, p63, p64, p65, p66, p67, p68, p69, p70, p71, p72, p73, p74, p75, p76, p77, p78, p79, p80, p81, p82, p83, p84, p85, p86, p87, p88, p89, p90, p91], []⟩ W := by
  refine region5 (by kernel_rfl) (fun t : Nat → Value => #[p0, p1, p2, .pointer (some ⟨s0 + 1, 0, none⟩), p4, p5, p6, p7, .pointer (some ⟨b7, 0, none⟩), p9, p10, p11, p12, p13, p14, p15, p16, p17, p18, p19, p20, p21, p22, p23, p24, p25, p26, p27, p28, p29, p30, p31, p32, p33, p34, p35, p36, p37, p38, p39, p40, p41, p42, p43, p44, t 0, t 1, t 2, t 3, t 4, p50, p51, p52, p53, p54, p55, p56, p57, p58, p59, p60, p61, p62, p63, p64, p65, p66, p67, p68, p69, p70, p71, p72, p73, p74, p75, p76, p77, p78, p79, p80, p81, p82, p83, p84, p85, p86, p87, p88, p89, p90, p91]) (.agg #[.string m.kind, .string m.pre, .int .i64 m.at_, .slice am m.n cm, .int .i64 m.seen]) (.agg #[.string m.kind, .string m.pre, .int .i64 m.at_, .slice a m.n c, .int .i64 m.seen]) (fun v X => ∃ gm dm : Nat, v = .agg #[.string m.kind, .string m.pre, .int .i64 m.at_, .slice (some ⟨gm, 0, none⟩) m.n dm, .int .i64 m.seen] ∧ ObjsIn X 0 X.heap.size (some ⟨gm, 0, none⟩) m.n m.os) rfl (by kernel_rfl) ?hd ?st2 rfl ?s0 ?s1 ?s2 ?s3 ?s4 ?hfin
  case hd =>
    intro l i hr
    obtain ⟨_, o, ho, hdep⟩ := mem_ready.1 hr
    refine ⟨fun e => ?_, fun e => ?_, fun e => ?_⟩ <;> subst e <;> simp only [List.getElem?_toArray, List.getElem?_cons_succ, List.getElem?_cons_zero, Option.some.injEq] at ho <;> subst ho
    · exact hdep ⟨1, .data⟩ (by simp) rfl
    · exact ⟨hdep ⟨0, .data⟩ (by simp) rfl, hdep ⟨2, .data⟩ (by simp) rfl⟩
    · exact hdep ⟨3, .data⟩ (by simp) rfl
  case st2 =>
    rintro v X Y ⟨gm, dm, rfl, h⟩ hb
    exact ⟨gm, dm, rfl, (h.below hb (Nat.le_refl _)).mono0 hb.size⟩
  case s0 =>
    intro t X K hb hK
    obtain ⟨q0, q1, q2, q3, q4⟩ := holds_mr (hv.below hb zb)
    refine wpOp_of rfl rfl ?_
    go_simp
    exact hK
  case s1 =>
    intro t X K hb hK
    obtain ⟨q0, q1, q2, q3, q4⟩ := holds_mr (hbx.below hb (by omega))
    refine wpOp_of rfl rfl ?_
    go_simp
    exact hK
  case s2 =>
    intro t X K hb e1 hK
    refine wpOp_of rfl rfl ?_
    have HK := hid hK
    clear hK
    go_simp
    go_at_call 29
    refine (toMr_any m a c X 0 s0 (by have := hb.size; omega) (by omega) hmo (hin.below hb (by omega))).mono ?_
    rintro e Y ⟨g, d, A, C, hb', rfl, ho, hq, hbY⟩
    have h := HK.out _ Y ⟨g, d, rfl, ho.isIn (fun _ _ => Nat.zero_le _)⟩ hbY
    simpa [updT, e1] using h
  case s3 =>
    intro t X K hb e0 h2 hK
    obtain ⟨gm, dm, e2, i2⟩ := h2
    refine wpOp_of rfl rfl ?_
    have HK := hid hK
    have HI2 := hid i2
    clear hK i2
    go_simp
    go_at_call 31
    refine (eqMr_any m _ _ cm dm X 0 X.heap.size 0 X.heap.size (Nat.le_refl _) (Nat.le_refl _) (by omega) (fun i hi => by have := (hmo i hi).h; omega) ((hat.below hb (Nat.le_refl _)).mono0 hb.size) HI2.out).mono ?_
    rintro e Y ⟨rfl, hbY⟩
    have h := HK.out Y hbY
    simpa [updT, e0, e2] using h
  case s4 =>
    intro t X K e3 hK
    refine wpOp_of rfl rfl ?_
    go_simp
    simpa [updT, e3] using hK
  case hfin =>
    intro t X e4 hb
    have h := hQ (t 0) (t 1) (t 2) (t 3) X hb
    rw [← e4] at h
    exact h
end Go.Proofs.YtkecnaaacbckoaaGreat
