import Derived.Test.YtjepponnhieocaaKd
namespace Go.Proofs.Ytjepponnhieocaa
open Go.RowKit
/-- where the law stands -/
structure KS (W : World) (S b6 b7 g : Nat) (r : Rc) (A : RcA) (n : Nat) (x : Nat → ByteArray) (ad2 : Option Addr) (rx : Rc) (p3 : RcP) (ad : Option Addr) (xx : Nat → ByteArray) : Prop where
  bx : Bx W S (rcC r A)
  arg : RcIn W 0 S r A
  i6 : StrsIn W (S + 1) b6 ad2 n x
  v7 : Bx W b7 (rcC r p3.A)
  a7 : RcAt W rx p3
  k7 : ∀ k, rbs p3 rx k → b6 ≤ k ∧ k < b7
  o8 : StrsOwn W g (g + 1) ad n xx
  k8 : n ≠ 0 → b7 < g ∧ g < W.heap.size
  o : S < b6 ∧ b6 ≤ b7 ∧ b7 < W.heap.size
theorem StrsIn.below2 {w w' : World} {lo hi B : Nat} {ad : Option Addr} {n : Nat} {s : Nat → ByteArray} (h : StrsIn w lo hi ad n s) (hb : Below B w w') (hB : hi ≤ B) : StrsIn w' lo hi ad n s := fun i hi' => by
  obtain ⟨b, off, e1, e2, e3, e4⟩ := h i hi'
  exact ⟨b, off, e1, e2, e3, (hb.cell (p := ⟨b, off + i, none⟩) (Nat.lt_of_lt_of_le e3 hB)).trans e4⟩
section
variable {W W' : World} {S b6 b7 g : Nat} {r : Rc} {A : RcA} {n : Nat} {x : Nat → ByteArray} {ad2 : Option Addr} {rx : Rc} {p3 : RcP} {ad : Option Addr} {xx : Nat → ByteArray}
theorem KS.below (h : KS W S b6 b7 g r A n x ad2 rx p3 ad xx) (hb : Below W.heap.size W W') : KS W' S b6 b7 g r A n x ad2 rx p3 ad xx := by
  obtain ⟨o1, o2, o3⟩ := h.o
  exact ⟨h.bx.below hb (by omega), h.arg.below hb (by omega), h.i6.below2 hb (by omega), h.v7.below hb (by omega), h.a7.grow hb, h.k7, h.o8.frP (FrP.of_below (P := fun _ => False) hb) (fun h0 => ⟨fun e => e, (h.k8 h0).2⟩), fun h0 => ⟨(h.k8 h0).1, Nat.lt_of_lt_of_le (h.k8 h0).2 hb.size⟩, o1, o2, Nat.lt_of_lt_of_le o3 hb.size⟩
theorem KS.drew (h : KS W S b6 b7 g r A n x ad2 rx p3 ad xx) (q : Nat) : KS (W.drewN q) S b6 b7 g r A n x ad2 rx p3 ad xx := h.below (below_drewN' W q)
theorem KS.markX (h : KS W S b6 b7 g r A n x ad2 rx p3 ad xx) (k0 : Nat) (hx : RcAt W' (ykRc k0 rx) p3) (hf : FrP (rbs p3 rx) W W') : KS W' S b6 b7 g r A n x ad2 (ykRc k0 rx) p3 ad xx := by
  obtain ⟨o1, o2, o3⟩ := h.o
  have hn : ∀ q, q < b6 ∨ b7 ≤ q → ¬ rbs p3 rx q := fun q hq e => by have := h.k7 q e; omega
  have hb6 : Below b6 W W' := hf.below (B := b6) (fun k hk => hn k (by omega)) (by omega)
  exact ⟨h.bx.frP hf (hn _ (by omega)), h.arg.below hb6 (by omega), h.i6.below2 hb6 (Nat.le_refl _), h.v7.frP hf (hn _ (by omega)), hx, fun k hk => h.k7 k ((rbs_yk p3 k0 rx k).1 hk), h.o8.frP hf (fun h0 => ⟨hn _ (by have := h.k8 h0; omega), (h.k8 h0).2⟩), fun h0 => ⟨(h.k8 h0).1, Nat.lt_of_lt_of_le (h.k8 h0).2 hf.size⟩, o1, o2, Nat.lt_of_lt_of_le o3 hf.size⟩
theorem KS.markG {yy : Nat → ByteArray} (h : KS W S b6 b7 g r A n x ad2 rx p3 ad xx) (hx : StrsOwn W' g (g + 1) ad n yy) (hf : FrP (fun q => n ≠ 0 ∧ q = g) W W') : KS W' S b6 b7 g r A n x ad2 rx p3 ad yy := by
  obtain ⟨o1, o2, o3⟩ := h.o
  have hn : ∀ q, q ≤ b7 → ¬ (n ≠ 0 ∧ q = g) := fun q hq e => by have := h.k8 e.1; omega
  have hb6 : Below b6 W W' := hf.below (B := b6) (fun k hk => hn k (by omega)) (by omega)
  exact ⟨h.bx.frP hf (hn _ (by omega)), h.arg.below hb6 (by omega), h.i6.below2 hb6 (Nat.le_refl _), h.v7.frP hf (hn _ (by omega)), h.a7.fr hf (fun k hk => hn k (by have := h.k7 k hk; omega)), h.k7, hx, fun h0 => ⟨(h.k8 h0).1, Nat.lt_of_lt_of_le (h.k8 h0).2 hf.size⟩, o1, o2, Nat.lt_of_lt_of_le o3 hf.size⟩
theorem KS.lowX (h : KS W S b6 b7 g r A n x ad2 rx p3 ad xx) (hf : FrP (rbs p3 rx) W W') : Below S W W' := by
  obtain ⟨o1, o2, o3⟩ := h.o
  exact hf.below (B := S) (fun k hk e => by have := h.k7 k e; omega) (by omega)
theorem KS.lowG (h : KS W S b6 b7 g r A n x ad2 rx p3 ad xx) (hf : FrP (fun q => n ≠ 0 ∧ q = g) W W') : Below S W W' := by
  obtain ⟨o1, o2, o3⟩ := h.o
  exact hf.below (B := S) (fun k hk e => by have := h.k8 e.1; omega) (by omega)
theorem KS.x7 (h : KS W S b6 b7 g r A n x ad2 r p3 ad xx) : RcIn W b6 b7 r p3.A := h.a7.isIn (fun k hk => h.k7 k hk)
end
theorem bkN_le (r : Rc) : bkN r ≤ r.dk.n := by
  unfold bkN
  split
  · have := (dkB_known (rcB_disk (by assumption))).2
    omega
  · exact Nat.zero_le _
set_option maxRecDepth 100000 in
set_option maxHeartbeats 8000000 in
theorem bookReg10 (p0 p2 p3 p4 p6 p7 p8 p9 p10 p11 p12 p13 p14 p15 p16 p17 p18 p19 p20 p21 p22 p23 p24 p25 p26 p32 p33 p34 p35 p36 p37 p38 p39 p40 p41 p42 p43 p44 p45 p46 p47 p48 p49 p50 p51 p52 p53 p54 p55 p56 p57 p58 p59 p60 p61 p62 p63 p64 p65 p66 p67 p68 : Value) (s0 b5 : Nat) (r : Rc) (A A5 : RcA) (hf : RcFit r) (hm : RcSmall r) (W : World) (hv : W.rangeAt b5 0 (rcC r A5).toList) (hbx : W.rangeAt s0 0 (rcC r A).toList) (hat : RcIn W 0 W.heap.size r A5) (hin : RcIn W 0 s0 r A) (hs : s0 < W.heap.size) (zb : b5 < W.heap.size) (Q : Exit → Act → World → Prop)
    (hQ : ∀ u0 u1 u2 u3 X, Below W.heap.size W X → Q .normal ⟨#[p0, .pointer (some ⟨s0, 0, none⟩), p2, p3, p4, .pointer (some ⟨b5, 0, none⟩), p6, p7, p8, p9, p10, p11, p12, p13, p14, p15, p16, p17, p18, p19, p20, p21, p22, p23, p24, p25, p26, u0, u1, u2, u3, .bool false, p32, p33, p34, p35, p36, p37, p38, p39, p40, p41, p42, p43, p44, p45, p46, p47, p48, p49, p50, p51, p52, p53, p54, p55, p56, p57, p58, p59, p60, p61, p62, p63, p64, p65, p66, p67, p68], []⟩ X) :
    Code.wp Try.prog (Code.region 10 #[{ dst := some 27, op := Op.load 58 (Operand.tmp 5), type := 58, pos := "exact.go:3244", after := #[], guard := none }, { dst := some 28, op := Op.load 50 (Operand.tmp 1), type := 50, pos := "exact.go:3244", after := #[], guard := none }, { dst := some 29, op := Op.call { callee := Callee.value (Operand.func 23), args := #[Operand.tmp 28], argTypes := #[50] }, type := 58, pos := "exact.go:3244", after := #[{ on := 1, ground := Ground.data }], guard := none }, { dst := some 30, op := Op.call { callee := Callee.value (Operand.func 26), args := #[Operand.tmp 27, Operand.tmp 29], argTypes := #[58, 58] }, type := 4, pos := "exact.go:3244", after := #[{ on := 0, ground := Ground.data }, { on := 2, ground := Ground.data }, { on := 2, ground := Ground.chain }], guard := none }, { dst := some 31, op := Op.unOp UnOp.not 4 (Operand.tmp 30), type := 4, pos := "exact.go:3244", after := #[{ on := 3, ground := Ground.data }], guard := none }] true) Q ⟨#[p0, .pointer (some ⟨s0, 0, none⟩), p2, p3, p4, .pointer (some ⟨b5, 0, none⟩), p6, p7, p8, p9, p10, p11, p12, p13, p14, p15, p16, p17, p18, p19, p20, p21, p22, p23, p24, p25, p26, undef, undef, undef, undef, undef, p32, p33, p34, p35, p36, p37, p38, p39, p40, p41, p42, p43, p44, p45, p46, p47, p48, p49, p50, p51, p52, p53, p54, p55, p56, p57, p58, p59, p60, p61, p62, p63, p64, p65, p66, p67, p68], []⟩ W := by
  refine region5 (by kernel_rfl) (fun t : Nat → Value => #[p0, .pointer (some ⟨s0, 0, none⟩), p2, p3, p4, .pointer (some ⟨b5, 0, none⟩), p6, p7, p8, p9, p10, p11, p12, p13, p14, p15, p16, p17, p18, p19, p20, p21, p22, p23, p24, p25, p26, t 0, t 1, t 2, t 3, t 4, p32, p33, p34, p35, p36, p37, p38, p39, p40, p41, p42, p43, p44, p45, p46, p47, p48, p49, p50, p51, p52, p53, p54, p55, p56, p57, p58, p59, p60, p61, p62, p63, p64, p65, p66, p67, p68]) (rcV r A5) (rcV r A) (fun v X => ∃ A', v = rcV r A' ∧ RcIn X 0 X.heap.size r A') rfl (by kernel_rfl) ?hd ?st2 rfl ?s0 ?s1 ?s2 ?s3 ?s4 ?hfin
  case hd =>
    intro l i hr
    obtain ⟨_, o, ho, hdep⟩ := mem_ready.1 hr
    refine ⟨fun e => ?_, fun e => ?_, fun e => ?_⟩ <;> subst e <;> simp only [List.getElem?_toArray, List.getElem?_cons_succ, List.getElem?_cons_zero, Option.some.injEq] at ho <;> subst ho
    · exact hdep ⟨1, .data⟩ (by simp) rfl
    · exact ⟨hdep ⟨0, .data⟩ (by simp) rfl, hdep ⟨2, .data⟩ (by simp) rfl⟩
    · exact hdep ⟨3, .data⟩ (by simp) rfl
  case st2 =>
    rintro v X Y ⟨A', rfl, h⟩ hb
    exact ⟨A', rfl, (h.below hb (Nat.le_refl _)).mono (Nat.le_refl _) hb.size⟩
  case s0 =>
    intro t X K hb hK
    exact wpOp_load rfl rfl 58 _ rfl b5 rfl (rcC r A5).toList _ (World.rangeAt_below hv hb zb) Try.underlying58 rfl Try.sz58 hK
  case s1 =>
    intro t X K hb hK
    exact wpOp_load rfl rfl 50 _ rfl s0 rfl (rcC r A).toList _ (World.rangeAt_below hbx hb hs) Try.underlying50 rfl Try.sz50 hK
  case s2 =>
    intro t X K hb e1 hK
    refine wpOp_of rfl rfl ?_
    have HK := hid hK
    clear hK
    go_simp
    go_at_call 23
    refine (toRc_any r A X 0 s0 (by have := hb.size; omega) hm (hin.below hb (by omega))).mono ?_
    rintro e Y ⟨A', m1, m2, m3, m4, m5, m6, rfl, hn', ho', hbY⟩
    have h := HK.out _ Y ⟨A', rfl, ho'.isIn.mono (Nat.zero_le _) (Nat.le_refl _)⟩ hbY
    simpa [updT, e1] using h
  case s3 =>
    intro t X K hb e0 h2 hK
    obtain ⟨A', e2, i2⟩ := h2
    refine wpOp_of rfl rfl ?_
    have HK := hid hK
    have HI2 := hid i2
    clear hK i2
    go_simp
    go_at_call 26
    refine (eqRc_any r A5 A' X 0 X.heap.size 0 X.heap.size (Nat.le_refl _) (Nat.le_refl _) hf ((hat.below hb (Nat.le_refl _)).mono (Nat.le_refl _) hb.size) HI2.out).mono ?_
    rintro e Y ⟨rfl, hbY⟩
    have h := HK.out Y hbY
    simpa [updT, e0, e2] using h
  case s4 =>
    intro t X K e3 hK
    refine wpOp_of rfl rfl ?_
    go_simp
    simpa [updT, e3] using hK
  case hfin =>
    intro t X e4 hb
    have h := hQ (t 0) (t 1) (t 2) (t 3) X hb
    rw [← e4] at h
    exact h
set_option maxRecDepth 100000 in
set_option maxHeartbeats 8000000 in
theorem book_law (r : Rc) (A : RcA) (w : World) (hf : RcFit r) (hc : RcIn w 0 w.heap.size r A) :
    Calls Try.prog 7 #[rcV r A] w fun e w' => e = .returned (.bool true) ∧ Below w.heap.size w w' := by
  have HF := hid hf
  have HC := hid hc
  clear hf hc
  have mark : Nat := 0
  go_enter Try.func7, Try.ntmps7
  go_wp2_with (first | ((with_reducible show wpList _ _ _ (⟨some 11, _, _, _, _, _⟩ :: _) _ _); clear mark; have Q0 := hid (Bx.new w (rcC r A) 50); have hB0 := below_alloc w (.cells (rcC r A) 50); (generalize w.alloc (.cells (rcC r A) 50) = W at *)) | ((with_reducible show wpList _ _ _ (⟨some 11, Op.load 50 _, _, _, _, _⟩ :: _) _ _); refine wpList_load_mid rfl 50 _ rfl w.heap.size 0 rfl (rcC r A).toList _ (Holds.range (cs := (rcC r A).toList) Q0.out.cell) Try.underlying50 rfl Try.sz50 ?_))
  refine (szRc_any r A 1048576 W (by omega) (by omega) 0 w.heap.size hB0.size HF.out (HC.out.below hB0 (Nat.le_refl _))).mono ?_
  rintro e w1 ⟨rfl, hb1⟩
  have hB1 : Below w.heap.size w w1 := hB0.trans (hb1.mono hB0.size)
  have Q1 := hid (Q0.out.below hb1 Q0.out.lt)
  clear hb1 Q0 hB0
  by_cases hsz : szOut 1048576 (szRc r) < 0
  · clear Q1
    go_wp2
    go_ret
    exact ⟨rfl, hB1⟩
  have HSZ := hid (szOut_ge (l := 1048576) (s := szRc r) (by omega)).1
  have HM := hid (rcSmall_of HSZ.out)
  have z1 := Q1.out.lt
  go_wp2_with (first | ((with_reducible show wpList _ _ _ (⟨some 16, Op.load 50 _, _, _, _, _⟩ :: _) _ _); refine wpList_load_mid rfl 50 _ rfl w.heap.size 0 rfl (rcC r A).toList _ (Holds.range (cs := (rcC r A).toList) Q1.out.cell) Try.underlying50 rfl Try.sz50 ?_))
  refine (toRc_any r A w1 0 w.heap.size (Nat.le_of_lt z1) HM.out (HC.out.below hB1 (Nat.le_refl _))).mono ?_
  rintro e w2 ⟨A1, m1, m2, m3, m4, m5, m6, rfl, hn1, ho1, hb2⟩
  have hB2 : Below w.heap.size w w2 := hB1.trans (hb2.mono hB1.size)
  have Q2 := hid (Q1.out.below hb2 z1)
  have z2 := hb2.size
  have HSP := hid (bookSpec_any r A1 w2 w1.heap.size w2.heap.size (Nat.le_refl _) HM.out HF.out hn1 ho1.isIn)
  have HIM := hid (bookImpl_any r)
  have HRM := hid (mkRc_le 1 r)
  have HNL : Hid ((bkN r : Int) ≤ 1048576) := by have := bkN_le r; have := HM.out.dk; exact (by omega : (bkN r : Int) ≤ 1048576)
  have cI : Hid (∀ (A : RcA) (w : World) (lo hi : Nat), hi ≤ w.heap.size → RcNew r A → RcIn w lo hi r A → Calls Try.prog 24 #[rcV r A] w fun e w' => ∃ ad cap g, e = .returned (.slice ad (bkN r) cap) ∧ StrsOwn w' g (g + 1) ad (bkN r) (bkX r) ∧ (bkN r ≠ 0 → w.heap.size ≤ g ∧ g < w'.heap.size) ∧ Below w.heap.size w w') := fun A w lo hi h1 h2 h3 => HIM.out A w lo hi h1 HM.out HF.out h2 h3
  clear HIM
  generalize bkN r = n at *
  generalize bkX r = x at *
  clear hn1 ho1 hb2 Q1
  go_wp2_with fail
  refine HSP.out.mono ?_
  rintro e w3 ⟨ad2, cap2, rfl, hin2, hb3⟩
  have hB3 : Below w.heap.size w w3 := hB2.trans (hb3.mono hB2.size)
  have Q3 := hid (Q2.out.below hb3 Q2.out.lt)
  have I3 := hid hin2
  have z3 := hb3.size
  clear hin2 hb3 Q2 HSP hB2
  go_wp2_with (first | ((with_reducible show wpList _ _ _ (⟨some 19, Op.load 50 _, _, _, _, _⟩ :: _) _ _); refine wpList_load_mid rfl 50 _ rfl w.heap.size 0 rfl (rcC r A).toList _ (Holds.range (cs := (rcC r A).toList) Q3.out.cell) Try.underlying50 rfl Try.sz50 ?_))
  refine (toRc_any r A w3 0 w.heap.size hB3.size HM.out (HC.out.below hB3 (Nat.le_refl _))).mono ?_
  rintro e w4 ⟨A3, n1, n2, n3, n4, n5, n6, rfl, hn3, ho3, hb4⟩
  have hB5 : Below w.heap.size w w4 := hB3.trans (hb4.mono hB3.size)
  have Q5 := hid (Q3.out.below hb4 Q3.out.lt)
  have I5 := hid (I3.out.below2 hb4 (Nat.le_refl _))
  have z4 := hb4.size
  have HN3 := hid hn3
  obtain ⟨p3, hp3, hat3, hge3⟩ := ho3.at
  subst hp3
  have X5 := hid hat3
  have G5 := hid hge3
  clear hn3 ho3 hat3 hge3 hb4 Q3 I3 hB3
  go_wp2_with (first | ((with_reducible show wpList _ _ _ (⟨none, Op.store 58 _ _, _, _, _, _⟩ :: _) _ _); refine wpList_store_box rfl 58 _ _ rfl w4.heap.size (rcC r p3.A).toList rfl rfl (Bx.new w4 (rcL 0 0 false).toArray 58) rfl Try.sz58 (by simp [Value.oneCell']) ?_; intro V2 hr hfr hsv; have BV2 := hid hr; have DV2 : Below w4.heap.size w4 V2 := (below_alloc w4 _).trans (hfr.below (B := w4.heap.size) (Nat.le_refl _) (by simp)); have LV2 : w4.heap.size < V2.heap.size := hr.lt; clear hr hfr hsv; have Q6 := hid (Q5.out.below DV2 Q5.out.lt); have hB6 := hB5.trans (DV2.mono hB5.size); have I6 := hid (I5.out.below2 DV2 z4); have X6 := hid (X5.out.grow DV2); have HLT3 := hid X5.out.lt; clear Q5 I5 X5) | ((with_reducible show wpList _ _ _ (⟨some 21, Op.load 58 _, _, _, _, _⟩ :: _) _ _); refine wpList_load_mid rfl 58 _ rfl w4.heap.size 0 rfl (rcC r p3.A).toList _ (Holds.range (cs := (rcC r p3.A).toList) BV2.out.cell) Try.underlying58 rfl Try.sz58 ?_))
  refine (cI.out p3.A V2 0 w4.heap.size (Nat.le_of_lt LV2) HN3.out (X6.out.isIn (fun k hk => ⟨Nat.zero_le _, HLT3.out k hk⟩))).mono ?_
  rintro e w5 ⟨ad, cap, g, rfl, hat5, hge5, hb5⟩
  have hB7 : Below w.heap.size w w5 := hB6.trans (hb5.mono hB6.size)
  have KS0 : Hid (KS w5 w.heap.size w3.heap.size w4.heap.size g r A n x ad2 r p3 ad x) := ⟨Q6.out.below hb5 Q6.out.lt, HC.out.below hB7 (Nat.le_refl _), (I6.out.below2 hb5 (by omega)).mono (by omega) (Nat.le_refl _), BV2.out.below hb5 LV2, X6.out.grow hb5, fun k hk => ⟨G5.out k hk, HLT3.out k hk⟩, hat5, fun h0 => ⟨by have := hge5 h0; omega, (hge5 h0).2⟩, by omega, z4, Nat.lt_of_lt_of_le LV2 hb5.size⟩
  clear hat5 hge5 hb5 Q6 I6 X6 BV2 hB5 hB6 DV2 G5 HLT3 HN3
  have cE : Hid (∀ (w : World) (lo hi lo2 hi2 : Nat) (ad ad2 : Option Addr) (cap cap2 : Nat), StrsIn w lo hi ad n x → StrsIn w lo2 hi2 ad2 n x → Calls Try.prog 25 #[.slice ad n cap, .slice ad2 n cap2] w fun e w' => e = .returned (.bool true) ∧ ∃ q, w' = w.drewN q) := fun w lo hi lo2 hi2 ad ad2 cap cap2 h1 h2 => eqStrs_any n x ad ad2 cap cap2 w lo hi lo2 hi2 (by have := HNL.out; omega) h1 h2
  go_wp2_with fail
  refine (cE.out w5 g (g + 1) (w.heap.size + 1) w3.heap.size ad ad2 cap cap2 KS0.out.o8.isIn KS0.out.i6).mono ?_
  rintro e w6 ⟨rfl, q6, hq6⟩
  have hb6 : Below w5.heap.size w5 w6 := hq6 ▸ below_drewN' w5 q6
  have KS1 := hid (KS0.out.below hb6)
  have hB9 : Below w.heap.size w w6 := hB7.trans (hb6.mono hB7.size)
  clear hb6 hq6 KS0 hB7
  go_wp2
  refine bookReg10 _ _ _ _ _ _ _ _ _ _ _ _ _ _ _ _ _ _ _ _ _ _ _ _ _ _ _ _ _ _ _ _ _ _ _ _ _ _ _ _ _ _ _ _ _ _ _ _ _ _ _ _ _ _ _ _ _ _ _ _ _ _ w.heap.size w4.heap.size r A p3.A HF.out HM.out w6 (Holds.range (cs := (rcC r p3.A).toList) KS1.out.v7.cell) (Holds.range (cs := (rcC r A).toList) KS1.out.bx.cell) (KS1.out.x7.mono (Nat.zero_le _) (Nat.le_of_lt KS1.out.v7.lt)) KS1.out.arg KS1.out.bx.lt KS1.out.v7.lt _ ?_
  intro u0 u1 u2 u3 w7 hb7
  have KS2 := hid (KS1.out.below hb7)
  have hB10 : Below w.heap.size w w7 := hB9.trans (hb7.mono hB9.size)
  clear hb7 KS1 hB9
  go_wp2_with (first | ((with_reducible show wpList _ _ _ (⟨some 32, Op.load 58 _, _, _, _, _⟩ :: _) _ _); refine wpList_load_mid rfl 58 _ rfl w4.heap.size 0 rfl (rcC r p3.A).toList _ (Holds.range (cs := (rcC r p3.A).toList) KS2.out.v7.cell) Try.underlying58 rfl Try.sz58 ?_))
  refine (markRc_any r p3 1 w7 HM.out (Nat.le_refl _) (by have := HRM.out; have := HSZ.out; omega) KS2.out.a7).mono ?_
  rintro e w8 ⟨rfl, hx8, hf8⟩
  have KS3 := hid (KS2.out.markX 1 hx8 hf8)
  have hB11 : Below w.heap.size w w8 := hB10.trans (KS2.out.lowX hf8)
  have hkm : ¬ ((mkRc 1 r : Nat) : Int) < 0 := by omega
  generalize mkRc 1 r = km at *
  clear hx8 hf8 KS2 hB10
  go_wp2_with (first | (go_at_call 25; refine (cE.out w8 g (g + 1) (w.heap.size + 1) w3.heap.size ad ad2 cap cap2 KS3.out.o8.isIn KS3.out.i6).mono ?_; rintro e w9 ⟨rfl, q9, hq9⟩; have hb9 : Below w8.heap.size w8 w9 := hq9 ▸ below_drewN' w8 q9; have KS4 := hid (KS3.out.below hb9); have hB12 : Below w.heap.size w w9 := hB11.trans (hb9.mono hB11.size); clear hb9 hq9 KS3 hB11))
  refine (markStrs_own n x ad cap 1 1 rfl w9 g (fun h0 => (KS4.out.k8 h0).2) (by have := HNL.out; omega) (by omega) (by omega) KS4.out.o8).mono ?_
  rintro e w10 ⟨rfl, hx10, hf10⟩
  have KS5 := hid (KS4.out.markG hx10 hf10)
  have hB13 : Below w.heap.size w w10 := hB12.trans (KS4.out.lowG hf10)
  have hkm2 : ¬ (1 + (n : Int)) < 0 := by omega
  clear hx10 hf10 KS4 hB12
  go_wp2_with fail
  refine (heldStrs_own n ad cap 1 1 rfl w10 g (fun h0 => (KS5.out.k8 h0).2) (by have := HNL.out; omega) (by omega) (by omega) KS5.out.o8).mono ?_
  rintro e w11 ⟨rfl, hb11⟩
  have KS6 := hid (KS5.out.below hb11)
  have hB14 : Below w.heap.size w w11 := hB13.trans (hb11.mono hB13.size)
  clear hb11 KS5 hB13
  go_wp2_with (first | ((with_reducible show wpList _ _ _ (⟨some 54, Op.load 50 _, _, _, _, _⟩ :: _) _ _); refine wpList_load_mid rfl 50 _ rfl w.heap.size 0 rfl (rcC r A).toList _ (Holds.range (cs := (rcC r A).toList) KS6.out.bx.cell) Try.underlying50 rfl Try.sz50 ?_))
  refine (toRc_any r A w11 0 w.heap.size hB14.size HM.out KS6.out.arg).mono ?_
  rintro e w12 ⟨A6, o1, o2, o3, o4, o5, o6, rfl, hn6, ho6, hb12⟩
  have KS7 := hid (KS6.out.below hb12)
  have hB15 : Below w.heap.size w w12 := hB14.trans (hb12.mono hB14.size)
  have HCI := hid (cI.out A6 w12 w11.heap.size w12.heap.size (Nat.le_refl _) hn6 ho6.isIn)
  clear hb12 KS6 hB14 hn6 ho6
  go_wp2_with fail
  refine HCI.out.mono ?_
  rintro e w13 ⟨ad7, cap7, g7, rfl, hat7, hge7, hb13⟩
  have KS8 := hid (KS7.out.below hb13)
  have hB16 : Below w.heap.size w w13 := hB15.trans (hb13.mono hB15.size)
  have G8 := hid hat7
  clear hb13 KS7 hB15 hat7 hge7 HCI
  go_wp2_with fail
  refine (cE.out w13 g7 (g7 + 1) (w.heap.size + 1) w3.heap.size ad7 ad2 cap7 cap2 G8.out.isIn KS8.out.i6).mono ?_
  rintro e w14 ⟨rfl, q14, hq14⟩
  have hb14 : Below w13.heap.size w13 w14 := hq14 ▸ below_drewN' w13 q14
  have KS10 := hid (KS8.out.below hb14)
  have hB18 : Below w.heap.size w w14 := hB16.trans (hb14.mono hB16.size)
  clear hb14 hq14 KS8 hB16 G8
  go_wp2_with fail
  refine (heldStrs_own n ad cap 1 1 rfl w14 g (fun h0 => (KS10.out.k8 h0).2) (by have := HNL.out; omega) (by omega) (by omega) KS10.out.o8).mono ?_
  rintro e w15 ⟨rfl, hb15⟩
  have hB19 : Below w.heap.size w w15 := hB18.trans (hb15.mono hB18.size)
  clear hb15 KS10 hB18
  go_wp2
  go_ret
  exact ⟨rfl, hB19⟩
end Go.Proofs.Ytjepponnhieocaa
