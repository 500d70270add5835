import Derived.Test.YtipdnhgdaiimlaaXr
import Derived.Test.YtipdnhgdaiimlaaRg
import Derived.Test.YtipdnhgdaiimlaaNc
import Derived.Test.YtipdnhgdaiimlaaWz
import Derived.Test.YtipdnhgdaiimlaaYsz
namespace Go.Proofs.Ytipdnhgdaiimlaa
open Go.RowKit
theorem Try.sz52 : (Try.prog.info? 52).map (·.size) = some 18 := by kernel_rfl
theorem le_sumTo (f : Nat → Nat) : ∀ {n i : Nat}, i < n → f i ≤ sumTo f n
  | 0, i, h => absurd h (Nat.not_lt_zero _)
  | n + 1, i, h => by
    unfold sumTo
    by_cases e : i = n
    · subst e; omega
    · have := le_sumTo f (n := n) (i := i) (by omega); omega
theorem rcSmall_of {r : Rc} (h : (szRc r : Int) ≤ 1048576) : RcSmall r := by
  unfold szRc szDk szMss szStrs szSls szAks at h
  refine ⟨by omega, by omega, by omega, fun i hi => ?_, by omega, by omega, by omega, by omega, fun i hi => ?_⟩
  · have := le_sumTo (fun i => szMs (r.hs i)) hi
    simp only [szMs, szSls] at this
    simp only [szMs, szSls] at h
    omega
  · have := le_sumTo (fun i => szAk (r.as_ i)) hi
    simp only [szAk] at this
    simp only [szAk] at h
    omega
theorem wpOp_load {P : Program} {ops : Array Oper} {Q : Exit → Act → World → Prop} {i : Nat} {K : Act → World → Prop} {a : Act} {w : World} {o : Oper} (ho : ops[i]? = some o) (hg : o.guard = none) (ty : TypeId) (x : Operand) (hop : o.op = .load ty x)
    (b : Nat) (hx : a.eval x = .pointer (some ⟨b, 0, none⟩)) (cs : List Value) (d : TypeDesc) (hc : w.rangeAt b 0 cs)
    (hu : P.underlying ty = some d) (hd : d.isRow = true) (hi : (P.info? ty).map (·.size) = some cs.length)
    (h : K (a.put o.dst (.agg cs.toArray)) w) : wpOp P ops Q i K a w :=
  wpOp_of ho hg (wp_load_mid ty x hop b 0 hx cs d hc hu hd hi h)
theorem RcIn.mono {w : World} {lo hi lo2 hi2 : Nat} {r : Rc} {A : RcA} (h : RcIn w lo hi r A) (h1 : lo2 ≤ lo) (h2 : hi ≤ hi2) : RcIn w lo2 hi2 r A :=
  ⟨h.sf.mono h1 h2, h.dk.mono h1 h2, h.hs.mono h1 h2, h.ws.mono h1 h2, h.ys.mono h1 h2, h.bs.mono h1 h2, h.as_.mono h1 h2⟩
set_option maxRecDepth 100000 in
set_option maxHeartbeats 8000000 in
theorem valReg10 (p0 p2 p3 p4 p6 p7 p8 p9 p10 p11 p12 p13 p14 p15 p16 p17 p18 p19 p20 p21 : Value) (s0 b5 : Nat) (r : Rc) (A A5 : RcA) (hf : RcFit r) (hm : RcSmall r) (W : World) (hv : W.rangeAt b5 0 (rcC r A5).toList) (hbx : W.rangeAt s0 0 (rcC r A).toList) (hat : RcIn W 0 W.heap.size r A5) (hin : RcIn W 0 s0 r A) (hs : s0 < W.heap.size) (zb : b5 < W.heap.size) (Q : Exit → Act → World → Prop)
    (hQ : ∀ u0 u1 u2 u3 X, Below W.heap.size W X → Q .normal ⟨#[p0, .pointer (some ⟨s0, 0, none⟩), p2, p3, p4, .pointer (some ⟨b5, 0, none⟩), p6, p7, p8, p9, p10, p11, p12, p13, p14, p15, p16, p17, p18, p19, p20, p21, u0, u1, u2, u3, .bool false], []⟩ X) :
    Code.wp Try.prog (Code.region 10 #[{ dst := some 22, op := Op.load 44 (Operand.tmp 5), type := 44, pos := "exact.go:2760", after := #[], guard := none }, { dst := some 23, op := Op.load 52 (Operand.tmp 1), type := 52, pos := "exact.go:2760", after := #[], guard := none }, { dst := some 24, op := Op.call { callee := Callee.value (Operand.func 27), args := #[Operand.tmp 23], argTypes := #[52] }, type := 44, pos := "exact.go:2760", after := #[{ on := 1, ground := Ground.data }], guard := none }, { dst := some 25, op := Op.call { callee := Callee.value (Operand.func 22), args := #[Operand.tmp 22, Operand.tmp 24], argTypes := #[44, 44] }, type := 4, pos := "exact.go:2760", after := #[{ on := 0, ground := Ground.data }, { on := 2, ground := Ground.data }, { on := 2, ground := Ground.chain }], guard := none }, { dst := some 26, op := Op.unOp UnOp.not 4 (Operand.tmp 25), type := 4, pos := "exact.go:2760", after := #[{ on := 3, ground := Ground.data }], guard := none }] true) Q ⟨#[p0, .pointer (some ⟨s0, 0, none⟩), p2, p3, p4, .pointer (some ⟨b5, 0, none⟩), p6, p7, p8, p9, p10, p11, p12, p13, p14, p15, p16, p17, p18, p19, p20, p21, undef, undef, undef, undef, undef], []⟩ W := by
  refine region5 (by kernel_rfl) (fun t : Nat → Value => #[p0, .pointer (some ⟨s0, 0, none⟩), p2, p3, p4, .pointer (some ⟨b5, 0, none⟩), p6, p7, p8, p9, p10, p11, p12, p13, p14, p15, p16, p17, p18, p19, p20, p21, t 0, t 1, t 2, t 3, t 4]) (rcV r A5) (rcV r A) (fun v X => ∃ A', v = rcV r A' ∧ RcIn X 0 X.heap.size r A') rfl (by kernel_rfl) ?hd ?st2 rfl ?s0 ?s1 ?s2 ?s3 ?s4 ?hfin
  case hd =>
    intro l i hr
    obtain ⟨_, o, ho, hdep⟩ := mem_ready.1 hr
    refine ⟨fun e => ?_, fun e => ?_, fun e => ?_⟩ <;> subst e <;> simp only [List.getElem?_toArray, List.getElem?_cons_succ, List.getElem?_cons_zero, Option.some.injEq] at ho <;> subst ho
    · exact hdep ⟨1, .data⟩ (by simp) rfl
    · exact ⟨hdep ⟨0, .data⟩ (by simp) rfl, hdep ⟨2, .data⟩ (by simp) rfl⟩
    · exact hdep ⟨3, .data⟩ (by simp) rfl
  case st2 =>
    rintro v X Y ⟨A', rfl, h⟩ hb
    exact ⟨A', rfl, (h.below hb (Nat.le_refl _)).mono (Nat.le_refl _) hb.size⟩
  case s0 =>
    intro t X K hb hK
    exact wpOp_load rfl rfl 44 _ rfl b5 rfl (rcC r A5).toList _ (World.rangeAt_below hv hb zb) Try.underlying44 rfl Try.sz44 hK
  case s1 =>
    intro t X K hb hK
    exact wpOp_load rfl rfl 52 _ rfl s0 rfl (rcC r A).toList _ (World.rangeAt_below hbx hb hs) Try.underlying52 rfl Try.sz52 hK
  case s2 =>
    intro t X K hb e1 hK
    refine wpOp_of rfl rfl ?_
    have HK := hid hK
    clear hK
    go_simp
    go_at_call 27
    refine (toRc_any r A X 0 s0 (by have := hb.size; omega) hm (hin.below hb (by omega))).mono ?_
    rintro e Y ⟨A', m1, m2, m3, m4, m5, m6, rfl, hn', ho', hbY⟩
    have h := HK.out _ Y ⟨A', rfl, ho'.isIn.mono (Nat.zero_le _) (Nat.le_refl _)⟩ hbY
    simpa [updT, e1] using h
  case s3 =>
    intro t X K hb e0 h2 hK
    obtain ⟨A', e2, i2⟩ := h2
    refine wpOp_of rfl rfl ?_
    have HK := hid hK
    have HI2 := hid i2
    clear hK i2
    go_simp
    go_at_call 22
    refine (eqRc_any r A5 A' X 0 X.heap.size 0 X.heap.size (Nat.le_refl _) (Nat.le_refl _) hf ((hat.below hb (Nat.le_refl _)).mono (Nat.le_refl _) hb.size) HI2.out).mono ?_
    rintro e Y ⟨rfl, hbY⟩
    have h := HK.out Y hbY
    simpa [updT, e0, e2] using h
  case s4 =>
    intro t X K e3 hK
    refine wpOp_of rfl rfl ?_
    go_simp
    simpa [updT, e3] using hK
  case hfin =>
    intro t X e4 hb
    have h := hQ (t 0) (t 1) (t 2) (t 3) X hb
    rw [← e4] at h
    exact h
set_option maxRecDepth 100000 in
set_option maxHeartbeats 8000000 in
theorem valid_law (r : Rc) (A : RcA) (w : World) (hf : RcFit r) (hc : RcIn w 0 w.heap.size r A) :
    Calls Try.prog 6 #[rcV r A] w fun e w' => e = .returned (.bool true) ∧ Below w.heap.size w w' := by
  have HF := hid hf
  have HC := hid hc
  have cS := hid (specValid_any r)
  have cI := hid (implValid_any r)
  clear hf hc
  have mark : Nat := 0
  go_enter Try.func6, Try.ntmps6
  go_wp2_with (first | ((with_reducible show wpList _ _ _ (⟨some 7, _, _, _, _, _⟩ :: _) _ _); clear mark; have hB0 := below_alloc w (.cells (rcC r A) 52); have H0 := hid (Holds.range (cs := (rcC r A).toList) (holds_new w (rcC r A) 52)); have hz0 : w.heap.size < (w.alloc (.cells (rcC r A) 52)).heap.size := (by simp); generalize w.alloc (.cells (rcC r A) 52) = W at *) | ((with_reducible show wpList _ _ _ (⟨some 7, Op.load 52 _, _, _, _, _⟩ :: _) _ _); refine wpList_load_mid rfl 52 _ rfl w.heap.size 0 rfl (rcC r A).toList _ H0.out Try.underlying52 rfl Try.sz52 ?_))
  refine (szRc_any r A 1048576 W (by omega) (by omega) 0 w.heap.size (by have := hB0.size; omega) HF.out (HC.out.below hB0 (Nat.le_refl _))).mono ?_
  rintro e w1 ⟨rfl, hb1⟩
  have hB1 : Below w.heap.size w w1 := hB0.trans (hb1.mono hB0.size)
  have H1 : Hid (w1.rangeAt w.heap.size 0 (rcC r A).toList) := hid (World.rangeAt_below H0.out hb1 hz0)
  have hz1 : w.heap.size < w1.heap.size := Nat.lt_of_lt_of_le hz0 hb1.size
  clear hb1 H0 hB0 hz0
  by_cases hsz : szOut 1048576 (szRc r) < 0
  · clear H1
    go_wp2
    go_ret
    exact ⟨rfl, hB1⟩
  have HM := hid (rcSmall_of (szOut_ge (l := 1048576) (s := szRc r) (by omega)).1)
  go_wp2_with (first | ((with_reducible show wpList _ _ _ (⟨some 12, Op.load 52 _, _, _, _, _⟩ :: _) _ _); refine wpList_load_mid rfl 52 _ rfl w.heap.size 0 rfl (rcC r A).toList _ H1.out Try.underlying52 rfl Try.sz52 ?_))
  refine (toRc_any r A w1 0 w.heap.size (by omega) HM.out (HC.out.below hB1 (Nat.le_refl _))).mono ?_
  rintro e w2 ⟨A2, m1, m2, m3, m4, m5, m6, rfl, hn2, ho2, hb2⟩
  have hB2 : Below w.heap.size w w2 := hB1.trans (hb2.mono hB1.size)
  have H2 : Hid (w2.rangeAt w.heap.size 0 (rcC r A).toList) := hid (World.rangeAt_below H1.out hb2 hz1)
  have hz2 : w.heap.size < w2.heap.size := Nat.lt_of_lt_of_le hz1 hb2.size
  have hS := hid (cS.out A2 w2 w1.heap.size w2.heap.size (Nat.le_refl _) HF.out ho2.isIn)
  generalize rcB r = bv at *
  clear hb2 H1 hn2 ho2 hB1 hz1
  go_wp2_with fail
  refine hS.out.mono ?_
  rintro e w3 ⟨rfl, hb3⟩
  have hB3 : Below w.heap.size w w3 := hB2.trans (hb3.mono hB2.size)
  have H3 : Hid (w3.rangeAt w.heap.size 0 (rcC r A).toList) := hid (World.rangeAt_below H2.out hb3 hz2)
  have hz3 : w.heap.size < w3.heap.size := Nat.lt_of_lt_of_le hz2 hb3.size
  clear hb3 H2 hS hB2 hz2
  go_wp2_with (first | ((with_reducible show wpList _ _ _ (⟨some 15, Op.load 52 _, _, _, _, _⟩ :: _) _ _); refine wpList_load_mid rfl 52 _ rfl w.heap.size 0 rfl (rcC r A).toList _ H3.out Try.underlying52 rfl Try.sz52 ?_))
  refine (toRc_any r A w3 0 w.heap.size (by omega) HM.out (HC.out.below hB3 (Nat.le_refl _))).mono ?_
  rintro e w4 ⟨A4, n1, n2, n3, n4, n5, n6, rfl, hn4, ho4, hb4⟩
  have hB4 : Below w.heap.size w w4 := hB3.trans (hb4.mono hB3.size)
  have H4 : Hid (w4.rangeAt w.heap.size 0 (rcC r A).toList) := hid (World.rangeAt_below H3.out hb4 hz3)
  have hz4 : w.heap.size < w4.heap.size := Nat.lt_of_lt_of_le hz3 hb4.size
  have HN4 := hid hn4
  have HO4 := hid (ho4.isIn.mono (Nat.zero_le _) (Nat.le_refl _))
  clear hb4 H3 hn4 ho4 hB3 hz3
  go_wp2_with (first | ((with_reducible show wpList _ _ _ (⟨none, Op.store 44 _ _, _, _, _, _⟩ :: _) _ _); refine wpList_store_new rfl 44 _ _ rfl w4.heap.size (rcC r A4).toList rfl rfl (there44 w4) Try.sz44 (by simp [Value.oneCell']) ?_; intro V hr hfr hsv; have HV := hid hr; have HFV := hid hfr; have HSV := hid hsv; clear hr hfr hsv) | ((with_reducible show wpList _ _ _ (⟨some 17, Op.load 44 _, _, _, _, _⟩ :: _) _ _); refine wpList_load_mid rfl 44 _ rfl w4.heap.size 0 rfl (rcC r A4).toList _ HV.out Try.underlying44 rfl Try.sz44 ?_))
  have hBV : Below w.heap.size w V := (hB4.alloc hB4.size _).trans (HFV.out.below hB4.size (by simp; have := hB4.size; omega))
  have zV : w4.heap.size < V.heap.size := by rw [HSV.out]; simp
  have hb4V : Below w4.heap.size w4 V := (below_alloc w4 _).trans (HFV.out.below (Nat.le_refl _) (by simp))
  have H4V : Hid (V.rangeAt w.heap.size 0 (rcC r A).toList) := hid (World.rangeAt_below H4.out hb4V hz4)
  have hI := hid (cI.out A4 V 0 w4.heap.size (by omega) HF.out HN4.out (HO4.out.below hb4V (Nat.le_refl _)))
  have HO5 := hid ((HO4.out.below hb4V (Nat.le_refl _)))
  clear HFV HSV H4 hB4 HO4
  refine hI.out.mono ?_
  rintro e w5 ⟨rfl, hb5⟩
  have hB5 : Below w.heap.size w w5 := hBV.trans (hb5.mono hBV.size)
  have H5 : Hid (w5.rangeAt w.heap.size 0 (rcC r A).toList) := hid (World.rangeAt_below H4V.out hb5 (by omega))
  have X5 : Hid (w5.rangeAt w4.heap.size 0 (rcC r A4).toList) := hid (World.rangeAt_below HV.out hb5 zV)
  have z5 : w4.heap.size < w5.heap.size := Nat.lt_of_lt_of_le zV hb5.size
  have HO6 := hid ((HO5.out.below hb5 (by omega)).mono (Nat.le_refl _) (Nat.le_of_lt z5))
  have HC5 := hid (HC.out.below hB5 (Nat.le_refl _))
  clear hb5 hI HV H4V hBV zV hb4V HO5 HN4
  have hne : (bv != bv) = false := by cases bv <;> rfl
  go_wp2
  refine valReg10 _ _ _ _ _ _ _ _ _ _ _ _ _ _ _ _ _ _ _ _ w.heap.size w4.heap.size r A A4 HF.out HM.out w5 X5.out H5.out HO6.out HC5.out (by omega) z5 _ ?_
  intro u0 u1 u2 u3 X hX
  have hBX : Below w.heap.size w X := hB5.trans (hX.mono hB5.size)
  clear hX X5 H5 HO6 HC5
  go_wp2
  go_ret
  exact ⟨rfl, hBX⟩
end Go.Proofs.Ytipdnhgdaiimlaa
