import Derived.Test.YtcmimbohmninkaaDoorLh
import Derived.Deep.MidRow
namespace Go.Proofs.YtcmimbohmninkaaDoor
open Go.RowKit
theorem wpOp_load_at {P : Program} {ops : Array Oper} {Q : Exit → Act → World → Prop} {i : Nat} {K : Act → World → Prop} {a : Act} {w : World} {o : Oper} (ho : ops[i]? = some o) (hg : o.guard = none) (ty : TypeId) (x : Operand) (hop : o.op = .load ty x)
    (b off : Nat) (hx : a.eval x = .pointer (some ⟨b, off, none⟩)) (cs : List Value) (d : TypeDesc) (hc : w.rangeAt b off cs)
    (hu : P.underlying ty = some d) (hd : d.isRow = true) (hi : (P.info? ty).map (·.size) = some cs.length)
    (h : K (a.put o.dst (.agg cs.toArray)) w) : wpOp P ops Q i K a w :=
  wpOp_of ho hg (wp_load_mid ty x hop b off hx cs d hc hu hd hi h)
theorem World.rangeAt_below {w w' : World} {B b : Nat} {cs : List Value} (h : w.rangeAt b 0 cs) (hb : Below B w w') (hB : b < B) : w'.rangeAt b 0 cs := fun j v hv => (hb.cell (p := ⟨b, 0 + j, none⟩) hB).trans (h j v hv)
theorem wpList_store_new {P : Program} {ops : Array Oper} {rest : List Oper} {op : Oper} {a : Act} {w : World} {Q : Exit → Act → World → Prop} (hgd : op.guard = none) (ty : TypeId) (x y : Operand) (ho : op.op = .store ty x y)
    (b : Nat) (cs : List Value) (hx : a.eval x = .pointer (some ⟨b, 0, none⟩)) (hy : a.eval y = .agg cs.toArray)
    (ht : w.there b 0 cs.length) (hi : (P.info? ty).map (·.size) = some cs.length) (h1 : ∀ v ∈ cs, v.oneCell' = true)
    (h : ∀ W2 : World, W2.rangeAt b 0 cs → Fr b (b + 1) w W2 → W2.heap.size = w.heap.size → wpList P ops Q rest (a.put op.dst undef) W2) : wpList P ops Q (op :: rest) a w :=
  wpList_store_mid hgd ty x y ho b 0 cs.toArray hx hy (by simpa using ht) (by simpa using hi) (all_oneCell_toArray h1) (h _ (World.rangeAt_setCells_same _ _ _ _ ht) (fr_setCells _ _ _ _) (size_setCells _ _ _ _))
theorem Holds.range {W : World} {B : Nat} {cs : List Value} (h : Holds W B cs.toArray) : W.rangeAt B 0 cs := fun j v hv => by
  rw [Nat.zero_add, h j]
  simpa using hv
theorem Holds.there {W : World} {B : Nat} {c : Array Value} (h : Holds W B c) (hf : ∀ i, W.frozen? ⟨B, i, none⟩ = false) : W.there B 0 c.size := fun j hj => by
  rw [Nat.zero_add, h j]
  exact ⟨by simp [hj], hf j⟩
theorem bc_sz27 : (Tryd.prog.info? 27).map (·.size) = some 4 := by kernel_rfl
theorem bc_sz35 : (Tryd.prog.info? 35).map (·.size) = some 4 := by kernel_rfl
theorem there4 (w : World) : (w.alloc (.cells #[.string ⟨#[]⟩, .int .i64 0, .slice none 0 0, .slice none 0 0] 35)).there w.heap.size 0 4 :=
  Holds.there (c := #[.string ⟨#[]⟩, .int .i64 0, .slice none 0 0, .slice none 0 0]) (holds_new w _ 35) (fun i => by rw [World.frozen?_alloc_at _ _ _ _ rfl])
theorem bcSmall_of {c : Bc} (h : (szBc c : Int) ≤ 1048576) : BcSmall c := by
  unfold szBc szBd szWts szWrs at h
  exact ⟨by omega, by omega⟩
set_option maxRecDepth 100000 in
set_option maxHeartbeats 8000000 in
theorem lfLaw10 (p0 p2 p3 p4 p6 p7 p8 p9 p10 p11 p12 p13 p14 p15 p16 p17 p18 p19 p20 p21 : Value) (s0 b5 : Nat) (v : Bc) (V V5 : BcA) (_hf : BcFit v) (hm : BcSmall v) (W : World) (hv : W.rangeAt b5 0 (bcC v V5).toList) (hbx : W.rangeAt s0 0 (bcC v V).toList) (hat : BcIn W 0 W.heap.size v V5) (hin : BcIn W 0 s0 v V) (hs : s0 < W.heap.size) (zb : b5 < W.heap.size) (Q : Exit → Act → World → Prop)
    (hQ : ∀ u0 u1 u2 u3 X, Below W.heap.size W X → Q .normal ⟨#[p0, .pointer (some ⟨s0, 0, none⟩), p2, p3, p4, .pointer (some ⟨b5, 0, none⟩), p6, p7, p8, p9, p10, p11, p12, p13, p14, p15, p16, p17, p18, p19, p20, p21, u0, u1, u2, u3, .bool false], []⟩ X) :
    Code.wp Tryd.prog (Code.region 10 #[{ dst := some 22, op := Op.load 35 (Operand.tmp 5), type := 35, pos := "exact.go:3361", after := #[], guard := none }, { dst := some 23, op := Op.load 27 (Operand.tmp 1), type := 27, pos := "exact.go:3361", after := #[], guard := none }, { dst := some 24, op := Op.call { callee := Callee.value (Operand.func 6), args := #[Operand.tmp 23], argTypes := #[27] }, type := 35, pos := "exact.go:3361", after := #[{ on := 1, ground := Ground.data }], guard := none }, { dst := some 25, op := Op.call { callee := Callee.value (Operand.func 8), args := #[Operand.tmp 22, Operand.tmp 24], argTypes := #[35, 35] }, type := 4, pos := "exact.go:3361", after := #[{ on := 0, ground := Ground.data }, { on := 2, ground := Ground.data }, { on := 2, ground := Ground.chain }], guard := none }, { dst := some 26, op := Op.unOp UnOp.not 4 (Operand.tmp 25), type := 4, pos := "exact.go:3361", after := #[{ on := 3, ground := Ground.data }], guard := none }] true) Q ⟨#[p0, .pointer (some ⟨s0, 0, none⟩), p2, p3, p4, .pointer (some ⟨b5, 0, none⟩), p6, p7, p8, p9, p10, p11, p12, p13, p14, p15, p16, p17, p18, p19, p20, p21, undef, undef, undef, undef, undef], []⟩ W := by
  refine region5 (by kernel_rfl) (fun t : Nat → Value => #[p0, .pointer (some ⟨s0, 0, none⟩), p2, p3, p4, .pointer (some ⟨b5, 0, none⟩), p6, p7, p8, p9, p10, p11, p12, p13, p14, p15, p16, p17, p18, p19, p20, p21, t 0, t 1, t 2, t 3, t 4]) (bcV v V5) (bcV v V) (fun x X => ∃ V', x = bcV v V' ∧ BcIn X 0 X.heap.size v V') rfl (by kernel_rfl) ?hd ?st2 rfl ?s0 ?s1 ?s2 ?s3 ?s4 ?hfin
  case hd =>
    intro l i hr
    obtain ⟨_, o, ho, hdep⟩ := mem_ready.1 hr
    refine ⟨fun e => ?_, fun e => ?_, fun e => ?_⟩ <;> subst e <;> simp only [List.getElem?_toArray, List.getElem?_cons_succ, List.getElem?_cons_zero, Option.some.injEq] at ho <;> subst ho
    · exact hdep ⟨1, .data⟩ (by simp) rfl
    · exact ⟨hdep ⟨0, .data⟩ (by simp) rfl, hdep ⟨2, .data⟩ (by simp) rfl⟩
    · exact hdep ⟨3, .data⟩ (by simp) rfl
  case st2 =>
    rintro x X Y ⟨V', rfl, h⟩ hb
    exact ⟨V', rfl, (h.below hb (Nat.le_refl _)).mono (Nat.le_refl _) hb.size⟩
  case s0 =>
    intro t X K hb hK
    exact wpOp_load_at rfl rfl 35 _ rfl b5 0 rfl (bcC v V5).toList _ (World.rangeAt_below hv hb zb) Tryd.underlying35 rfl bc_sz35 hK
  case s1 =>
    intro t X K hb hK
    exact wpOp_load_at rfl rfl 27 _ rfl s0 0 rfl (bcC v V).toList _ (World.rangeAt_below hbx hb hs) Tryd.underlying27 rfl bc_sz27 hK
  case s2 =>
    intro t X K hb e1 hK
    refine wpOp_of rfl rfl ?_
    have HK := hid hK
    clear hK
    go_simp
    go_at_call 6
    refine (toBc_any v V X 0 s0 (by have := hb.size; omega) hm (hin.below hb (by omega))).mono ?_
    rintro e Y ⟨V', rfl, ho', hbY⟩
    have h := HK.out _ Y ⟨V', rfl, ho'.mono (Nat.zero_le _) (Nat.le_refl _)⟩ hbY
    simpa [updT, e1] using h
  case s3 =>
    intro t X K hb e0 h2 hK
    obtain ⟨V', e2, i2⟩ := h2
    refine wpOp_of rfl rfl ?_
    have HK := hid hK
    have HI2 := hid i2
    clear hK i2
    go_simp
    go_at_call 8
    refine (eqBc_any v V5 V' X 0 X.heap.size 0 X.heap.size (Nat.le_refl _) (Nat.le_refl _) hm ((hat.below hb (Nat.le_refl _)).mono (Nat.le_refl _) hb.size) HI2.out).mono ?_
    rintro e Y ⟨rfl, hbY⟩
    have h := HK.out Y hbY
    simpa [updT, e0, e2] using h
  case s4 =>
    intro t X K e3 hK
    refine wpOp_of rfl rfl ?_
    go_simp
    simpa [updT, e3] using hK
  case hfin =>
    intro t X e4 hb
    have h := hQ (t 0) (t 1) (t 2) (t 3) X hb
    rw [← e4] at h
    exact h
set_option maxRecDepth 100000 in
set_option maxHeartbeats 8000000 in
theorem form_law (v : Bc) (V : BcA) (w : World) (hf : BcFit v) (hc : BcIn w 0 w.heap.size v V) (hT : Tab w) (hE : Ers w) :
    Calls Tryd.prog 3 #[bcV v V] w fun e w' => e = .returned (.bool true) ∧ Below w.heap.size w w' := by
  have HF := hid hf
  have HC := hid hc
  have HT := hid hT
  have HER := hid hE
  have cS := hid (specForm_any v)
  have cI := hid (implForm_any v)
  clear hf hc hT hE
  have mark : Nat := 0
  go_enter Tryd.func3, Tryd.ntmps3
  go_wp2_with (first | ((with_reducible show wpList _ _ _ (⟨some 7, _, _, _, _, _⟩ :: _) _ _); clear mark; have hB0 := below_alloc w (.cells (bcC v V) 27); have H0 := hid (Holds.range (cs := (bcC v V).toList) (holds_new w (bcC v V) 27)); have hz0 : w.heap.size < (w.alloc (.cells (bcC v V) 27)).heap.size := (by simp); generalize w.alloc (.cells (bcC v V) 27) = W at *) | ((with_reducible show wpList _ _ _ (⟨some 7, Op.load 27 _, _, _, _, _⟩ :: _) _ _); refine wpList_load_mid rfl 27 _ rfl w.heap.size 0 rfl (bcC v V).toList _ H0.out Tryd.underlying27 rfl bc_sz27 ?_))
  refine (szBc_any v V 1048576 W (by omega) (by omega) 0 w.heap.size (by have := hB0.size; omega) HF.out (HC.out.below hB0 (Nat.le_refl _))).mono ?_
  rintro e w1 ⟨rfl, hb1⟩
  have hB1 : Below w.heap.size w w1 := hB0.trans (hb1.mono hB0.size)
  have H1 : Hid (w1.rangeAt w.heap.size 0 (bcC v V).toList) := hid (World.rangeAt_below H0.out hb1 hz0)
  have hz1 : w.heap.size < w1.heap.size := Nat.lt_of_lt_of_le hz0 hb1.size
  clear hb1 H0 hB0 hz0
  by_cases hsz : szOut 1048576 (szBc v) < 0
  · clear H1
    go_wp2
    go_ret
    exact ⟨rfl, hB1⟩
  have HM := hid (bcSmall_of (szOut_ge (l := 1048576) (s := szBc v) (by omega)).1)
  go_wp2_with (first | ((with_reducible show wpList _ _ _ (⟨some 12, Op.load 27 _, _, _, _, _⟩ :: _) _ _); refine wpList_load_mid rfl 27 _ rfl w.heap.size 0 rfl (bcC v V).toList _ H1.out Tryd.underlying27 rfl bc_sz27 ?_))
  refine (toBc_any v V w1 0 w.heap.size (by omega) HM.out (HC.out.below hB1 (Nat.le_refl _))).mono ?_
  rintro e w2 ⟨V2, rfl, ho2, hb2⟩
  have hB2 : Below w.heap.size w w2 := hB1.trans (hb2.mono hB1.size)
  have H2 : Hid (w2.rangeAt w.heap.size 0 (bcC v V).toList) := hid (World.rangeAt_below H1.out hb2 hz1)
  have hz2 : w.heap.size < w2.heap.size := Nat.lt_of_lt_of_le hz1 hb2.size
  have hS := hid (cS.out V2 w2 w1.heap.size w2.heap.size (Nat.le_refl _) HF.out ho2)
  generalize lfS v = bv at *
  clear hb2 H1 ho2 hB1 hz1
  go_wp2_with fail
  refine hS.out.mono ?_
  rintro e w3 ⟨rfl, hb3⟩
  have hB3 : Below w.heap.size w w3 := hB2.trans (hb3.mono hB2.size)
  have H3 : Hid (w3.rangeAt w.heap.size 0 (bcC v V).toList) := hid (World.rangeAt_below H2.out hb3 hz2)
  have hz3 : w.heap.size < w3.heap.size := Nat.lt_of_lt_of_le hz2 hb3.size
  clear hb3 H2 hS hB2 hz2
  go_wp2_with (first | ((with_reducible show wpList _ _ _ (⟨some 15, Op.load 27 _, _, _, _, _⟩ :: _) _ _); refine wpList_load_mid rfl 27 _ rfl w.heap.size 0 rfl (bcC v V).toList _ H3.out Tryd.underlying27 rfl bc_sz27 ?_))
  refine (toBc_any v V w3 0 w.heap.size (by omega) HM.out (HC.out.below hB3 (Nat.le_refl _))).mono ?_
  rintro e w4 ⟨V4, rfl, ho4, hb4⟩
  have hB4 : Below w.heap.size w w4 := hB3.trans (hb4.mono hB3.size)
  have H4 : Hid (w4.rangeAt w.heap.size 0 (bcC v V).toList) := hid (World.rangeAt_below H3.out hb4 hz3)
  have hz4 : w.heap.size < w4.heap.size := Nat.lt_of_lt_of_le hz3 hb4.size
  have HO4 := hid (ho4.mono (Nat.zero_le _) (Nat.le_refl _))
  clear hb4 H3 ho4 hB3 hz3
  go_wp2_with (first | ((with_reducible show wpList _ _ _ (⟨none, Op.store 35 _ _, _, _, _, _⟩ :: _) _ _); refine wpList_store_new rfl 35 _ _ rfl w4.heap.size (bcC v V4).toList rfl rfl (there4 w4) bc_sz35 (by simp [Value.oneCell']) ?_; intro X hr hfr hsv; have HV := hid hr; have HFV := hid hfr; have HSV := hid hsv; clear hr hfr hsv) | ((with_reducible show wpList _ _ _ (⟨some 17, Op.load 35 _, _, _, _, _⟩ :: _) _ _); refine wpList_load_mid rfl 35 _ rfl w4.heap.size 0 rfl (bcC v V4).toList _ HV.out Tryd.underlying35 rfl bc_sz35 ?_))
  have hBV : Below w.heap.size w X := (hB4.alloc hB4.size _).trans (HFV.out.below hB4.size (by simp; have := hB4.size; omega))
  have zV : w4.heap.size < X.heap.size := by rw [HSV.out]; simp
  have hb4V : Below w4.heap.size w4 X := (below_alloc w4 _).trans (HFV.out.below (Nat.le_refl _) (by simp))
  have H4V : Hid (X.rangeAt w.heap.size 0 (bcC v V).toList) := hid (World.rangeAt_below H4.out hb4V hz4)
  have hI := hid (cI.out V4 X 0 w4.heap.size (by omega) HF.out (HO4.out.below hb4V (Nat.le_refl _)) (HT.out.below hBV) (HER.out.below hBV))
  have HO5 := hid ((HO4.out.below hb4V (Nat.le_refl _)))
  clear HFV HSV H4 hB4 HO4
  refine hI.out.mono ?_
  rintro e w5 ⟨rfl, hb5⟩
  have hB5 : Below w.heap.size w w5 := hBV.trans (hb5.mono hBV.size)
  have H5 : Hid (w5.rangeAt w.heap.size 0 (bcC v V).toList) := hid (World.rangeAt_below H4V.out hb5 (by omega))
  have X5 : Hid (w5.rangeAt w4.heap.size 0 (bcC v V4).toList) := hid (World.rangeAt_below HV.out hb5 zV)
  have z5 : w4.heap.size < w5.heap.size := Nat.lt_of_lt_of_le zV hb5.size
  have HO6 := hid ((HO5.out.below hb5 (by omega)).mono (Nat.le_refl _) (Nat.le_of_lt z5))
  have HC5 := hid (HC.out.below hB5 (Nat.le_refl _))
  clear hb5 hI HV H4V hBV zV hb4V HO5
  go_wp2
  refine lfLaw10 _ _ _ _ _ _ _ _ _ _ _ _ _ _ _ _ _ _ _ _ w.heap.size w4.heap.size v V V4 HF.out HM.out w5 X5.out H5.out HO6.out HC5.out (by omega) z5 _ ?_
  intro u0 u1 u2 u3 X hX
  have hBX : Below w.heap.size w X := hB5.trans (hX.mono hB5.size)
  clear hX X5 H5 HO6 HC5
  go_wp2
  go_ret
  exact ⟨rfl, hBX⟩
end Go.Proofs.YtcmimbohmninkaaDoor
