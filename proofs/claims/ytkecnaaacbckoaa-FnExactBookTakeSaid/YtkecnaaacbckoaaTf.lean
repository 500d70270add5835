import Derived.Test.YtkecnaaacbckoaaTe
namespace Go.Proofs.Ytkecnaaacbckoaa
open Go.RowKit Go.Maps
def flK (o : Ob) (L : List EO) : List EO := L.filter (fun e => otherK o e.ob)
theorem flK_nil (o : Ob) : flK o [] = [] := rfl
set_option maxRecDepth 100000 in
set_option maxHeartbeats 1000000 in
theorem takeOut_any (o : Ob) (R : Nat) (ad : Option Addr) (g cap : Nat) (L : List EO) (w : World) (hR : R < w.heap.size) (hRg : ad ≠ none → ¬ R = g) (hc : w.cell? ⟨R, 0, none⟩ = some (.slice ad L.length cap)) (hfz : w.frozen? ⟨R, 0, none⟩ = false) (hst : RowS w ad g cap L) (hl : (L.length : Int) ≤ 1099511627775) :
    Calls Try.prog 67 #[.pointer (some ⟨R, 0, none⟩), .agg #[.string o.kind, .string o.name]] w fun e w' => e = .returned (.tuple #[]) ∧ w'.cell? ⟨R, 0, none⟩ = some (.slice ad (flK o L).length cap) ∧ w'.frozen? ⟨R, 0, none⟩ = false ∧ RowS w' ad g cap (flK o L) ∧ FrP (fun q => q = R ∨ (L ≠ [] ∧ q = g)) w w' := by
  have hB := below_alloc w (.cells #[.string o.kind, .string o.name] 84)
  have hz : (w.alloc (.cells #[.string o.kind, .string o.name] 84)).heap.size = w.heap.size + 1 := by simp
  have hk := holds_new w #[.string o.kind, .string o.name] 84
  obtain ⟨g2, had, hr2, hg2, hback⟩ : ∃ g2, (L ≠ [] → ad = some ⟨g2, 0, none⟩) ∧ (L ≠ [] → RowE (w.alloc (.cells #[.string o.kind, .string o.name] 84)) g2 L) ∧ ¬ w.heap.size = g2 ∧ (L ≠ [] → g2 = g) := by
    rcases hst with ⟨_, h2, _⟩ | ⟨h1, h2, _⟩
    · exact ⟨w.heap.size + 1, fun h => absurd h2 h, fun h => absurd h2 h, by omega, fun h => absurd h2 h⟩
    · exact ⟨g, fun _ => h1, fun _ => h2.grow hB, by have := h2.lt; omega, fun _ => rfl⟩
  have hcap : L.length ≤ cap := by
    rcases hst with ⟨_, h2, _⟩ | ⟨_, _, h3⟩
    · rw [h2]; exact Nat.zero_le _
    · exact h3
  have hdel := delete_any o w.heap.size ad g2 cap L _ (by omega) hcap had hr2 (by rw [hz]; omega) hg2 (hk 0) (hk 1)
  have HST := hid hst
  have HB := hid hback
  have HH := hid (show ∀ X, FrP (fun q => L ≠ [] ∧ q = g2) (w.alloc (.cells #[.string o.kind, .string o.name] 84)) X → X.cell? ⟨R, 0, none⟩ = some (.slice ad L.length cap) ∧ X.frozen? ⟨R, 0, none⟩ = false ∧ R < X.heap.size ∧ FrP (fun q => q = R ∨ (L ≠ [] ∧ q = g)) w X from fun X hX => by
    have hne : ¬ (L ≠ [] ∧ R = g2) := fun ⟨h1, h2⟩ => by
      rcases hst with ⟨_, h3, _⟩ | ⟨h3, _, _⟩
      · exact h1 h3
      · exact hRg (by rw [h3]; simp) (h2.trans (hback h1))
    refine ⟨?_, ?_, ?_, ?_⟩
    · exact (hX.cell (p := ⟨R, 0, none⟩) (by rw [hz]; show R < _; omega) hne).trans ((hB.cell (p := ⟨R, 0, none⟩) hR).trans hc)
    · exact (hX.frozen (p := ⟨R, 0, none⟩) (by rw [hz]; show R < _; omega) hne).trans ((hB.frozen (p := ⟨R, 0, none⟩) hR).trans hfz)
    · have := hX.size; omega
    · exact (FrP.of_below hB).trans (hX.mono (fun q ⟨h1, h2⟩ => Or.inr ⟨h1, h2.trans (hback h1)⟩)))
  have hcR := (hB.cell (p := ⟨R, 0, none⟩) hR).trans hc
  have hRz : R < (w.alloc (.cells #[.string o.kind, .string o.name] 84)).heap.size := by omega
  clear hst had hr2 hg2 hback hc hk hfz
  go_enter Try.func67, Try.ntmps67
  go_wp2_with fail
  refine hdel.mono ?_
  rintro e w1 ⟨rfl, hrow, hf⟩
  obtain ⟨c1, f1, z1, F1⟩ := HH.out w1 hf
  have HROW := hid hrow
  have HF := hid hf
  have HF1 := hid F1
  clear hcR hdel HH hf hrow F1
  go_wp2
  go_end0
  refine ⟨rfl, World.cell?_setCell_same _ _ _ c1, by rw [World.frozen?_setCell]; exact f1, ?_, HF1.out.setCell (p := ⟨R, 0, none⟩) (Or.inl rfl) _⟩
  have hB2 : Below w.heap.size w (w.alloc (.cells #[.string o.kind, .string o.name] 84)) := hB
  rcases HST.out with ⟨h1, h2, h3⟩ | ⟨h1, h2, h3⟩
  · subst h2
    exact Or.inl ⟨h1, rfl, h3⟩
  · have hRg' := hRg (by rw [h1]; simp)
    have hset : FrP (fun q => q = R) w1 (w1.setCell ⟨R, 0, none⟩ (.slice ad (L.filter (fun e => otherK o e.ob)).length cap)) := FrP.setCell (P := fun q => q = R) (FrP.refl _ w1) (p := ⟨R, 0, none⟩) rfl _
    refine Or.inr ⟨h1, ?_, Nat.le_trans (List.length_filter_le _ _) h3⟩
    by_cases hn : L = []
    · subst hn
      exact ((h2.grow hB2).fr HF.out (fun h => h.1 rfl)).fr hset (fun h => hRg' h.symm)
    · obtain rfl := HB.out hn
      exact (HROW.out hn).fr hset (fun h => hRg' h.symm)
def putD (i j : Nat) : Prop := (i = 2 ∧ j = 1) ∨ (i = 3 ∧ j = 2) ∨ (i = 4 ∧ j = 3) ∨ (i = 7 ∧ (j = 4 ∨ j = 5 ∨ j = 6)) ∨ (i = 8 ∧ j < 8) ∨ (i = 9 ∧ j = 8) ∨ (i = 10 ∧ (j = 9 ∨ j = 7))
def putGG (R : Nat) (ad : Option Addr) (cap : Nat) (L : List EO) (k : Nat) (e : EO) (W : World) (i : Nat) (v : Value) (X : World) : Prop :=
  match i with
  | 4 => v = .slice ad L.length cap
  | 5 => v = .int .i64 k
  | 6 => v = .agg #[.string e.ob.kind, .string e.ob.name, .int .i64 e.ob.ver, .int .i64 e.ob.born, .string e.ob.text, .bool e.ob.ending, .slice e.A e.ob.hn e.C]
  | 7 => ∃ g' cap', v = .slice (some ⟨g', 0, none⟩) (L.length + 1) cap' ∧ W.heap.size ≤ g' ∧ L.length + 1 ≤ cap' ∧ RowE X g' (L.take k ++ e :: L.drop k)
  | _ => v = .pointer (some ⟨R, 0, none⟩)
set_option maxRecDepth 100000 in
set_option maxHeartbeats 2000000 in
theorem putReg (p1 p2 p5 p6 p7 p8 p9 p10 p11 p12 p13 p14 p15 p16 p17 p18 p19 p20 p21 : Value) (R bo : Nat) (ad : Option Addr) (g cap : Nat) (L : List EO) (k : Nat) (e : EO) (W : World) (hst : RowS W ad g cap L) (hk : k ≤ L.length) (hl : (L.length : Int) ≤ 1099511627775) (hbo : Holds W bo (obCells e.ob e.A e.C)) (zbo : bo < W.heap.size) (hR : R < W.heap.size) (hc : W.cell? ⟨R, 0, none⟩ = some (.slice ad L.length cap)) (hfz : W.frozen? ⟨R, 0, none⟩ = false) (Q : Exit → Act → World → Prop)
    (hQ : ∀ (t : Nat → Value) g' cap' X, W.heap.size ≤ g' → L.length + 1 ≤ cap' → X.cell? ⟨R, 0, none⟩ = some (.slice (some ⟨g', 0, none⟩) (L.length + 1) cap') → X.frozen? ⟨R, 0, none⟩ = false → RowE X g' (L.take k ++ e :: L.drop k) → FrP (fun q => q = R) W X → Q .normal ⟨#[.pointer (some ⟨R, 0, none⟩), p1, p2, .pointer (some ⟨bo, 0, none⟩), .int .i64 k, p5, p6, p7, p8, p9, p10, p11, p12, p13, p14, p15, p16, p17, p18, p19, p20, p21, t 0, t 1, t 2, t 3, t 4, t 5, t 6, t 7, t 8, t 9], []⟩ X) :
    Code.wp Try.prog (Code.region 5 #[{ dst := some 22, op := Op.move (Operand.tmp 0), type := 59, pos := "l7_book_mirror.go:114", after := #[], guard := none }, { dst := some 23, op := Op.move (Operand.tmp 0), type := 59, pos := "l7_book_mirror.go:114", after := #[], guard := none }, { dst := some 24, op := Op.nilCheck (Operand.tmp 23), type := 0, pos := "l7_book_mirror.go:114", after := #[{ on := 1, ground := Ground.data }], guard := none }, { dst := some 25, op := Op.fieldAddr 61 (Operand.tmp 24) 0, type := 0, pos := "l7_book_mirror.go:114", after := #[{ on := 2, ground := Ground.data }], guard := none }, { dst := some 26, op := Op.load 30 (Operand.tmp 25), type := 30, pos := "l7_book_mirror.go:114", after := #[{ on := 3, ground := Ground.data }], guard := none }, { dst := some 27, op := Op.move (Operand.tmp 4), type := 3, pos := "l7_book_mirror.go:114", after := #[], guard := none }, { dst := some 28, op := Op.load 50 (Operand.tmp 3), type := 50, pos := "l7_book_mirror.go:114", after := #[], guard := none }, { dst := some 29, op := Op.call { callee := Callee.value (Operand.func 71), args := #[Operand.tmp 26, Operand.tmp 27, Operand.tmp 28], argTypes := #[30, 3, 50] }, type := 30, pos := "l7_book_mirror.go:114", after := #[{ on := 4, ground := Ground.data }, { on := 5, ground := Ground.data }, { on := 6, ground := Ground.data }], guard := none }, { dst := some 30, op := Op.nilCheck (Operand.tmp 22), type := 0, pos := "l7_book_mirror.go:114", after := #[{ on := 0, ground := Ground.data }, { on := 0, ground := Ground.phase }, { on := 1, ground := Ground.phase }, { on := 2, ground := Ground.phase }, { on := 3, ground := Ground.phase }, { on := 4, ground := Ground.phase }, { on := 5, ground := Ground.phase }, { on := 6, ground := Ground.phase }, { on := 7, ground := Ground.phase }], guard := none }, { dst := some 31, op := Op.fieldAddr 61 (Operand.tmp 30) 0, type := 0, pos := "l7_book_mirror.go:114", after := #[{ on := 8, ground := Ground.data }, { on := 0, ground := Ground.phase }, { on := 1, ground := Ground.phase }, { on := 2, ground := Ground.phase }, { on := 3, ground := Ground.phase }, { on := 4, ground := Ground.phase }, { on := 5, ground := Ground.phase }, { on := 6, ground := Ground.phase }, { on := 7, ground := Ground.phase }], guard := none }, { dst := none, op := Op.store 30 (Operand.tmp 31) (Operand.tmp 29), type := 0, pos := "l7_book_mirror.go:114", after := #[{ on := 9, ground := Ground.data }, { on := 7, ground := Ground.data }, { on := 7, ground := Ground.chain }, { on := 0, ground := Ground.phase }, { on := 1, ground := Ground.phase }, { on := 2, ground := Ground.phase }, { on := 3, ground := Ground.phase }, { on := 4, ground := Ground.phase }, { on := 5, ground := Ground.phase }, { on := 6, ground := Ground.phase }, { on := 7, ground := Ground.phase }], guard := none }] true) Q ⟨#[.pointer (some ⟨R, 0, none⟩), p1, p2, .pointer (some ⟨bo, 0, none⟩), .int .i64 k, p5, p6, p7, p8, p9, p10, p11, p12, p13, p14, p15, p16, p17, p18, p19, p20, p21, undef, undef, undef, undef, undef, undef, undef, undef, undef, undef], []⟩ W := by
  refine regionG (by kernel_rfl) 10 (fun t : Nat → Value => #[.pointer (some ⟨R, 0, none⟩), p1, p2, .pointer (some ⟨bo, 0, none⟩), .int .i64 k, p5, p6, p7, p8, p9, p10, p11, p12, p13, p14, p15, p16, p17, p18, p19, p20, p21, t 0, t 1, t 2, t 3, t 4, t 5, t 6, t 7, t 8, t 9]) (putGG R ad cap L k e W) putD (fun a X => ∃ (t : Nat → Value) (g' cap' : Nat), a = ⟨#[.pointer (some ⟨R, 0, none⟩), p1, p2, .pointer (some ⟨bo, 0, none⟩), .int .i64 k, p5, p6, p7, p8, p9, p10, p11, p12, p13, p14, p15, p16, p17, p18, p19, p20, p21, t 0, t 1, t 2, t 3, t 4, t 5, t 6, t 7, t 8, t 9], []⟩ ∧ W.heap.size ≤ g' ∧ L.length + 1 ≤ cap' ∧ X.cell? ⟨R, 0, none⟩ = some (.slice (some ⟨g', 0, none⟩) (L.length + 1) cap') ∧ X.frozen? ⟨R, 0, none⟩ = false ∧ RowE X g' (L.take k ++ e :: L.drop k) ∧ FrP (fun q => q = R) W X) rfl (by kernel_rfl) ?_ ?_ ?_ ?_ rfl ?_ ?_ ?_
  · intro i j h
    unfold putD at h
    omega
  · intro l i hr j hj
    obtain ⟨_, o, ho, hdep⟩ := mem_ready.1 hr
    rcases hj with ⟨rfl, rfl⟩ | ⟨rfl, rfl⟩ | ⟨rfl, rfl⟩ | ⟨rfl, rfl | rfl | rfl⟩ | ⟨rfl, hj⟩ | ⟨rfl, rfl⟩ | ⟨rfl, rfl | rfl⟩ <;> simp only [List.getElem?_toArray, List.getElem?_cons_succ, List.getElem?_cons_zero, Option.some.injEq] at ho <;> subst ho
    · exact hdep ⟨1, .data⟩ (by simp) rfl
    · exact hdep ⟨2, .data⟩ (by simp) rfl
    · exact hdep ⟨3, .data⟩ (by simp) rfl
    · exact hdep ⟨4, .data⟩ (by simp) rfl
    · exact hdep ⟨5, .data⟩ (by simp) rfl
    · exact hdep ⟨6, .data⟩ (by simp) rfl
    · rcases (show j = 0 ∨ j = 1 ∨ j = 2 ∨ j = 3 ∨ j = 4 ∨ j = 5 ∨ j = 6 ∨ j = 7 by omega) with rfl | rfl | rfl | rfl | rfl | rfl | rfl | rfl
      · exact hdep ⟨0, .phase⟩ (by simp) rfl
      · exact hdep ⟨1, .phase⟩ (by simp) rfl
      · exact hdep ⟨2, .phase⟩ (by simp) rfl
      · exact hdep ⟨3, .phase⟩ (by simp) rfl
      · exact hdep ⟨4, .phase⟩ (by simp) rfl
      · exact hdep ⟨5, .phase⟩ (by simp) rfl
      · exact hdep ⟨6, .phase⟩ (by simp) rfl
      · exact hdep ⟨7, .phase⟩ (by simp) rfl
    · exact hdep ⟨8, .data⟩ (by simp) rfl
    · exact hdep ⟨9, .data⟩ (by simp) rfl
    · exact hdep ⟨7, .data⟩ (by simp) rfl
  · intro f hcl hf j hj
    have f9 : f 9 := hf 9 (by unfold putD; omega)
    have f8 : f 8 := hcl 9 8 (by unfold putD; omega) f9
    rcases (show j < 8 ∨ j = 8 ∨ j = 9 by omega) with h | rfl | rfl
    · exact hcl 8 j (by unfold putD; omega) f8
    · exact f8
    · exact f9
  · intro i v X Y h hb
    match i with
    | 7 =>
      obtain ⟨g', cap', e1, e2, e3, e4⟩ := h
      exact ⟨g', cap', e1, e2, e3, e4.grow hb⟩
    | 0 => exact h
    | 1 => exact h
    | 2 => exact h
    | 3 => exact h
    | 4 => exact h
    | 5 => exact h
    | 6 => exact h
    | _ + 8 => exact h
  · intro i hi t X K hb hg hK
    rcases (show i = 0 ∨ i = 1 ∨ i = 2 ∨ i = 3 ∨ i = 4 ∨ i = 5 ∨ i = 6 ∨ i = 7 ∨ i = 8 ∨ i = 9 by omega) with rfl | rfl | rfl | rfl | rfl | rfl | rfl | rfl | rfl | rfl
    · have h := hK (.pointer (some ⟨R, 0, none⟩)) X rfl (Below.refl _ _)
      refine wpOp_of rfl rfl ?_
      go_simp
      exact h
    · have h := hK (.pointer (some ⟨R, 0, none⟩)) X rfl (Below.refl _ _)
      refine wpOp_of rfl rfl ?_
      go_simp
      exact h
    · have e1 : t 1 = .pointer (some ⟨R, 0, none⟩) := hg 1 (by unfold putD; omega)
      have h := hK (.pointer (some ⟨R, 0, none⟩)) X rfl (Below.refl _ _)
      refine wpOp_of rfl rfl ?_
      go_simp
      simpa [updT, e1] using h
    · have e1 : t 2 = .pointer (some ⟨R, 0, none⟩) := hg 2 (by unfold putD; omega)
      have h := hK (.pointer (some ⟨R, 0, none⟩)) X rfl (Below.refl _ _)
      refine wpOp_of rfl rfl ?_
      go_simp
      simpa [updT, e1] using h
    · have e1 : t 3 = .pointer (some ⟨R, 0, none⟩) := hg 3 (by unfold putD; omega)
      have hcX := (hb.cell (p := ⟨R, 0, none⟩) hR).trans hc
      have h := hK (.slice ad L.length cap) X rfl (Below.refl _ _)
      refine wpOp_of rfl rfl ?_
      go_simp
      simpa [updT, e1] using h
    · have h := hK (.int .i64 k) X rfl (Below.refl _ _)
      refine wpOp_of rfl rfl ?_
      go_simp
      exact h
    · obtain ⟨q0, q1, q2, q3, q4, q5, q6⟩ := holds_ob (hbo.below hb zbo)
      have h := hK (.agg #[.string e.ob.kind, .string e.ob.name, .int .i64 e.ob.ver, .int .i64 e.ob.born, .string e.ob.text, .bool e.ob.ending, .slice e.A e.ob.hn e.C]) X rfl (Below.refl _ _)
      refine wpOp_of rfl rfl ?_
      go_simp
      exact h
    · have e4 : t 4 = .slice ad L.length cap := hg 4 (by unfold putD; omega)
      have e5 : t 5 = .int .i64 k := hg 5 (by unfold putD; omega)
      have e6 : t 6 = .agg #[.string e.ob.kind, .string e.ob.name, .int .i64 e.ob.ver, .int .i64 e.ob.born, .string e.ob.text, .bool e.ob.ending, .slice e.A e.ob.hn e.C] := hg 6 (by unfold putD; omega)
      refine wpOp_of rfl rfl ?_
      have HK := hid hK
      have HST := hid (hst.grow hb)
      clear hK hg
      go_simp
      go_at_call 71
      refine (insert_any ad g cap L k e X HST.out hk hl).mono ?_
      rintro r Y ⟨g', cap', rfl, z1, z2, hr, hbY⟩
      have h := HK.out (.slice (some ⟨g', 0, none⟩) (L.length + 1) cap') Y ⟨g', cap', rfl, Nat.le_trans hb.size z1, z2, hr⟩ hbY
      simpa [updT, e4, e5, e6] using h
    · have e1 : t 0 = .pointer (some ⟨R, 0, none⟩) := hg 0 (by unfold putD; omega)
      have h := hK (.pointer (some ⟨R, 0, none⟩)) X rfl (Below.refl _ _)
      refine wpOp_of rfl rfl ?_
      go_simp
      simpa [updT, e1] using h
    · have e1 : t 8 = .pointer (some ⟨R, 0, none⟩) := hg 8 (by unfold putD; omega)
      have h := hK (.pointer (some ⟨R, 0, none⟩)) X rfl (Below.refl _ _)
      refine wpOp_of rfl rfl ?_
      go_simp
      simpa [updT, e1] using h
  · intro t X K hb hg hK
    have e9 : t 9 = .pointer (some ⟨R, 0, none⟩) := hg 9 (by omega)
    obtain ⟨g', cap', e7, z1, z2, hr⟩ : ∃ g' cap', t 7 = .slice (some ⟨g', 0, none⟩) (L.length + 1) cap' ∧ W.heap.size ≤ g' ∧ L.length + 1 ≤ cap' ∧ RowE X g' (L.take k ++ e :: L.drop k) := hg 7 (by omega)
    have hcX := (hb.cell (p := ⟨R, 0, none⟩) hR).trans hc
    have hfX := (hb.frozen (p := ⟨R, 0, none⟩) hR).trans hfz
    have hset : FrP (fun q => q = R) X (X.setCell ⟨R, 0, none⟩ (.slice (some ⟨g', 0, none⟩) (L.length + 1) cap')) := FrP.setCell (P := fun q => q = R) (FrP.refl _ X) (p := ⟨R, 0, none⟩) rfl _
    have h := hK ⟨#[.pointer (some ⟨R, 0, none⟩), p1, p2, .pointer (some ⟨bo, 0, none⟩), .int .i64 k, p5, p6, p7, p8, p9, p10, p11, p12, p13, p14, p15, p16, p17, p18, p19, p20, p21, t 0, t 1, t 2, t 3, t 4, t 5, t 6, t 7, t 8, t 9], []⟩ (X.setCell ⟨R, 0, none⟩ (.slice (some ⟨g', 0, none⟩) (L.length + 1) cap')) ⟨t, g', cap', rfl, z1, z2, World.cell?_setCell_same _ _ _ hcX, by rw [World.frozen?_setCell]; exact hfX, hr.fr hset (fun h => by omega), (FrP.of_below hb).trans hset⟩
    refine wpOp_of rfl rfl ?_
    clear hr hset hK hg
    go_simp
    simpa [e7, e9] using h
  · rintro a X ⟨t, g', cap', rfl, h1, h2, h3, h4, h5, h6⟩
    exact hQ t g' cap' X h1 h2 h3 h4 h5 h6
theorem ixE_map {L : List EO} {i : Nat} (h : i < L.length) : (L.map EO.ob)[i]? = some (ixE L i).ob := by
  rw [ixE_lt h]
  simp [h]
theorem flK_map (o : Ob) (L : List EO) : (flK o L).map EO.ob = (L.map EO.ob).filter (otherK o) := by
  unfold flK
  rw [List.filter_map]
  rfl
/-- the place that put finds, and what comes of it -/
def placeP (o : Ob) (L : List EO) (k : Nat) : Prop := k ≤ L.length ∧ (∀ j, j < k → befB (ixE L j).ob o = true) ∧ (k < L.length → befB (ixE L k).ob o = false)
theorem put_list {o : EO} {L : List EO} {k : Nat} (h : placeP o.ob L k) : ((flK o.ob L).take k ++ o :: (flK o.ob L).drop k).map EO.ob = putG o.ob (L.map EO.ob) := by
  obtain ⟨h1, h2, h3⟩ := h
  rw [putG_split o.ob (L.map EO.ob) k (by simpa using h1) (fun j hj => ⟨_, ixE_map (by omega), h2 j hj⟩) (fun hk => by
    have hk' : k < L.length := by simpa using hk
    exact ⟨_, ixE_map hk', h3 hk'⟩)]
  rw [List.map_append, List.map_cons, List.map_take, List.map_drop, flK_map]
theorem place_le {o : Ob} {L : List EO} {k : Nat} (h : placeP o L k) : k ≤ (flK o L).length := by
  obtain ⟨h1, h2, _⟩ := h
  have e : flK o (L.take k) = L.take k := filter_take_all h1 (fun t ht => by
    have := (keyI_neg _ _).2 (h2 t ht)
    exact decide_eq_true (by omega))
  have hs : (flK o (L.take k)).length ≤ (flK o L).length := ((List.take_sublist k L).filter _).length_le
  rw [e, List.length_take, Nat.min_eq_left h1] at hs
  exact hs
set_option maxRecDepth 100000 in
set_option maxHeartbeats 2000000 in
theorem put_any (e : EO) (R : Nat) (ad : Option Addr) (g cap : Nat) (L : List EO) (w : World) (hR : R < w.heap.size) (hRg : ad ≠ none → ¬ R = g) (hc : w.cell? ⟨R, 0, none⟩ = some (.slice ad L.length cap)) (hfz : w.frozen? ⟨R, 0, none⟩ = false) (hst : RowS w ad g cap L) (hl : (L.length : Int) ≤ 1099511627775) :
    Calls Try.prog 66 #[.pointer (some ⟨R, 0, none⟩), .agg #[.string e.ob.kind, .string e.ob.name, .int .i64 e.ob.ver, .int .i64 e.ob.born, .string e.ob.text, .bool e.ob.ending, .slice e.A e.ob.hn e.C]] w fun r w' => ∃ k g' cap', r = .returned (.tuple #[]) ∧ placeP e.ob L k ∧ w.heap.size ≤ g' ∧ (flK e.ob L).length + 1 ≤ cap' ∧ w'.cell? ⟨R, 0, none⟩ = some (.slice (some ⟨g', 0, none⟩) ((flK e.ob L).length + 1) cap') ∧ w'.frozen? ⟨R, 0, none⟩ = false ∧ RowE w' g' ((flK e.ob L).take k ++ e :: (flK e.ob L).drop k) ∧ FrP (fun q => q = R ∨ (L ≠ [] ∧ q = g)) w w' := by
  have hB := below_alloc w (.cells (obCells e.ob e.A e.C) 50)
  have hz : (w.alloc (.cells (obCells e.ob e.A e.C) 50)).heap.size = w.heap.size + 1 := by simp
  have hbx := holds_new w (obCells e.ob e.A e.C) 50
  obtain ⟨b0, b1, b2, b3, b4, b5, b6⟩ := holds_ob hbx
  have hst1 := hst.grow hB
  have hidx := index69_any (fun x => !befB x.ob e.ob) w.heap.size ad g cap L (w.alloc (.cells (obCells e.ob e.A e.C) 50)) (by omega) (fun h => by
      rcases hst with ⟨_, h2, _⟩ | ⟨h1, _, _⟩
      · exact absurd h2 h
      · exact h1) (fun h => by
      rcases hst1 with ⟨_, h2, _⟩ | ⟨_, h2, _⟩
      · exact absurd h2 h
      · exact h2) (fun W x hbW => notBefore_any x.ob e.ob x.A e.A x.C e.C w.heap.size W (by have := hbW.size; omega) ⟨(hbW.cell (p := ⟨w.heap.size, 0, none⟩) (by rw [hz]; show w.heap.size < _; omega)).trans b0, (hbW.cell (p := ⟨w.heap.size, 0 + 1, none⟩) (by rw [hz]; show w.heap.size < _; omega)).trans b1, (hbW.cell (p := ⟨w.heap.size, 0 + 2, none⟩) (by rw [hz]; show w.heap.size < _; omega)).trans b2, (hbW.cell (p := ⟨w.heap.size, 0 + 3, none⟩) (by rw [hz]; show w.heap.size < _; omega)).trans b3, (hbW.cell (p := ⟨w.heap.size, 0 + 4, none⟩) (by rw [hz]; show w.heap.size < _; omega)).trans b4, (hbW.cell (p := ⟨w.heap.size, 0 + 5, none⟩) (by rw [hz]; show w.heap.size < _; omega)).trans b5, (hbW.cell (p := ⟨w.heap.size, 0 + 6, none⟩) (by rw [hz]; show w.heap.size < _; omega)).trans b6⟩)
  have hcR := (hB.cell (p := ⟨R, 0, none⟩) hR).trans hc
  have hfR := (hB.frozen (p := ⟨R, 0, none⟩) hR).trans hfz
  have hRz : R < (w.alloc (.cells (obCells e.ob e.A e.C) 50)).heap.size := by omega
  have HST := hid hst
  have HST1 := hid hst1
  have HBX := hid hbx
  have HFR := hid hfR
  clear hst hst1 hfz hbx b0 b1 b2 b3 b4 b5 b6 hfR
  have HCR := hid hcR
  clear hcR
  go_enter Try.func66, Try.ntmps66
  go_wp2_with fail
  refine hidx.mono ?_
  rintro e1 w1 ⟨r, rfl, hfst, hb1⟩
  have c1 := (hb1.cell (p := ⟨R, 0, none⟩) hRz).trans HCR.out
  have hz1 := hb1.size
  have hR1 : R < w1.heap.size := by omega
  have hBB : Below w.heap.size w w1 := hB.trans (hb1.mono (by omega))
  have HF1 := hid ((hb1.frozen (p := ⟨R, 0, none⟩) hRz).trans HFR.out)
  have HBX1 := hid (HBX.out.below hb1 (by rw [hz]; omega))
  obtain ⟨x0, x1, x2, x3, x4, x5, x6⟩ := holds_ob HBX1.out
  have zx : w.heap.size < w1.heap.size := by omega
  clear hidx HCR HFR HBX hc
  obtain ⟨k, hkr, hpl⟩ : ∃ k : Nat, (if r < 0 then (L.length : Int) else r) = k ∧ placeP e.ob L k := by
    rcases hfst with ⟨rfl, hall⟩ | ⟨k, hk, rfl, hkt, hkn⟩
    · exact ⟨L.length, by simp, Nat.le_refl _, fun j hj => by simpa using hall j hj, fun h => absurd h (Nat.lt_irrefl _)⟩
    · exact ⟨k, by rw [if_neg (by omega)], Nat.le_of_lt hk, fun j hj => by simpa using hkn j hj, fun _ => by simpa using hkt⟩
  have HPL := hid hpl
  have HFST := hid hfst
  have HST2 := hid (HST1.out.grow hb1)
  clear hfst hpl
  have hfin : ∀ (k : Nat), True := fun _ => trivial
  clear hfin
  by_cases hr : r < 0
  · rw [if_pos hr] at hkr
    obtain rfl : L.length = k := by omega
    go_wp2_with (go_at_call 41; go_must (refine (keyOf0_any e.ob e.A e.C _).mono ?_; rintro e2 w2 ⟨rfl, hb2⟩))
    refine (takeOut_any e.ob R ad g cap L w2 (by have := hb2.size; omega) hRg ((hb2.cell (p := ⟨R, 0, none⟩) hR1).trans c1) ((hb2.frozen (p := ⟨R, 0, none⟩) hR1).trans HF1.out) (HST2.out.grow hb2) hl).mono ?_
    rintro e3 w3 ⟨rfl, c3, f3, hst3, hf3⟩
    have hz2 := hb2.size
    have hz3 := hf3.size
    have hbx3 : Holds w3 w.heap.size (obCells e.ob e.A e.C) := fun i => by
      refine (hf3.cell (p := ⟨w.heap.size, i, none⟩) (by show w.heap.size < _; omega) ?_).trans ((HBX1.out.below hb2 zx) i)
      rintro (h | ⟨h1, h2⟩)
      · have : w.heap.size = R := h
        omega
      · have h2 : w.heap.size = g := h2
        rcases HST.out with ⟨_, h3, _⟩ | ⟨_, h3, _⟩
        · exact h1 h3
        · have := h3.lt
          omega
    have HX3 := hid hbx3
    have HS3 := hid hst3
    have HF3 := hid hf3
    have HC3 := hid c3
    have HZ3 := hid f3
    have hBB2 : Below w.heap.size w w2 := hBB.trans (hb2.mono (by omega))
    clear c3 f3 hst3 hf3 hbx3 x0 x1 x2 x3 x4 x5 x6 c1 hb2
    go_wp2
    refine putReg _ _ _ _ _ _ _ _ _ _ _ _ _ _ _ _ _ _ _ R w.heap.size ad g cap (flK e.ob L) _ e w3 HS3.out (place_le HPL.out) (by have := List.length_filter_le (fun x : EO => otherK e.ob x.ob) L; unfold flK; omega) HX3.out (by omega) (by omega) HC3.out HZ3.out _ ?_
    intro t g' cap' X z1 z2 cX fX rX hfX
    have HCX := hid cX
    have HFX := hid fX
    have HRX := hid rX
    have HX := hid ((((FrP.of_below (P := fun q => q = R ∨ (L ≠ [] ∧ q = g)) hBB2).trans HF3.out)).trans (hfX.mono (fun q h => Or.inl h)))
    clear cX fX rX hfX
    go_wp2
    go_end0
    exact ⟨_, g', cap', rfl, HPL.out, by omega, z2, HCX.out, HFX.out, HRX.out, HX.out⟩
  · rw [if_neg hr] at hkr
    subst hkr
    go_wp2_with (go_at_call 41; go_must (refine (keyOf0_any e.ob e.A e.C _).mono ?_; rintro e2 w2 ⟨rfl, hb2⟩))
    refine (takeOut_any e.ob R ad g cap L w2 (by have := hb2.size; omega) hRg ((hb2.cell (p := ⟨R, 0, none⟩) hR1).trans c1) ((hb2.frozen (p := ⟨R, 0, none⟩) hR1).trans HF1.out) (HST2.out.grow hb2) hl).mono ?_
    rintro e3 w3 ⟨rfl, c3, f3, hst3, hf3⟩
    have hz2 := hb2.size
    have hz3 := hf3.size
    have hbx3 : Holds w3 w.heap.size (obCells e.ob e.A e.C) := fun i => by
      refine (hf3.cell (p := ⟨w.heap.size, i, none⟩) (by show w.heap.size < _; omega) ?_).trans ((HBX1.out.below hb2 zx) i)
      rintro (h | ⟨h1, h2⟩)
      · have : w.heap.size = R := h
        omega
      · have h2 : w.heap.size = g := h2
        rcases HST.out with ⟨_, h3, _⟩ | ⟨_, h3, _⟩
        · exact h1 h3
        · have := h3.lt
          omega
    have HX3 := hid hbx3
    have HS3 := hid hst3
    have HF3 := hid hf3
    have HC3 := hid c3
    have HZ3 := hid f3
    have hBB2 : Below w.heap.size w w2 := hBB.trans (hb2.mono (by omega))
    clear c3 f3 hst3 hf3 hbx3 x0 x1 x2 x3 x4 x5 x6 c1 hb2
    go_wp2
    refine putReg _ _ _ _ _ _ _ _ _ _ _ _ _ _ _ _ _ _ _ R w.heap.size ad g cap (flK e.ob L) _ e w3 HS3.out (place_le HPL.out) (by have := List.length_filter_le (fun x : EO => otherK e.ob x.ob) L; unfold flK; omega) HX3.out (by omega) (by omega) HC3.out HZ3.out _ ?_
    intro t g' cap' X z1 z2 cX fX rX hfX
    have HCX := hid cX
    have HFX := hid fX
    have HRX := hid rX
    have HX := hid ((((FrP.of_below (P := fun q => q = R ∨ (L ≠ [] ∧ q = g)) hBB2).trans HF3.out)).trans (hfX.mono (fun q h => Or.inl h)))
    clear cX fX rX hfX
    go_wp2
    go_end0
    exact ⟨_, g', cap', rfl, HPL.out, by omega, z2, HCX.out, HFX.out, HRX.out, HX.out⟩
end Go.Proofs.Ytkecnaaacbckoaa
