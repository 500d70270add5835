import Derived.Test.YtjepponnhieocaaHa
import Derived.Test.YtjepponnhieocaaGg
import Derived.Test.YtjepponnhieocaaHc
namespace Go.Proofs.Ytjepponnhieocaa
open Go.RowKit Go.Maps Go.WideElems Go.ChangeShapes Go.WideShapes Go.MapKept Go.ChangeMaps
def MajInv (p0 p1 p2 p3 p4 p5 p7 p8 p10 p11 p12 p13 p14 p15 p16 p17 p18 p19 p20 p21 p22 p23 p24 p25 p26 p27 p28 p29 p30 p37 p38 p39 p40 p41 p42 p43 p44 p45 p46 p47 p48 p49 p50 : Value) (b B : Nat) (s : Sl) (c : Int) (v0 : Value) (st : Nat) (W W1 W2 : World) (l : Array Bool) (a : Act) (w' : World) : Prop :=
  ∃ t31 t32 t33 t34 t35 t36 : Value, a = ⟨#[p0, p1, p2, p3, p4, p5, .map (some b), p7, p8, .pointer (some ⟨B, 0, none⟩), p10, p11, p12, p13, p14, p15, p16, p17, p18, p19, p20, p21, p22, p23, p24, p25, p26, p27, p28, p29, p30, t31, t32, t33, t34, t35, t36, p37, p38, p39, p40, p41, p42, p43, p44, p45, p46, p47, p48, p49, p50], []⟩ ∧ l.size = 7 ∧ (l.getD 0 false = true → t31 = .map (some b)) ∧ (l.getD 1 false = true → t32 = slV s) ∧ (l.getD 2 false = true → t33 = .int .i64 c) ∧ (l.getD 3 false = true → t34 = .int .i64 (c + 1)) ∧ (l.getD 4 false = true → t35 = .tuple #[v0, goInt st]) ∧ (l.getD 5 false = true → t36 = goInt st) ∧ (l.getD 5 false = true → l.getD 4 false = true) ∧ (l.getD 6 false = true → ∀ j, j < 6 → l.getD j false = true) ∧ (l.getD 4 false = false → w' = W.drew) ∧ (l.getD 4 false = true → l.getD 6 false = false → w' = W1) ∧ (l.getD 6 false = true → w' = W2)
theorem listed_no {l : Array Bool} {i j : Nat} (h : l.getD i false = true → l.getD j false = true) (hj : l.getD j false = false) : l.getD i false = false := by
  cases hi : l.getD i false with
  | false => rfl
  | true => rw [h hi] at hj; cases hj
set_option maxRecDepth 100000 in
set_option maxHeartbeats 8000000 in
theorem majReg7 (p0 p1 p2 p3 p4 p5 p7 p8 p10 p11 p12 p13 p14 p15 p16 p17 p18 p19 p20 p21 p22 p23 p24 p25 p26 p27 p28 p29 p30 p37 p38 p39 p40 p41 p42 p43 p44 p45 p46 p47 p48 p49 p50 : Value) (u31 u32 u33 u34 u35 u36 : Value) (b B : Nat) (s : Sl) (n : Nat) (D : DataW Unit) (c : Int) (W : World) (hown : W.ownsMap Try.prog 100 (plainElem Try.prog 3) b n D) (hn : n < maxLen) (hk : keyOf Try.prog 100 (slV s) = some (kl s))
    (hc0 : W.cell? ⟨B, 0, none⟩ = some (.int .i64 s.bal)) (hc1 : W.cell? ⟨B, 1, none⟩ = some (.string s.text)) (hBb : B ≠ b) (hBW : B < W.heap.size) (hat : D.atKey (kl s) (.lit (.int .i64 0)) = .lit (.int .i64 c)) (hcc : 0 ≤ c ∧ c ≤ 1000) (Q : Exit → Act → World → Prop)
    (hQ : ∀ (t31 t32 t33 t34 t35 t36 : Value) X, X.ownsMap Try.prog 100 (plainElem Try.prog 3) b (n + 1) (D.put (kl s) (.lit (.int .i64 (c + 1)))) → W.grownBy X (some b) → Q .normal ⟨#[p0, p1, p2, p3, p4, p5, .map (some b), p7, p8, .pointer (some ⟨B, 0, none⟩), p10, p11, p12, p13, p14, p15, p16, p17, p18, p19, p20, p21, p22, p23, p24, p25, p26, p27, p28, p29, p30, t31, t32, t33, t34, t35, t36, p37, p38, p39, p40, p41, p42, p43, p44, p45, p46, p47, p48, p49, p50], []⟩ X) :
    Code.wp Try.prog (Code.region 7 #[{ dst := some 31, op := Op.move (Operand.tmp 6), type := 129, pos := "l18_rec_agree.go:49", after := #[], guard := none }, { dst := some 32, op := Op.load 100 (Operand.tmp 9), type := 100, pos := "l18_rec_agree.go:49", after := #[], guard := none }, { dst := some 33, op := Op.lookup 129 (Operand.tmp 31) (Operand.tmp 32) false, type := 3, pos := "l18_rec_agree.go:49", after := #[{ on := 0, ground := Ground.data }, { on := 1, ground := Ground.data }], guard := none }, { dst := some 34, op := Op.binOp BinOp.add 3 (Operand.tmp 33) (Operand.const (Value.int IntKind.i64 1)) 3, type := 3, pos := "l18_rec_agree.go:49", after := #[{ on := 2, ground := Ground.data }], guard := none }, { dst := some 35, op := Op.mapEntry 129 (Operand.tmp 31) (Operand.tmp 32), type := 0, pos := "l18_rec_agree.go:49", after := #[{ on := 0, ground := Ground.data }, { on := 1, ground := Ground.data }, { on := 0, ground := Ground.phase }, { on := 1, ground := Ground.phase }, { on := 2, ground := Ground.textOnly Departure.mapOpAssignEntry }, { on := 3, ground := Ground.textOnly Departure.mapOpAssignEntry }], guard := none }, { dst := some 36, op := Op.extract (Operand.tmp 35) 1, type := 3, pos := "l18_rec_agree.go:49", after := #[{ on := 4, ground := Ground.data }], guard := none }, { dst := none, op := Op.entryStore 129 (Operand.tmp 31) (Operand.tmp 36) (Operand.tmp 34), type := 0, pos := "l18_rec_agree.go:49", after := #[{ on := 0, ground := Ground.data }, { on := 5, ground := Ground.data }, { on := 3, ground := Ground.data }, { on := 4, ground := Ground.chain }, { on := 0, ground := Ground.phase }, { on := 1, ground := Ground.phase }, { on := 2, ground := Ground.phase }, { on := 3, ground := Ground.phase }, { on := 4, ground := Ground.phase }, { on := 5, ground := Ground.phase }], guard := none }] true) Q ⟨#[p0, p1, p2, p3, p4, p5, .map (some b), p7, p8, .pointer (some ⟨B, 0, none⟩), p10, p11, p12, p13, p14, p15, p16, p17, p18, p19, p20, p21, p22, p23, p24, p25, p26, p27, p28, p29, p30, u31, u32, u33, u34, u35, u36, p37, p38, p39, p40, p41, p42, p43, p44, p45, p46, p47, p48, p49, p50], []⟩ W := by
  have hown0 : W.drew.ownsMap Try.prog 100 (plainElem Try.prog 3) b n D := hown
  obtain ⟨v0, st, W1, D1, hE, ho1, hat1, hg1, hS⟩ := entry_own hown0 hn hk
  have hwf : (Lit.int .i64 (c + 1)).wf = true := WalkArith.wf_i64 (by omega)
  obtain ⟨W2, hS2, ho2, hg2⟩ := hS (c + 1) hwf
  have hL0 : (Instr.lookup 129 (.map (some b)) (slV s) false).run Try.prog W.drew = .ok (.int .i64 c) W.drew := by
    obtain ⟨c', hr, h1, _⟩ := hown0.lookup_int mp_law Try.underlying129 Try.underlying3 (mp_zero3 _) hk
    rw [hat] at h1
    cases h1
    exact hr
  have hL1 : (Instr.lookup 129 (.map (some b)) (slV s) false).run Try.prog W1 = .ok (.int .i64 c) W1 := by
    obtain ⟨c', hr, h1, _⟩ := ho1.lookup_int mp_law Try.underlying129 Try.underlying3 (mp_zero3 _) hk
    rw [hat1, hat] at h1
    cases h1
    exact hr
  have d0 : W.drew.cell? ⟨B, 0, none⟩ = some (.int .i64 s.bal) := hc0
  have d1 : W.drew.cell? ⟨B, 1, none⟩ = some (.string s.text) := hc1
  have hgB : W1.heap[B]? = W.drew.heap[B]? := hg1.block B hBW (fun e => hBb (by injection e))
  have q0 : W1.cell? ⟨B, 0, none⟩ = some (.int .i64 s.bal) := (World.cell?_of_block (w := W.drew) hgB).trans d0
  have q1 : W1.cell? ⟨B, 1, none⟩ = some (.string s.text) := (World.cell?_of_block (w := W.drew) hgB).trans d1
  clear hS
  refine wp_region_inv (by kernel_rfl) (MajInv p0 p1 p2 p3 p4 p5 p7 p8 p10 p11 p12 p13 p14 p15 p16 p17 p18 p19 p20 p21 p22 p23 p24 p25 p26 p27 p28 p29 p30 p37 p38 p39 p40 p41 p42 p43 p44 p45 p46 p47 p48 p49 p50 b B s c v0 st W W1 W2) ?_ ?_ ?_ ?_
  · refine ⟨u31, u32, u33, u34, u35, u36, rfl, by simp, ?_⟩
    simp
  · rintro l a w' ⟨t31, t32, t33, t34, t35, t36, _, hls, _⟩
    exact hls
  · rintro l a w' ⟨t31, t32, t33, t34, t35, t36, rfl, hls, f0, f1, f2, f3, f4, f5, n54, n6, g0, g1, g2⟩ hr
    have AL := all_listed (by kernel_rfl) (by rw [hls]; rfl) hr
    obtain rfl := g2 (AL 6 (by decide))
    exact hQ _ _ _ _ _ _ _ ho2 ⟨hg2.os, hg2.tape, hg2.output, hg2.size, hg2.block⟩
  · rintro l a w' i ⟨t31, t32, t33, t34, t35, t36, rfl, hls, f0, f1, f2, f3, f4, f5, n54, n6, g0, g1, g2⟩ hr
    obtain ⟨hu, o', ho, hdep⟩ := mem_ready.1 hr
    have hi7 : i < 7 := by
      have := (Array.getElem?_eq_some_iff.1 ho).1
      simpa using this
    have kp : ∀ j, ¬ j = i → (l.setIfInBounds i true).getD j false = l.getD j false := fun j hj => by rw [getD_set (by omega), if_neg hj]
    have ki : (l.setIfInBounds i true).getD i false = true := by rw [getD_set (by omega), if_pos rfl]
    have hsz' : (l.setIfInBounds i true).size = 7 := by simp [hls]
    have hui : l.getD i false = false := by simpa [Array.getD, hls, hi7] using hu
    clear hr hu
    have F0 := hid f0
    have F1 := hid f1
    have F2 := hid f2
    have F3 := hid f3
    have F4 := hid f4
    have F5 := hid f5
    have G0 := hid g0
    have G1 := hid g1
    have G2 := hid g2
    clear f0 f1 f2 f3 f4 f5 g0 g1 g2
    rcases (show i = 0 ∨ i = 1 ∨ i = 2 ∨ i = 3 ∨ i = 4 ∨ i = 5 ∨ i = 6 by omega) with rfl | rfl | rfl | rfl | rfl | rfl | rfl
    · simp only [List.getElem?_toArray, List.getElem?_cons_zero, Option.some.injEq] at ho
      subst ho
      have l6 : l.getD 6 false = false := by
        cases h : l.getD 6 false with
        | false => rfl
        | true => rw [n6 h 0 (by omega)] at hui; cases hui
      clear hdep
      refine wpOp_of rfl rfl ?_
      generalize hG : MajInv p0 p1 p2 p3 p4 p5 p7 p8 p10 p11 p12 p13 p14 p15 p16 p17 p18 p19 p20 p21 p22 p23 p24 p25 p26 p27 p28 p29 p30 p37 p38 p39 p40 p41 p42 p43 p44 p45 p46 p47 p48 p49 p50 b B s c v0 st W W1 W2 (l.setIfInBounds 0 true) = GG
      go_simp
      rw [← hG]
      exact ⟨_, _, _, _, _, _, rfl, hsz', (fun _ => rfl), (by rw [kp 1 (by decide)]; exact F1.out), (by rw [kp 2 (by decide)]; exact F2.out), (by rw [kp 3 (by decide)]; exact F3.out), (by rw [kp 4 (by decide)]; exact F4.out), (by rw [kp 5 (by decide)]; exact F5.out), (by rw [kp 5 (by decide), kp 4 (by decide)]; exact n54), (fun h => by rw [kp 6 (by decide), l6] at h; cases h), (by rw [kp 4 (by decide)]; exact G0.out), (by rw [kp 4 (by decide), kp 6 (by decide)]; exact G1.out), (by rw [kp 6 (by decide)]; exact G2.out)⟩
    · simp only [List.getElem?_toArray, List.getElem?_cons_succ, List.getElem?_cons_zero, Option.some.injEq] at ho
      subst ho
      have l6 : l.getD 6 false = false := by
        cases h : l.getD 6 false with
        | false => rfl
        | true => rw [n6 h 1 (by omega)] at hui; cases hui
      have c0 : w'.cell? ⟨B, 0, none⟩ = some (.int .i64 s.bal) := by
        cases h4 : l.getD 4 false with
        | false => rw [G0.out h4]; exact d0
        | true => rw [G1.out h4 l6]; exact q0
      have c1 : w'.cell? ⟨B, 1, none⟩ = some (.string s.text) := by
        cases h4 : l.getD 4 false with
        | false => rw [G0.out h4]; exact d1
        | true => rw [G1.out h4 l6]; exact q1
      clear hdep
      refine wpOp_of rfl rfl ?_
      generalize hG : MajInv p0 p1 p2 p3 p4 p5 p7 p8 p10 p11 p12 p13 p14 p15 p16 p17 p18 p19 p20 p21 p22 p23 p24 p25 p26 p27 p28 p29 p30 p37 p38 p39 p40 p41 p42 p43 p44 p45 p46 p47 p48 p49 p50 b B s c v0 st W W1 W2 (l.setIfInBounds 1 true) = GG
      go_simp
      rw [← hG]
      exact ⟨_, _, _, _, _, _, rfl, hsz', (by rw [kp 0 (by decide)]; exact F0.out), (fun _ => rfl), (by rw [kp 2 (by decide)]; exact F2.out), (by rw [kp 3 (by decide)]; exact F3.out), (by rw [kp 4 (by decide)]; exact F4.out), (by rw [kp 5 (by decide)]; exact F5.out), (by rw [kp 5 (by decide), kp 4 (by decide)]; exact n54), (fun h => by rw [kp 6 (by decide), l6] at h; cases h), (by rw [kp 4 (by decide)]; exact G0.out), (by rw [kp 4 (by decide), kp 6 (by decide)]; exact G1.out), (by rw [kp 6 (by decide)]; exact G2.out)⟩
    · simp only [List.getElem?_toArray, List.getElem?_cons_succ, List.getElem?_cons_zero, Option.some.injEq] at ho
      subst ho
      have l6 : l.getD 6 false = false := by
        cases h : l.getD 6 false with
        | false => rfl
        | true => rw [n6 h 2 (by omega)] at hui; cases hui
      have q0 : l.getD 0 false = true := hdep ⟨0, .data⟩ (by simp) rfl
      have q1 : l.getD 1 false = true := hdep ⟨1, .data⟩ (by simp) rfl
      obtain rfl := F0.out q0
      obtain rfl := F1.out q1
      have hL : (Instr.lookup 129 (.map (some b)) (slV s) false).run Try.prog w' = .ok (.int .i64 c) w' := by
        cases h4 : l.getD 4 false with
        | false => rw [G0.out h4]; exact hL0
        | true => rw [G1.out h4 l6]; exact hL1
      clear hdep
      refine wpOp_of rfl rfl ?_
      generalize hG : MajInv p0 p1 p2 p3 p4 p5 p7 p8 p10 p11 p12 p13 p14 p15 p16 p17 p18 p19 p20 p21 p22 p23 p24 p25 p26 p27 p28 p29 p30 p37 p38 p39 p40 p41 p42 p43 p44 p45 p46 p47 p48 p49 p50 b B s c v0 st W W1 W2 (l.setIfInBounds 2 true) = GG
      unfold Oper.wp
      simp [execOp, Act.eval, hL, Result.andThen]
      rw [← hG]
      exact ⟨_, _, _, _, _, _, rfl, hsz', (by rw [kp 0 (by decide)]; exact F0.out), (by rw [kp 1 (by decide)]; exact F1.out), (fun _ => rfl), (by rw [kp 3 (by decide)]; exact F3.out), (by rw [kp 4 (by decide)]; exact F4.out), (by rw [kp 5 (by decide)]; exact F5.out), (by rw [kp 5 (by decide), kp 4 (by decide)]; exact n54), (fun h => by rw [kp 6 (by decide), l6] at h; cases h), (by rw [kp 4 (by decide)]; exact G0.out), (by rw [kp 4 (by decide), kp 6 (by decide)]; exact G1.out), (by rw [kp 6 (by decide)]; exact G2.out)⟩
    · simp only [List.getElem?_toArray, List.getElem?_cons_succ, List.getElem?_cons_zero, Option.some.injEq] at ho
      subst ho
      have l6 : l.getD 6 false = false := by
        cases h : l.getD 6 false with
        | false => rfl
        | true => rw [n6 h 3 (by omega)] at hui; cases hui
      have q2 : l.getD 2 false = true := hdep ⟨2, .data⟩ (by simp) rfl
      obtain rfl := F2.out q2
      clear hdep
      refine wpOp_of rfl rfl ?_
      generalize hG : MajInv p0 p1 p2 p3 p4 p5 p7 p8 p10 p11 p12 p13 p14 p15 p16 p17 p18 p19 p20 p21 p22 p23 p24 p25 p26 p27 p28 p29 p30 p37 p38 p39 p40 p41 p42 p43 p44 p45 p46 p47 p48 p49 p50 b B s c v0 st W W1 W2 (l.setIfInBounds 3 true) = GG
      go_simp
      rw [← hG]
      exact ⟨_, _, _, _, _, _, rfl, hsz', (by rw [kp 0 (by decide)]; exact F0.out), (by rw [kp 1 (by decide)]; exact F1.out), (by rw [kp 2 (by decide)]; exact F2.out), (fun _ => congrArg _ (by rw [IntKind.wrap_i64]; omega)), (by rw [kp 4 (by decide)]; exact F4.out), (by rw [kp 5 (by decide)]; exact F5.out), (by rw [kp 5 (by decide), kp 4 (by decide)]; exact n54), (fun h => by rw [kp 6 (by decide), l6] at h; cases h), (by rw [kp 4 (by decide)]; exact G0.out), (by rw [kp 4 (by decide), kp 6 (by decide)]; exact G1.out), (by rw [kp 6 (by decide)]; exact G2.out)⟩
    · simp only [List.getElem?_toArray, List.getElem?_cons_succ, List.getElem?_cons_zero, Option.some.injEq] at ho
      subst ho
      have l6 : l.getD 6 false = false := by
        cases h : l.getD 6 false with
        | false => rfl
        | true => rw [n6 h 4 (by omega)] at hui; cases hui
      have q0 : l.getD 0 false = true := hdep ⟨0, .data⟩ (by simp) rfl
      have q1 : l.getD 1 false = true := hdep ⟨1, .data⟩ (by simp) rfl
      obtain rfl := F0.out q0
      obtain rfl := F1.out q1
      obtain rfl := G0.out hui
      clear hdep
      refine wpOp_of rfl rfl ?_
      generalize hG : MajInv p0 p1 p2 p3 p4 p5 p7 p8 p10 p11 p12 p13 p14 p15 p16 p17 p18 p19 p20 p21 p22 p23 p24 p25 p26 p27 p28 p29 p30 p37 p38 p39 p40 p41 p42 p43 p44 p45 p46 p47 p48 p49 p50 b B s c v0 st W W1 W2 (l.setIfInBounds 4 true) = GG
      unfold Oper.wp
      simp [execOp, Act.eval, hE, Result.andThen]
      rw [← hG]
      exact ⟨_, _, _, _, _, _, rfl, hsz', (by rw [kp 0 (by decide)]; exact F0.out), (by rw [kp 1 (by decide)]; exact F1.out), (by rw [kp 2 (by decide)]; exact F2.out), (by rw [kp 3 (by decide)]; exact F3.out), (fun _ => rfl), (by rw [kp 5 (by decide)]; exact F5.out), (fun _ => ki), (fun h => by rw [kp 6 (by decide), l6] at h; cases h), (fun h => by rw [ki] at h; cases h), (fun _ _ => rfl), (fun h => by rw [kp 6 (by decide), l6] at h; cases h)⟩
    · simp only [List.getElem?_toArray, List.getElem?_cons_succ, List.getElem?_cons_zero, Option.some.injEq] at ho
      subst ho
      have l6 : l.getD 6 false = false := by
        cases h : l.getD 6 false with
        | false => rfl
        | true => rw [n6 h 5 (by omega)] at hui; cases hui
      have q4 : l.getD 4 false = true := hdep ⟨4, .data⟩ (by simp) rfl
      obtain rfl := F4.out q4
      clear hdep
      refine wpOp_of rfl rfl ?_
      generalize hG : MajInv p0 p1 p2 p3 p4 p5 p7 p8 p10 p11 p12 p13 p14 p15 p16 p17 p18 p19 p20 p21 p22 p23 p24 p25 p26 p27 p28 p29 p30 p37 p38 p39 p40 p41 p42 p43 p44 p45 p46 p47 p48 p49 p50 b B s c v0 st W W1 W2 (l.setIfInBounds 5 true) = GG
      go_simp
      rw [← hG]
      exact ⟨_, _, _, _, _, _, rfl, hsz', (by rw [kp 0 (by decide)]; exact F0.out), (by rw [kp 1 (by decide)]; exact F1.out), (by rw [kp 2 (by decide)]; exact F2.out), (by rw [kp 3 (by decide)]; exact F3.out), (by rw [kp 4 (by decide)]; exact F4.out), (fun _ => rfl), (fun _ => by rw [kp 4 (by decide)]; exact q4), (fun h => by rw [kp 6 (by decide), l6] at h; cases h), (by rw [kp 4 (by decide)]; exact G0.out), (by rw [kp 4 (by decide), kp 6 (by decide)]; exact G1.out), (by rw [kp 6 (by decide)]; exact G2.out)⟩
    · simp only [List.getElem?_toArray, List.getElem?_cons_succ, List.getElem?_cons_zero, Option.some.injEq] at ho
      subst ho
      have qa : ∀ j, j < 6 → l.getD j false = true := fun j hj => by
        rcases (show j = 0 ∨ j = 1 ∨ j = 2 ∨ j = 3 ∨ j = 4 ∨ j = 5 by omega) with rfl | rfl | rfl | rfl | rfl | rfl
        · exact hdep ⟨0, .phase⟩ (by simp) rfl
        · exact hdep ⟨1, .phase⟩ (by simp) rfl
        · exact hdep ⟨2, .phase⟩ (by simp) rfl
        · exact hdep ⟨3, .phase⟩ (by simp) rfl
        · exact hdep ⟨4, .phase⟩ (by simp) rfl
        · exact hdep ⟨5, .phase⟩ (by simp) rfl
      obtain rfl := F0.out (qa 0 (by omega))
      obtain rfl := F5.out (qa 5 (by omega))
      obtain rfl := F3.out (qa 3 (by omega))
      have hS3 : (Instr.entryStore 129 (.map (some b)) (goInt st) (.int .i64 (c + 1))).run Try.prog w' = .ok () W2 := by rw [G1.out (qa 4 (by omega)) hui]; exact hS2
      clear hdep
      refine wpOp_of rfl rfl ?_
      generalize hG : MajInv p0 p1 p2 p3 p4 p5 p7 p8 p10 p11 p12 p13 p14 p15 p16 p17 p18 p19 p20 p21 p22 p23 p24 p25 p26 p27 p28 p29 p30 p37 p38 p39 p40 p41 p42 p43 p44 p45 p46 p47 p48 p49 p50 b B s c v0 st W W1 W2 (l.setIfInBounds 6 true) = GG
      unfold Oper.wp
      simp [execOp, Act.eval, hS3, Result.andThen]
      rw [← hG]
      exact ⟨_, _, _, _, _, _, rfl, hsz', (by rw [kp 0 (by decide)]; exact F0.out), (by rw [kp 1 (by decide)]; exact F1.out), (by rw [kp 2 (by decide)]; exact F2.out), (by rw [kp 3 (by decide)]; exact F3.out), (by rw [kp 4 (by decide)]; exact F4.out), (by rw [kp 5 (by decide)]; exact F5.out), (by rw [kp 5 (by decide), kp 4 (by decide)]; exact n54), (fun _ j hj => by rw [kp j (by omega)]; exact qa j hj), (fun h => by rw [kp 4 (by decide), qa 4 (by omega)] at h; cases h), (fun _ h => by rw [ki] at h; cases h), (fun _ => rfl)⟩
end Go.Proofs.Ytjepponnhieocaa
namespace Go.Proofs.Ytjepponnhieocaa
open Go.RowKit Go.Maps
theorem ownsMap_below {w w' : World} {P : Program} {k : TypeId} {R : Value → Option (DataW Unit × List MemPlace)} {b n B : Nat} {D : DataW Unit} (h : w.ownsMap P k R b n D) (hb : Below B w w') (hB : b < B) : w'.ownsMap P k R b n D := by
  obtain ⟨es, clock, h1, r⟩ := h
  exact ⟨es, clock, (hb.block b hB).trans h1, r⟩
theorem wpList_lookup_want {w : World} {ops : Array Oper} {rest : List Oper} {o : Oper} {a : Act} {Q : Exit → Act → World → Prop} (hw : Region.wanted o (yielded ops a.tmps) = true) (m x : Operand) (hop : o.op = Op.lookup 129 m x false)
    (b n : Nat) (D : DataW Unit) (hm : a.eval m = .map (some b)) (hown : w.ownsMap Try.prog 100 (plainElem Try.prog 3) b n D) (key : Value) (q : Lit) (hx : a.eval x = key) (hk : keyOf Try.prog 100 key = some q) (c : Int) (hat : D.atKey q (.lit (.int .i64 0)) = .lit (.int .i64 c))
    (hK : wpList Try.prog ops Q rest (a.put o.dst (.int .i64 c)) w) : wpList Try.prog ops Q (o :: rest) a w :=
  wpList_step fun K hK' => by
    rw [if_pos hw]
    obtain ⟨c', hrun, h1, _⟩ := hown.lookup_int mp_law Try.underlying129 Try.underlying3 (mp_zero3 _) hk
    rw [hat] at h1
    cases h1
    unfold Oper.wp
    simp [execOp, hop, hm, hx, hrun, Result.andThen]
    exact hK' _ _ hK
def SlKey (s : Sl) : Prop := (-9223372036854775808 ≤ s.bal ∧ s.bal ≤ 9223372036854775807) ∧ s.text.size ≤ maxLen
/-- the map D tells how many of the first m have each slot -/
def MTold (x : Nat → Rc) (ix : Int) (m : Nat) (D : DataW Unit) : Prop := ∀ s, SlKey s → D.atKey (kl s) (.lit (.int .i64 0)) = .lit (.int .i64 (cntS x ix s m : Nat))
theorem kl_ne {s t : Sl} (hs : SlKey s) (ht : SlKey t) (h : s ≠ t) : kl s ≠ kl t := by
  intro e
  have h1 := hkey s hs.1 hs.2
  have h2 := hkey t ht.1 ht.2
  rw [← e] at h2
  have := mp_law.inj h1 h2
  obtain ⟨a, c⟩ := s
  obtain ⟨a', c'⟩ := t
  simp at this
  exact h (by rw [this.1, this.2])
theorem mtold_skip {x : Nat → Rc} {ix : Int} {m : Nat} {D : DataW Unit} (h : MTold x ix m D) (hn : stA x ix m = none) : MTold x ix (m + 1) D := fun s hs => by
  have e : cntS x ix s (m + 1) = cntS x ix s m := by
    show cntS x ix s m + one x ix s m = _
    simp [one, hn]
  rw [e]
  exact h s hs
theorem mtold_put {x : Nat → Rc} {ix : Int} {m : Nat} {D : DataW Unit} {t : Sl} (h : MTold x ix m D) (hD : IsMap D) (hs : stA x ix m = some t) (ht : SlKey t) : MTold x ix (m + 1) (D.put (kl t) (.lit (.int .i64 ((cntS x ix t m : Nat) + 1 : Int)))) := fun s hk => by
  by_cases e : s = t
  · subst e
    rw [atKey_put_same hD (mp_law.key (hkey s hk.1 hk.2))]
    show _ = DataW.lit (.int .i64 ((cntS x ix s m + one x ix s m : Nat) : Int))
    rw [one_yes hs]
    rfl
  · rw [atKey_put_other (kl_ne hk ht e), h s hk]
    have : one x ix s m = 0 := by
      by_cases e2 : one x ix s m = 0
      · exact e2
      · exact absurd (Option.some.inj ((one_some e2).symm.trans hs)) e
    show _ = DataW.lit (.int .i64 ((cntS x ix s m + one x ix s m : Nat) : Int))
    rw [this]
    rfl
def mjV (o : Option ByteArray) : Value := .tuple #[.string (o.getD ⟨#[]⟩), .bool o.isSome]
theorem run_makeMap_none (w : World) : (Instr.makeMap 129 none).run Try.prog w = .ok (.map (some w.heap.size)) (w.alloc (.map #[] 0)) := by
  simp [Instr.makeMap, Result.andThen]
set_option maxRecDepth 100000 in
set_option maxHeartbeats 8000000 in
theorem majorAt_any (n : Nat) (x : Nat → Rc) (A : Nat → RcA) (ix : Int) (ad : Option Addr) (cap : Nat) (w : World) (lo hi : Nat) (hhi : hi ≤ w.heap.size) (hl : n ≤ 5) (hsz : ∀ i, i < n → ((x i).sf.n : Int) ≤ 8796093022208) (hf : ∀ i s, i < n → stA x ix i = some s → SlKey s) (hc : RcsIn w lo hi ad n x A) :
    Calls Try.prog 55 #[.slice ad n cap, .int .i64 ix] w fun e w' => e = .returned (mjV (majI n x ix)) ∧ Below w.heap.size w w' := by
  have HF := hid hf
  have HC := hid hc
  have HSZ := hid hsz
  have hmm := run_makeMap_none w
  clear hf hc hsz
  go_enter Try.func55, Try.ntmps55
  go_wp2_with fail
  go_loopw [13] (fun i wr => ∃ (k : Nat) (D : DataW Unit), k ≤ n ∧ i = .int .i64 k ∧ Below w.heap.size w wr ∧ wr.ownsMap Try.prog 100 (plainElem Try.prog 3) w.heap.size k D ∧ MTold x ix k D ∧ Hid (∀ j, j < k → hitI n x ix j = none)) (fun i _ => n - (intOf i).toNat)
  case atStart => exact ⟨0, .map [], Nat.zero_le _, rfl, below_alloc _ _, World.ownsMap_made _ _ _ _, fun s _ => rfl, fun j hj => absurd hj (Nat.not_lt_zero _)⟩
  case round =>
    obtain ⟨k, D, hk, rfl, hb, hown, htold, HA⟩ := hrel
    clear hmm
    by_cases hkn : k < n
    · obtain ⟨b, off, e, hlo, hbh, hrx, hix⟩ := HC.out k hkn
      have HR := hid (rangeAt_same hrx (fun j => hb.cell (p := ⟨b, j, none⟩) (by show b < _; omega)))
      have HIX := hid hix
      have hsn := HSZ.out k hkn
      have HOW := hid hown
      have HT := hid htold
      have hwm : w.heap.size < wr.heap.size := hown.lt
      rw [e]
      clear hrx hix e hown htold
      cases hin : inB ix 1 ((x k).sf.n : Int) with
      | false =>
        have hst : Hid (stA x ix k = none) := by
          have : ¬ (1 ≤ ix ∧ ix ≤ ((x k).sf.n : Int)) := fun h => by rw [inB_yes h] at hin; cases hin
          exact if_neg this
        have HN := hid (show hitI n x ix k = none by unfold hitI; rw [hst.out])
        go_wp2_with (first | ((with_reducible show wpList _ _ _ (⟨some 16, Op.load 58 _, _, _, _, _⟩ :: _) _ _); go_must (refine wpList_load_mid rfl 58 _ rfl b (off + k * 18) rfl (rcCs (x k) (A k)) _ HR.out Try.underlying58 rfl rcs_sz58 ?_)) | ((with_reducible show wpList _ _ _ (⟨none, Op.store 58 _ _, _, _, _, _⟩ :: _) _ _); go_must (refine wpList_store_new rfl 58 _ _ rfl wr.heap.size (rcC (x k) (A k)).toList rfl rfl (there41 wr) rcs_sz58 (by simp [Value.oneCell']) ?_; intro V hr hfr hsv; have c5 : V.cell? ⟨wr.heap.size, 5, none⟩ = some (.slice (A k).sa (x k).sf.n (A k).sc) := (by simpa using hr 5 _ rfl); have HFV := hid hfr; have HSV := hid hsv; clear hr hfr hsv)) | (go_at_call 80; go_must (refine (within_any _ 1 _ _).mono ?_; rintro e w1 ⟨rfl, h0⟩; rw [h0, hin]; clear h0 w1)))
        go_roundw
        case rel => exact ⟨k + 1, D, by omega, by go_num, (hb.alloc hb.size _).trans (HFV.out.below hb.size (by simp; have := hb.size; omega)), (ownsMap_below HOW.out ((below_alloc _ _).trans (HFV.out.below (Nat.le_refl _) (by simp))) hwm).mono (by omega), mtold_skip HT.out hst.out, fun j hj => by
          by_cases e : j = k
          · rw [e]; exact HN.out
          · exact HA.out j (by omega)⟩
        case measure => simp [intOf]; omega
      | true =>
        have hr12 : 1 ≤ ix ∧ ix ≤ ((x k).sf.n : Int) := by simpa [inB] using hin
        obtain ⟨j, rfl⟩ : ∃ j : Nat, ix = (j : Int) + 1 := ⟨ix.toNat - 1, by omega⟩
        have hj : j < (x k).sf.n := by omega
        have hst : Hid (stA x ((j : Int) + 1) k = some ((x k).sf.s j)) := by
          have e : ((j : Int) + 1).toNat - 1 = j := by omega
          have h : stA x ((j : Int) + 1) k = some ((x k).sf.s (((j : Int) + 1).toNat - 1)) := if_pos hr12
          rw [e] at h
          exact h
        obtain ⟨b2, off2, e2, _, hb2, hcs⟩ := HIX.out.sf j hj
        have E2 := hid e2
        have hcs' := hcs.below hb (by omega)
        have D0 := hid hcs'.c0
        have D1 := hid hcs'.c1
        have hb2w : b2 < wr.heap.size := by have := hb.size; omega
        have SK := hid (HF.out k _ hkn hst.out)
        have KEY := hid (hkey _ SK.out.1 SK.out.2)
        have CNT := hid (HT.out _ SK.out)
        have HPUT := hid (mtold_put HT.out HOW.out.isMap hst.out SK.out)
        have HHIT := hid (show hitI n x ((j : Int) + 1) k = if 0 < ((x k).sf.s j).bal ∧ n < 2 * (cntS x ((j : Int) + 1) ((x k).sf.s j) k + 1) then some ((x k).sf.s j).text else none by
          unfold hitI
          rw [hst.out]
          show (if 0 < ((x k).sf.s j).bal ∧ n < 2 * (cntS x ((j : Int) + 1) ((x k).sf.s j) k + one x ((j : Int) + 1) ((x k).sf.s j) k) then some ((x k).sf.s j).text else none) = _
          rw [one_yes hst.out])
        have hcl := cntS_le x ((j : Int) + 1) ((x k).sf.s j) k
        clear hcs hcs' e2 HIX hst HF
        have HM := hid HOW.out.isMap
        generalize (x k).sf.s j = s at *
        generalize cntS x ((j : Int) + 1) s k = cN at *
        go_wp2_with (first | ((with_reducible show wpList _ _ _ (⟨some 16, Op.load 58 _, _, _, _, _⟩ :: _) _ _); go_must (refine wpList_load_mid rfl 58 _ rfl b (off + k * 18) rfl (rcCs (x k) (A k)) _ HR.out Try.underlying58 rfl rcs_sz58 ?_)) | ((with_reducible show wpList _ _ _ (⟨none, Op.store 58 _ _, _, _, _, _⟩ :: _) _ _); go_must (refine wpList_store_new rfl 58 _ _ rfl wr.heap.size (rcC (x k) (A k)).toList rfl rfl (there41 wr) rcs_sz58 (by simp [Value.oneCell']) ?_; intro V hr hfr hsv; have c5 : V.cell? ⟨wr.heap.size, 5, none⟩ = some (.slice (some ⟨b2, off2, none⟩) (x k).sf.n (A k).sc) := (by rw [← E2.out]; simpa using hr 5 _ rfl); have HFV := hid hfr; have HSV := hid hsv; have hBV : Below wr.heap.size wr V := (below_alloc _ _).trans (HFV.out.below (Nat.le_refl _) (by simp)); have d0 := (hBV.cell (p := ⟨b2, off2 + j * 2, none⟩) hb2w).trans D0.out; have d1 := (hBV.cell (p := ⟨b2, off2 + j * 2 + 1, none⟩) hb2w).trans D1.out; clear hr hfr hsv)) | (go_at_call 80; go_must (refine (within_any _ 1 _ _).mono ?_; rintro e w1 ⟨rfl, h0⟩; rw [h0, hin]; clear h0 w1)))
        have hsV : wr.heap.size < V.heap.size := by rw [HSV.out]; simp
        have hBW : Below w.heap.size w V := (hb.alloc hb.size _).trans (HFV.out.below hb.size (by simp; have := hb.size; omega))
        have hoV := ownsMap_below (ownsMap_below HOW.out hBV hwm) (below_alloc V (.cells #[.int .i64 s.bal, .string s.text] 100)) (by omega)
        refine majReg7 _ _ _ _ _ _ _ _ _ _ _ _ _ _ _ _ _ _ _ _ _ _ _ _ _ _ _ _ _ _ _ _ _ _ _ _ _ _ _ _ _ _ _ _ _ _ _ _ _ w.heap.size V.heap.size s k D cN (V.alloc (.cells #[.int .i64 s.bal, .string s.text] 100)) hoV (by unfold maxLen; omega) KEY.out (by simp) (by simp) (by omega) (by simp) CNT.out (by omega) _ ?_
        intro t31 t32 t33 t34 t35 t36 X hoX hgX
        have hBX : Below w.heap.size w X := (hBW.alloc hBW.size _).grown hgX (by have := hBW.size; simp; omega) (fun q hq => by cases hq; exact Nat.le_refl _)
        have hgB : X.heap[V.heap.size]? = (V.alloc (.cells #[.int .i64 s.bal, .string s.text] 100)).heap[V.heap.size]? := hgX.block V.heap.size (by simp) (fun e => by injection e with e; omega)
        have s0 : X.cell? ⟨V.heap.size, 0, none⟩ = some (.int .i64 s.bal) := (World.cell?_of_block (w := V.alloc (.cells #[.int .i64 s.bal, .string s.text] 100)) hgB).trans (by simp)
        have s1 : X.cell? ⟨V.heap.size, 1, none⟩ = some (.string s.text) := (World.cell?_of_block (w := V.alloc (.cells #[.int .i64 s.bal, .string s.text] 100)) hgB).trans (by simp)
        have hXs : V.heap.size < X.heap.size := by have := hgX.size; simp at this; omega
        have HOX := hid hoX
        have HCX := hid (atKey_put_same HM.out (mp_law.key KEY.out) (.lit (.int .i64 ((cN : Nat) + 1 : Int))) (.lit (.int .i64 0)))
        clear hoX hoV hgX hgB c5 d0 d1 HOW HT CNT hBV HSV HFV
        cases h3 : decide (0 < s.bal) with
        | false =>
          have HN := hid (show hitI n x ((j : Int) + 1) k = none by rw [HHIT.out]; exact if_neg (fun h => by simp [h.1] at h3))
          go_wp2_with (go_at_call 99; go_must (refine (taken_any s X).mono ?_; rintro e X1 ⟨rfl, hbX1⟩; rw [h3]))
          go_roundw
          case rel => exact ⟨k + 1, _, by omega, by go_num, hBX.trans (hbX1.mono hBX.size), ownsMap_below HOX.out hbX1 (by omega), HPUT.out, fun q hq => by
            by_cases e : q = k
            · rw [e]; exact HN.out
            · exact HA.out q (by omega)⟩
          case measure => simp [intOf]; omega
        | true =>
          have h3' : 0 < s.bal := by simpa using h3
          by_cases h4 : n < 2 * (cN + 1)
          · have HM1 := hid (show majI n x ((j : Int) + 1) = some s.text from fst_keep HA.out (by rw [HHIT.out]; exact if_pos ⟨h3', h4⟩) hkn)
            have h5 : decide ((n : Int) < 2 * ((cN : Int) + 1)) = true := by simp; omega
            go_wp2_with (first | (go_at_call 99; go_must (refine (taken_any s X).mono ?_; rintro e X1 ⟨rfl, hbX1⟩; rw [h3]; have z0 : X1.cell? ⟨V.heap.size, 0, none⟩ = some (.int .i64 s.bal) := (hbX1.cell (p := ⟨V.heap.size, 0, none⟩) hXs).trans s0; have z1 : X1.cell? ⟨V.heap.size, 1, none⟩ = some (.string s.text) := (hbX1.cell (p := ⟨V.heap.size, 1, none⟩) hXs).trans s1; clear s0 s1)) | ((with_reducible show wpList _ _ _ (⟨some 42, Op.lookup _ _ _ _, _, _, _, _⟩ :: _) _ _); go_must (refine wpList_lookup_want ?hw _ _ rfl w.heap.size (k + 1) _ rfl (ownsMap_below HOX.out hbX1 (by omega)) (slV s) (kl s) rfl KEY.out ((cN : Nat) + 1 : Int) HCX.out ?_; (case hw => (go_simp; done)))))
            refine bodyPost_ret (v := .tuple #[.string s.text, .bool true]) (by simp [results, Try.results55, go_sem]) rfl ⟨?_, hBX.trans (hbX1.mono hBX.size)⟩
            rw [HM1.out]
            rfl
          · have HN := hid (show hitI n x ((j : Int) + 1) k = none by rw [HHIT.out]; exact if_neg (fun h => h4 h.2))
            have h5 : decide ((n : Int) < 2 * ((cN : Int) + 1)) = false := by simp; omega
            go_wp2_with (first | (go_at_call 99; go_must (refine (taken_any s X).mono ?_; rintro e X1 ⟨rfl, hbX1⟩; rw [h3]; have z0 : X1.cell? ⟨V.heap.size, 0, none⟩ = some (.int .i64 s.bal) := (hbX1.cell (p := ⟨V.heap.size, 0, none⟩) hXs).trans s0; have z1 : X1.cell? ⟨V.heap.size, 1, none⟩ = some (.string s.text) := (hbX1.cell (p := ⟨V.heap.size, 1, none⟩) hXs).trans s1; clear s0 s1)) | ((with_reducible show wpList _ _ _ (⟨some 42, Op.lookup _ _ _ _, _, _, _, _⟩ :: _) _ _); go_must (refine wpList_lookup_want ?hw _ _ rfl w.heap.size (k + 1) _ rfl (ownsMap_below HOX.out hbX1 (by omega)) (slV s) (kl s) rfl KEY.out ((cN : Nat) + 1 : Int) HCX.out ?_; (case hw => (go_simp; done)))))
            go_roundw
            case rel => exact ⟨k + 1, _, by omega, by go_num, hBX.trans (hbX1.mono hBX.size), ownsMap_below HOX.out hbX1 (by omega), HPUT.out, fun q hq => by
              by_cases e : q = k
              · rw [e]; exact HN.out
              · exact HA.out q (by omega)⟩
            case measure => simp [intOf]; omega
    · have HM1 := hid (show majI n x ix = none from fst_no (fun j hj => HA.out j (by omega)))
      have HOW := hid hown
      clear hown htold
      go_wp2
      refine bodyPost_ret (v := .tuple #[.string ⟨#[]⟩, .bool false]) (by simp [results, Try.results55, go_sem]) rfl ⟨?_, hb⟩
      rw [HM1.out]
      rfl
end Go.Proofs.Ytjepponnhieocaa
