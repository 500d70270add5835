import Derived.Test.YtkcgfjnmkbbnoaaIb
import Derived.Test.YtkcgfjnmkbbnoaaRg
import Derived.Test.YtkcgfjnmkbbnoaaSb
import Derived.Maps.AppendAt
namespace Go.Proofs.Ytkcgfjnmkbbnoaa
open Go.RowKit
def newsAll (n : Nat) : Nat → List Value
  | 0 => []
  | k + 1 => newsAll n k ++ rcL ((k : Int) + 1) n true
theorem specNew_at (k n : Nat) (h : k < n) (hn : n ≤ 5) (w : World) : Calls Try.prog 18 #[.int .i64 ((k : Int) + 1), .int .i64 n] w fun e w' => e = .returned (rcZ ((k : Int) + 1) n true) ∧ Below w.heap.size w w' := by
  have := specNew_any ((k : Int) + 1) n w
  rw [newN, newO, numOk_at h hn] at this
  exact this
theorem nlisted_no {l : Array Bool} {i j : Nat} (h : l.getD i false = true → l.getD j false = true) (hj : l.getD j false = false) : l.getD i false = false := by
  cases hi : l.getD i false with
  | false => rfl
  | true => rw [h hi] at hj; cases hj
def NwInv (p1 p2 p5 p6 p7 p8 p9 p10 p11 p12 p13 p14 p23 : Value) (base B k n : Nat) (v : Value) (W : World) (l : Array Bool) (a : Act) (w' : World) : Prop :=
  ∃ (t15 t16 t17 t18 t19 t20 t21 t22 : Value) (w4 w6 : World) (v6 : Value), a = ⟨#[.int .i64 n, p1, p2, .pointer (some ⟨B, 0, none⟩), .int .i64 ((k : Int) + 1), p5, p6, p7, p8, p9, p10, p11, p12, p13, p14, t15, t16, t17, t18, t19, t20, t21, t22, p23], []⟩ ∧ l.size = 9 ∧ (l.getD 0 false = true → t15 = .pointer (some ⟨B, 0, none⟩)) ∧ (l.getD 1 false = true → t16 = v) ∧ (l.getD 2 false = true → t17 = .int .i64 ((k : Int) + 1)) ∧ (l.getD 3 false = true → t18 = .int .i64 n) ∧ (l.getD 4 false = true → (t19 = rcZ ((k : Int) + 1) n true ∧ Below W.heap.size W w4)) ∧ (l.getD 5 false = true → t20 = .slice (some ⟨w4.heap.size, 0, none⟩) 1 1) ∧ (l.getD 6 false = true → (t21 = v6 ∧ w6.ownsRow base 47 18 v6 (k + 1) (newsAll n (k + 1)) ∧ (w4.alloc (.cells (rcL ((k : Int) + 1) n true).toArray 47)).grownBy w6 v.ownBlock)) ∧ (l.getD 7 false = true → t22 = .pointer (some ⟨B, 0, none⟩)) ∧ (l.getD 5 false = true → l.getD 4 false = true) ∧ (l.getD 6 false = true → l.getD 5 false = true) ∧ (l.getD 6 false = true → l.getD 1 false = true) ∧ (l.getD 8 false = true → l.getD 6 false = true) ∧ (l.getD 4 false = false → w' = W.drew) ∧ (l.getD 4 false = true → l.getD 5 false = false → w' = w4) ∧ (l.getD 5 false = true → l.getD 6 false = false → w' = (w4.alloc (.cells (rcL ((k : Int) + 1) n true).toArray 47))) ∧ (l.getD 6 false = true → l.getD 8 false = false → w' = w6) ∧ (l.getD 8 false = true → w' = w6.setCell ⟨B, 0, none⟩ v6)
set_option maxRecDepth 100000 in
set_option maxHeartbeats 8000000 in
theorem nwsReg7 (p1 p2 p5 p6 p7 p8 p9 p10 p11 p12 p13 p14 p23 : Value) (u15 u16 u17 u18 u19 u20 u21 u22 : Value) (base B k n : Nat) (v : Value) (W : World) (hkn : k < n) (hn5 : n ≤ 5) (hown : W.ownsRow base 47 18 v k (newsAll n k)) (hbase : base ≤ W.heap.size) (hsl : ∃ ad cap, v = .slice ad k cap) (hc : W.cell? ⟨B, 0, none⟩ = some v) (hfz : W.frozen? ⟨B, 0, none⟩ = false) (hBW : B < W.heap.size) (hrow : ∀ g, v.ownBlock = some g → g ≠ B) (Q : Exit → Act → World → Prop)
    (hQ : ∀ (t15 t16 t17 t18 t19 t20 t21 t22 : Value) (w4 w6 : World) (v6 : Value), Below W.heap.size W w4 → w6.ownsRow base 47 18 v6 (k + 1) (newsAll n (k + 1)) → (w4.alloc (.cells (rcL ((k : Int) + 1) n true).toArray 47)).grownBy w6 v.ownBlock → Q .normal ⟨#[.int .i64 n, p1, p2, .pointer (some ⟨B, 0, none⟩), .int .i64 ((k : Int) + 1), p5, p6, p7, p8, p9, p10, p11, p12, p13, p14, t15, t16, t17, t18, t19, t20, t21, t22, p23], []⟩ (w6.setCell ⟨B, 0, none⟩ v6)) :
    Code.wp Try.prog (Code.region 7 #[{ dst := some 15, op := Op.fieldAddr 26 (Operand.tmp 3) 0, type := 0, pos := "l17_rec_world.go:12", after := #[], guard := none }, { dst := some 16, op := Op.load 22 (Operand.tmp 15), type := 22, pos := "l17_rec_world.go:12", after := #[{ on := 0, ground := Ground.data }], guard := none }, { dst := some 17, op := Op.move (Operand.tmp 4), type := 3, pos := "l17_rec_world.go:12", after := #[], guard := none }, { dst := some 18, op := Op.move (Operand.tmp 0), type := 3, pos := "l17_rec_world.go:12", after := #[], guard := none }, { dst := some 19, op := Op.call { callee := Callee.value (Operand.func 18), args := #[Operand.tmp 17, Operand.tmp 18], argTypes := #[3, 3] }, type := 47, pos := "l17_rec_world.go:12", after := #[{ on := 2, ground := Ground.data }, { on := 3, ground := Ground.data }], guard := none }, { dst := some 20, op := Op.buildSlice 22 1 #[(0, Operand.tmp 19)], type := 22, pos := "l17_rec_world.go:12", after := #[{ on := 4, ground := Ground.data }], guard := none }, { dst := some 21, op := Op.call { callee := Callee.builtin Builtin.append, args := #[Operand.tmp 16, Operand.tmp 20], argTypes := #[22, 22] }, type := 22, pos := "l17_rec_world.go:12", after := #[{ on := 1, ground := Ground.data }, { on := 5, ground := Ground.data }, { on := 4, ground := Ground.chain }], guard := none }, { dst := some 22, op := Op.fieldAddr 26 (Operand.tmp 3) 0, type := 0, pos := "l17_rec_world.go:12", after := #[{ on := 0, ground := Ground.phase }, { on := 1, ground := Ground.phase }, { on := 2, ground := Ground.phase }, { on := 3, ground := Ground.phase }, { on := 4, ground := Ground.phase }, { on := 5, ground := Ground.phase }, { on := 6, ground := Ground.phase }], guard := none }, { dst := none, op := Op.store 22 (Operand.tmp 22) (Operand.tmp 21), type := 0, pos := "l17_rec_world.go:12", after := #[{ on := 7, ground := Ground.data }, { on := 6, ground := Ground.data }, { on := 6, ground := Ground.chain }, { on := 0, ground := Ground.phase }, { on := 1, ground := Ground.phase }, { on := 2, ground := Ground.phase }, { on := 3, ground := Ground.phase }, { on := 4, ground := Ground.phase }, { on := 5, ground := Ground.phase }, { on := 6, ground := Ground.phase }], guard := none }] true) Q ⟨#[.int .i64 n, p1, p2, .pointer (some ⟨B, 0, none⟩), .int .i64 ((k : Int) + 1), p5, p6, p7, p8, p9, p10, p11, p12, p13, p14, u15, u16, u17, u18, u19, u20, u21, u22, p23], []⟩ W := by
  obtain ⟨i0, hi0, hz0, hz1, hz2⟩ := info_parts rcs_info58
  refine wp_region_inv (by kernel_rfl) (NwInv p1 p2 p5 p6 p7 p8 p9 p10 p11 p12 p13 p14 p23 base B k n v W) ?_ ?_ ?_ ?_
  · refine ⟨u15, u16, u17, u18, u19, u20, u21, u22, W, W, v, rfl, by simp, ?_⟩
    simp
  · rintro l a w' ⟨t15, t16, t17, t18, t19, t20, t21, t22, w4, w6, v6, _, hls, _⟩
    exact hls
  · rintro l a w' ⟨t15, t16, t17, t18, t19, t20, t21, t22, w4, w6, v6, rfl, hls, f0, f1, f2, f3, f4, f5, f6, f7, n54, n65, n61, n86, g0, g1, g2, g3, g4⟩ hr
    have AL := all_listed (by kernel_rfl) (by rw [hls]; rfl) hr
    obtain rfl := g4 (AL 8 (by decide))
    obtain ⟨_, h2, h3⟩ := f6 (AL 6 (by decide))
    exact hQ _ _ _ _ _ _ _ _ w4 w6 v6 (f4 (AL 4 (by decide))).2 h2 h3
  · rintro l a w' i ⟨t15, t16, t17, t18, t19, t20, t21, t22, w4, w6, v6, rfl, hls, f0, f1, f2, f3, f4, f5, f6, f7, n54, n65, n61, n86, g0, g1, g2, g3, g4⟩ hr
    obtain ⟨hu, o', ho, hdep⟩ := mem_ready.1 hr
    have hi9 : i < 9 := by
      have := (Array.getElem?_eq_some_iff.1 ho).1
      simpa using this
    have kp : ∀ j, ¬ j = i → (l.setIfInBounds i true).getD j false = l.getD j false := fun j hj => by rw [getD_set (by omega), if_neg hj]
    have ki : (l.setIfInBounds i true).getD i false = true := by rw [getD_set (by omega), if_pos rfl]
    have hsz' : (l.setIfInBounds i true).size = 9 := by simp [hls]
    have hui : l.getD i false = false := by simpa [Array.getD, hls, hi9] using hu
    clear hr hu
    have F0 := hid f0
    have F1 := hid f1
    have F2 := hid f2
    have F3 := hid f3
    have F4 := hid f4
    have F5 := hid f5
    have F6 := hid f6
    have F7 := hid f7
    have G0 := hid g0
    have G1 := hid g1
    have G2 := hid g2
    have G3 := hid g3
    have G4 := hid g4
    clear f0 f1 f2 f3 f4 f5 f6 f7 g0 g1 g2 g3 g4
    rcases (show i = 0 ∨ i = 1 ∨ i = 2 ∨ i = 3 ∨ i = 4 ∨ i = 5 ∨ i = 6 ∨ i = 7 ∨ i = 8 by omega) with rfl | rfl | rfl | rfl | rfl | rfl | rfl | rfl | rfl
    · simp only [List.getElem?_toArray, List.getElem?_cons_zero, Option.some.injEq] at ho
      subst ho
      clear hdep
      refine wpOp_of rfl rfl ?_
      generalize hG : NwInv p1 p2 p5 p6 p7 p8 p9 p10 p11 p12 p13 p14 p23 base B k n v W (l.setIfInBounds 0 true) = GG
      go_simp
      rw [← hG]
      exact ⟨_, _, _, _, _, _, _, _, w4, w6, v6, rfl, hsz', (fun _ => rfl), (by rw [kp 1 (by decide)]; exact F1.out), (by rw [kp 2 (by decide)]; exact F2.out), (by rw [kp 3 (by decide)]; exact F3.out), (by rw [kp 4 (by decide)]; exact F4.out), (by rw [kp 5 (by decide)]; exact F5.out), (by rw [kp 6 (by decide)]; exact F6.out), (by rw [kp 7 (by decide)]; exact F7.out), (by rw [kp 5 (by decide), kp 4 (by decide)]; exact n54), (by rw [kp 6 (by decide), kp 5 (by decide)]; exact n65), (by rw [kp 6 (by decide), kp 1 (by decide)]; exact n61), (by rw [kp 8 (by decide), kp 6 (by decide)]; exact n86), (by rw [kp 4 (by decide)]; exact G0.out), (by rw [kp 4 (by decide), kp 5 (by decide)]; exact G1.out), (by rw [kp 5 (by decide), kp 6 (by decide)]; exact G2.out), (by rw [kp 6 (by decide), kp 8 (by decide)]; exact G3.out), (by rw [kp 8 (by decide)]; exact G4.out)⟩
    · simp only [List.getElem?_toArray, List.getElem?_cons_succ, List.getElem?_cons_zero, Option.some.injEq] at ho
      subst ho
      have q0 : l.getD 0 false = true := hdep ⟨0, .data⟩ (by simp) rfl
      obtain rfl := F0.out q0
      have l6 := nlisted_no n61 hui
      have l8 := nlisted_no n86 l6
      have c0 : w'.cell? ⟨B, 0, none⟩ = some v := by
        cases h4 : l.getD 4 false with
        | false => rw [G0.out h4]; exact hc
        | true =>
          have h4b := (F4.out h4).2
          have c4 := (h4b.cell (p := ⟨B, 0, none⟩) hBW).trans hc
          cases h5 : l.getD 5 false with
          | false => rw [G1.out h4 h5]; exact c4
          | true => rw [G2.out h5 l6]; exact (World.cell?_alloc_past _ _ _ (by have := h4b.size; (try simp); omega)).trans c4
      clear hdep
      obtain ⟨ad, cap, hvv⟩ := hsl
      refine wpOp_of rfl rfl ?_
      generalize hG : NwInv p1 p2 p5 p6 p7 p8 p9 p10 p11 p12 p13 p14 p23 base B k n v W (l.setIfInBounds 1 true) = GG
      go_simp
      rw [← hG]
      exact ⟨_, _, _, _, _, _, _, _, w4, w6, v6, rfl, hsz', (by rw [kp 0 (by decide)]; exact F0.out), (fun _ => hvv.symm), (by rw [kp 2 (by decide)]; exact F2.out), (by rw [kp 3 (by decide)]; exact F3.out), (by rw [kp 4 (by decide)]; exact F4.out), (by rw [kp 5 (by decide)]; exact F5.out), (by rw [kp 6 (by decide)]; exact F6.out), (by rw [kp 7 (by decide)]; exact F7.out), (by rw [kp 5 (by decide), kp 4 (by decide)]; exact n54), (by rw [kp 6 (by decide), kp 5 (by decide)]; exact n65), (fun _ => ki), (by rw [kp 8 (by decide), kp 6 (by decide)]; exact n86), (by rw [kp 4 (by decide)]; exact G0.out), (by rw [kp 4 (by decide), kp 5 (by decide)]; exact G1.out), (by rw [kp 5 (by decide), kp 6 (by decide)]; exact G2.out), (by rw [kp 6 (by decide), kp 8 (by decide)]; exact G3.out), (by rw [kp 8 (by decide)]; exact G4.out)⟩
    · simp only [List.getElem?_toArray, List.getElem?_cons_succ, List.getElem?_cons_zero, Option.some.injEq] at ho
      subst ho
      clear hdep
      refine wpOp_of rfl rfl ?_
      generalize hG : NwInv p1 p2 p5 p6 p7 p8 p9 p10 p11 p12 p13 p14 p23 base B k n v W (l.setIfInBounds 2 true) = GG
      go_simp
      rw [← hG]
      exact ⟨_, _, _, _, _, _, _, _, w4, w6, v6, rfl, hsz', (by rw [kp 0 (by decide)]; exact F0.out), (by rw [kp 1 (by decide)]; exact F1.out), (fun _ => rfl), (by rw [kp 3 (by decide)]; exact F3.out), (by rw [kp 4 (by decide)]; exact F4.out), (by rw [kp 5 (by decide)]; exact F5.out), (by rw [kp 6 (by decide)]; exact F6.out), (by rw [kp 7 (by decide)]; exact F7.out), (by rw [kp 5 (by decide), kp 4 (by decide)]; exact n54), (by rw [kp 6 (by decide), kp 5 (by decide)]; exact n65), (by rw [kp 6 (by decide), kp 1 (by decide)]; exact n61), (by rw [kp 8 (by decide), kp 6 (by decide)]; exact n86), (by rw [kp 4 (by decide)]; exact G0.out), (by rw [kp 4 (by decide), kp 5 (by decide)]; exact G1.out), (by rw [kp 5 (by decide), kp 6 (by decide)]; exact G2.out), (by rw [kp 6 (by decide), kp 8 (by decide)]; exact G3.out), (by rw [kp 8 (by decide)]; exact G4.out)⟩
    · simp only [List.getElem?_toArray, List.getElem?_cons_succ, List.getElem?_cons_zero, Option.some.injEq] at ho
      subst ho
      clear hdep
      refine wpOp_of rfl rfl ?_
      generalize hG : NwInv p1 p2 p5 p6 p7 p8 p9 p10 p11 p12 p13 p14 p23 base B k n v W (l.setIfInBounds 3 true) = GG
      go_simp
      rw [← hG]
      exact ⟨_, _, _, _, _, _, _, _, w4, w6, v6, rfl, hsz', (by rw [kp 0 (by decide)]; exact F0.out), (by rw [kp 1 (by decide)]; exact F1.out), (by rw [kp 2 (by decide)]; exact F2.out), (fun _ => rfl), (by rw [kp 4 (by decide)]; exact F4.out), (by rw [kp 5 (by decide)]; exact F5.out), (by rw [kp 6 (by decide)]; exact F6.out), (by rw [kp 7 (by decide)]; exact F7.out), (by rw [kp 5 (by decide), kp 4 (by decide)]; exact n54), (by rw [kp 6 (by decide), kp 5 (by decide)]; exact n65), (by rw [kp 6 (by decide), kp 1 (by decide)]; exact n61), (by rw [kp 8 (by decide), kp 6 (by decide)]; exact n86), (by rw [kp 4 (by decide)]; exact G0.out), (by rw [kp 4 (by decide), kp 5 (by decide)]; exact G1.out), (by rw [kp 5 (by decide), kp 6 (by decide)]; exact G2.out), (by rw [kp 6 (by decide), kp 8 (by decide)]; exact G3.out), (by rw [kp 8 (by decide)]; exact G4.out)⟩
    · simp only [List.getElem?_toArray, List.getElem?_cons_succ, List.getElem?_cons_zero, Option.some.injEq] at ho
      subst ho
      have q2 : l.getD 2 false = true := hdep ⟨2, .data⟩ (by simp) rfl
      have q3 : l.getD 3 false = true := hdep ⟨3, .data⟩ (by simp) rfl
      obtain rfl := F2.out q2
      obtain rfl := F3.out q3
      have l5 := nlisted_no n54 hui
      have l6 := nlisted_no n65 l5
      have l8 := nlisted_no n86 l6
      obtain rfl := G0.out hui
      clear hdep
      refine wpOp_of rfl rfl ?_
      generalize hG : NwInv p1 p2 p5 p6 p7 p8 p9 p10 p11 p12 p13 p14 p23 base B k n v W (l.setIfInBounds 4 true) = GG
      go_simp
      go_at_call 18
      refine (specNew_at k n hkn hn5 _).mono ?_
      rintro e w4n ⟨rfl, hb4⟩
      have hb4n : Below W.heap.size W w4n := (Below.refl _ _).drew.trans hb4
      rw [← hG]
      exact ⟨_, _, _, _, _, _, _, _, w4n, w6, v6, rfl, hsz', (by rw [kp 0 (by decide)]; exact F0.out), (by rw [kp 1 (by decide)]; exact F1.out), (by rw [kp 2 (by decide)]; exact F2.out), (by rw [kp 3 (by decide)]; exact F3.out), (fun _ => ⟨rfl, hb4n⟩), (fun h => by rw [kp 5 (by decide), l5] at h; cases h), (fun h => by rw [kp 6 (by decide), l6] at h; cases h), (by rw [kp 7 (by decide)]; exact F7.out), (fun _ => ki), (by rw [kp 6 (by decide), kp 5 (by decide)]; exact n65), (by rw [kp 6 (by decide), kp 1 (by decide)]; exact n61), (by rw [kp 8 (by decide), kp 6 (by decide)]; exact n86), (fun h => by rw [ki] at h; cases h), (fun _ _ => rfl), (fun h => by rw [kp 5 (by decide), l5] at h; cases h), (fun h => by rw [kp 6 (by decide), l6] at h; cases h), (fun h => by rw [kp 8 (by decide), l8] at h; cases h)⟩
    · simp only [List.getElem?_toArray, List.getElem?_cons_succ, List.getElem?_cons_zero, Option.some.injEq] at ho
      subst ho
      have q4 : l.getD 4 false = true := hdep ⟨4, .data⟩ (by simp) rfl
      have l6 := nlisted_no n65 hui
      have l8 := nlisted_no n86 l6
      obtain ⟨rfl, hb4⟩ := F4.out q4
      obtain rfl := G1.out q4 hui
      clear hdep
      refine wpOp_of rfl rfl ?_
      generalize hG : NwInv p1 p2 p5 p6 p7 p8 p9 p10 p11 p12 p13 p14 p23 base B k n v W (l.setIfInBounds 5 true) = GG
      go_simp
      rw [← hG]
      exact ⟨_, _, _, _, _, _, _, _, _, w6, v6, rfl, hsz', (by rw [kp 0 (by decide)]; exact F0.out), (by rw [kp 1 (by decide)]; exact F1.out), (by rw [kp 2 (by decide)]; exact F2.out), (by rw [kp 3 (by decide)]; exact F3.out), (fun _ => ⟨rfl, hb4⟩), (fun _ => rfl), (fun h => by rw [kp 6 (by decide), l6] at h; cases h), (by rw [kp 7 (by decide)]; exact F7.out), (fun _ => by rw [kp 4 (by decide)]; exact q4), (fun _ => ki), (by rw [kp 6 (by decide), kp 1 (by decide)]; exact n61), (by rw [kp 8 (by decide), kp 6 (by decide)]; exact n86), (fun h => by rw [kp 4 (by decide), q4] at h; cases h), (fun _ h => by rw [ki] at h; cases h), (fun _ _ => rfl), (fun h => by rw [kp 6 (by decide), l6] at h; cases h), (fun h => by rw [kp 8 (by decide), l8] at h; cases h)⟩
    · simp only [List.getElem?_toArray, List.getElem?_cons_succ, List.getElem?_cons_zero, Option.some.injEq] at ho
      subst ho
      have q1 : l.getD 1 false = true := hdep ⟨1, .data⟩ (by simp) rfl
      have q5 : l.getD 5 false = true := hdep ⟨5, .data⟩ (by simp) rfl
      have q4 := n54 q5
      have l8 := nlisted_no n86 hui
      obtain ⟨rfl, hb4⟩ := F4.out q4
      have e16 := F1.out q1
      obtain rfl := F5.out q5
      obtain rfl := G2.out q5 hui
      have ho4 : (w4.alloc (.cells (rcL ((k : Int) + 1) n true).toArray 47)).ownsRow base 47 18 v k (newsAll n k) := ownsRow_fr hown (FrP.of_below (P := fun _ => False) (hb4.alloc hb4.size _)) (fun _ _ h => h)
      obtain ⟨v', w', hr, r1, r2, _, r4⟩ := run_append_own_at (P := Try.prog) (w4.alloc (.cells (rcL ((k : Int) + 1) n true).toArray 47)) base 22 22 47 i0 _ 18 248 Try.underlying22 hi0 hz0 hz1 hz2 rfl (by decide) v k (newsAll n k) ho4 ⟨w4.heap.size, 0, none⟩ 1 1 (rcL ((k : Int) + 1) n true) rfl (alloc_news w4 _ 47) (by simp [Value.oneCell']) (by unfold maxLen; omega) (by omega) (by simp; have := hb4.size; omega)
      clear hdep
      refine wpOp_of rfl rfl ?_
      generalize hG : NwInv p1 p2 p5 p6 p7 p8 p9 p10 p11 p12 p13 p14 p23 base B k n v W (l.setIfInBounds 6 true) = GG
      unfold Oper.wp
      simp [execOp, resolve, invoke, builtin, Act.eval, e16, hr, Result.andThen]
      rw [← hG]
      exact ⟨_, _, _, _, _, _, _, _, _, w', v', rfl, hsz', (by rw [kp 0 (by decide)]; exact F0.out), (fun _ => rfl), (by rw [kp 2 (by decide)]; exact F2.out), (by rw [kp 3 (by decide)]; exact F3.out), (fun _ => ⟨rfl, hb4⟩), (fun _ => rfl), (fun _ => ⟨rfl, r1, r2⟩), (by rw [kp 7 (by decide)]; exact F7.out), (by rw [kp 5 (by decide), kp 4 (by decide)]; exact n54), (fun _ => by rw [kp 5 (by decide)]; exact q5), (fun _ => by rw [kp 1 (by decide)]; exact q1), (fun _ => ki), (fun h => by rw [kp 4 (by decide), q4] at h; cases h), (fun _ h => by rw [kp 5 (by decide), q5] at h; cases h), (fun _ h => by rw [ki] at h; cases h), (fun _ _ => rfl), (fun h => by rw [kp 8 (by decide), l8] at h; cases h)⟩
    · simp only [List.getElem?_toArray, List.getElem?_cons_succ, List.getElem?_cons_zero, Option.some.injEq] at ho
      subst ho
      clear hdep
      refine wpOp_of rfl rfl ?_
      generalize hG : NwInv p1 p2 p5 p6 p7 p8 p9 p10 p11 p12 p13 p14 p23 base B k n v W (l.setIfInBounds 7 true) = GG
      go_simp
      rw [← hG]
      exact ⟨_, _, _, _, _, _, _, _, w4, w6, v6, rfl, hsz', (by rw [kp 0 (by decide)]; exact F0.out), (by rw [kp 1 (by decide)]; exact F1.out), (by rw [kp 2 (by decide)]; exact F2.out), (by rw [kp 3 (by decide)]; exact F3.out), (by rw [kp 4 (by decide)]; exact F4.out), (by rw [kp 5 (by decide)]; exact F5.out), (by rw [kp 6 (by decide)]; exact F6.out), (fun _ => rfl), (by rw [kp 5 (by decide), kp 4 (by decide)]; exact n54), (by rw [kp 6 (by decide), kp 5 (by decide)]; exact n65), (by rw [kp 6 (by decide), kp 1 (by decide)]; exact n61), (by rw [kp 8 (by decide), kp 6 (by decide)]; exact n86), (by rw [kp 4 (by decide)]; exact G0.out), (by rw [kp 4 (by decide), kp 5 (by decide)]; exact G1.out), (by rw [kp 5 (by decide), kp 6 (by decide)]; exact G2.out), (by rw [kp 6 (by decide), kp 8 (by decide)]; exact G3.out), (by rw [kp 8 (by decide)]; exact G4.out)⟩
    · simp only [List.getElem?_toArray, List.getElem?_cons_succ, List.getElem?_cons_zero, Option.some.injEq] at ho
      subst ho
      have q6 : l.getD 6 false = true := hdep ⟨6, .data⟩ (by simp) rfl
      have q7 : l.getD 7 false = true := hdep ⟨7, .data⟩ (by simp) rfl
      have q5 := n65 q6
      have q4 := n54 q5
      obtain ⟨rfl, o6, g6⟩ := F6.out q6
      obtain rfl := F7.out q7
      have hb4 := (F4.out q4).2
      obtain rfl := G3.out q6 hui
      have hBB : w'.heap[B]? = (w4.alloc (.cells (rcL ((k : Int) + 1) n true).toArray 47)).heap[B]? := g6.block B (by have := hb4.size; simp; omega) (fun e => hrow B e.symm rfl)
      have c4 := (hb4.cell (p := ⟨B, 0, none⟩) hBW).trans hc
      have f4 := (hb4.frozen (p := ⟨B, 0, none⟩) hBW).trans hfz
      have c6 : w'.cell? ⟨B, 0, none⟩ = some v := (World.cell?_of_block (w := (w4.alloc (.cells (rcL ((k : Int) + 1) n true).toArray 47))) hBB).trans ((World.cell?_alloc_past _ _ _ (by have := hb4.size; (try simp); omega)).trans c4)
      have f6 : w'.frozen? ⟨B, 0, none⟩ = false := (World.frozen?_of_block (w := (w4.alloc (.cells (rcL ((k : Int) + 1) n true).toArray 47))) hBB).trans (((below_alloc w4 _).frozen (p := ⟨B, 0, none⟩) (by show B < _; have := hb4.size; omega)).trans f4)
      obtain ⟨g8, cap8, cur8, e8, _⟩ := o6.2.resolve_left (fun e => by omega)
      have O6 := hid o6
      have G6 := hid g6
      clear o6 g6 hdep c4 f4 hBB hc hfz
      subst e8
      refine wpOp_of rfl rfl ?_
      generalize hG : NwInv p1 p2 p5 p6 p7 p8 p9 p10 p11 p12 p13 p14 p23 base B k n v W (l.setIfInBounds 8 true) = GG
      go_simp
      rw [← hG]
      exact ⟨_, _, _, _, _, _, _, _, w4, w', _, rfl, hsz', (by rw [kp 0 (by decide)]; exact F0.out), (by rw [kp 1 (by decide)]; exact F1.out), (by rw [kp 2 (by decide)]; exact F2.out), (by rw [kp 3 (by decide)]; exact F3.out), (by rw [kp 4 (by decide)]; exact F4.out), (by rw [kp 5 (by decide)]; exact F5.out), (fun _ => ⟨rfl, O6.out, G6.out⟩), (fun _ => rfl), (by rw [kp 5 (by decide), kp 4 (by decide)]; exact n54), (by rw [kp 6 (by decide), kp 5 (by decide)]; exact n65), (by rw [kp 6 (by decide), kp 1 (by decide)]; exact n61), (fun _ => by rw [kp 6 (by decide)]; exact q6), (fun h => by rw [kp 4 (by decide), q4] at h; cases h), (fun _ h => by rw [kp 5 (by decide), q5] at h; cases h), (fun _ h => by rw [kp 6 (by decide), q6] at h; cases h), (fun _ h => by rw [ki] at h; cases h), (fun _ => rfl)⟩
theorem newsAll_at (n : Nat) : ∀ (k i : Nat), i < k → ∀ j u, (rcL ((i : Int) + 1) n true)[j]? = some u → (newsAll n k)[i * 18 + j]? = some u
  | 0, i, h, _, _, _ => absurd h (Nat.not_lt_zero _)
  | k + 1, i, h, j, u, hu => by
    have hl : ∀ m, (newsAll n m).length = m * 18 := fun m => by
      induction m with
      | zero => rfl
      | succ m ih =>
        show (newsAll n m ++ rcL ((m : Int) + 1) n true).length = _
        rw [List.length_append, ih]
        show m * 18 + 18 = _
        omega
    have hj : j < 18 := (List.getElem?_eq_some_iff.1 hu).1
    show (newsAll n k ++ rcL ((k : Int) + 1) n true)[i * 18 + j]? = some u
    by_cases e : i < k
    · rw [List.getElem?_append_left (by rw [hl]; omega)]
      exact newsAll_at n k i e j u hu
    · obtain rfl : i = k := by omega
      rw [List.getElem?_append_right (by rw [hl]; omega), hl]
      have : i * 18 + j - i * 18 = j := by omega
      rw [this]
      exact hu
set_option maxRecDepth 100000 in
set_option maxHeartbeats 4000000 in
theorem newSpecNo_any (a : Int) (w : World) (h : inB a 1 5 = false) : Calls Try.prog 9 #[.int .i64 a] w fun e w' => e = .returned zrw ∧ Below w.heap.size w w' := by
  go_enter Try.func9, Try.ntmps9
  go_wp2_with (go_at_call 17; go_must (refine (in_any a 1 5 _).mono ?_; rintro e w1 ⟨rfl, h0⟩; rw [h0, h]; clear h0 w1))
  refine bodyPost_ret (v := zrw) (by simp [results, Try.results9, go_sem, zrw]) rfl ⟨rfl, ?_⟩
  exact (below_alloc _ _).alloc (by simp) _
set_option maxRecDepth 100000 in
set_option maxHeartbeats 8000000 in
theorem newSpecYes_any (n : Nat) (w : World) (h1 : 1 ≤ n) (h5 : n ≤ 5) : Calls Try.prog 9 #[.int .i64 n] w fun e w' => ∃ ad cap, e = .returned (.agg #[.slice ad n cap, .slice none 0 0, .slice none 0 0]) ∧ RcsIn w' w.heap.size w'.heap.size ad n (fun i => rc0 ((i : Int) + 1) n true) (fun _ => rcA0) ∧ Below w.heap.size w w' := by
  have hok : inB (n : Int) 1 5 = true := inB_yes ⟨by omega, by omega⟩
  go_enter Try.func9, Try.ntmps9
  go_wp2_with (go_at_call 17; go_must (refine (in_any n 1 5 _).mono ?_; rintro e w1 ⟨rfl, h0⟩; rw [h0, hok]; clear h0 w1))
  obtain ⟨U, hU⟩ : ∃ U, (w.alloc (.cells #[.slice none 0 0, .slice none 0 0, .slice none 0 0] 26)).alloc (.cells #[.slice none 0 0, .slice none 0 0, .slice none 0 0] 26) = U := ⟨_, rfl⟩
  have hUs : U.heap.size = w.heap.size + 2 := by rw [← hU]; simp
  have hB0 : Below w.heap.size w U := by rw [← hU]; exact (below_alloc _ _).alloc (by simp) _
  have hR : Holds U w.heap.size #[.slice none 0 0, .slice none 0 0, .slice none 0 0] := by rw [← hU]; exact (holds_new w _ 26).below (below_alloc _ _) (by simp)
  have hO : Holds U (w.heap.size + 1) #[.slice none 0 0, .slice none 0 0, .slice none 0 0] := by
    rw [← hU]
    have := holds_new (w.alloc (.cells #[.slice none 0 0, .slice none 0 0, .slice none 0 0] 26)) #[.slice none 0 0, .slice none 0 0, .slice none 0 0] 26
    rwa [World.size_alloc] at this
  have fR : ∀ i, U.frozen? ⟨w.heap.size, i, none⟩ = false := fun i => by rw [← hU]; simp
  have fO : ∀ i, U.frozen? ⟨w.heap.size + 1, i, none⟩ = false := fun i => by rw [← hU]; simp
  rw [hU]
  clear hU hok
  have HR := hid hR
  clear hR
  go_loopw [4] (fun i wr => ∃ (k : Nat) (v : Value), k ≤ n ∧ i = .int .i64 ((k : Int) + 1) ∧ Holds wr (w.heap.size + 1) #[v, .slice none 0 0, .slice none 0 0] ∧ (∀ i, wr.frozen? ⟨w.heap.size + 1, i, none⟩ = false) ∧ wr.ownsRow (w.heap.size + 2) 47 18 v k (newsAll n k) ∧ FrP (fun q => q = w.heap.size + 1 ∨ w.heap.size + 2 ≤ q) U wr) (fun i _ => n + 1 - (intOf i).toNat)
  case atStart => exact ⟨0, .slice none 0 0, Nat.zero_le _, rfl, hO, fO, World.ownsRow_nil _ _ _ _, FrP.refl _ _⟩
  case round =>
    obtain ⟨k, v, hk, rfl, ho, hfo, own, hf⟩ := hrel
    clear hO fO
    have zr := hf.size
    have hsl : ∃ ad cap, v = .slice ad k cap := by
      rcases own.2 with ⟨e1, e2⟩ | ⟨g, cap, cur, e1, _⟩
      · exact ⟨none, 0, by rw [e1, e2]⟩
      · exact ⟨_, cap, e1⟩
    by_cases hkn : k < n
    · obtain ⟨o0, o1, o2⟩ := holds3 ho
      have HH := hid ho
      have HFO := hid hfo
      have OW := hid own
      have HF := hid hf
      have f0 := hfo 0
      have hrow : ∀ g, v.ownBlock = some g → w.heap.size + 2 ≤ g := fun g hg => (own.lt g hg).1
      clear ho hfo own hf o1 o2
      go_wp2
      refine nwsReg7 _ _ _ _ _ _ _ _ _ _ _ _ _ _ _ _ _ _ _ _ _ (w.heap.size + 2) (w.heap.size + 1) k n v wr hkn h5 OW.out (by omega) hsl o0 f0 (by omega) (fun g hg e => by have := hrow g hg; omega) _ ?_
      intro t15 t16 t17 t18 t19 t20 t21 t22 w4 w6 v6 hb4 o6 g6
      have z4 := hb4.size
      have hBB : w6.heap[w.heap.size + 1]? = (w4.alloc (.cells (rcL ((k : Int) + 1) n true).toArray 47)).heap[w.heap.size + 1]? := g6.block _ (by simp; omega) (fun e => by have := hrow _ e.symm; omega)
      have hA6 : Holds w6 (w.heap.size + 1) #[v, .slice none 0 0, .slice none 0 0] := fun i => (World.cell?_of_block (w := (w4.alloc (.cells (rcL ((k : Int) + 1) n true).toArray 47))) hBB).trans (((HH.out.below hb4 (by omega)).below (below_alloc w4 _) (by omega)) i)
      have fA6 : ∀ i, w6.frozen? ⟨w.heap.size + 1, i, none⟩ = false := fun i => (World.frozen?_of_block (w := (w4.alloc (.cells (rcL ((k : Int) + 1) n true).toArray 47))) hBB).trans (((below_alloc w4 _).frozen (p := ⟨w.heap.size + 1, i, none⟩) (by show w.heap.size + 1 < _; omega)).trans ((hb4.frozen (p := ⟨w.heap.size + 1, i, none⟩) (by show w.heap.size + 1 < _; omega)).trans (HFO.out i)))
      have H2 := hid (h3set0 hA6 v6)
      have F2 := hid (show ∀ i, (w6.setCell ⟨w.heap.size + 1, 0, none⟩ v6).frozen? ⟨w.heap.size + 1, i, none⟩ = false from fun i => by rw [World.frozen?_setCell]; exact fA6 i)
      have O2 := hid (ownsRow_fr o6 ((FrP.refl (fun q => q = w.heap.size + 1) w6).setCell (p := ⟨w.heap.size + 1, 0, none⟩) rfl v6) (fun g hg e => by have := (o6.lt g hg).1; omega))
      have R2 := hid (HF.out.trans ((((FrP.of_below (P := fun q => q = w.heap.size + 1 ∨ w.heap.size + 2 ≤ q) hb4).trans (FrP.of_below (below_alloc w4 _))).trans ((FrP.of_grown g6).mono (fun q hq => Or.inr (hrow q hq)))).trans ((FrP.refl _ w6).setCell (p := ⟨w.heap.size + 1, 0, none⟩) (Or.inl rfl) v6)))
      clear hBB hA6 fA6 o6 g6 o0 f0 HH HFO OW HF
      go_wp2
      go_roundw
      case rel => exact ⟨k + 1, v6, by omega, by go_num, H2.out, F2.out, O2.out, R2.out⟩
      case measure => simp [intOf]; omega
    · obtain rfl : k = n := by omega
      obtain ⟨ad, cap, rfl⟩ := hsl
      obtain ⟨o0, o1, o2⟩ := holds3 ho
      obtain ⟨u0, u1, u2⟩ := holds3 (fun i => (hf.cell (p := ⟨w.heap.size, i, none⟩) (by show w.heap.size < _; omega) (by show ¬ (w.heap.size = w.heap.size + 1 ∨ w.heap.size + 2 ≤ w.heap.size); omega)).trans (HR.out i))
      have fr2 : ∀ i, wr.frozen? ⟨w.heap.size, i, none⟩ = false := fun i => (hf.frozen (p := ⟨w.heap.size, i, none⟩) (by show w.heap.size < _; omega) (by show ¬ (w.heap.size = w.heap.size + 1 ∨ w.heap.size + 2 ≤ w.heap.size); omega)).trans (fR i)
      have hBr : Below w.heap.size w wr := hB0.trans (hf.below (fun q hq => by omega) (by omega))
      have KEY := hid (show ∀ X : World, Fr w.heap.size (w.heap.size + 1) wr X → X.heap.size = wr.heap.size → RcsIn X w.heap.size X.heap.size ad k (fun i => rc0 ((i : Int) + 1) k true) (fun _ => rcA0) ∧ Below w.heap.size w X from fun X hX hs => by
        refine ⟨fun i hi => ?_, hBr.trans (hX.below (Nat.le_refl _) hBr.size)⟩
        obtain ⟨g, cap', cur, e1, _⟩ := own.2.resolve_left (fun e => by omega)
        cases e1
        have hg := own.lt g rfl
        refine ⟨g, 0, rfl, by omega, by rw [hs]; exact hg.2, ?_, rc0_in _ _ _ _ _ _⟩
        intro j u hu
        rw [Nat.zero_add, hX.cell (p := ⟨g, i * 18 + j, none⟩) hg.2 (Or.inr (by show w.heap.size + 1 ≤ g; omega))]
        have hu' : (rcL ((i : Int) + 1) k true)[j]? = some u := hu
        have := newsAll_at k k i hi j u hu'
        have hj : j < 18 := (List.getElem?_eq_some_iff.1 hu').1
        rw [own.cellAt (i * 18 + j) (by omega)]
        exact this)
      clear own hf ho hfo
      go_wp2
      refine bodyPost_ret (v := .agg #[.slice ad k cap, .slice none 0 0, .slice none 0 0]) (by simp [results, Try.results9, go_sem, u0, u1, u2]) rfl ⟨ad, cap, rfl, (KEY.out _ ?_ (by simp)).1, (KEY.out _ ?_ (by simp)).2⟩
      all_goals
        iterate 3 refine Fr.setCell ?_ (by show w.heap.size ≤ w.heap.size; omega) (by show w.heap.size < w.heap.size + 1; omega) _
        exact Fr.refl _ _ _
end Go.Proofs.Ytkcgfjnmkbbnoaa
