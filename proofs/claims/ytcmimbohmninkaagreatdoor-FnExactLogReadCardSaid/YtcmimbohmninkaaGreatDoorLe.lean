import Derived.Test.YtcmimbohmninkaaGreatDoorLd
import Derived.Test.YtcmimbohmninkaaGreatDoorRg
namespace Go.Proofs.YtcmimbohmninkaaGreatDoor
open Go.RowKit
/-- who writes a field -/
def wrt (j : Nat) : Nat := match j with
  | 0 => 50
  | 1 => 52
  | 2 => 52
  | 3 => 50
  | 4 => 50
  | 5 => 52
  | 6 => 56
  | _ => 58
/-- which part a field tells -/
def prt (C R : Nat) (j : Nat) : Addr := match j with
  | 0 => ⟨C, 0, none⟩
  | 1 => ⟨C, 1, none⟩
  | 2 => ⟨R, 0, none⟩
  | 3 => ⟨R, 1, none⟩
  | 4 => ⟨R, 2, none⟩
  | 5 => ⟨R, 3, none⟩
  | 6 => ⟨R, 5, none⟩
  | _ => ⟨R, 4, none⟩
/-- the fields of a call and a write, in a row -/
def FldsAt (X : World) (C R g : Nat) : Prop := g < X.heap.size ∧ ∀ j, j < 8 → ∃ gj fb, X.cell? ⟨g, j * 2, none⟩ = some (.func (.func (wrt j)) #[] #[.pointer (some ⟨gj, 0, none⟩)]) ∧ X.cell? ⟨g, j * 2 + 1, none⟩ = some (.func (.func fb) #[] #[.pointer (some ⟨gj, 0, none⟩)]) ∧ gj < X.heap.size ∧ X.cell? ⟨gj, 0, none⟩ = some (.pointer (some (prt C R j)))
theorem FldsAt.below {X Y : World} {C R g : Nat} (h : FldsAt X C R g) (hb : Below X.heap.size X Y) : FldsAt Y C R g :=
  ⟨Nat.lt_of_lt_of_le h.1 hb.size, fun j hj => by
    obtain ⟨gj, fb, h1, h2, h3, h4⟩ := h.2 j hj
    exact ⟨gj, fb, (hb.cell (p := ⟨g, j * 2, none⟩) h.1).trans h1, (hb.cell (p := ⟨g, j * 2 + 1, none⟩) h.1).trans h2, Nat.lt_of_lt_of_le h3 hb.size, (hb.cell (p := ⟨gj, 0, none⟩) h3).trans h4⟩⟩
theorem FldsAt.new (X : World) (C R : Nat) (g0 g1 g2 g3 g4 g5 g6 g7 : Nat) (l0 : g0 < X.heap.size) (c0 : X.cell? ⟨g0, 0, none⟩ = some (.pointer (some ⟨C, 0, none⟩))) (l1 : g1 < X.heap.size) (c1 : X.cell? ⟨g1, 0, none⟩ = some (.pointer (some ⟨C, 1, none⟩))) (l2 : g2 < X.heap.size) (c2 : X.cell? ⟨g2, 0, none⟩ = some (.pointer (some ⟨R, 0, none⟩))) (l3 : g3 < X.heap.size) (c3 : X.cell? ⟨g3, 0, none⟩ = some (.pointer (some ⟨R, 1, none⟩))) (l4 : g4 < X.heap.size) (c4 : X.cell? ⟨g4, 0, none⟩ = some (.pointer (some ⟨R, 2, none⟩))) (l5 : g5 < X.heap.size) (c5 : X.cell? ⟨g5, 0, none⟩ = some (.pointer (some ⟨R, 3, none⟩))) (l6 : g6 < X.heap.size) (c6 : X.cell? ⟨g6, 0, none⟩ = some (.pointer (some ⟨R, 5, none⟩))) (l7 : g7 < X.heap.size) (c7 : X.cell? ⟨g7, 0, none⟩ = some (.pointer (some ⟨R, 4, none⟩))) :
    FldsAt (X.alloc (.cells #[.func (.func 50) #[] #[.pointer (some ⟨g0, 0, none⟩)], .func (.func 51) #[] #[.pointer (some ⟨g0, 0, none⟩)], .func (.func 52) #[] #[.pointer (some ⟨g1, 0, none⟩)], .func (.func 54) #[] #[.pointer (some ⟨g1, 0, none⟩)], .func (.func 52) #[] #[.pointer (some ⟨g2, 0, none⟩)], .func (.func 54) #[] #[.pointer (some ⟨g2, 0, none⟩)], .func (.func 50) #[] #[.pointer (some ⟨g3, 0, none⟩)], .func (.func 51) #[] #[.pointer (some ⟨g3, 0, none⟩)], .func (.func 50) #[] #[.pointer (some ⟨g4, 0, none⟩)], .func (.func 51) #[] #[.pointer (some ⟨g4, 0, none⟩)], .func (.func 52) #[] #[.pointer (some ⟨g5, 0, none⟩)], .func (.func 54) #[] #[.pointer (some ⟨g5, 0, none⟩)], .func (.func 56) #[] #[.pointer (some ⟨g6, 0, none⟩)], .func (.func 57) #[] #[.pointer (some ⟨g6, 0, none⟩)], .func (.func 58) #[] #[.pointer (some ⟨g7, 0, none⟩)], .func (.func 60) #[] #[.pointer (some ⟨g7, 0, none⟩)]] 69)) C R X.heap.size := by
  have hp : ∀ g : Nat, g < X.heap.size → (X.alloc (.cells #[.func (.func 50) #[] #[.pointer (some ⟨g0, 0, none⟩)], .func (.func 51) #[] #[.pointer (some ⟨g0, 0, none⟩)], .func (.func 52) #[] #[.pointer (some ⟨g1, 0, none⟩)], .func (.func 54) #[] #[.pointer (some ⟨g1, 0, none⟩)], .func (.func 52) #[] #[.pointer (some ⟨g2, 0, none⟩)], .func (.func 54) #[] #[.pointer (some ⟨g2, 0, none⟩)], .func (.func 50) #[] #[.pointer (some ⟨g3, 0, none⟩)], .func (.func 51) #[] #[.pointer (some ⟨g3, 0, none⟩)], .func (.func 50) #[] #[.pointer (some ⟨g4, 0, none⟩)], .func (.func 51) #[] #[.pointer (some ⟨g4, 0, none⟩)], .func (.func 52) #[] #[.pointer (some ⟨g5, 0, none⟩)], .func (.func 54) #[] #[.pointer (some ⟨g5, 0, none⟩)], .func (.func 56) #[] #[.pointer (some ⟨g6, 0, none⟩)], .func (.func 57) #[] #[.pointer (some ⟨g6, 0, none⟩)], .func (.func 58) #[] #[.pointer (some ⟨g7, 0, none⟩)], .func (.func 60) #[] #[.pointer (some ⟨g7, 0, none⟩)]] 69)).cell? ⟨g, 0, none⟩ = X.cell? ⟨g, 0, none⟩ := fun g hg => World.cell?_alloc_past _ _ _ hg
  have hz : ∀ g : Nat, g < X.heap.size → g < (X.alloc (.cells #[.func (.func 50) #[] #[.pointer (some ⟨g0, 0, none⟩)], .func (.func 51) #[] #[.pointer (some ⟨g0, 0, none⟩)], .func (.func 52) #[] #[.pointer (some ⟨g1, 0, none⟩)], .func (.func 54) #[] #[.pointer (some ⟨g1, 0, none⟩)], .func (.func 52) #[] #[.pointer (some ⟨g2, 0, none⟩)], .func (.func 54) #[] #[.pointer (some ⟨g2, 0, none⟩)], .func (.func 50) #[] #[.pointer (some ⟨g3, 0, none⟩)], .func (.func 51) #[] #[.pointer (some ⟨g3, 0, none⟩)], .func (.func 50) #[] #[.pointer (some ⟨g4, 0, none⟩)], .func (.func 51) #[] #[.pointer (some ⟨g4, 0, none⟩)], .func (.func 52) #[] #[.pointer (some ⟨g5, 0, none⟩)], .func (.func 54) #[] #[.pointer (some ⟨g5, 0, none⟩)], .func (.func 56) #[] #[.pointer (some ⟨g6, 0, none⟩)], .func (.func 57) #[] #[.pointer (some ⟨g6, 0, none⟩)], .func (.func 58) #[] #[.pointer (some ⟨g7, 0, none⟩)], .func (.func 60) #[] #[.pointer (some ⟨g7, 0, none⟩)]] 69)).heap.size := fun g hg => by rw [World.size_alloc]; omega
  refine ⟨by rw [World.size_alloc]; omega, fun j hj => ?_⟩
  rcases (show j = 0 ∨ j = 1 ∨ j = 2 ∨ j = 3 ∨ j = 4 ∨ j = 5 ∨ j = 6 ∨ j = 7 by omega) with rfl | rfl | rfl | rfl | rfl | rfl | rfl | rfl
  · exact ⟨g0, 51, by simp [go_sem, wrt], by simp [go_sem], hz _ l0, (hp _ l0).trans c0⟩
  · exact ⟨g1, 54, by simp [go_sem, wrt], by simp [go_sem], hz _ l1, (hp _ l1).trans c1⟩
  · exact ⟨g2, 54, by simp [go_sem, wrt], by simp [go_sem], hz _ l2, (hp _ l2).trans c2⟩
  · exact ⟨g3, 51, by simp [go_sem, wrt], by simp [go_sem], hz _ l3, (hp _ l3).trans c3⟩
  · exact ⟨g4, 51, by simp [go_sem, wrt], by simp [go_sem], hz _ l4, (hp _ l4).trans c4⟩
  · exact ⟨g5, 54, by simp [go_sem, wrt], by simp [go_sem], hz _ l5, (hp _ l5).trans c5⟩
  · exact ⟨g6, 57, by simp [go_sem, wrt], by simp [go_sem], hz _ l6, (hp _ l6).trans c6⟩
  · exact ⟨g7, 60, by simp [go_sem, wrt], by simp [go_sem], hz _ l7, (hp _ l7).trans c7⟩
def fldReg1G (C : Nat) (R : Nat) (i : Nat) (v : Value) (X : World) : Prop :=
  match i with
  | 0 => v = .pointer (some ⟨C, 0, none⟩)
  | 1 => v = .pointer (some ⟨C, 0, none⟩)
  | 2 => v = .pointer (some ⟨C, 0, none⟩)
  | 3 => FldV X v 50 51 ⟨C, 0, none⟩
  | 4 => v = .pointer (some ⟨C, 0, none⟩)
  | 5 => v = .pointer (some ⟨C, 0, none⟩)
  | 6 => v = .pointer (some ⟨C, 1, none⟩)
  | 7 => FldV X v 52 54 ⟨C, 1, none⟩
  | 8 => v = .pointer (some ⟨R, 0, none⟩)
  | 9 => v = .pointer (some ⟨R, 0, none⟩)
  | 10 => v = .pointer (some ⟨R, 0, none⟩)
  | 11 => FldV X v 52 54 ⟨R, 0, none⟩
  | 12 => v = .pointer (some ⟨R, 0, none⟩)
  | 13 => v = .pointer (some ⟨R, 0, none⟩)
  | 14 => v = .pointer (some ⟨R, 1, none⟩)
  | 15 => FldV X v 50 51 ⟨R, 1, none⟩
  | 16 => v = .pointer (some ⟨R, 0, none⟩)
  | 17 => v = .pointer (some ⟨R, 0, none⟩)
  | 18 => v = .pointer (some ⟨R, 2, none⟩)
  | 19 => FldV X v 50 51 ⟨R, 2, none⟩
  | 20 => v = .pointer (some ⟨R, 0, none⟩)
  | 21 => v = .pointer (some ⟨R, 0, none⟩)
  | 22 => v = .pointer (some ⟨R, 3, none⟩)
  | 23 => FldV X v 52 54 ⟨R, 3, none⟩
  | 24 => v = .pointer (some ⟨R, 0, none⟩)
  | 25 => v = .pointer (some ⟨R, 0, none⟩)
  | 26 => v = .pointer (some ⟨R, 5, none⟩)
  | 27 => FldV X v 56 57 ⟨R, 5, none⟩
  | 28 => v = .pointer (some ⟨R, 0, none⟩)
  | 29 => v = .pointer (some ⟨R, 0, none⟩)
  | 30 => v = .pointer (some ⟨R, 4, none⟩)
  | 31 => FldV X v 58 60 ⟨R, 4, none⟩
  | 32 => ∃ g, v = .slice (some ⟨g, 0, none⟩) 8 8 ∧ FldsAt X C R g
  | _ => True
set_option maxRecDepth 100000 in
set_option maxHeartbeats 4000000 in
theorem fldReg1 (p2 p3 p4 : Value) (v0 v1 v2 v3 v4 v5 v6 v7 v8 v9 v10 v11 v12 v13 v14 v15 v16 v17 v18 v19 v20 v21 v22 v23 v24 v25 v26 v27 v28 v29 v30 v31 v32 : Value) (C : Nat) (R : Nat) (W : World)  (Q : Exit → Act → World → Prop) (hQ : ∀ (t : Nat → Value) (v3 : Value) X, (∃ g, v3 = .slice (some ⟨g, 0, none⟩) 8 8 ∧ FldsAt X C R g ∧ Below W.heap.size W X) → Q .normal ⟨#[(.pointer (some ⟨C, 0, none⟩)), (.pointer (some ⟨R, 0, none⟩)), p2, p3, v3, t 0, t 1, t 2, t 3, t 4, t 5, t 6, t 7, t 8, t 9, t 10, t 11, t 12, t 13, t 14, t 15, t 16, t 17, t 18, t 19, t 20, t 21, t 22, t 23, t 24, t 25, t 26, t 27, t 28, t 29, t 30, t 31, t 32], []⟩ X) :
    Code.wp Tryz.prog (Code.region 1 #[{ dst := some 5, op := Op.move (Operand.tmp 0), type := 63, pos := "l20_call.go:116", after := #[], guard := none }, { dst := some 6, op := Op.nilCheck (Operand.tmp 5), type := 0, pos := "l20_call.go:116", after := #[{ on := 0, ground := Ground.data }], guard := none }, { dst := some 7, op := Op.fieldAddr 27 (Operand.tmp 6) 0, type := 0, pos := "l20_call.go:116", after := #[{ on := 1, ground := Ground.data }], guard := none }, { dst := some 8, op := Op.call { callee := Callee.value (Operand.func 39), args := #[Operand.tmp 7], argTypes := #[77] }, type := 69, pos := "l20_call.go:117", after := #[{ on := 2, ground := Ground.data }], guard := none }, { dst := some 9, op := Op.move (Operand.tmp 0), type := 63, pos := "l20_call.go:116", after := #[], guard := none }, { dst := some 10, op := Op.nilCheck (Operand.tmp 9), type := 0, pos := "l20_call.go:116", after := #[{ on := 4, ground := Ground.data }], guard := none }, { dst := some 11, op := Op.fieldAddr 27 (Operand.tmp 10) 1, type := 0, pos := "l20_call.go:116", after := #[{ on := 5, ground := Ground.data }], guard := none }, { dst := some 12, op := Op.call { callee := Callee.value (Operand.func 40), args := #[Operand.tmp 11], argTypes := #[79] }, type := 69, pos := "l20_call.go:118", after := #[{ on := 6, ground := Ground.data }, { on := 3, ground := Ground.chain }], guard := none }, { dst := some 13, op := Op.move (Operand.tmp 1), type := 64, pos := "l20_call.go:116", after := #[], guard := none }, { dst := some 14, op := Op.nilCheck (Operand.tmp 13), type := 0, pos := "l20_call.go:116", after := #[{ on := 8, ground := Ground.data }], guard := none }, { dst := some 15, op := Op.fieldAddr 40 (Operand.tmp 14) 0, type := 0, pos := "l20_call.go:116", after := #[{ on := 9, ground := Ground.data }], guard := none }, { dst := some 16, op := Op.call { callee := Callee.value (Operand.func 40), args := #[Operand.tmp 15], argTypes := #[79] }, type := 69, pos := "l20_call.go:119", after := #[{ on := 10, ground := Ground.data }, { on := 7, ground := Ground.chain }], guard := none }, { dst := some 17, op := Op.move (Operand.tmp 1), type := 64, pos := "l20_call.go:116", after := #[], guard := none }, { dst := some 18, op := Op.nilCheck (Operand.tmp 17), type := 0, pos := "l20_call.go:116", after := #[{ on := 12, ground := Ground.data }], guard := none }, { dst := some 19, op := Op.fieldAddr 40 (Operand.tmp 18) 1, type := 0, pos := "l20_call.go:116", after := #[{ on := 13, ground := Ground.data }], guard := none }, { dst := some 20, op := Op.call { callee := Callee.value (Operand.func 39), args := #[Operand.tmp 19], argTypes := #[77] }, type := 69, pos := "l20_call.go:120", after := #[{ on := 14, ground := Ground.data }, { on := 11, ground := Ground.chain }], guard := none }, { dst := some 21, op := Op.move (Operand.tmp 1), type := 64, pos := "l20_call.go:116", after := #[], guard := none }, { dst := some 22, op := Op.nilCheck (Operand.tmp 21), type := 0, pos := "l20_call.go:116", after := #[{ on := 16, ground := Ground.data }], guard := none }, { dst := some 23, op := Op.fieldAddr 40 (Operand.tmp 22) 2, type := 0, pos := "l20_call.go:116", after := #[{ on := 17, ground := Ground.data }], guard := none }, { dst := some 24, op := Op.call { callee := Callee.value (Operand.func 39), args := #[Operand.tmp 23], argTypes := #[77] }, type := 69, pos := "l20_call.go:121", after := #[{ on := 18, ground := Ground.data }, { on := 15, ground := Ground.chain }], guard := none }, { dst := some 25, op := Op.move (Operand.tmp 1), type := 64, pos := "l20_call.go:116", after := #[], guard := none }, { dst := some 26, op := Op.nilCheck (Operand.tmp 25), type := 0, pos := "l20_call.go:116", after := #[{ on := 20, ground := Ground.data }], guard := none }, { dst := some 27, op := Op.fieldAddr 40 (Operand.tmp 26) 3, type := 0, pos := "l20_call.go:116", after := #[{ on := 21, ground := Ground.data }], guard := none }, { dst := some 28, op := Op.call { callee := Callee.value (Operand.func 40), args := #[Operand.tmp 27], argTypes := #[79] }, type := 69, pos := "l20_call.go:122", after := #[{ on := 22, ground := Ground.data }, { on := 19, ground := Ground.chain }], guard := none }, { dst := some 29, op := Op.move (Operand.tmp 1), type := 64, pos := "l20_call.go:116", after := #[], guard := none }, { dst := some 30, op := Op.nilCheck (Operand.tmp 29), type := 0, pos := "l20_call.go:116", after := #[{ on := 24, ground := Ground.data }], guard := none }, { dst := some 31, op := Op.fieldAddr 40 (Operand.tmp 30) 5, type := 0, pos := "l20_call.go:116", after := #[{ on := 25, ground := Ground.data }], guard := none }, { dst := some 32, op := Op.call { callee := Callee.value (Operand.func 41), args := #[Operand.tmp 31], argTypes := #[77] }, type := 69, pos := "l20_call.go:123", after := #[{ on := 26, ground := Ground.data }, { on := 23, ground := Ground.chain }], guard := none }, { dst := some 33, op := Op.move (Operand.tmp 1), type := 64, pos := "l20_call.go:116", after := #[], guard := none }, { dst := some 34, op := Op.nilCheck (Operand.tmp 33), type := 0, pos := "l20_call.go:116", after := #[{ on := 28, ground := Ground.data }], guard := none }, { dst := some 35, op := Op.fieldAddr 40 (Operand.tmp 34) 4, type := 0, pos := "l20_call.go:116", after := #[{ on := 29, ground := Ground.data }], guard := none }, { dst := some 36, op := Op.call { callee := Callee.value (Operand.func 42), args := #[Operand.tmp 35], argTypes := #[77] }, type := 69, pos := "l20_call.go:124", after := #[{ on := 30, ground := Ground.data }, { on := 27, ground := Ground.chain }], guard := none }, { dst := some 37, op := Op.buildSlice 61 8 #[(0, Operand.tmp 8), (1, Operand.tmp 12), (2, Operand.tmp 16), (3, Operand.tmp 20), (4, Operand.tmp 24), (5, Operand.tmp 28), (6, Operand.tmp 32), (7, Operand.tmp 36)], type := 61, pos := "l20_call.go:116", after := #[{ on := 3, ground := Ground.data }, { on := 7, ground := Ground.data }, { on := 11, ground := Ground.data }, { on := 15, ground := Ground.data }, { on := 19, ground := Ground.data }, { on := 23, ground := Ground.data }, { on := 27, ground := Ground.data }, { on := 31, ground := Ground.data }], guard := none }, { dst := some 4, op := Op.assign (Operand.tmp 37), type := 61, pos := "l20_call.go:116", after := #[{ on := 32, ground := Ground.data }, { on := 31, ground := Ground.chain }, { on := 0, ground := Ground.phase }, { on := 1, ground := Ground.phase }, { on := 2, ground := Ground.phase }, { on := 3, ground := Ground.phase }, { on := 4, ground := Ground.phase }, { on := 5, ground := Ground.phase }, { on := 6, ground := Ground.phase }, { on := 7, ground := Ground.phase }, { on := 8, ground := Ground.phase }, { on := 9, ground := Ground.phase }, { on := 10, ground := Ground.phase }, { on := 11, ground := Ground.phase }, { on := 12, ground := Ground.phase }, { on := 13, ground := Ground.phase }, { on := 14, ground := Ground.phase }, { on := 15, ground := Ground.phase }, { on := 16, ground := Ground.phase }, { on := 17, ground := Ground.phase }, { on := 18, ground := Ground.phase }, { on := 19, ground := Ground.phase }, { on := 20, ground := Ground.phase }, { on := 21, ground := Ground.phase }, { on := 22, ground := Ground.phase }, { on := 23, ground := Ground.phase }, { on := 24, ground := Ground.phase }, { on := 25, ground := Ground.phase }, { on := 26, ground := Ground.phase }, { on := 27, ground := Ground.phase }, { on := 28, ground := Ground.phase }, { on := 29, ground := Ground.phase }, { on := 30, ground := Ground.phase }, { on := 31, ground := Ground.phase }, { on := 32, ground := Ground.phase }], guard := none }] true) Q ⟨#[(.pointer (some ⟨C, 0, none⟩)), (.pointer (some ⟨R, 0, none⟩)), p2, p3, p4, v0, v1, v2, v3, v4, v5, v6, v7, v8, v9, v10, v11, v12, v13, v14, v15, v16, v17, v18, v19, v20, v21, v22, v23, v24, v25, v26, v27, v28, v29, v30, v31, v32], []⟩ W := by
  refine regionJ (by kernel_rfl) 33 (fun t : Nat → Value => #[(.pointer (some ⟨C, 0, none⟩)), (.pointer (some ⟨R, 0, none⟩)), p2, p3, p4, t 0, t 1, t 2, t 3, t 4, t 5, t 6, t 7, t 8, t 9, t 10, t 11, t 12, t 13, t 14, t 15, t 16, t 17, t 18, t 19, t 20, t 21, t 22, t 23, t 24, t 25, t 26, t 27, t 28, t 29, t 30, t 31, t 32]) (fun i => match i with | 0 => v0 | 1 => v1 | 2 => v2 | 3 => v3 | 4 => v4 | 5 => v5 | 6 => v6 | 7 => v7 | 8 => v8 | 9 => v9 | 10 => v10 | 11 => v11 | 12 => v12 | 13 => v13 | 14 => v14 | 15 => v15 | 16 => v16 | 17 => v17 | 18 => v18 | 19 => v19 | 20 => v20 | 21 => v21 | 22 => v22 | 23 => v23 | 24 => v24 | 25 => v25 | 26 => v26 | 27 => v27 | 28 => v28 | 29 => v29 | 30 => v30 | 31 => v31 | _ => v32) (fldReg1G C R) (fun a X => ∃ (t : Nat → Value) (v3 : Value), a = ⟨#[(.pointer (some ⟨C, 0, none⟩)), (.pointer (some ⟨R, 0, none⟩)), p2, p3, v3, t 0, t 1, t 2, t 3, t 4, t 5, t 6, t 7, t 8, t 9, t 10, t 11, t 12, t 13, t 14, t 15, t 16, t 17, t 18, t 19, t 20, t 21, t 22, t 23, t 24, t 25, t 26, t 27, t 28, t 29, t 30, t 31, t 32], []⟩ ∧ (∃ g, v3 = .slice (some ⟨g, 0, none⟩) 8 8 ∧ FldsAt X C R g ∧ Below W.heap.size W X)) (by kernel_rfl) (by kernel_rfl) (by kernel_rfl) ?_ rfl ?_ ?_ ?_
  · intro i v X Y hi h hb
    rcases (show i = 0 ∨ i = 1 ∨ i = 2 ∨ i = 3 ∨ i = 4 ∨ i = 5 ∨ i = 6 ∨ i = 7 ∨ i = 8 ∨ i = 9 ∨ i = 10 ∨ i = 11 ∨ i = 12 ∨ i = 13 ∨ i = 14 ∨ i = 15 ∨ i = 16 ∨ i = 17 ∨ i = 18 ∨ i = 19 ∨ i = 20 ∨ i = 21 ∨ i = 22 ∨ i = 23 ∨ i = 24 ∨ i = 25 ∨ i = 26 ∨ i = 27 ∨ i = 28 ∨ i = 29 ∨ i = 30 ∨ i = 31 ∨ i = 32 by omega) with rfl | rfl | rfl | rfl | rfl | rfl | rfl | rfl | rfl | rfl | rfl | rfl | rfl | rfl | rfl | rfl | rfl | rfl | rfl | rfl | rfl | rfl | rfl | rfl | rfl | rfl | rfl | rfl | rfl | rfl | rfl | rfl | rfl
    · exact h
    · exact h
    · exact h
    · exact FldV.below h hb
    · exact h
    · exact h
    · exact h
    · exact FldV.below h hb
    · exact h
    · exact h
    · exact h
    · exact FldV.below h hb
    · exact h
    · exact h
    · exact h
    · exact FldV.below h hb
    · exact h
    · exact h
    · exact h
    · exact FldV.below h hb
    · exact h
    · exact h
    · exact h
    · exact FldV.below h hb
    · exact h
    · exact h
    · exact h
    · exact FldV.below h hb
    · exact h
    · exact h
    · exact h
    · exact FldV.below h hb
    · obtain ⟨g, e, h1⟩ := h
      exact ⟨g, e, h1.below hb⟩
  · intro i hi t X K hb hg hK
    rcases (show i = 0 ∨ i = 1 ∨ i = 2 ∨ i = 3 ∨ i = 4 ∨ i = 5 ∨ i = 6 ∨ i = 7 ∨ i = 8 ∨ i = 9 ∨ i = 10 ∨ i = 11 ∨ i = 12 ∨ i = 13 ∨ i = 14 ∨ i = 15 ∨ i = 16 ∨ i = 17 ∨ i = 18 ∨ i = 19 ∨ i = 20 ∨ i = 21 ∨ i = 22 ∨ i = 23 ∨ i = 24 ∨ i = 25 ∨ i = 26 ∨ i = 27 ∨ i = 28 ∨ i = 29 ∨ i = 30 ∨ i = 31 ∨ i = 32 by omega) with rfl | rfl | rfl | rfl | rfl | rfl | rfl | rfl | rfl | rfl | rfl | rfl | rfl | rfl | rfl | rfl | rfl | rfl | rfl | rfl | rfl | rfl | rfl | rfl | rfl | rfl | rfl | rfl | rfl | rfl | rfl | rfl | rfl
    · have h := hK (.pointer (some ⟨C, 0, none⟩)) X rfl (Below.refl _ _)
      refine wpOp_of rfl rfl ?_
      clear hK hg
      go_simp
      simpa [updT] using h
    · have e0 : t 0 = .pointer (some ⟨C, 0, none⟩) := hg 0 ⟨_, rfl, ⟨0, .data⟩, by simp, rfl, rfl⟩
      have h := hK (.pointer (some ⟨C, 0, none⟩)) X rfl (Below.refl _ _)
      refine wpOp_of rfl rfl ?_
      clear hK hg
      go_simp
      simpa [updT, e0] using h
    · have e1 : t 1 = .pointer (some ⟨C, 0, none⟩) := hg 1 ⟨_, rfl, ⟨1, .data⟩, by simp, rfl, rfl⟩
      have h := hK (.pointer (some ⟨C, 0, none⟩)) X rfl (Below.refl _ _)
      refine wpOp_of rfl rfl ?_
      clear hK hg
      go_simp
      simpa [updT, e1] using h
    · have e2 : t 2 = .pointer (some ⟨C, 0, none⟩) := hg 2 ⟨_, rfl, ⟨2, .data⟩, by simp, rfl, rfl⟩
      refine wpOp_of rfl rfl ?_
      have HK := hid hK
      clear hK hg
      go_simp
      go_at_call 39
      refine (logWord_any ⟨C, 0, none⟩ X).mono ?_
      rintro r Y ⟨⟨g, rfl, hg0, hc0⟩, hbY⟩
      have h := HK.out _ Y ⟨g, rfl, hg0, hc0⟩ hbY
      simpa [updT, e2] using h
    · have h := hK (.pointer (some ⟨C, 0, none⟩)) X rfl (Below.refl _ _)
      refine wpOp_of rfl rfl ?_
      clear hK hg
      go_simp
      simpa [updT] using h
    · have e4 : t 4 = .pointer (some ⟨C, 0, none⟩) := hg 4 ⟨_, rfl, ⟨4, .data⟩, by simp, rfl, rfl⟩
      have h := hK (.pointer (some ⟨C, 0, none⟩)) X rfl (Below.refl _ _)
      refine wpOp_of rfl rfl ?_
      clear hK hg
      go_simp
      simpa [updT, e4] using h
    · have e5 : t 5 = .pointer (some ⟨C, 0, none⟩) := hg 5 ⟨_, rfl, ⟨5, .data⟩, by simp, rfl, rfl⟩
      have h := hK (.pointer (some ⟨C, 1, none⟩)) X rfl (Below.refl _ _)
      refine wpOp_of rfl rfl ?_
      clear hK hg
      go_simp
      simpa [updT, e5] using h
    · have e6 : t 6 = .pointer (some ⟨C, 1, none⟩) := hg 6 ⟨_, rfl, ⟨6, .data⟩, by simp, rfl, rfl⟩
      refine wpOp_of rfl rfl ?_
      have HK := hid hK
      clear hK hg
      go_simp
      go_at_call 40
      refine (logNumber_any ⟨C, 1, none⟩ X).mono ?_
      rintro r Y ⟨⟨g, rfl, hg0, hc0⟩, hbY⟩
      have h := HK.out _ Y ⟨g, rfl, hg0, hc0⟩ hbY
      simpa [updT, e6] using h
    · have h := hK (.pointer (some ⟨R, 0, none⟩)) X rfl (Below.refl _ _)
      refine wpOp_of rfl rfl ?_
      clear hK hg
      go_simp
      simpa [updT] using h
    · have e8 : t 8 = .pointer (some ⟨R, 0, none⟩) := hg 8 ⟨_, rfl, ⟨8, .data⟩, by simp, rfl, rfl⟩
      have h := hK (.pointer (some ⟨R, 0, none⟩)) X rfl (Below.refl _ _)
      refine wpOp_of rfl rfl ?_
      clear hK hg
      go_simp
      simpa [updT, e8] using h
    · have e9 : t 9 = .pointer (some ⟨R, 0, none⟩) := hg 9 ⟨_, rfl, ⟨9, .data⟩, by simp, rfl, rfl⟩
      have h := hK (.pointer (some ⟨R, 0, none⟩)) X rfl (Below.refl _ _)
      refine wpOp_of rfl rfl ?_
      clear hK hg
      go_simp
      simpa [updT, e9] using h
    · have e10 : t 10 = .pointer (some ⟨R, 0, none⟩) := hg 10 ⟨_, rfl, ⟨10, .data⟩, by simp, rfl, rfl⟩
      refine wpOp_of rfl rfl ?_
      have HK := hid hK
      clear hK hg
      go_simp
      go_at_call 40
      refine (logNumber_any ⟨R, 0, none⟩ X).mono ?_
      rintro r Y ⟨⟨g, rfl, hg0, hc0⟩, hbY⟩
      have h := HK.out _ Y ⟨g, rfl, hg0, hc0⟩ hbY
      simpa [updT, e10] using h
    · have h := hK (.pointer (some ⟨R, 0, none⟩)) X rfl (Below.refl _ _)
      refine wpOp_of rfl rfl ?_
      clear hK hg
      go_simp
      simpa [updT] using h
    · have e12 : t 12 = .pointer (some ⟨R, 0, none⟩) := hg 12 ⟨_, rfl, ⟨12, .data⟩, by simp, rfl, rfl⟩
      have h := hK (.pointer (some ⟨R, 0, none⟩)) X rfl (Below.refl _ _)
      refine wpOp_of rfl rfl ?_
      clear hK hg
      go_simp
      simpa [updT, e12] using h
    · have e13 : t 13 = .pointer (some ⟨R, 0, none⟩) := hg 13 ⟨_, rfl, ⟨13, .data⟩, by simp, rfl, rfl⟩
      have h := hK (.pointer (some ⟨R, 1, none⟩)) X rfl (Below.refl _ _)
      refine wpOp_of rfl rfl ?_
      clear hK hg
      go_simp
      simpa [updT, e13] using h
    · have e14 : t 14 = .pointer (some ⟨R, 1, none⟩) := hg 14 ⟨_, rfl, ⟨14, .data⟩, by simp, rfl, rfl⟩
      refine wpOp_of rfl rfl ?_
      have HK := hid hK
      clear hK hg
      go_simp
      go_at_call 39
      refine (logWord_any ⟨R, 1, none⟩ X).mono ?_
      rintro r Y ⟨⟨g, rfl, hg0, hc0⟩, hbY⟩
      have h := HK.out _ Y ⟨g, rfl, hg0, hc0⟩ hbY
      simpa [updT, e14] using h
    · have h := hK (.pointer (some ⟨R, 0, none⟩)) X rfl (Below.refl _ _)
      refine wpOp_of rfl rfl ?_
      clear hK hg
      go_simp
      simpa [updT] using h
    · have e16 : t 16 = .pointer (some ⟨R, 0, none⟩) := hg 16 ⟨_, rfl, ⟨16, .data⟩, by simp, rfl, rfl⟩
      have h := hK (.pointer (some ⟨R, 0, none⟩)) X rfl (Below.refl _ _)
      refine wpOp_of rfl rfl ?_
      clear hK hg
      go_simp
      simpa [updT, e16] using h
    · have e17 : t 17 = .pointer (some ⟨R, 0, none⟩) := hg 17 ⟨_, rfl, ⟨17, .data⟩, by simp, rfl, rfl⟩
      have h := hK (.pointer (some ⟨R, 2, none⟩)) X rfl (Below.refl _ _)
      refine wpOp_of rfl rfl ?_
      clear hK hg
      go_simp
      simpa [updT, e17] using h
    · have e18 : t 18 = .pointer (some ⟨R, 2, none⟩) := hg 18 ⟨_, rfl, ⟨18, .data⟩, by simp, rfl, rfl⟩
      refine wpOp_of rfl rfl ?_
      have HK := hid hK
      clear hK hg
      go_simp
      go_at_call 39
      refine (logWord_any ⟨R, 2, none⟩ X).mono ?_
      rintro r Y ⟨⟨g, rfl, hg0, hc0⟩, hbY⟩
      have h := HK.out _ Y ⟨g, rfl, hg0, hc0⟩ hbY
      simpa [updT, e18] using h
    · have h := hK (.pointer (some ⟨R, 0, none⟩)) X rfl (Below.refl _ _)
      refine wpOp_of rfl rfl ?_
      clear hK hg
      go_simp
      simpa [updT] using h
    · have e20 : t 20 = .pointer (some ⟨R, 0, none⟩) := hg 20 ⟨_, rfl, ⟨20, .data⟩, by simp, rfl, rfl⟩
      have h := hK (.pointer (some ⟨R, 0, none⟩)) X rfl (Below.refl _ _)
      refine wpOp_of rfl rfl ?_
      clear hK hg
      go_simp
      simpa [updT, e20] using h
    · have e21 : t 21 = .pointer (some ⟨R, 0, none⟩) := hg 21 ⟨_, rfl, ⟨21, .data⟩, by simp, rfl, rfl⟩
      have h := hK (.pointer (some ⟨R, 3, none⟩)) X rfl (Below.refl _ _)
      refine wpOp_of rfl rfl ?_
      clear hK hg
      go_simp
      simpa [updT, e21] using h
    · have e22 : t 22 = .pointer (some ⟨R, 3, none⟩) := hg 22 ⟨_, rfl, ⟨22, .data⟩, by simp, rfl, rfl⟩
      refine wpOp_of rfl rfl ?_
      have HK := hid hK
      clear hK hg
      go_simp
      go_at_call 40
      refine (logNumber_any ⟨R, 3, none⟩ X).mono ?_
      rintro r Y ⟨⟨g, rfl, hg0, hc0⟩, hbY⟩
      have h := HK.out _ Y ⟨g, rfl, hg0, hc0⟩ hbY
      simpa [updT, e22] using h
    · have h := hK (.pointer (some ⟨R, 0, none⟩)) X rfl (Below.refl _ _)
      refine wpOp_of rfl rfl ?_
      clear hK hg
      go_simp
      simpa [updT] using h
    · have e24 : t 24 = .pointer (some ⟨R, 0, none⟩) := hg 24 ⟨_, rfl, ⟨24, .data⟩, by simp, rfl, rfl⟩
      have h := hK (.pointer (some ⟨R, 0, none⟩)) X rfl (Below.refl _ _)
      refine wpOp_of rfl rfl ?_
      clear hK hg
      go_simp
      simpa [updT, e24] using h
    · have e25 : t 25 = .pointer (some ⟨R, 0, none⟩) := hg 25 ⟨_, rfl, ⟨25, .data⟩, by simp, rfl, rfl⟩
      have h := hK (.pointer (some ⟨R, 5, none⟩)) X rfl (Below.refl _ _)
      refine wpOp_of rfl rfl ?_
      clear hK hg
      go_simp
      simpa [updT, e25] using h
    · have e26 : t 26 = .pointer (some ⟨R, 5, none⟩) := hg 26 ⟨_, rfl, ⟨26, .data⟩, by simp, rfl, rfl⟩
      refine wpOp_of rfl rfl ?_
      have HK := hid hK
      clear hK hg
      go_simp
      go_at_call 41
      refine (logHold_any ⟨R, 5, none⟩ X).mono ?_
      rintro r Y ⟨⟨g, rfl, hg0, hc0⟩, hbY⟩
      have h := HK.out _ Y ⟨g, rfl, hg0, hc0⟩ hbY
      simpa [updT, e26] using h
    · have h := hK (.pointer (some ⟨R, 0, none⟩)) X rfl (Below.refl _ _)
      refine wpOp_of rfl rfl ?_
      clear hK hg
      go_simp
      simpa [updT] using h
    · have e28 : t 28 = .pointer (some ⟨R, 0, none⟩) := hg 28 ⟨_, rfl, ⟨28, .data⟩, by simp, rfl, rfl⟩
      have h := hK (.pointer (some ⟨R, 0, none⟩)) X rfl (Below.refl _ _)
      refine wpOp_of rfl rfl ?_
      clear hK hg
      go_simp
      simpa [updT, e28] using h
    · have e29 : t 29 = .pointer (some ⟨R, 0, none⟩) := hg 29 ⟨_, rfl, ⟨29, .data⟩, by simp, rfl, rfl⟩
      have h := hK (.pointer (some ⟨R, 4, none⟩)) X rfl (Below.refl _ _)
      refine wpOp_of rfl rfl ?_
      clear hK hg
      go_simp
      simpa [updT, e29] using h
    · have e30 : t 30 = .pointer (some ⟨R, 4, none⟩) := hg 30 ⟨_, rfl, ⟨30, .data⟩, by simp, rfl, rfl⟩
      refine wpOp_of rfl rfl ?_
      have HK := hid hK
      clear hK hg
      go_simp
      go_at_call 42
      refine (logQuoted_any ⟨R, 4, none⟩ X).mono ?_
      rintro r Y ⟨⟨g, rfl, hg0, hc0⟩, hbY⟩
      have h := HK.out _ Y ⟨g, rfl, hg0, hc0⟩ hbY
      simpa [updT, e30] using h
    · obtain ⟨g0, e3, l0, c0⟩ := hg 3 ⟨_, rfl, ⟨3, .data⟩, by simp, rfl, rfl⟩
      obtain ⟨g1, e7, l1, c1⟩ := hg 7 ⟨_, rfl, ⟨7, .data⟩, by simp, rfl, rfl⟩
      obtain ⟨g2, e11, l2, c2⟩ := hg 11 ⟨_, rfl, ⟨11, .data⟩, by simp, rfl, rfl⟩
      obtain ⟨g3, e15, l3, c3⟩ := hg 15 ⟨_, rfl, ⟨15, .data⟩, by simp, rfl, rfl⟩
      obtain ⟨g4, e19, l4, c4⟩ := hg 19 ⟨_, rfl, ⟨19, .data⟩, by simp, rfl, rfl⟩
      obtain ⟨g5, e23, l5, c5⟩ := hg 23 ⟨_, rfl, ⟨23, .data⟩, by simp, rfl, rfl⟩
      obtain ⟨g6, e27, l6, c6⟩ := hg 27 ⟨_, rfl, ⟨27, .data⟩, by simp, rfl, rfl⟩
      obtain ⟨g7, e31, l7, c7⟩ := hg 31 ⟨_, rfl, ⟨31, .data⟩, by simp, rfl, rfl⟩
      refine wpOp_of rfl rfl ?_
      have HK := hid hK
      have L0 := hid l0
      have C0 := hid c0
      have L1 := hid l1
      have C1 := hid c1
      have L2 := hid l2
      have C2 := hid c2
      have L3 := hid l3
      have C3 := hid c3
      have L4 := hid l4
      have C4 := hid c4
      have L5 := hid l5
      have C5 := hid c5
      have L6 := hid l6
      have C6 := hid c6
      have L7 := hid l7
      have C7 := hid c7
      clear hK hg l0 c0 l1 c1 l2 c2 l3 c3 l4 c4 l5 c5 l6 c6 l7 c7
      go_simp
      have h := HK.out (.slice (some ⟨X.heap.size, 0, none⟩) 8 8) (X.alloc (.cells #[.func (.func 50) #[] #[.pointer (some ⟨g0, 0, none⟩)], .func (.func 51) #[] #[.pointer (some ⟨g0, 0, none⟩)], .func (.func 52) #[] #[.pointer (some ⟨g1, 0, none⟩)], .func (.func 54) #[] #[.pointer (some ⟨g1, 0, none⟩)], .func (.func 52) #[] #[.pointer (some ⟨g2, 0, none⟩)], .func (.func 54) #[] #[.pointer (some ⟨g2, 0, none⟩)], .func (.func 50) #[] #[.pointer (some ⟨g3, 0, none⟩)], .func (.func 51) #[] #[.pointer (some ⟨g3, 0, none⟩)], .func (.func 50) #[] #[.pointer (some ⟨g4, 0, none⟩)], .func (.func 51) #[] #[.pointer (some ⟨g4, 0, none⟩)], .func (.func 52) #[] #[.pointer (some ⟨g5, 0, none⟩)], .func (.func 54) #[] #[.pointer (some ⟨g5, 0, none⟩)], .func (.func 56) #[] #[.pointer (some ⟨g6, 0, none⟩)], .func (.func 57) #[] #[.pointer (some ⟨g6, 0, none⟩)], .func (.func 58) #[] #[.pointer (some ⟨g7, 0, none⟩)], .func (.func 60) #[] #[.pointer (some ⟨g7, 0, none⟩)]] 69)) ⟨X.heap.size, rfl, FldsAt.new X C R g0 g1 g2 g3 g4 g5 g6 g7 L0.out C0.out L1.out C1.out L2.out C2.out L3.out C3.out L4.out C4.out L5.out C5.out L6.out C6.out L7.out C7.out⟩ (below_alloc _ _)
      simpa [updT, e3, e7, e11, e15, e19, e23, e27, e31] using h
  · intro t X K hb hg hK
    obtain ⟨g, e32, h1⟩ := hg 32 (by omega)
    refine wpOp_of rfl rfl ?_
    have HK := hid hK
    have H1 := hid h1
    clear hK hg h1
    go_simp
    have h := HK.out _ X ⟨t, .slice (some ⟨g, 0, none⟩) 8 8, rfl, g, rfl, H1.out, hb⟩
    simpa [e32] using h
  · rintro a X ⟨t, v3, rfl, hp⟩
    exact hQ t v3 X hp
set_option maxRecDepth 100000 in
set_option maxHeartbeats 1000000 in
theorem logFields_any (C R : Nat) (w : World) : Calls Tryz.prog 32 #[.pointer (some ⟨C, 0, none⟩), .pointer (some ⟨R, 0, none⟩)] w fun e w' => ∃ g, e = .returned (.slice (some ⟨g, 0, none⟩) 8 8) ∧ FldsAt w' C R g ∧ Below w.heap.size w w' := by
  go_enter Tryz.func32, Tryz.ntmps32
  go_wp2
  refine fldReg1 _ _ _ _ _ _ _ _ _ _ _ _ _ _ _ _ _ _ _ _ _ _ _ _ _ _ _ _ _ _ _ _ _ _ _ _ C R w _ ?_
  rintro t v3 X ⟨g, rfl, hF, hb⟩
  have HF := hid hF
  have HB := hid hb
  clear hF hb
  go_wp2
  go_ret
  exact ⟨g, rfl, HF.out, HB.out⟩
end Go.Proofs.YtcmimbohmninkaaGreatDoor
