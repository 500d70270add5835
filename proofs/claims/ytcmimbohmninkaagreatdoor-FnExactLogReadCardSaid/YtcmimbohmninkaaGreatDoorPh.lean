import Derived.Test.YtcmimbohmninkaaGreatDoorPg
import Derived.Deep.MidRow
namespace Go.Proofs.YtcmimbohmninkaaGreatDoor
open Go.RowKit
theorem sz40 : (Tryz.prog.info? 40).map (·.size) = some 6 := by kernel_rfl
theorem sz27 : (Tryz.prog.info? 27).map (·.size) = some 4 := by kernel_rfl
theorem there_new (w : World) (c : Array Value) (t : TypeId) : (w.alloc (.cells c t)).there w.heap.size 0 c.size := fun j hj => ⟨by rw [Nat.zero_add, World.cell?_alloc_new]; simp [hj], by simp⟩
theorem there_below {w w' : World} {b o n : Nat} (h : w.there b o n) (hb : Below w.heap.size w w') (hB : b < w.heap.size) : w'.there b o n := fun j hj =>
  ⟨by rw [hb.cell (p := ⟨b, o + j, none⟩) hB]; exact (h j hj).1, (hb.frozen (p := ⟨b, o + j, none⟩) hB).trans (h j hj).2⟩
theorem range_below {w w' : World} {b o : Nat} {cs : List Value} (h : w.rangeAt b o cs) (hb : Below w.heap.size w w') (hB : b < w.heap.size) : w'.rangeAt b o cs := fun j v hv => by
  rw [hb.cell (p := ⟨b, o + j, none⟩) hB]
  exact h j v hv
theorem wr_new (w : World) (x : Wr) : WrCells (w.alloc (.cells #[.int .i64 x.op, .string x.kind, .string x.name, .int .i64 x.seen, .string x.text, .string x.hold] 40)) w.heap.size 0 x := ⟨by simp, by simp, by simp, by simp, by simp, by simp⟩
theorem WrCells.fr {w w' : World} {b o lo hi : Nat} {x : Wr} (h : WrCells w b o x) (hb : Fr lo hi w w') (hB : b < w.heap.size) (ho : b < lo ∨ hi ≤ b) : WrCells w' b o x :=
  ⟨(hb.cell (p := ⟨b, o, none⟩) hB ho).trans h.c0, (hb.cell (p := ⟨b, o + 1, none⟩) hB ho).trans h.c1, (hb.cell (p := ⟨b, o + 2, none⟩) hB ho).trans h.c2, (hb.cell (p := ⟨b, o + 3, none⟩) hB ho).trans h.c3, (hb.cell (p := ⟨b, o + 4, none⟩) hB ho).trans h.c4, (hb.cell (p := ⟨b, o + 5, none⟩) hB ho).trans h.c5⟩
def rdReg3G (g : Nat) (cap : Nat) (w2 : ByteArray) (w3 : ByteArray) (w4 : ByteArray) (w5 : ByteArray) (w6 : ByteArray) (te : ByteArray) (W : World) (i : Nat) (v : Value) (X : World) : Prop :=
  match i with
  | 0 => v = .slice (some ⟨g, 0, none⟩) 7 cap
  | 1 => v = .pointer (some ⟨g, 2, none⟩)
  | 2 => v = .string w2
  | 3 => ∃ r, v = .int .i64 r ∧ NumOf w2 r
  | 4 => v = .slice (some ⟨g, 0, none⟩) 7 cap
  | 5 => v = .pointer (some ⟨g, 3, none⟩)
  | 6 => v = .string w3
  | 7 => v = .slice (some ⟨g, 0, none⟩) 7 cap
  | 8 => v = .pointer (some ⟨g, 4, none⟩)
  | 9 => v = .string w4
  | 10 => v = .slice (some ⟨g, 0, none⟩) 7 cap
  | 11 => v = .pointer (some ⟨g, 5, none⟩)
  | 12 => v = .string w5
  | 13 => ∃ r, v = .int .i64 r ∧ NumOf w5 r
  | 14 => v = .slice (some ⟨g, 0, none⟩) 7 cap
  | 15 => v = .pointer (some ⟨g, 6, none⟩)
  | 16 => v = .string w6
  | 17 => v = .string te
  | 18 => ∃ r q, v = .agg #[.int .i64 r, .string w3, .string w4, .int .i64 q, .string te, .string w6] ∧ NumOf w2 r ∧ NumOf w5 q
  | 19 => ∃ B, v = .pointer (some ⟨B, 0, none⟩) ∧ W.heap.size ≤ B ∧ B < X.heap.size ∧ X.there B 0 6
  | _ => True
set_option maxRecDepth 100000 in
set_option maxHeartbeats 4000000 in
theorem rdReg3 (p0 p1 p2 p3 p5 p7 p9 p10 p11 p12 p13 p14 p15 p16 p17 p18 p19 p39 p40 p41 p42 p43 p44 p45 p46 p47 p48 p49 p50 p51 p52 p53 p54 p55 p56 p57 p58 p59 p60 p61 p62 p63 : Value) (v0 v1 v2 v3 v4 v5 v6 v7 v8 v9 v10 v11 v12 v13 v14 v15 v16 v17 v18 v19 : Value) (g : Nat) (cap : Nat) (w2 : ByteArray) (w3 : ByteArray) (w4 : ByteArray) (w5 : ByteArray) (w6 : ByteArray) (te : ByteArray) (W : World) (hg0 : g < W.heap.size) (z2 : (w2.size : Int) ≤ 1048576) (z5 : (w5.size : Int) ≤ 1048576) (c2 : W.cell? ⟨g, 2, none⟩ = some (.string w2)) (c3 : W.cell? ⟨g, 3, none⟩ = some (.string w3)) (c4 : W.cell? ⟨g, 4, none⟩ = some (.string w4)) (c5 : W.cell? ⟨g, 5, none⟩ = some (.string w5)) (c6 : W.cell? ⟨g, 6, none⟩ = some (.string w6)) (Q : Exit → Act → World → Prop) (hQ : ∀ (t : Nat → Value) (_v3' : Value) X, (∃ B r q, t 19 = .pointer (some ⟨B, 0, none⟩) ∧ NumOf w2 r ∧ NumOf w5 q ∧ W.heap.size ≤ B ∧ B < X.heap.size ∧ X.rangeAt B 0 [.int .i64 r, .string w3, .string w4, .int .i64 q, .string te, .string w6] ∧ X.there B 0 6 ∧ Below W.heap.size W X) → Q .normal ⟨#[p0, p1, p2, p3, (.slice (some ⟨g, 0, none⟩) 7 cap), p5, (.string te), p7, t 19, p9, p10, p11, p12, p13, p14, p15, p16, p17, p18, p19, t 0, t 1, t 2, t 3, t 4, t 5, t 6, t 7, t 8, t 9, t 10, t 11, t 12, t 13, t 14, t 15, t 16, t 17, t 18, p39, p40, p41, p42, p43, p44, p45, p46, p47, p48, p49, p50, p51, p52, p53, p54, p55, p56, p57, p58, p59, p60, p61, p62, p63], []⟩ X) :
    Code.wp Tryz.prog (Code.region 3 #[{ dst := some 20, op := Op.move (Operand.tmp 4), type := 33, pos := "l20_call.go:35", after := #[], guard := none }, { dst := some 21, op := Op.indexAddr 33 (Operand.tmp 20) (Operand.const (Value.int IntKind.i64 2)), type := 0, pos := "l20_call.go:35", after := #[{ on := 0, ground := Ground.data }], guard := none }, { dst := some 22, op := Op.load 9 (Operand.tmp 21), type := 9, pos := "l20_call.go:35", after := #[{ on := 1, ground := Ground.data }], guard := none }, { dst := some 23, op := Op.call { callee := Callee.value (Operand.func 11), args := #[Operand.tmp 22], argTypes := #[9] }, type := 3, pos := "l20_call.go:35", after := #[{ on := 2, ground := Ground.data }], guard := none }, { dst := some 24, op := Op.move (Operand.tmp 4), type := 33, pos := "l20_call.go:35", after := #[], guard := none }, { dst := some 25, op := Op.indexAddr 33 (Operand.tmp 24) (Operand.const (Value.int IntKind.i64 3)), type := 0, pos := "l20_call.go:35", after := #[{ on := 4, ground := Ground.data }], guard := none }, { dst := some 26, op := Op.load 9 (Operand.tmp 25), type := 9, pos := "l20_call.go:35", after := #[{ on := 5, ground := Ground.data }], guard := none }, { dst := some 27, op := Op.move (Operand.tmp 4), type := 33, pos := "l20_call.go:35", after := #[], guard := none }, { dst := some 28, op := Op.indexAddr 33 (Operand.tmp 27) (Operand.const (Value.int IntKind.i64 4)), type := 0, pos := "l20_call.go:35", after := #[{ on := 7, ground := Ground.data }], guard := none }, { dst := some 29, op := Op.load 9 (Operand.tmp 28), type := 9, pos := "l20_call.go:35", after := #[{ on := 8, ground := Ground.data }], guard := none }, { dst := some 30, op := Op.move (Operand.tmp 4), type := 33, pos := "l20_call.go:35", after := #[], guard := none }, { dst := some 31, op := Op.indexAddr 33 (Operand.tmp 30) (Operand.const (Value.int IntKind.i64 5)), type := 0, pos := "l20_call.go:35", after := #[{ on := 10, ground := Ground.data }], guard := none }, { dst := some 32, op := Op.load 9 (Operand.tmp 31), type := 9, pos := "l20_call.go:35", after := #[{ on := 11, ground := Ground.data }], guard := none }, { dst := some 33, op := Op.call { callee := Callee.value (Operand.func 11), args := #[Operand.tmp 32], argTypes := #[9] }, type := 3, pos := "l20_call.go:35", after := #[{ on := 12, ground := Ground.data }, { on := 3, ground := Ground.chain }], guard := none }, { dst := some 34, op := Op.move (Operand.tmp 4), type := 33, pos := "l20_call.go:35", after := #[], guard := none }, { dst := some 35, op := Op.indexAddr 33 (Operand.tmp 34) (Operand.const (Value.int IntKind.i64 6)), type := 0, pos := "l20_call.go:35", after := #[{ on := 14, ground := Ground.data }], guard := none }, { dst := some 36, op := Op.load 9 (Operand.tmp 35), type := 9, pos := "l20_call.go:35", after := #[{ on := 15, ground := Ground.data }], guard := none }, { dst := some 37, op := Op.move (Operand.tmp 6), type := 9, pos := "l20_call.go:35", after := #[], guard := none }, { dst := some 38, op := Op.build 40 #[(0, Operand.tmp 23), (1, Operand.tmp 26), (2, Operand.tmp 29), (3, Operand.tmp 33), (5, Operand.tmp 36), (4, Operand.tmp 37)], type := 40, pos := "l20_call.go:35", after := #[{ on := 3, ground := Ground.data }, { on := 6, ground := Ground.data }, { on := 9, ground := Ground.data }, { on := 13, ground := Ground.data }, { on := 16, ground := Ground.data }, { on := 17, ground := Ground.data }], guard := none }, { dst := some 8, op := Op.alloc 40, type := 0, pos := "l20_call.go:35", after := #[], guard := none }, { dst := none, op := Op.store 40 (Operand.tmp 8) (Operand.tmp 38), type := 0, pos := "l20_call.go:35", after := #[{ on := 19, ground := Ground.data }, { on := 18, ground := Ground.data }, { on := 13, ground := Ground.chain }, { on := 0, ground := Ground.phase }, { on := 1, ground := Ground.phase }, { on := 2, ground := Ground.phase }, { on := 3, ground := Ground.phase }, { on := 4, ground := Ground.phase }, { on := 5, ground := Ground.phase }, { on := 6, ground := Ground.phase }, { on := 7, ground := Ground.phase }, { on := 8, ground := Ground.phase }, { on := 9, ground := Ground.phase }, { on := 10, ground := Ground.phase }, { on := 11, ground := Ground.phase }, { on := 12, ground := Ground.phase }, { on := 13, ground := Ground.phase }, { on := 14, ground := Ground.phase }, { on := 15, ground := Ground.phase }, { on := 16, ground := Ground.phase }, { on := 17, ground := Ground.phase }, { on := 18, ground := Ground.phase }, { on := 19, ground := Ground.phase }], guard := none }] true) Q ⟨#[p0, p1, p2, p3, (.slice (some ⟨g, 0, none⟩) 7 cap), p5, (.string te), p7, v19, p9, p10, p11, p12, p13, p14, p15, p16, p17, p18, p19, v0, v1, v2, v3, v4, v5, v6, v7, v8, v9, v10, v11, v12, v13, v14, v15, v16, v17, v18, p39, p40, p41, p42, p43, p44, p45, p46, p47, p48, p49, p50, p51, p52, p53, p54, p55, p56, p57, p58, p59, p60, p61, p62, p63], []⟩ W := by
  refine regionJ (by kernel_rfl) 20 (fun t : Nat → Value => #[p0, p1, p2, p3, (.slice (some ⟨g, 0, none⟩) 7 cap), p5, (.string te), p7, t 19, p9, p10, p11, p12, p13, p14, p15, p16, p17, p18, p19, t 0, t 1, t 2, t 3, t 4, t 5, t 6, t 7, t 8, t 9, t 10, t 11, t 12, t 13, t 14, t 15, t 16, t 17, t 18, p39, p40, p41, p42, p43, p44, p45, p46, p47, p48, p49, p50, p51, p52, p53, p54, p55, p56, p57, p58, p59, p60, p61, p62, p63]) (fun i => match i with | 0 => v0 | 1 => v1 | 2 => v2 | 3 => v3 | 4 => v4 | 5 => v5 | 6 => v6 | 7 => v7 | 8 => v8 | 9 => v9 | 10 => v10 | 11 => v11 | 12 => v12 | 13 => v13 | 14 => v14 | 15 => v15 | 16 => v16 | 17 => v17 | 18 => v18 | _ => v19) (rdReg3G g cap w2 w3 w4 w5 w6 te W) (fun a X => ∃ (t : Nat → Value) (v3' : Value), a = ⟨#[p0, p1, p2, p3, (.slice (some ⟨g, 0, none⟩) 7 cap), p5, (.string te), p7, t 19, p9, p10, p11, p12, p13, p14, p15, p16, p17, p18, p19, t 0, t 1, t 2, t 3, t 4, t 5, t 6, t 7, t 8, t 9, t 10, t 11, t 12, t 13, t 14, t 15, t 16, t 17, t 18, p39, p40, p41, p42, p43, p44, p45, p46, p47, p48, p49, p50, p51, p52, p53, p54, p55, p56, p57, p58, p59, p60, p61, p62, p63], []⟩ ∧ (∃ B r q, t 19 = .pointer (some ⟨B, 0, none⟩) ∧ NumOf w2 r ∧ NumOf w5 q ∧ W.heap.size ≤ B ∧ B < X.heap.size ∧ X.rangeAt B 0 [.int .i64 r, .string w3, .string w4, .int .i64 q, .string te, .string w6] ∧ X.there B 0 6 ∧ Below W.heap.size W X)) (by kernel_rfl) (by kernel_rfl) (by kernel_rfl) ?_ rfl ?_ ?_ ?_
  · intro i v X Y hi h hb
    rcases (show i = 0 ∨ i = 1 ∨ i = 2 ∨ i = 3 ∨ i = 4 ∨ i = 5 ∨ i = 6 ∨ i = 7 ∨ i = 8 ∨ i = 9 ∨ i = 10 ∨ i = 11 ∨ i = 12 ∨ i = 13 ∨ i = 14 ∨ i = 15 ∨ i = 16 ∨ i = 17 ∨ i = 18 ∨ i = 19 by omega) with rfl | rfl | rfl | rfl | rfl | rfl | rfl | rfl | rfl | rfl | rfl | rfl | rfl | rfl | rfl | rfl | rfl | rfl | rfl | rfl
    · exact h
    · exact h
    · exact h
    · exact h
    · exact h
    · exact h
    · exact h
    · exact h
    · exact h
    · exact h
    · exact h
    · exact h
    · exact h
    · exact h
    · exact h
    · exact h
    · exact h
    · exact h
    · exact h
    · obtain ⟨B, e, h1, h2, h3⟩ := h
      exact ⟨B, e, h1, Nat.lt_of_lt_of_le h2 hb.size, there_below h3 hb h2⟩
  · intro i hi t X K hb hg hK
    rcases (show i = 0 ∨ i = 1 ∨ i = 2 ∨ i = 3 ∨ i = 4 ∨ i = 5 ∨ i = 6 ∨ i = 7 ∨ i = 8 ∨ i = 9 ∨ i = 10 ∨ i = 11 ∨ i = 12 ∨ i = 13 ∨ i = 14 ∨ i = 15 ∨ i = 16 ∨ i = 17 ∨ i = 18 ∨ i = 19 by omega) with rfl | rfl | rfl | rfl | rfl | rfl | rfl | rfl | rfl | rfl | rfl | rfl | rfl | rfl | rfl | rfl | rfl | rfl | rfl | rfl
    · have h := hK (.slice (some ⟨g, 0, none⟩) 7 cap) X rfl (Below.refl _ _)
      refine wpOp_of rfl rfl ?_
      clear hK hg
      go_simp
      simpa [updT] using h
    · have e0 : t 0 = .slice (some ⟨g, 0, none⟩) 7 cap := hg 0 ⟨_, rfl, ⟨0, .data⟩, by simp, rfl, rfl⟩
      have h := hK (.pointer (some ⟨g, 2, none⟩)) X rfl (Below.refl _ _)
      refine wpOp_of rfl rfl ?_
      clear hK hg
      go_simp
      simpa [updT, e0] using h
    · have e1 : t 1 = .pointer (some ⟨g, 2, none⟩) := hg 1 ⟨_, rfl, ⟨1, .data⟩, by simp, rfl, rfl⟩
      have d := (hb.cell (p := ⟨g, 2, none⟩) hg0).trans c2
      have h := hK (.string w2) X rfl (Below.refl _ _)
      refine wpOp_of rfl rfl ?_
      clear hK hg
      go_simp
      simpa [updT, e1] using h
    · have e2 : t 2 = .string w2 := hg 2 ⟨_, rfl, ⟨2, .data⟩, by simp, rfl, rfl⟩
      refine wpOp_of rfl rfl ?_
      have HK := hid hK
      clear hK hg
      go_simp
      go_at_call 11
      refine (number_any w2 (by omega) X).mono ?_
      rintro e Y ⟨r, rfl, hr1, hr2, hbY⟩
      have h := HK.out (.int .i64 r) Y ⟨r, rfl, hr1, hr2⟩ hbY
      simpa [updT, e2] using h
    · have h := hK (.slice (some ⟨g, 0, none⟩) 7 cap) X rfl (Below.refl _ _)
      refine wpOp_of rfl rfl ?_
      clear hK hg
      go_simp
      simpa [updT] using h
    · have e4 : t 4 = .slice (some ⟨g, 0, none⟩) 7 cap := hg 4 ⟨_, rfl, ⟨4, .data⟩, by simp, rfl, rfl⟩
      have h := hK (.pointer (some ⟨g, 3, none⟩)) X rfl (Below.refl _ _)
      refine wpOp_of rfl rfl ?_
      clear hK hg
      go_simp
      simpa [updT, e4] using h
    · have e5 : t 5 = .pointer (some ⟨g, 3, none⟩) := hg 5 ⟨_, rfl, ⟨5, .data⟩, by simp, rfl, rfl⟩
      have d := (hb.cell (p := ⟨g, 3, none⟩) hg0).trans c3
      have h := hK (.string w3) X rfl (Below.refl _ _)
      refine wpOp_of rfl rfl ?_
      clear hK hg
      go_simp
      simpa [updT, e5] using h
    · have h := hK (.slice (some ⟨g, 0, none⟩) 7 cap) X rfl (Below.refl _ _)
      refine wpOp_of rfl rfl ?_
      clear hK hg
      go_simp
      simpa [updT] using h
    · have e7 : t 7 = .slice (some ⟨g, 0, none⟩) 7 cap := hg 7 ⟨_, rfl, ⟨7, .data⟩, by simp, rfl, rfl⟩
      have h := hK (.pointer (some ⟨g, 4, none⟩)) X rfl (Below.refl _ _)
      refine wpOp_of rfl rfl ?_
      clear hK hg
      go_simp
      simpa [updT, e7] using h
    · have e8 : t 8 = .pointer (some ⟨g, 4, none⟩) := hg 8 ⟨_, rfl, ⟨8, .data⟩, by simp, rfl, rfl⟩
      have d := (hb.cell (p := ⟨g, 4, none⟩) hg0).trans c4
      have h := hK (.string w4) X rfl (Below.refl _ _)
      refine wpOp_of rfl rfl ?_
      clear hK hg
      go_simp
      simpa [updT, e8] using h
    · have h := hK (.slice (some ⟨g, 0, none⟩) 7 cap) X rfl (Below.refl _ _)
      refine wpOp_of rfl rfl ?_
      clear hK hg
      go_simp
      simpa [updT] using h
    · have e10 : t 10 = .slice (some ⟨g, 0, none⟩) 7 cap := hg 10 ⟨_, rfl, ⟨10, .data⟩, by simp, rfl, rfl⟩
      have h := hK (.pointer (some ⟨g, 5, none⟩)) X rfl (Below.refl _ _)
      refine wpOp_of rfl rfl ?_
      clear hK hg
      go_simp
      simpa [updT, e10] using h
    · have e11 : t 11 = .pointer (some ⟨g, 5, none⟩) := hg 11 ⟨_, rfl, ⟨11, .data⟩, by simp, rfl, rfl⟩
      have d := (hb.cell (p := ⟨g, 5, none⟩) hg0).trans c5
      have h := hK (.string w5) X rfl (Below.refl _ _)
      refine wpOp_of rfl rfl ?_
      clear hK hg
      go_simp
      simpa [updT, e11] using h
    · have e12 : t 12 = .string w5 := hg 12 ⟨_, rfl, ⟨12, .data⟩, by simp, rfl, rfl⟩
      refine wpOp_of rfl rfl ?_
      have HK := hid hK
      clear hK hg
      go_simp
      go_at_call 11
      refine (number_any w5 (by omega) X).mono ?_
      rintro e Y ⟨r, rfl, hr1, hr2, hbY⟩
      have h := HK.out (.int .i64 r) Y ⟨r, rfl, hr1, hr2⟩ hbY
      simpa [updT, e12] using h
    · have h := hK (.slice (some ⟨g, 0, none⟩) 7 cap) X rfl (Below.refl _ _)
      refine wpOp_of rfl rfl ?_
      clear hK hg
      go_simp
      simpa [updT] using h
    · have e14 : t 14 = .slice (some ⟨g, 0, none⟩) 7 cap := hg 14 ⟨_, rfl, ⟨14, .data⟩, by simp, rfl, rfl⟩
      have h := hK (.pointer (some ⟨g, 6, none⟩)) X rfl (Below.refl _ _)
      refine wpOp_of rfl rfl ?_
      clear hK hg
      go_simp
      simpa [updT, e14] using h
    · have e15 : t 15 = .pointer (some ⟨g, 6, none⟩) := hg 15 ⟨_, rfl, ⟨15, .data⟩, by simp, rfl, rfl⟩
      have d := (hb.cell (p := ⟨g, 6, none⟩) hg0).trans c6
      have h := hK (.string w6) X rfl (Below.refl _ _)
      refine wpOp_of rfl rfl ?_
      clear hK hg
      go_simp
      simpa [updT, e15] using h
    · have h := hK (.string te) X rfl (Below.refl _ _)
      refine wpOp_of rfl rfl ?_
      clear hK hg
      go_simp
      simpa [updT] using h
    · have e6 : t 6 = .string w3 := hg 6 ⟨_, rfl, ⟨6, .data⟩, by simp, rfl, rfl⟩
      have e9 : t 9 = .string w4 := hg 9 ⟨_, rfl, ⟨9, .data⟩, by simp, rfl, rfl⟩
      have e16 : t 16 = .string w6 := hg 16 ⟨_, rfl, ⟨16, .data⟩, by simp, rfl, rfl⟩
      have e17 : t 17 = .string te := hg 17 ⟨_, rfl, ⟨17, .data⟩, by simp, rfl, rfl⟩
      obtain ⟨r, e3, hr⟩ := hg 3 ⟨_, rfl, ⟨3, .data⟩, by simp, rfl, rfl⟩
      obtain ⟨q, e13, hq⟩ := hg 13 ⟨_, rfl, ⟨13, .data⟩, by simp, rfl, rfl⟩
      have h := hK (.agg #[.int .i64 r, .string w3, .string w4, .int .i64 q, .string te, .string w6]) X ⟨r, q, rfl, hr, hq⟩ (Below.refl _ _)
      refine wpOp_of rfl rfl ?_
      clear hK hg
      go_simp
      simpa [updT, e6, e9, e16, e17, e3, e13] using h
    · have h := hK (.pointer (some ⟨X.heap.size, 0, none⟩)) (X.alloc (.cells #[.int .i64 0, .string ⟨#[]⟩, .string ⟨#[]⟩, .int .i64 0, .string ⟨#[]⟩, .string ⟨#[]⟩] 40)) ⟨X.heap.size, rfl, hb.size, by simp, there_new X #[.int .i64 0, .string ⟨#[]⟩, .string ⟨#[]⟩, .int .i64 0, .string ⟨#[]⟩, .string ⟨#[]⟩] 40⟩ (below_alloc _ _)
      refine wpOp_of rfl rfl ?_
      clear hK hg
      go_simp
      simpa [updT] using h
  · intro t X K hb hg hK
    obtain ⟨r, q, e18, hr, hq⟩ := hg 18 (by omega)
    obtain ⟨B, e19, hB1, hB2, hB3⟩ := hg 19 (by omega)
    refine wpOp_of rfl rfl ?_
    refine wp_store_mid 40 _ _ rfl B 0 #[.int .i64 r, .string w3, .string w4, .int .i64 q, .string te, .string w6] (by exact e19) (by exact e18) hB3 sz40 (by simp [Value.oneCell']) ?_
    have h := hK _ _ ⟨t, .tuple #[], rfl, B, r, q, e19, hr, hq, hB1, by rw [size_setCells]; exact hB2, World.rangeAt_setCells_same X B 0 [.int .i64 r, .string w3, .string w4, .int .i64 q, .string te, .string w6] hB3, World.there_setCells hB3 _ _ _, (hb.trans (((fr_setCells B [.int .i64 r, .string w3, .string w4, .int .i64 q, .string te, .string w6] 0 X).below hB1 (by omega))))⟩
    exact h
  · rintro a X ⟨t, v3', rfl, hp⟩
    exact hQ t v3' X hp
def rdReg6G (g : Nat) (cap : Nat) (w0 : ByteArray) (w1 : ByteArray) (_B : Nat) (x : Wr) (W : World) (i : Nat) (v : Value) (X : World) : Prop :=
  match i with
  | 0 => v = .slice (some ⟨g, 0, none⟩) 7 cap
  | 1 => v = .pointer (some ⟨g, 0, none⟩)
  | 2 => v = .string w0
  | 3 => v = .slice (some ⟨g, 0, none⟩) 7 cap
  | 4 => v = .pointer (some ⟨g, 1, none⟩)
  | 5 => v = .string w1
  | 6 => ∃ r, v = .int .i64 r ∧ NumOf w1 r
  | 7 => v = .agg #[.int .i64 x.op, .string x.kind, .string x.name, .int .i64 x.seen, .string x.text, .string x.hold]
  | 8 => ∃ H, v = .slice (some ⟨H, 0, none⟩) 1 1 ∧ W.heap.size ≤ H ∧ H < X.heap.size ∧ WrCells X H 0 x
  | 9 => ∃ H, v = .agg #[.slice none 0 0, .slice (some ⟨H, 0, none⟩) 1 1] ∧ W.heap.size ≤ H ∧ H < X.heap.size ∧ WrCells X H 0 x
  | 10 => ∃ r H, v = .agg #[.string w0, .int .i64 r, .slice none 0 0, .slice (some ⟨H, 0, none⟩) 1 1] ∧ NumOf w1 r ∧ W.heap.size ≤ H ∧ H < X.heap.size ∧ WrCells X H 0 x
  | 11 => ∃ C, v = .pointer (some ⟨C, 0, none⟩) ∧ W.heap.size ≤ C ∧ C < X.heap.size ∧ X.there C 0 4 ∧ X.cell? ⟨C, 4, none⟩ = none
  | _ => True
set_option maxRecDepth 100000 in
set_option maxHeartbeats 4000000 in
theorem rdReg6 (p0 p1 p2 p3 p5 p6 p7 p10 p11 p12 p13 p14 p15 p16 p17 p18 p19 p20 p21 p22 p23 p24 p25 p26 p27 p28 p29 p30 p31 p32 p33 p34 p35 p36 p37 p38 p39 p40 p41 p42 p54 p55 p56 p57 p58 p59 p60 p61 p62 p63 : Value) (v0 v1 v2 v3 v4 v5 v6 v7 v8 v9 v10 v11 : Value) (g : Nat) (cap : Nat) (w0 : ByteArray) (w1 : ByteArray) (B : Nat) (x : Wr) (W : World) (hg0 : g < W.heap.size) (hB0 : B < W.heap.size) (z1 : (w1.size : Int) ≤ 1048576) (c0 : W.cell? ⟨g, 0, none⟩ = some (.string w0)) (c1 : W.cell? ⟨g, 1, none⟩ = some (.string w1)) (hR : W.rangeAt B 0 [.int .i64 x.op, .string x.kind, .string x.name, .int .i64 x.seen, .string x.text, .string x.hold]) (Q : Exit → Act → World → Prop) (hQ : ∀ (t : Nat → Value) (_v3' : Value) X, (∃ C r H, t 11 = .pointer (some ⟨C, 0, none⟩) ∧ NumOf w1 r ∧ W.heap.size ≤ H ∧ H < X.heap.size ∧ WrCells X H 0 x ∧ W.heap.size ≤ C ∧ C < X.heap.size ∧ X.rangeAt C 0 [.string w0, .int .i64 r, .slice none 0 0, .slice (some ⟨H, 0, none⟩) 1 1] ∧ Below W.heap.size W X) → Q .normal ⟨#[p0, p1, p2, p3, (.slice (some ⟨g, 0, none⟩) 7 cap), p5, p6, p7, (.pointer (some ⟨B, 0, none⟩)), t 11, p10, p11, p12, p13, p14, p15, p16, p17, p18, p19, p20, p21, p22, p23, p24, p25, p26, p27, p28, p29, p30, p31, p32, p33, p34, p35, p36, p37, p38, p39, p40, p41, p42, t 0, t 1, t 2, t 3, t 4, t 5, t 6, t 7, t 8, t 9, t 10, p54, p55, p56, p57, p58, p59, p60, p61, p62, p63], []⟩ X) :
    Code.wp Tryz.prog (Code.region 6 #[{ dst := some 43, op := Op.move (Operand.tmp 4), type := 33, pos := "l20_call.go:39", after := #[], guard := none }, { dst := some 44, op := Op.indexAddr 33 (Operand.tmp 43) (Operand.const (Value.int IntKind.i64 0)), type := 0, pos := "l20_call.go:39", after := #[{ on := 0, ground := Ground.data }], guard := none }, { dst := some 45, op := Op.load 9 (Operand.tmp 44), type := 9, pos := "l20_call.go:39", after := #[{ on := 1, ground := Ground.data }], guard := none }, { dst := some 46, op := Op.move (Operand.tmp 4), type := 33, pos := "l20_call.go:39", after := #[], guard := none }, { dst := some 47, op := Op.indexAddr 33 (Operand.tmp 46) (Operand.const (Value.int IntKind.i64 1)), type := 0, pos := "l20_call.go:39", after := #[{ on := 3, ground := Ground.data }], guard := none }, { dst := some 48, op := Op.load 9 (Operand.tmp 47), type := 9, pos := "l20_call.go:39", after := #[{ on := 4, ground := Ground.data }], guard := none }, { dst := some 49, op := Op.call { callee := Callee.value (Operand.func 11), args := #[Operand.tmp 48], argTypes := #[9] }, type := 3, pos := "l20_call.go:39", after := #[{ on := 5, ground := Ground.data }], guard := none }, { dst := some 50, op := Op.load 40 (Operand.tmp 8), type := 40, pos := "l20_call.go:39", after := #[], guard := none }, { dst := some 51, op := Op.buildSlice 23 1 #[(0, Operand.tmp 50)], type := 23, pos := "l20_call.go:39", after := #[{ on := 7, ground := Ground.data }], guard := none }, { dst := some 52, op := Op.build 25 #[(1, Operand.tmp 51)], type := 25, pos := "l20_call.go:39", after := #[{ on := 8, ground := Ground.data }], guard := none }, { dst := some 53, op := Op.build 27 #[(0, Operand.tmp 45), (1, Operand.tmp 49), (2, Operand.tmp 52)], type := 27, pos := "l20_call.go:39", after := #[{ on := 2, ground := Ground.data }, { on := 6, ground := Ground.data }, { on := 9, ground := Ground.data }], guard := none }, { dst := some 9, op := Op.alloc 27, type := 0, pos := "l20_call.go:39", after := #[], guard := none }, { dst := none, op := Op.store 27 (Operand.tmp 9) (Operand.tmp 53), type := 0, pos := "l20_call.go:39", after := #[{ on := 11, ground := Ground.data }, { on := 10, ground := Ground.data }, { on := 6, ground := Ground.chain }, { on := 0, ground := Ground.phase }, { on := 1, ground := Ground.phase }, { on := 2, ground := Ground.phase }, { on := 3, ground := Ground.phase }, { on := 4, ground := Ground.phase }, { on := 5, ground := Ground.phase }, { on := 6, ground := Ground.phase }, { on := 7, ground := Ground.phase }, { on := 8, ground := Ground.phase }, { on := 9, ground := Ground.phase }, { on := 10, ground := Ground.phase }, { on := 11, ground := Ground.phase }], guard := none }] true) Q ⟨#[p0, p1, p2, p3, (.slice (some ⟨g, 0, none⟩) 7 cap), p5, p6, p7, (.pointer (some ⟨B, 0, none⟩)), v11, p10, p11, p12, p13, p14, p15, p16, p17, p18, p19, p20, p21, p22, p23, p24, p25, p26, p27, p28, p29, p30, p31, p32, p33, p34, p35, p36, p37, p38, p39, p40, p41, p42, v0, v1, v2, v3, v4, v5, v6, v7, v8, v9, v10, p54, p55, p56, p57, p58, p59, p60, p61, p62, p63], []⟩ W := by
  refine regionJ (by kernel_rfl) 12 (fun t : Nat → Value => #[p0, p1, p2, p3, (.slice (some ⟨g, 0, none⟩) 7 cap), p5, p6, p7, (.pointer (some ⟨B, 0, none⟩)), t 11, p10, p11, p12, p13, p14, p15, p16, p17, p18, p19, p20, p21, p22, p23, p24, p25, p26, p27, p28, p29, p30, p31, p32, p33, p34, p35, p36, p37, p38, p39, p40, p41, p42, t 0, t 1, t 2, t 3, t 4, t 5, t 6, t 7, t 8, t 9, t 10, p54, p55, p56, p57, p58, p59, p60, p61, p62, p63]) (fun i => match i with | 0 => v0 | 1 => v1 | 2 => v2 | 3 => v3 | 4 => v4 | 5 => v5 | 6 => v6 | 7 => v7 | 8 => v8 | 9 => v9 | 10 => v10 | _ => v11) (rdReg6G g cap w0 w1 B x W) (fun a X => ∃ (t : Nat → Value) (v3' : Value), a = ⟨#[p0, p1, p2, p3, (.slice (some ⟨g, 0, none⟩) 7 cap), p5, p6, p7, (.pointer (some ⟨B, 0, none⟩)), t 11, p10, p11, p12, p13, p14, p15, p16, p17, p18, p19, p20, p21, p22, p23, p24, p25, p26, p27, p28, p29, p30, p31, p32, p33, p34, p35, p36, p37, p38, p39, p40, p41, p42, t 0, t 1, t 2, t 3, t 4, t 5, t 6, t 7, t 8, t 9, t 10, p54, p55, p56, p57, p58, p59, p60, p61, p62, p63], []⟩ ∧ (∃ C r H, t 11 = .pointer (some ⟨C, 0, none⟩) ∧ NumOf w1 r ∧ W.heap.size ≤ H ∧ H < X.heap.size ∧ WrCells X H 0 x ∧ W.heap.size ≤ C ∧ C < X.heap.size ∧ X.rangeAt C 0 [.string w0, .int .i64 r, .slice none 0 0, .slice (some ⟨H, 0, none⟩) 1 1] ∧ Below W.heap.size W X)) (by kernel_rfl) (by kernel_rfl) (by kernel_rfl) ?_ rfl ?_ ?_ ?_
  · intro i v X Y hi h hb
    rcases (show i = 0 ∨ i = 1 ∨ i = 2 ∨ i = 3 ∨ i = 4 ∨ i = 5 ∨ i = 6 ∨ i = 7 ∨ i = 8 ∨ i = 9 ∨ i = 10 ∨ i = 11 by omega) with rfl | rfl | rfl | rfl | rfl | rfl | rfl | rfl | rfl | rfl | rfl | rfl
    · exact h
    · exact h
    · exact h
    · exact h
    · exact h
    · exact h
    · exact h
    · exact h
    · obtain ⟨H, e, h1, h2, h3⟩ := h
      exact ⟨H, e, h1, Nat.lt_of_lt_of_le h2 hb.size, h3.below hb h2⟩
    · obtain ⟨H, e, h1, h2, h3⟩ := h
      exact ⟨H, e, h1, Nat.lt_of_lt_of_le h2 hb.size, h3.below hb h2⟩
    · obtain ⟨r, H, e, h0, h1, h2, h3⟩ := h
      exact ⟨r, H, e, h0, h1, Nat.lt_of_lt_of_le h2 hb.size, h3.below hb h2⟩
    · obtain ⟨C, e, h1, h2, h3, h4⟩ := h
      exact ⟨C, e, h1, Nat.lt_of_lt_of_le h2 hb.size, there_below h3 hb h2, (hb.cell (p := ⟨C, 4, none⟩) h2).trans h4⟩
  · intro i hi t X K hb hg hK
    rcases (show i = 0 ∨ i = 1 ∨ i = 2 ∨ i = 3 ∨ i = 4 ∨ i = 5 ∨ i = 6 ∨ i = 7 ∨ i = 8 ∨ i = 9 ∨ i = 10 ∨ i = 11 by omega) with rfl | rfl | rfl | rfl | rfl | rfl | rfl | rfl | rfl | rfl | rfl | rfl
    · have h := hK (.slice (some ⟨g, 0, none⟩) 7 cap) X rfl (Below.refl _ _)
      refine wpOp_of rfl rfl ?_
      clear hK hg
      go_simp
      simpa [updT] using h
    · have e0 : t 0 = .slice (some ⟨g, 0, none⟩) 7 cap := hg 0 ⟨_, rfl, ⟨0, .data⟩, by simp, rfl, rfl⟩
      have h := hK (.pointer (some ⟨g, 0, none⟩)) X rfl (Below.refl _ _)
      refine wpOp_of rfl rfl ?_
      clear hK hg
      go_simp
      simpa [updT, e0] using h
    · have e1 : t 1 = .pointer (some ⟨g, 0, none⟩) := hg 1 ⟨_, rfl, ⟨1, .data⟩, by simp, rfl, rfl⟩
      have d := (hb.cell (p := ⟨g, 0, none⟩) hg0).trans c0
      have h := hK (.string w0) X rfl (Below.refl _ _)
      refine wpOp_of rfl rfl ?_
      clear hK hg
      go_simp
      simpa [updT, e1] using h
    · have h := hK (.slice (some ⟨g, 0, none⟩) 7 cap) X rfl (Below.refl _ _)
      refine wpOp_of rfl rfl ?_
      clear hK hg
      go_simp
      simpa [updT] using h
    · have e3 : t 3 = .slice (some ⟨g, 0, none⟩) 7 cap := hg 3 ⟨_, rfl, ⟨3, .data⟩, by simp, rfl, rfl⟩
      have h := hK (.pointer (some ⟨g, 1, none⟩)) X rfl (Below.refl _ _)
      refine wpOp_of rfl rfl ?_
      clear hK hg
      go_simp
      simpa [updT, e3] using h
    · have e4 : t 4 = .pointer (some ⟨g, 1, none⟩) := hg 4 ⟨_, rfl, ⟨4, .data⟩, by simp, rfl, rfl⟩
      have d := (hb.cell (p := ⟨g, 1, none⟩) hg0).trans c1
      have h := hK (.string w1) X rfl (Below.refl _ _)
      refine wpOp_of rfl rfl ?_
      clear hK hg
      go_simp
      simpa [updT, e4] using h
    · have e5 : t 5 = .string w1 := hg 5 ⟨_, rfl, ⟨5, .data⟩, by simp, rfl, rfl⟩
      refine wpOp_of rfl rfl ?_
      have HK := hid hK
      clear hK hg
      go_simp
      go_at_call 11
      refine (number_any w1 (by omega) X).mono ?_
      rintro e Y ⟨r, rfl, hr1, hr2, hbY⟩
      have h := HK.out (.int .i64 r) Y ⟨r, rfl, hr1, hr2⟩ hbY
      simpa [updT, e5] using h
    · have hR2 := range_below hR hb hB0
      have h := hK (.agg #[.int .i64 x.op, .string x.kind, .string x.name, .int .i64 x.seen, .string x.text, .string x.hold]) X rfl (Below.refl _ _)
      refine wpOp_of rfl rfl ?_
      refine wp_load_mid 40 _ rfl B 0 (by rfl) [.int .i64 x.op, .string x.kind, .string x.name, .int .i64 x.seen, .string x.text, .string x.hold] _ hR2 Tryz.underlying40 rfl sz40 ?_
      clear hK hg
      go_simp
      simpa [updT] using h
    · have e7 : t 7 = .agg #[.int .i64 x.op, .string x.kind, .string x.name, .int .i64 x.seen, .string x.text, .string x.hold] := hg 7 ⟨_, rfl, ⟨7, .data⟩, by simp, rfl, rfl⟩
      have h := hK (.slice (some ⟨X.heap.size, 0, none⟩) 1 1) (X.alloc (.cells #[.int .i64 x.op, .string x.kind, .string x.name, .int .i64 x.seen, .string x.text, .string x.hold] 40)) ⟨X.heap.size, rfl, hb.size, by simp, wr_new X x⟩ (below_alloc _ _)
      refine wpOp_of rfl rfl ?_
      clear hK hg
      go_simp
      simpa [updT, e7] using h
    · obtain ⟨H, e8, h1, h2, h3⟩ := hg 8 ⟨_, rfl, ⟨8, .data⟩, by simp, rfl, rfl⟩
      have h := hK (.agg #[.slice none 0 0, .slice (some ⟨H, 0, none⟩) 1 1]) X ⟨H, rfl, h1, h2, h3⟩ (Below.refl _ _)
      refine wpOp_of rfl rfl ?_
      clear hK hg
      go_simp
      simpa [updT, e8] using h
    · have e2 : t 2 = .string w0 := hg 2 ⟨_, rfl, ⟨2, .data⟩, by simp, rfl, rfl⟩
      obtain ⟨r, e6, hr⟩ := hg 6 ⟨_, rfl, ⟨6, .data⟩, by simp, rfl, rfl⟩
      obtain ⟨H, e9, h1, h2, h3⟩ := hg 9 ⟨_, rfl, ⟨9, .data⟩, by simp, rfl, rfl⟩
      have h := hK (.agg #[.string w0, .int .i64 r, .slice none 0 0, .slice (some ⟨H, 0, none⟩) 1 1]) X ⟨r, H, rfl, hr, h1, h2, h3⟩ (Below.refl _ _)
      refine wpOp_of rfl rfl ?_
      clear hK hg
      go_simp
      simpa [updT, e2, e6, e9] using h
    · have h := hK (.pointer (some ⟨X.heap.size, 0, none⟩)) (X.alloc (.cells #[.string ⟨#[]⟩, .int .i64 0, .slice none 0 0, .slice none 0 0] 27)) ⟨X.heap.size, rfl, hb.size, by simp, there_new X #[.string ⟨#[]⟩, .int .i64 0, .slice none 0 0, .slice none 0 0] 27, by simp⟩ (below_alloc _ _)
      refine wpOp_of rfl rfl ?_
      clear hK hg
      go_simp
      simpa [updT] using h
  · intro t X K hb hg hK
    obtain ⟨r, H, e10, hr, hH1, hH2, hH3⟩ := hg 10 (by omega)
    obtain ⟨C, e11, hC1, hC2, hC3, hC4⟩ := hg 11 (by omega)
    have hne : H ≠ C := fun e => by
      have := hH3.c4
      rw [e] at this
      rw [Nat.zero_add, hC4] at this
      cases this
    refine wpOp_of rfl rfl ?_
    refine wp_store_mid 27 _ _ rfl C 0 #[.string w0, .int .i64 r, .slice none 0 0, .slice (some ⟨H, 0, none⟩) 1 1] (by exact e11) (by exact e10) hC3 sz27 (by simp [Value.oneCell']) ?_
    have h := hK _ _ ⟨t, .tuple #[], rfl, C, r, H, e11, hr, hH1, by rw [size_setCells]; exact hH2, hH3.fr (fr_setCells C [.string w0, .int .i64 r, .slice none 0 0, .slice (some ⟨H, 0, none⟩) 1 1] 0 X) hH2 (by omega), hC1, by rw [size_setCells]; exact hC2, World.rangeAt_setCells_same X C 0 [.string w0, .int .i64 r, .slice none 0 0, .slice (some ⟨H, 0, none⟩) 1 1] hC3, (hb.trans (((fr_setCells C [.string w0, .int .i64 r, .slice none 0 0, .slice (some ⟨H, 0, none⟩) 1 1] 0 X).below hC1 (by omega))))⟩
    exact h
  · rintro a X ⟨t, v3', rfl, hp⟩
    exact hQ t v3' X hp
end Go.Proofs.YtcmimbohmninkaaGreatDoor
