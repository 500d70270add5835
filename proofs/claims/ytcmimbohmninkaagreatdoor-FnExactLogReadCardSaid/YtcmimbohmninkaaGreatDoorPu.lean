import Derived.Test.YtcmimbohmninkaaGreatDoorPt
namespace Go.Proofs.YtcmimbohmninkaaGreatDoor
open Go.RowKit
def rfReg51G (X0 : Nat) (gk : Nat) (q : Nat) (n : Nat) (cap : Nat) (k : Nat) (f : ByteArray) (i : Nat) (v : Value) (_X : World) : Prop :=
  match i with
  | 0 => v = .pointer (some ⟨X0, 1, none⟩)
  | 1 => v = .func (.func 51) #[] #[.pointer (some ⟨gk, 0, none⟩)]
  | 2 => v = .slice (some ⟨q, 0, none⟩) n cap
  | 3 => v = .int .i64 (k : Int)
  | 4 => v = .pointer (some ⟨q, k, none⟩)
  | 5 => v = .string f
  | _ => True
set_option maxRecDepth 100000 in
set_option maxHeartbeats 4000000 in
theorem rfReg51 (p0 p1 p2 p3 p4 p5 p6 p10 p11 p12 p13 p14 p15 p16 p17 p18 p19 p20 p21 p22 p23 p24 p25 p26 p27 p28 p29 p36 p37 p38 p39 p40 p41 p42 p43 p44 p45 p46 : Value) (v0 v1 v2 v3 v4 v5 : Value) (X0 : Nat) (gk : Nat) (q : Nat) (n : Nat) (cap : Nat) (k : Nat) (f : ByteArray) (W : World) (PP : Value → World → Prop) (hX0 : X0 < W.heap.size) (c1 : W.cell? ⟨X0, 1, none⟩ = some (.func (.func 51) #[] #[.pointer (some ⟨gk, 0, none⟩)])) (hq : q < W.heap.size) (hkn : k < n) (_hn : n < 9223372036854775807) (c2 : W.cell? ⟨q, k, none⟩ = some (.string f)) (hcall : ∀ Z, Below W.heap.size W Z → Calls Tryz.prog 51 #[.string f, .pointer (some ⟨gk, 0, none⟩)] Z fun e X => ∃ err, e = .returned err ∧ PP err X) (Q : Exit → Act → World → Prop) (hQ : ∀ (t : Nat → Value) (v3 : Value) X, PP v3 X → Q .normal ⟨#[p0, p1, p2, p3, p4, p5, p6, (.slice (some ⟨q, 0, none⟩) n cap), (.int .i64 (k : Int)), (.pointer (some ⟨X0, 0, none⟩)), v3, p11, p12, p13, p14, p15, p16, p17, p18, p19, p20, p21, p22, p23, p24, p25, p26, p27, p28, p29, t 0, t 1, t 2, t 3, t 4, t 5, v3, p37, p38, p39, p40, p41, p42, p43, p44, p45, p46], []⟩ X) :
    Code.wp Tryz.prog (Code.region 10 #[{ dst := some 30, op := Op.fieldAddr 69 (Operand.tmp 9) 1, type := 0, pos := "l20_call.go:106", after := #[], guard := none }, { dst := some 31, op := Op.load 67 (Operand.tmp 30), type := 67, pos := "l20_call.go:106", after := #[{ on := 0, ground := Ground.data }], guard := none }, { dst := some 32, op := Op.move (Operand.tmp 7), type := 33, pos := "l20_call.go:106", after := #[], guard := none }, { dst := some 33, op := Op.move (Operand.tmp 8), type := 3, pos := "l20_call.go:106", after := #[], guard := none }, { dst := some 34, op := Op.indexAddr 33 (Operand.tmp 32) (Operand.tmp 33), type := 0, pos := "l20_call.go:106", after := #[{ on := 2, ground := Ground.data }, { on := 3, ground := Ground.data }], guard := none }, { dst := some 35, op := Op.load 9 (Operand.tmp 34), type := 9, pos := "l20_call.go:106", after := #[{ on := 4, ground := Ground.data }], guard := none }, { dst := some 36, op := Op.call { callee := Callee.value (Operand.tmp 31), args := #[Operand.tmp 35], argTypes := #[9] }, type := 43, pos := "l20_call.go:106", after := #[{ on := 1, ground := Ground.data }, { on := 5, ground := Ground.data }], guard := none }, { dst := some 10, op := Op.assign (Operand.tmp 36), type := 43, pos := "l20_call.go:106", after := #[{ on := 6, ground := Ground.data }, { on := 6, ground := Ground.chain }, { on := 0, ground := Ground.phase }, { on := 1, ground := Ground.phase }, { on := 2, ground := Ground.phase }, { on := 3, ground := Ground.phase }, { on := 4, ground := Ground.phase }, { on := 5, ground := Ground.phase }, { on := 6, ground := Ground.phase }], guard := none }] true) Q ⟨#[p0, p1, p2, p3, p4, p5, p6, (.slice (some ⟨q, 0, none⟩) n cap), (.int .i64 (k : Int)), (.pointer (some ⟨X0, 0, none⟩)), p10, p11, p12, p13, p14, p15, p16, p17, p18, p19, p20, p21, p22, p23, p24, p25, p26, p27, p28, p29, v0, v1, v2, v3, v4, v5, p36, p37, p38, p39, p40, p41, p42, p43, p44, p45, p46], []⟩ W := by
  refine regionK (by kernel_rfl) 6 (fun t : Nat → Value => #[p0, p1, p2, p3, p4, p5, p6, (.slice (some ⟨q, 0, none⟩) n cap), (.int .i64 (k : Int)), (.pointer (some ⟨X0, 0, none⟩)), p10, p11, p12, p13, p14, p15, p16, p17, p18, p19, p20, p21, p22, p23, p24, p25, p26, p27, p28, p29, t 0, t 1, t 2, t 3, t 4, t 5, p36, p37, p38, p39, p40, p41, p42, p43, p44, p45, p46]) (fun i => match i with | 0 => v0 | 1 => v1 | 2 => v2 | 3 => v3 | 4 => v4 | _ => v5) (rfReg51G X0 gk q n cap k f) (fun a X => ∃ (t : Nat → Value) (v3 : Value), a = ⟨#[p0, p1, p2, p3, p4, p5, p6, (.slice (some ⟨q, 0, none⟩) n cap), (.int .i64 (k : Int)), (.pointer (some ⟨X0, 0, none⟩)), p10, p11, p12, p13, p14, p15, p16, p17, p18, p19, p20, p21, p22, p23, p24, p25, p26, p27, p28, p29, t 0, t 1, t 2, t 3, t 4, t 5, v3, p37, p38, p39, p40, p41, p42, p43, p44, p45, p46], []⟩ ∧ PP v3 X) (fun a X => ∃ (t : Nat → Value) (v3 : Value), a = ⟨#[p0, p1, p2, p3, p4, p5, p6, (.slice (some ⟨q, 0, none⟩) n cap), (.int .i64 (k : Int)), (.pointer (some ⟨X0, 0, none⟩)), v3, p11, p12, p13, p14, p15, p16, p17, p18, p19, p20, p21, p22, p23, p24, p25, p26, p27, p28, p29, t 0, t 1, t 2, t 3, t 4, t 5, v3, p37, p38, p39, p40, p41, p42, p43, p44, p45, p46], []⟩ ∧ PP v3 X) (by kernel_rfl) (by kernel_rfl) (by kernel_rfl) (by kernel_rfl) ?_ rfl ?_ ?_ ?_ ?_
  · intro i v X Y hi h hb
    rcases (show i = 0 ∨ i = 1 ∨ i = 2 ∨ i = 3 ∨ i = 4 ∨ i = 5 by omega) with rfl | rfl | rfl | rfl | rfl | rfl
    · exact h
    · exact h
    · exact h
    · exact h
    · exact h
    · exact h
  · intro i hi t X K hb hg hK
    rcases (show i = 0 ∨ i = 1 ∨ i = 2 ∨ i = 3 ∨ i = 4 ∨ i = 5 by omega) with rfl | rfl | rfl | rfl | rfl | rfl
    · have h := hK (.pointer (some ⟨X0, 1, none⟩)) X rfl (Below.refl _ _)
      refine wpOp_of rfl rfl ?_
      clear hK hg
      go_simp
      simpa [updT] using h
    · have e0 : t 0 = .pointer (some ⟨X0, 1, none⟩) := hg 0 ⟨_, rfl, ⟨0, .data⟩, by simp, rfl, rfl⟩
      have d := (hb.cell (p := ⟨X0, 1, none⟩) hX0).trans c1
      have h := hK (.func (.func 51) #[] #[.pointer (some ⟨gk, 0, none⟩)]) X rfl (Below.refl _ _)
      refine wpOp_of rfl rfl ?_
      clear hK hg
      go_simp
      simpa [updT, e0] using h
    · have h := hK (.slice (some ⟨q, 0, none⟩) n cap) X rfl (Below.refl _ _)
      refine wpOp_of rfl rfl ?_
      clear hK hg
      go_simp
      simpa [updT] using h
    · have h := hK (.int .i64 (k : Int)) X rfl (Below.refl _ _)
      refine wpOp_of rfl rfl ?_
      clear hK hg
      go_simp
      simpa [updT] using h
    · have e2 : t 2 = .slice (some ⟨q, 0, none⟩) n cap := hg 2 ⟨_, rfl, ⟨2, .data⟩, by simp, rfl, rfl⟩
      have e3 : t 3 = .int .i64 (k : Int) := hg 3 ⟨_, rfl, ⟨3, .data⟩, by simp, rfl, rfl⟩
      have kn : (k : Int) < (n : Int) := by omega
      have h := hK (.pointer (some ⟨q, k, none⟩)) X rfl (Below.refl _ _)
      refine wpOp_of rfl rfl ?_
      clear hK hg
      go_simp
      simpa [updT, e2, e3] using h
    · have e4 : t 4 = .pointer (some ⟨q, k, none⟩) := hg 4 ⟨_, rfl, ⟨4, .data⟩, by simp, rfl, rfl⟩
      have d := (hb.cell (p := ⟨q, k, none⟩) hq).trans c2
      have h := hK (.string f) X rfl (Below.refl _ _)
      refine wpOp_of rfl rfl ?_
      clear hK hg
      go_simp
      simpa [updT, e4] using h
  · intro t X K hb hg hK
    have e1 : t 1 = .func (.func 51) #[] #[.pointer (some ⟨gk, 0, none⟩)] := hg 1 (by omega)
    have e5 : t 5 = .string f := hg 5 (by omega)
    have HC := hid (hcall X hb)
    refine wpOp_of rfl rfl ?_
    have HK := hid hK
    clear hK hg hcall
    go_simp
    go_at_call 51
    refine HC.out.mono ?_
    rintro r Y ⟨v3, rfl, hp⟩
    have h := HK.out ⟨#[p0, p1, p2, p3, p4, p5, p6, (.slice (some ⟨q, 0, none⟩) n cap), (.int .i64 (k : Int)), (.pointer (some ⟨X0, 0, none⟩)), p10, p11, p12, p13, p14, p15, p16, p17, p18, p19, p20, p21, p22, p23, p24, p25, p26, p27, p28, p29, t 0, t 1, t 2, t 3, t 4, t 5, v3, p37, p38, p39, p40, p41, p42, p43, p44, p45, p46], []⟩ Y ⟨t, v3, rfl, hp⟩
    simpa [e1, e5] using h
  · rintro a X K ⟨t, v3, rfl, hp⟩ hK
    have h := hK ⟨#[p0, p1, p2, p3, p4, p5, p6, (.slice (some ⟨q, 0, none⟩) n cap), (.int .i64 (k : Int)), (.pointer (some ⟨X0, 0, none⟩)), v3, p11, p12, p13, p14, p15, p16, p17, p18, p19, p20, p21, p22, p23, p24, p25, p26, p27, p28, p29, t 0, t 1, t 2, t 3, t 4, t 5, v3, p37, p38, p39, p40, p41, p42, p43, p44, p45, p46], []⟩ X ⟨t, v3, rfl, hp⟩
    refine wpOp_of rfl rfl ?_
    clear hK
    go_simp
    exact h
  · rintro a X ⟨t, v3, rfl, hp⟩
    exact hQ t v3 X hp
def rfReg54G (X0 : Nat) (gk : Nat) (q : Nat) (n : Nat) (cap : Nat) (k : Nat) (f : ByteArray) (i : Nat) (v : Value) (_X : World) : Prop :=
  match i with
  | 0 => v = .pointer (some ⟨X0, 1, none⟩)
  | 1 => v = .func (.func 54) #[] #[.pointer (some ⟨gk, 0, none⟩)]
  | 2 => v = .slice (some ⟨q, 0, none⟩) n cap
  | 3 => v = .int .i64 (k : Int)
  | 4 => v = .pointer (some ⟨q, k, none⟩)
  | 5 => v = .string f
  | _ => True
set_option maxRecDepth 100000 in
set_option maxHeartbeats 4000000 in
theorem rfReg54 (p0 p1 p2 p3 p4 p5 p6 p10 p11 p12 p13 p14 p15 p16 p17 p18 p19 p20 p21 p22 p23 p24 p25 p26 p27 p28 p29 p36 p37 p38 p39 p40 p41 p42 p43 p44 p45 p46 : Value) (v0 v1 v2 v3 v4 v5 : Value) (X0 : Nat) (gk : Nat) (q : Nat) (n : Nat) (cap : Nat) (k : Nat) (f : ByteArray) (W : World) (PP : Value → World → Prop) (hX0 : X0 < W.heap.size) (c1 : W.cell? ⟨X0, 1, none⟩ = some (.func (.func 54) #[] #[.pointer (some ⟨gk, 0, none⟩)])) (hq : q < W.heap.size) (hkn : k < n) (_hn : n < 9223372036854775807) (c2 : W.cell? ⟨q, k, none⟩ = some (.string f)) (hcall : ∀ Z, Below W.heap.size W Z → Calls Tryz.prog 54 #[.string f, .pointer (some ⟨gk, 0, none⟩)] Z fun e X => ∃ err, e = .returned err ∧ PP err X) (Q : Exit → Act → World → Prop) (hQ : ∀ (t : Nat → Value) (v3 : Value) X, PP v3 X → Q .normal ⟨#[p0, p1, p2, p3, p4, p5, p6, (.slice (some ⟨q, 0, none⟩) n cap), (.int .i64 (k : Int)), (.pointer (some ⟨X0, 0, none⟩)), v3, p11, p12, p13, p14, p15, p16, p17, p18, p19, p20, p21, p22, p23, p24, p25, p26, p27, p28, p29, t 0, t 1, t 2, t 3, t 4, t 5, v3, p37, p38, p39, p40, p41, p42, p43, p44, p45, p46], []⟩ X) :
    Code.wp Tryz.prog (Code.region 10 #[{ dst := some 30, op := Op.fieldAddr 69 (Operand.tmp 9) 1, type := 0, pos := "l20_call.go:106", after := #[], guard := none }, { dst := some 31, op := Op.load 67 (Operand.tmp 30), type := 67, pos := "l20_call.go:106", after := #[{ on := 0, ground := Ground.data }], guard := none }, { dst := some 32, op := Op.move (Operand.tmp 7), type := 33, pos := "l20_call.go:106", after := #[], guard := none }, { dst := some 33, op := Op.move (Operand.tmp 8), type := 3, pos := "l20_call.go:106", after := #[], guard := none }, { dst := some 34, op := Op.indexAddr 33 (Operand.tmp 32) (Operand.tmp 33), type := 0, pos := "l20_call.go:106", after := #[{ on := 2, ground := Ground.data }, { on := 3, ground := Ground.data }], guard := none }, { dst := some 35, op := Op.load 9 (Operand.tmp 34), type := 9, pos := "l20_call.go:106", after := #[{ on := 4, ground := Ground.data }], guard := none }, { dst := some 36, op := Op.call { callee := Callee.value (Operand.tmp 31), args := #[Operand.tmp 35], argTypes := #[9] }, type := 43, pos := "l20_call.go:106", after := #[{ on := 1, ground := Ground.data }, { on := 5, ground := Ground.data }], guard := none }, { dst := some 10, op := Op.assign (Operand.tmp 36), type := 43, pos := "l20_call.go:106", after := #[{ on := 6, ground := Ground.data }, { on := 6, ground := Ground.chain }, { on := 0, ground := Ground.phase }, { on := 1, ground := Ground.phase }, { on := 2, ground := Ground.phase }, { on := 3, ground := Ground.phase }, { on := 4, ground := Ground.phase }, { on := 5, ground := Ground.phase }, { on := 6, ground := Ground.phase }], guard := none }] true) Q ⟨#[p0, p1, p2, p3, p4, p5, p6, (.slice (some ⟨q, 0, none⟩) n cap), (.int .i64 (k : Int)), (.pointer (some ⟨X0, 0, none⟩)), p10, p11, p12, p13, p14, p15, p16, p17, p18, p19, p20, p21, p22, p23, p24, p25, p26, p27, p28, p29, v0, v1, v2, v3, v4, v5, p36, p37, p38, p39, p40, p41, p42, p43, p44, p45, p46], []⟩ W := by
  refine regionK (by kernel_rfl) 6 (fun t : Nat → Value => #[p0, p1, p2, p3, p4, p5, p6, (.slice (some ⟨q, 0, none⟩) n cap), (.int .i64 (k : Int)), (.pointer (some ⟨X0, 0, none⟩)), p10, p11, p12, p13, p14, p15, p16, p17, p18, p19, p20, p21, p22, p23, p24, p25, p26, p27, p28, p29, t 0, t 1, t 2, t 3, t 4, t 5, p36, p37, p38, p39, p40, p41, p42, p43, p44, p45, p46]) (fun i => match i with | 0 => v0 | 1 => v1 | 2 => v2 | 3 => v3 | 4 => v4 | _ => v5) (rfReg54G X0 gk q n cap k f) (fun a X => ∃ (t : Nat → Value) (v3 : Value), a = ⟨#[p0, p1, p2, p3, p4, p5, p6, (.slice (some ⟨q, 0, none⟩) n cap), (.int .i64 (k : Int)), (.pointer (some ⟨X0, 0, none⟩)), p10, p11, p12, p13, p14, p15, p16, p17, p18, p19, p20, p21, p22, p23, p24, p25, p26, p27, p28, p29, t 0, t 1, t 2, t 3, t 4, t 5, v3, p37, p38, p39, p40, p41, p42, p43, p44, p45, p46], []⟩ ∧ PP v3 X) (fun a X => ∃ (t : Nat → Value) (v3 : Value), a = ⟨#[p0, p1, p2, p3, p4, p5, p6, (.slice (some ⟨q, 0, none⟩) n cap), (.int .i64 (k : Int)), (.pointer (some ⟨X0, 0, none⟩)), v3, p11, p12, p13, p14, p15, p16, p17, p18, p19, p20, p21, p22, p23, p24, p25, p26, p27, p28, p29, t 0, t 1, t 2, t 3, t 4, t 5, v3, p37, p38, p39, p40, p41, p42, p43, p44, p45, p46], []⟩ ∧ PP v3 X) (by kernel_rfl) (by kernel_rfl) (by kernel_rfl) (by kernel_rfl) ?_ rfl ?_ ?_ ?_ ?_
  · intro i v X Y hi h hb
    rcases (show i = 0 ∨ i = 1 ∨ i = 2 ∨ i = 3 ∨ i = 4 ∨ i = 5 by omega) with rfl | rfl | rfl | rfl | rfl | rfl
    · exact h
    · exact h
    · exact h
    · exact h
    · exact h
    · exact h
  · intro i hi t X K hb hg hK
    rcases (show i = 0 ∨ i = 1 ∨ i = 2 ∨ i = 3 ∨ i = 4 ∨ i = 5 by omega) with rfl | rfl | rfl | rfl | rfl | rfl
    · have h := hK (.pointer (some ⟨X0, 1, none⟩)) X rfl (Below.refl _ _)
      refine wpOp_of rfl rfl ?_
      clear hK hg
      go_simp
      simpa [updT] using h
    · have e0 : t 0 = .pointer (some ⟨X0, 1, none⟩) := hg 0 ⟨_, rfl, ⟨0, .data⟩, by simp, rfl, rfl⟩
      have d := (hb.cell (p := ⟨X0, 1, none⟩) hX0).trans c1
      have h := hK (.func (.func 54) #[] #[.pointer (some ⟨gk, 0, none⟩)]) X rfl (Below.refl _ _)
      refine wpOp_of rfl rfl ?_
      clear hK hg
      go_simp
      simpa [updT, e0] using h
    · have h := hK (.slice (some ⟨q, 0, none⟩) n cap) X rfl (Below.refl _ _)
      refine wpOp_of rfl rfl ?_
      clear hK hg
      go_simp
      simpa [updT] using h
    · have h := hK (.int .i64 (k : Int)) X rfl (Below.refl _ _)
      refine wpOp_of rfl rfl ?_
      clear hK hg
      go_simp
      simpa [updT] using h
    · have e2 : t 2 = .slice (some ⟨q, 0, none⟩) n cap := hg 2 ⟨_, rfl, ⟨2, .data⟩, by simp, rfl, rfl⟩
      have e3 : t 3 = .int .i64 (k : Int) := hg 3 ⟨_, rfl, ⟨3, .data⟩, by simp, rfl, rfl⟩
      have kn : (k : Int) < (n : Int) := by omega
      have h := hK (.pointer (some ⟨q, k, none⟩)) X rfl (Below.refl _ _)
      refine wpOp_of rfl rfl ?_
      clear hK hg
      go_simp
      simpa [updT, e2, e3] using h
    · have e4 : t 4 = .pointer (some ⟨q, k, none⟩) := hg 4 ⟨_, rfl, ⟨4, .data⟩, by simp, rfl, rfl⟩
      have d := (hb.cell (p := ⟨q, k, none⟩) hq).trans c2
      have h := hK (.string f) X rfl (Below.refl _ _)
      refine wpOp_of rfl rfl ?_
      clear hK hg
      go_simp
      simpa [updT, e4] using h
  · intro t X K hb hg hK
    have e1 : t 1 = .func (.func 54) #[] #[.pointer (some ⟨gk, 0, none⟩)] := hg 1 (by omega)
    have e5 : t 5 = .string f := hg 5 (by omega)
    have HC := hid (hcall X hb)
    refine wpOp_of rfl rfl ?_
    have HK := hid hK
    clear hK hg hcall
    go_simp
    go_at_call 54
    refine HC.out.mono ?_
    rintro r Y ⟨v3, rfl, hp⟩
    have h := HK.out ⟨#[p0, p1, p2, p3, p4, p5, p6, (.slice (some ⟨q, 0, none⟩) n cap), (.int .i64 (k : Int)), (.pointer (some ⟨X0, 0, none⟩)), p10, p11, p12, p13, p14, p15, p16, p17, p18, p19, p20, p21, p22, p23, p24, p25, p26, p27, p28, p29, t 0, t 1, t 2, t 3, t 4, t 5, v3, p37, p38, p39, p40, p41, p42, p43, p44, p45, p46], []⟩ Y ⟨t, v3, rfl, hp⟩
    simpa [e1, e5] using h
  · rintro a X K ⟨t, v3, rfl, hp⟩ hK
    have h := hK ⟨#[p0, p1, p2, p3, p4, p5, p6, (.slice (some ⟨q, 0, none⟩) n cap), (.int .i64 (k : Int)), (.pointer (some ⟨X0, 0, none⟩)), v3, p11, p12, p13, p14, p15, p16, p17, p18, p19, p20, p21, p22, p23, p24, p25, p26, p27, p28, p29, t 0, t 1, t 2, t 3, t 4, t 5, v3, p37, p38, p39, p40, p41, p42, p43, p44, p45, p46], []⟩ X ⟨t, v3, rfl, hp⟩
    refine wpOp_of rfl rfl ?_
    clear hK
    go_simp
    exact h
  · rintro a X ⟨t, v3, rfl, hp⟩
    exact hQ t v3 X hp
def rfReg57G (X0 : Nat) (gk : Nat) (q : Nat) (n : Nat) (cap : Nat) (k : Nat) (f : ByteArray) (i : Nat) (v : Value) (_X : World) : Prop :=
  match i with
  | 0 => v = .pointer (some ⟨X0, 1, none⟩)
  | 1 => v = .func (.func 57) #[] #[.pointer (some ⟨gk, 0, none⟩)]
  | 2 => v = .slice (some ⟨q, 0, none⟩) n cap
  | 3 => v = .int .i64 (k : Int)
  | 4 => v = .pointer (some ⟨q, k, none⟩)
  | 5 => v = .string f
  | _ => True
set_option maxRecDepth 100000 in
set_option maxHeartbeats 4000000 in
theorem rfReg57 (p0 p1 p2 p3 p4 p5 p6 p10 p11 p12 p13 p14 p15 p16 p17 p18 p19 p20 p21 p22 p23 p24 p25 p26 p27 p28 p29 p36 p37 p38 p39 p40 p41 p42 p43 p44 p45 p46 : Value) (v0 v1 v2 v3 v4 v5 : Value) (X0 : Nat) (gk : Nat) (q : Nat) (n : Nat) (cap : Nat) (k : Nat) (f : ByteArray) (W : World) (PP : Value → World → Prop) (hX0 : X0 < W.heap.size) (c1 : W.cell? ⟨X0, 1, none⟩ = some (.func (.func 57) #[] #[.pointer (some ⟨gk, 0, none⟩)])) (hq : q < W.heap.size) (hkn : k < n) (_hn : n < 9223372036854775807) (c2 : W.cell? ⟨q, k, none⟩ = some (.string f)) (hcall : ∀ Z, Below W.heap.size W Z → Calls Tryz.prog 57 #[.string f, .pointer (some ⟨gk, 0, none⟩)] Z fun e X => ∃ err, e = .returned err ∧ PP err X) (Q : Exit → Act → World → Prop) (hQ : ∀ (t : Nat → Value) (v3 : Value) X, PP v3 X → Q .normal ⟨#[p0, p1, p2, p3, p4, p5, p6, (.slice (some ⟨q, 0, none⟩) n cap), (.int .i64 (k : Int)), (.pointer (some ⟨X0, 0, none⟩)), v3, p11, p12, p13, p14, p15, p16, p17, p18, p19, p20, p21, p22, p23, p24, p25, p26, p27, p28, p29, t 0, t 1, t 2, t 3, t 4, t 5, v3, p37, p38, p39, p40, p41, p42, p43, p44, p45, p46], []⟩ X) :
    Code.wp Tryz.prog (Code.region 10 #[{ dst := some 30, op := Op.fieldAddr 69 (Operand.tmp 9) 1, type := 0, pos := "l20_call.go:106", after := #[], guard := none }, { dst := some 31, op := Op.load 67 (Operand.tmp 30), type := 67, pos := "l20_call.go:106", after := #[{ on := 0, ground := Ground.data }], guard := none }, { dst := some 32, op := Op.move (Operand.tmp 7), type := 33, pos := "l20_call.go:106", after := #[], guard := none }, { dst := some 33, op := Op.move (Operand.tmp 8), type := 3, pos := "l20_call.go:106", after := #[], guard := none }, { dst := some 34, op := Op.indexAddr 33 (Operand.tmp 32) (Operand.tmp 33), type := 0, pos := "l20_call.go:106", after := #[{ on := 2, ground := Ground.data }, { on := 3, ground := Ground.data }], guard := none }, { dst := some 35, op := Op.load 9 (Operand.tmp 34), type := 9, pos := "l20_call.go:106", after := #[{ on := 4, ground := Ground.data }], guard := none }, { dst := some 36, op := Op.call { callee := Callee.value (Operand.tmp 31), args := #[Operand.tmp 35], argTypes := #[9] }, type := 43, pos := "l20_call.go:106", after := #[{ on := 1, ground := Ground.data }, { on := 5, ground := Ground.data }], guard := none }, { dst := some 10, op := Op.assign (Operand.tmp 36), type := 43, pos := "l20_call.go:106", after := #[{ on := 6, ground := Ground.data }, { on := 6, ground := Ground.chain }, { on := 0, ground := Ground.phase }, { on := 1, ground := Ground.phase }, { on := 2, ground := Ground.phase }, { on := 3, ground := Ground.phase }, { on := 4, ground := Ground.phase }, { on := 5, ground := Ground.phase }, { on := 6, ground := Ground.phase }], guard := none }] true) Q ⟨#[p0, p1, p2, p3, p4, p5, p6, (.slice (some ⟨q, 0, none⟩) n cap), (.int .i64 (k : Int)), (.pointer (some ⟨X0, 0, none⟩)), p10, p11, p12, p13, p14, p15, p16, p17, p18, p19, p20, p21, p22, p23, p24, p25, p26, p27, p28, p29, v0, v1, v2, v3, v4, v5, p36, p37, p38, p39, p40, p41, p42, p43, p44, p45, p46], []⟩ W := by
  refine regionK (by kernel_rfl) 6 (fun t : Nat → Value => #[p0, p1, p2, p3, p4, p5, p6, (.slice (some ⟨q, 0, none⟩) n cap), (.int .i64 (k : Int)), (.pointer (some ⟨X0, 0, none⟩)), p10, p11, p12, p13, p14, p15, p16, p17, p18, p19, p20, p21, p22, p23, p24, p25, p26, p27, p28, p29, t 0, t 1, t 2, t 3, t 4, t 5, p36, p37, p38, p39, p40, p41, p42, p43, p44, p45, p46]) (fun i => match i with | 0 => v0 | 1 => v1 | 2 => v2 | 3 => v3 | 4 => v4 | _ => v5) (rfReg57G X0 gk q n cap k f) (fun a X => ∃ (t : Nat → Value) (v3 : Value), a = ⟨#[p0, p1, p2, p3, p4, p5, p6, (.slice (some ⟨q, 0, none⟩) n cap), (.int .i64 (k : Int)), (.pointer (some ⟨X0, 0, none⟩)), p10, p11, p12, p13, p14, p15, p16, p17, p18, p19, p20, p21, p22, p23, p24, p25, p26, p27, p28, p29, t 0, t 1, t 2, t 3, t 4, t 5, v3, p37, p38, p39, p40, p41, p42, p43, p44, p45, p46], []⟩ ∧ PP v3 X) (fun a X => ∃ (t : Nat → Value) (v3 : Value), a = ⟨#[p0, p1, p2, p3, p4, p5, p6, (.slice (some ⟨q, 0, none⟩) n cap), (.int .i64 (k : Int)), (.pointer (some ⟨X0, 0, none⟩)), v3, p11, p12, p13, p14, p15, p16, p17, p18, p19, p20, p21, p22, p23, p24, p25, p26, p27, p28, p29, t 0, t 1, t 2, t 3, t 4, t 5, v3, p37, p38, p39, p40, p41, p42, p43, p44, p45, p46], []⟩ ∧ PP v3 X) (by kernel_rfl) (by kernel_rfl) (by kernel_rfl) (by kernel_rfl) ?_ rfl ?_ ?_ ?_ ?_
  · intro i v X Y hi h hb
    rcases (show i = 0 ∨ i = 1 ∨ i = 2 ∨ i = 3 ∨ i = 4 ∨ i = 5 by omega) with rfl | rfl | rfl | rfl | rfl | rfl
    · exact h
    · exact h
    · exact h
    · exact h
    · exact h
    · exact h
  · intro i hi t X K hb hg hK
    rcases (show i = 0 ∨ i = 1 ∨ i = 2 ∨ i = 3 ∨ i = 4 ∨ i = 5 by omega) with rfl | rfl | rfl | rfl | rfl | rfl
    · have h := hK (.pointer (some ⟨X0, 1, none⟩)) X rfl (Below.refl _ _)
      refine wpOp_of rfl rfl ?_
      clear hK hg
      go_simp
      simpa [updT] using h
    · have e0 : t 0 = .pointer (some ⟨X0, 1, none⟩) := hg 0 ⟨_, rfl, ⟨0, .data⟩, by simp, rfl, rfl⟩
      have d := (hb.cell (p := ⟨X0, 1, none⟩) hX0).trans c1
      have h := hK (.func (.func 57) #[] #[.pointer (some ⟨gk, 0, none⟩)]) X rfl (Below.refl _ _)
      refine wpOp_of rfl rfl ?_
      clear hK hg
      go_simp
      simpa [updT, e0] using h
    · have h := hK (.slice (some ⟨q, 0, none⟩) n cap) X rfl (Below.refl _ _)
      refine wpOp_of rfl rfl ?_
      clear hK hg
      go_simp
      simpa [updT] using h
    · have h := hK (.int .i64 (k : Int)) X rfl (Below.refl _ _)
      refine wpOp_of rfl rfl ?_
      clear hK hg
      go_simp
      simpa [updT] using h
    · have e2 : t 2 = .slice (some ⟨q, 0, none⟩) n cap := hg 2 ⟨_, rfl, ⟨2, .data⟩, by simp, rfl, rfl⟩
      have e3 : t 3 = .int .i64 (k : Int) := hg 3 ⟨_, rfl, ⟨3, .data⟩, by simp, rfl, rfl⟩
      have kn : (k : Int) < (n : Int) := by omega
      have h := hK (.pointer (some ⟨q, k, none⟩)) X rfl (Below.refl _ _)
      refine wpOp_of rfl rfl ?_
      clear hK hg
      go_simp
      simpa [updT, e2, e3] using h
    · have e4 : t 4 = .pointer (some ⟨q, k, none⟩) := hg 4 ⟨_, rfl, ⟨4, .data⟩, by simp, rfl, rfl⟩
      have d := (hb.cell (p := ⟨q, k, none⟩) hq).trans c2
      have h := hK (.string f) X rfl (Below.refl _ _)
      refine wpOp_of rfl rfl ?_
      clear hK hg
      go_simp
      simpa [updT, e4] using h
  · intro t X K hb hg hK
    have e1 : t 1 = .func (.func 57) #[] #[.pointer (some ⟨gk, 0, none⟩)] := hg 1 (by omega)
    have e5 : t 5 = .string f := hg 5 (by omega)
    have HC := hid (hcall X hb)
    refine wpOp_of rfl rfl ?_
    have HK := hid hK
    clear hK hg hcall
    go_simp
    go_at_call 57
    refine HC.out.mono ?_
    rintro r Y ⟨v3, rfl, hp⟩
    have h := HK.out ⟨#[p0, p1, p2, p3, p4, p5, p6, (.slice (some ⟨q, 0, none⟩) n cap), (.int .i64 (k : Int)), (.pointer (some ⟨X0, 0, none⟩)), p10, p11, p12, p13, p14, p15, p16, p17, p18, p19, p20, p21, p22, p23, p24, p25, p26, p27, p28, p29, t 0, t 1, t 2, t 3, t 4, t 5, v3, p37, p38, p39, p40, p41, p42, p43, p44, p45, p46], []⟩ Y ⟨t, v3, rfl, hp⟩
    simpa [e1, e5] using h
  · rintro a X K ⟨t, v3, rfl, hp⟩ hK
    have h := hK ⟨#[p0, p1, p2, p3, p4, p5, p6, (.slice (some ⟨q, 0, none⟩) n cap), (.int .i64 (k : Int)), (.pointer (some ⟨X0, 0, none⟩)), v3, p11, p12, p13, p14, p15, p16, p17, p18, p19, p20, p21, p22, p23, p24, p25, p26, p27, p28, p29, t 0, t 1, t 2, t 3, t 4, t 5, v3, p37, p38, p39, p40, p41, p42, p43, p44, p45, p46], []⟩ X ⟨t, v3, rfl, hp⟩
    refine wpOp_of rfl rfl ?_
    clear hK
    go_simp
    exact h
  · rintro a X ⟨t, v3, rfl, hp⟩
    exact hQ t v3 X hp
def rfReg60G (X0 : Nat) (gk : Nat) (q : Nat) (n : Nat) (cap : Nat) (k : Nat) (f : ByteArray) (i : Nat) (v : Value) (_X : World) : Prop :=
  match i with
  | 0 => v = .pointer (some ⟨X0, 1, none⟩)
  | 1 => v = .func (.func 60) #[] #[.pointer (some ⟨gk, 0, none⟩)]
  | 2 => v = .slice (some ⟨q, 0, none⟩) n cap
  | 3 => v = .int .i64 (k : Int)
  | 4 => v = .pointer (some ⟨q, k, none⟩)
  | 5 => v = .string f
  | _ => True
set_option maxRecDepth 100000 in
set_option maxHeartbeats 4000000 in
theorem rfReg60 (p0 p1 p2 p3 p4 p5 p6 p10 p11 p12 p13 p14 p15 p16 p17 p18 p19 p20 p21 p22 p23 p24 p25 p26 p27 p28 p29 p36 p37 p38 p39 p40 p41 p42 p43 p44 p45 p46 : Value) (v0 v1 v2 v3 v4 v5 : Value) (X0 : Nat) (gk : Nat) (q : Nat) (n : Nat) (cap : Nat) (k : Nat) (f : ByteArray) (W : World) (PP : Value → World → Prop) (hX0 : X0 < W.heap.size) (c1 : W.cell? ⟨X0, 1, none⟩ = some (.func (.func 60) #[] #[.pointer (some ⟨gk, 0, none⟩)])) (hq : q < W.heap.size) (hkn : k < n) (_hn : n < 9223372036854775807) (c2 : W.cell? ⟨q, k, none⟩ = some (.string f)) (hcall : ∀ Z, Below W.heap.size W Z → Calls Tryz.prog 60 #[.string f, .pointer (some ⟨gk, 0, none⟩)] Z fun e X => ∃ err, e = .returned err ∧ PP err X) (Q : Exit → Act → World → Prop) (hQ : ∀ (t : Nat → Value) (v3 : Value) X, PP v3 X → Q .normal ⟨#[p0, p1, p2, p3, p4, p5, p6, (.slice (some ⟨q, 0, none⟩) n cap), (.int .i64 (k : Int)), (.pointer (some ⟨X0, 0, none⟩)), v3, p11, p12, p13, p14, p15, p16, p17, p18, p19, p20, p21, p22, p23, p24, p25, p26, p27, p28, p29, t 0, t 1, t 2, t 3, t 4, t 5, v3, p37, p38, p39, p40, p41, p42, p43, p44, p45, p46], []⟩ X) :
    Code.wp Tryz.prog (Code.region 10 #[{ dst := some 30, op := Op.fieldAddr 69 (Operand.tmp 9) 1, type := 0, pos := "l20_call.go:106", after := #[], guard := none }, { dst := some 31, op := Op.load 67 (Operand.tmp 30), type := 67, pos := "l20_call.go:106", after := #[{ on := 0, ground := Ground.data }], guard := none }, { dst := some 32, op := Op.move (Operand.tmp 7), type := 33, pos := "l20_call.go:106", after := #[], guard := none }, { dst := some 33, op := Op.move (Operand.tmp 8), type := 3, pos := "l20_call.go:106", after := #[], guard := none }, { dst := some 34, op := Op.indexAddr 33 (Operand.tmp 32) (Operand.tmp 33), type := 0, pos := "l20_call.go:106", after := #[{ on := 2, ground := Ground.data }, { on := 3, ground := Ground.data }], guard := none }, { dst := some 35, op := Op.load 9 (Operand.tmp 34), type := 9, pos := "l20_call.go:106", after := #[{ on := 4, ground := Ground.data }], guard := none }, { dst := some 36, op := Op.call { callee := Callee.value (Operand.tmp 31), args := #[Operand.tmp 35], argTypes := #[9] }, type := 43, pos := "l20_call.go:106", after := #[{ on := 1, ground := Ground.data }, { on := 5, ground := Ground.data }], guard := none }, { dst := some 10, op := Op.assign (Operand.tmp 36), type := 43, pos := "l20_call.go:106", after := #[{ on := 6, ground := Ground.data }, { on := 6, ground := Ground.chain }, { on := 0, ground := Ground.phase }, { on := 1, ground := Ground.phase }, { on := 2, ground := Ground.phase }, { on := 3, ground := Ground.phase }, { on := 4, ground := Ground.phase }, { on := 5, ground := Ground.phase }, { on := 6, ground := Ground.phase }], guard := none }] true) Q ⟨#[p0, p1, p2, p3, p4, p5, p6, (.slice (some ⟨q, 0, none⟩) n cap), (.int .i64 (k : Int)), (.pointer (some ⟨X0, 0, none⟩)), p10, p11, p12, p13, p14, p15, p16, p17, p18, p19, p20, p21, p22, p23, p24, p25, p26, p27, p28, p29, v0, v1, v2, v3, v4, v5, p36, p37, p38, p39, p40, p41, p42, p43, p44, p45, p46], []⟩ W := by
  refine regionK (by kernel_rfl) 6 (fun t : Nat → Value => #[p0, p1, p2, p3, p4, p5, p6, (.slice (some ⟨q, 0, none⟩) n cap), (.int .i64 (k : Int)), (.pointer (some ⟨X0, 0, none⟩)), p10, p11, p12, p13, p14, p15, p16, p17, p18, p19, p20, p21, p22, p23, p24, p25, p26, p27, p28, p29, t 0, t 1, t 2, t 3, t 4, t 5, p36, p37, p38, p39, p40, p41, p42, p43, p44, p45, p46]) (fun i => match i with | 0 => v0 | 1 => v1 | 2 => v2 | 3 => v3 | 4 => v4 | _ => v5) (rfReg60G X0 gk q n cap k f) (fun a X => ∃ (t : Nat → Value) (v3 : Value), a = ⟨#[p0, p1, p2, p3, p4, p5, p6, (.slice (some ⟨q, 0, none⟩) n cap), (.int .i64 (k : Int)), (.pointer (some ⟨X0, 0, none⟩)), p10, p11, p12, p13, p14, p15, p16, p17, p18, p19, p20, p21, p22, p23, p24, p25, p26, p27, p28, p29, t 0, t 1, t 2, t 3, t 4, t 5, v3, p37, p38, p39, p40, p41, p42, p43, p44, p45, p46], []⟩ ∧ PP v3 X) (fun a X => ∃ (t : Nat → Value) (v3 : Value), a = ⟨#[p0, p1, p2, p3, p4, p5, p6, (.slice (some ⟨q, 0, none⟩) n cap), (.int .i64 (k : Int)), (.pointer (some ⟨X0, 0, none⟩)), v3, p11, p12, p13, p14, p15, p16, p17, p18, p19, p20, p21, p22, p23, p24, p25, p26, p27, p28, p29, t 0, t 1, t 2, t 3, t 4, t 5, v3, p37, p38, p39, p40, p41, p42, p43, p44, p45, p46], []⟩ ∧ PP v3 X) (by kernel_rfl) (by kernel_rfl) (by kernel_rfl) (by kernel_rfl) ?_ rfl ?_ ?_ ?_ ?_
  · intro i v X Y hi h hb
    rcases (show i = 0 ∨ i = 1 ∨ i = 2 ∨ i = 3 ∨ i = 4 ∨ i = 5 by omega) with rfl | rfl | rfl | rfl | rfl | rfl
    · exact h
    · exact h
    · exact h
    · exact h
    · exact h
    · exact h
  · intro i hi t X K hb hg hK
    rcases (show i = 0 ∨ i = 1 ∨ i = 2 ∨ i = 3 ∨ i = 4 ∨ i = 5 by omega) with rfl | rfl | rfl | rfl | rfl | rfl
    · have h := hK (.pointer (some ⟨X0, 1, none⟩)) X rfl (Below.refl _ _)
      refine wpOp_of rfl rfl ?_
      clear hK hg
      go_simp
      simpa [updT] using h
    · have e0 : t 0 = .pointer (some ⟨X0, 1, none⟩) := hg 0 ⟨_, rfl, ⟨0, .data⟩, by simp, rfl, rfl⟩
      have d := (hb.cell (p := ⟨X0, 1, none⟩) hX0).trans c1
      have h := hK (.func (.func 60) #[] #[.pointer (some ⟨gk, 0, none⟩)]) X rfl (Below.refl _ _)
      refine wpOp_of rfl rfl ?_
      clear hK hg
      go_simp
      simpa [updT, e0] using h
    · have h := hK (.slice (some ⟨q, 0, none⟩) n cap) X rfl (Below.refl _ _)
      refine wpOp_of rfl rfl ?_
      clear hK hg
      go_simp
      simpa [updT] using h
    · have h := hK (.int .i64 (k : Int)) X rfl (Below.refl _ _)
      refine wpOp_of rfl rfl ?_
      clear hK hg
      go_simp
      simpa [updT] using h
    · have e2 : t 2 = .slice (some ⟨q, 0, none⟩) n cap := hg 2 ⟨_, rfl, ⟨2, .data⟩, by simp, rfl, rfl⟩
      have e3 : t 3 = .int .i64 (k : Int) := hg 3 ⟨_, rfl, ⟨3, .data⟩, by simp, rfl, rfl⟩
      have kn : (k : Int) < (n : Int) := by omega
      have h := hK (.pointer (some ⟨q, k, none⟩)) X rfl (Below.refl _ _)
      refine wpOp_of rfl rfl ?_
      clear hK hg
      go_simp
      simpa [updT, e2, e3] using h
    · have e4 : t 4 = .pointer (some ⟨q, k, none⟩) := hg 4 ⟨_, rfl, ⟨4, .data⟩, by simp, rfl, rfl⟩
      have d := (hb.cell (p := ⟨q, k, none⟩) hq).trans c2
      have h := hK (.string f) X rfl (Below.refl _ _)
      refine wpOp_of rfl rfl ?_
      clear hK hg
      go_simp
      simpa [updT, e4] using h
  · intro t X K hb hg hK
    have e1 : t 1 = .func (.func 60) #[] #[.pointer (some ⟨gk, 0, none⟩)] := hg 1 (by omega)
    have e5 : t 5 = .string f := hg 5 (by omega)
    have HC := hid (hcall X hb)
    refine wpOp_of rfl rfl ?_
    have HK := hid hK
    clear hK hg hcall
    go_simp
    go_at_call 60
    refine HC.out.mono ?_
    rintro r Y ⟨v3, rfl, hp⟩
    have h := HK.out ⟨#[p0, p1, p2, p3, p4, p5, p6, (.slice (some ⟨q, 0, none⟩) n cap), (.int .i64 (k : Int)), (.pointer (some ⟨X0, 0, none⟩)), p10, p11, p12, p13, p14, p15, p16, p17, p18, p19, p20, p21, p22, p23, p24, p25, p26, p27, p28, p29, t 0, t 1, t 2, t 3, t 4, t 5, v3, p37, p38, p39, p40, p41, p42, p43, p44, p45, p46], []⟩ Y ⟨t, v3, rfl, hp⟩
    simpa [e1, e5] using h
  · rintro a X K ⟨t, v3, rfl, hp⟩ hK
    have h := hK ⟨#[p0, p1, p2, p3, p4, p5, p6, (.slice (some ⟨q, 0, none⟩) n cap), (.int .i64 (k : Int)), (.pointer (some ⟨X0, 0, none⟩)), v3, p11, p12, p13, p14, p15, p16, p17, p18, p19, p20, p21, p22, p23, p24, p25, p26, p27, p28, p29, t 0, t 1, t 2, t 3, t 4, t 5, v3, p37, p38, p39, p40, p41, p42, p43, p44, p45, p46], []⟩ X ⟨t, v3, rfl, hp⟩
    refine wpOp_of rfl rfl ?_
    clear hK
    go_simp
    exact h
  · rintro a X ⟨t, v3, rfl, hp⟩
    exact hQ t v3 X hp
end Go.Proofs.YtcmimbohmninkaaGreatDoor
