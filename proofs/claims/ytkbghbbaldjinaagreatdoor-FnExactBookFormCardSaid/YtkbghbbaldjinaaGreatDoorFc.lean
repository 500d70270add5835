import Derived.Test.YtkbghbbaldjinaaGreatDoorFb
import Derived.Test.YtkbghbbaldjinaaGreatDoorFm
import Derived.Test.YtkbghbbaldjinaaGreatDoorE
namespace Go.Proofs.YtkbghbbaldjinaaGreatDoor
open Go.RowKit
def dS (n : Nat) : ByteArray := ⟨(Lib.decDigits n).toArray⟩
theorem dS_size {n : Nat} (h : (n : Int) ≤ 1000000) : ((dS n).size : Int) ≤ 1000001 := by
  have := dec_size n
  unfold dS
  omega
theorem decS_any (n : Nat) (h : (n : Int) ≤ 4611686018427387904) (w : World) : Calls Tryz.prog 13 #[.int .i64 n] w fun e w' => e = .returned (.string (dS n)) ∧ Below w.heap.size w w' := dec_any n h w
def quS (s : ByteArray) : ByteArray := ⟨(quL s).toArray⟩
theorem quoteS_any (s : ByteArray) (w : World) (hs : (s.size : Int) ≤ 1099511627776) : Calls Tryz.prog 15 #[.string s] w fun e w' => e = .returned (.string (quS s)) ∧ Below w.heap.size w w' := quote_any s w hs
theorem quS_size {s : ByteArray} (hs : (s.size : Int) ≤ 1000000) : ((quS s).size : Int) ≤ 3000002 := by
  have e : (quS s).size = (quL s).length := by simp [quS, ByteArray.size]
  have := qTo_len s s.size
  rw [e]
  unfold quL
  rw [List.length_append]
  simp
  omega
def objRegG (o : Ob) (B : Nat) (vv : Nat) (bb : Nat) (_s0 : ByteArray) (i : Nat) (v : Value) (_X : World) : Prop :=
  match i with
  | 0 => v = .pointer (some ⟨B, 0, none⟩)
  | 1 => v = .string o.kind
  | 2 => v = .string (o.kind ++ (⟨#[32]⟩ : ByteArray))
  | 3 => v = .pointer (some ⟨B, 1, none⟩)
  | 4 => v = .string o.name
  | 5 => v = .string (o.kind ++ (⟨#[32]⟩ : ByteArray) ++ o.name)
  | 6 => v = .string (o.kind ++ (⟨#[32]⟩ : ByteArray) ++ o.name ++ (⟨#[32]⟩ : ByteArray))
  | 7 => v = .pointer (some ⟨B, 2, none⟩)
  | 8 => v = .int .i64 vv
  | 9 => v = .string (dS vv)
  | 10 => v = .string (o.kind ++ (⟨#[32]⟩ : ByteArray) ++ o.name ++ (⟨#[32]⟩ : ByteArray) ++ dS vv)
  | 11 => v = .string (o.kind ++ (⟨#[32]⟩ : ByteArray) ++ o.name ++ (⟨#[32]⟩ : ByteArray) ++ dS vv ++ (⟨#[32]⟩ : ByteArray))
  | 12 => v = .pointer (some ⟨B, 3, none⟩)
  | 13 => v = .int .i64 bb
  | 14 => v = .string (dS bb)
  | 15 => v = .string (o.kind ++ (⟨#[32]⟩ : ByteArray) ++ o.name ++ (⟨#[32]⟩ : ByteArray) ++ dS vv ++ (⟨#[32]⟩ : ByteArray) ++ dS bb)
  | 16 => v = .string (o.kind ++ (⟨#[32]⟩ : ByteArray) ++ o.name ++ (⟨#[32]⟩ : ByteArray) ++ dS vv ++ (⟨#[32]⟩ : ByteArray) ++ dS bb ++ (⟨#[32]⟩ : ByteArray))
  | _ => True
set_option maxRecDepth 100000 in
set_option maxHeartbeats 4000000 in
theorem objReg (p0 p2 p3 p4 p22 p23 p24 p25 p26 p27 p28 p29 p30 p31 p32 p33 p34 p35 p36 p37 p38 p39 p40 p41 p42 p43 p44 p45 p46 p47 p48 p49 : Value) (t0 : Nat → Value) (o : Ob) (B : Nat) (vv : Nat) (bb : Nat) (s0 : ByteArray) (W : World) (hB : B < W.heap.size) (hc0 : W.cell? ⟨B, 0, none⟩ = some (.string o.kind)) (hc1 : W.cell? ⟨B, 1, none⟩ = some (.string o.name)) (hc2 : W.cell? ⟨B, 2, none⟩ = some (.int .i64 vv)) (hc3 : W.cell? ⟨B, 3, none⟩ = some (.int .i64 bb)) (hk : (o.kind.size : Int) ≤ 1099511627776) (hn : (o.name.size : Int) ≤ 1099511627776) (hv : (vv : Int) ≤ 1000000) (hbo : (bb : Int) ≤ 1000000) (zv : ((dS vv).size : Int) ≤ 1000001) (zb : ((dS bb).size : Int) ≤ 1000001) (es0 : s0 = o.kind ++ (⟨#[32]⟩ : ByteArray) ++ o.name ++ (⟨#[32]⟩ : ByteArray) ++ dS vv ++ (⟨#[32]⟩ : ByteArray) ++ dS bb ++ (⟨#[32]⟩ : ByteArray)) (Q : Exit → Act → World → Prop) (hQ : ∀ (t : Nat → Value) X, Below W.heap.size W X → Q .normal ⟨#[p0, .pointer (some ⟨B, 0, none⟩), p2, .string s0, p4, t 0, t 1, t 2, t 3, t 4, t 5, t 6, t 7, t 8, t 9, t 10, t 11, t 12, t 13, t 14, t 15, t 16, p22, p23, p24, p25, p26, p27, p28, p29, p30, p31, p32, p33, p34, p35, p36, p37, p38, p39, p40, p41, p42, p43, p44, p45, p46, p47, p48, p49], []⟩ X) :
    Code.wp Tryz.prog (Code.region 1 #[{ dst := some 5, op := Op.fieldAddr 46 (Operand.tmp 1) 0, type := 0, pos := "l9_book_form.go:6", after := #[], guard := none }, { dst := some 6, op := Op.load 9 (Operand.tmp 5), type := 9, pos := "l9_book_form.go:6", after := #[{ on := 0, ground := Ground.data }], guard := none }, { dst := some 7, op := Op.binOp BinOp.add 9 (Operand.tmp 6) (Operand.const (Value.string { data := #[32] })) 9, type := 9, pos := "l9_book_form.go:6", after := #[{ on := 1, ground := Ground.data }], guard := none }, { dst := some 8, op := Op.fieldAddr 46 (Operand.tmp 1) 1, type := 0, pos := "l9_book_form.go:6", after := #[], guard := none }, { dst := some 9, op := Op.load 9 (Operand.tmp 8), type := 9, pos := "l9_book_form.go:6", after := #[{ on := 3, ground := Ground.data }], guard := none }, { dst := some 10, op := Op.binOp BinOp.add 9 (Operand.tmp 7) (Operand.tmp 9) 9, type := 9, pos := "l9_book_form.go:6", after := #[{ on := 2, ground := Ground.data }, { on := 4, ground := Ground.data }], guard := none }, { dst := some 11, op := Op.binOp BinOp.add 9 (Operand.tmp 10) (Operand.const (Value.string { data := #[32] })) 9, type := 9, pos := "l9_book_form.go:6", after := #[{ on := 5, ground := Ground.data }], guard := none }, { dst := some 12, op := Op.fieldAddr 46 (Operand.tmp 1) 2, type := 0, pos := "l9_book_form.go:6", after := #[], guard := none }, { dst := some 13, op := Op.load 3 (Operand.tmp 12), type := 3, pos := "l9_book_form.go:6", after := #[{ on := 7, ground := Ground.data }], guard := none }, { dst := some 14, op := Op.call { callee := Callee.value (Operand.func 13), args := #[Operand.tmp 13], argTypes := #[3] }, type := 9, pos := "l9_book_form.go:6", after := #[{ on := 8, ground := Ground.data }], guard := none }, { dst := some 15, op := Op.binOp BinOp.add 9 (Operand.tmp 11) (Operand.tmp 14) 9, type := 9, pos := "l9_book_form.go:6", after := #[{ on := 6, ground := Ground.data }, { on := 9, ground := Ground.data }], guard := none }, { dst := some 16, op := Op.binOp BinOp.add 9 (Operand.tmp 15) (Operand.const (Value.string { data := #[32] })) 9, type := 9, pos := "l9_book_form.go:6", after := #[{ on := 10, ground := Ground.data }], guard := none }, { dst := some 17, op := Op.fieldAddr 46 (Operand.tmp 1) 3, type := 0, pos := "l9_book_form.go:6", after := #[], guard := none }, { dst := some 18, op := Op.load 3 (Operand.tmp 17), type := 3, pos := "l9_book_form.go:6", after := #[{ on := 12, ground := Ground.data }], guard := none }, { dst := some 19, op := Op.call { callee := Callee.value (Operand.func 13), args := #[Operand.tmp 18], argTypes := #[3] }, type := 9, pos := "l9_book_form.go:6", after := #[{ on := 13, ground := Ground.data }, { on := 9, ground := Ground.chain }], guard := none }, { dst := some 20, op := Op.binOp BinOp.add 9 (Operand.tmp 16) (Operand.tmp 19) 9, type := 9, pos := "l9_book_form.go:6", after := #[{ on := 11, ground := Ground.data }, { on := 14, ground := Ground.data }], guard := none }, { dst := some 21, op := Op.binOp BinOp.add 9 (Operand.tmp 20) (Operand.const (Value.string { data := #[32] })) 9, type := 9, pos := "l9_book_form.go:6", after := #[{ on := 15, ground := Ground.data }], guard := none }, { dst := some 3, op := Op.assign (Operand.tmp 21), type := 9, pos := "l9_book_form.go:6", after := #[{ on := 16, ground := Ground.data }, { on := 14, ground := Ground.chain }, { on := 0, ground := Ground.phase }, { on := 1, ground := Ground.phase }, { on := 2, ground := Ground.phase }, { on := 3, ground := Ground.phase }, { on := 4, ground := Ground.phase }, { on := 5, ground := Ground.phase }, { on := 6, ground := Ground.phase }, { on := 7, ground := Ground.phase }, { on := 8, ground := Ground.phase }, { on := 9, ground := Ground.phase }, { on := 10, ground := Ground.phase }, { on := 11, ground := Ground.phase }, { on := 12, ground := Ground.phase }, { on := 13, ground := Ground.phase }, { on := 14, ground := Ground.phase }, { on := 15, ground := Ground.phase }, { on := 16, ground := Ground.phase }], guard := none }] true) Q ⟨#[p0, .pointer (some ⟨B, 0, none⟩), p2, p3, p4, t0 0, t0 1, t0 2, t0 3, t0 4, t0 5, t0 6, t0 7, t0 8, t0 9, t0 10, t0 11, t0 12, t0 13, t0 14, t0 15, t0 16, p22, p23, p24, p25, p26, p27, p28, p29, p30, p31, p32, p33, p34, p35, p36, p37, p38, p39, p40, p41, p42, p43, p44, p45, p46, p47, p48, p49], []⟩ W := by
  refine regionH (by kernel_rfl) 17 (fun t : Nat → Value => #[p0, .pointer (some ⟨B, 0, none⟩), p2, p3, p4, t 0, t 1, t 2, t 3, t 4, t 5, t 6, t 7, t 8, t 9, t 10, t 11, t 12, t 13, t 14, t 15, t 16, p22, p23, p24, p25, p26, p27, p28, p29, p30, p31, p32, p33, p34, p35, p36, p37, p38, p39, p40, p41, p42, p43, p44, p45, p46, p47, p48, p49]) t0 (objRegG o B vv bb s0) (fun a X => ∃ (t : Nat → Value), a = ⟨#[p0, .pointer (some ⟨B, 0, none⟩), p2, .string s0, p4, t 0, t 1, t 2, t 3, t 4, t 5, t 6, t 7, t 8, t 9, t 10, t 11, t 12, t 13, t 14, t 15, t 16, p22, p23, p24, p25, p26, p27, p28, p29, p30, p31, p32, p33, p34, p35, p36, p37, p38, p39, p40, p41, p42, p43, p44, p45, p46, p47, p48, p49], []⟩ ∧ Below W.heap.size W X) (by kernel_rfl) (by kernel_rfl) (by kernel_rfl) ?_ rfl ?_ ?_ ?_
  · intro i v X Y hi h hb
    rcases (show i = 0 ∨ i = 1 ∨ i = 2 ∨ i = 3 ∨ i = 4 ∨ i = 5 ∨ i = 6 ∨ i = 7 ∨ i = 8 ∨ i = 9 ∨ i = 10 ∨ i = 11 ∨ i = 12 ∨ i = 13 ∨ i = 14 ∨ i = 15 ∨ i = 16 by omega) with rfl | rfl | rfl | rfl | rfl | rfl | rfl | rfl | rfl | rfl | rfl | rfl | rfl | rfl | rfl | rfl | rfl
    · exact h
    · exact h
    · exact h
    · exact h
    · exact h
    · exact h
    · exact h
    · exact h
    · exact h
    · exact h
    · exact h
    · exact h
    · exact h
    · exact h
    · exact h
    · exact h
    · exact h
  · intro i hi t X K hb hg hK
    rcases (show i = 0 ∨ i = 1 ∨ i = 2 ∨ i = 3 ∨ i = 4 ∨ i = 5 ∨ i = 6 ∨ i = 7 ∨ i = 8 ∨ i = 9 ∨ i = 10 ∨ i = 11 ∨ i = 12 ∨ i = 13 ∨ i = 14 ∨ i = 15 ∨ i = 16 by omega) with rfl | rfl | rfl | rfl | rfl | rfl | rfl | rfl | rfl | rfl | rfl | rfl | rfl | rfl | rfl | rfl | rfl
    · have h := hK (.pointer (some ⟨B, 0, none⟩)) X rfl (Below.refl _ _)
      refine wpOp_of rfl rfl ?_
      clear hK hg
      go_simp
      simpa [updT] using h
    · have e0 : t 0 = .pointer (some ⟨B, 0, none⟩) := hg 0 ⟨_, rfl, ⟨0, .data⟩, by simp, rfl, rfl⟩
      have q := (hb.cell (p := ⟨B, 0, none⟩) hB).trans hc0
      have h := hK (.string o.kind) X rfl (Below.refl _ _)
      refine wpOp_of rfl rfl ?_
      clear hK hg
      go_simp
      simpa [updT, e0] using h
    · have e1 : t 1 = .string o.kind := hg 1 ⟨_, rfl, ⟨1, .data⟩, by simp, rfl, rfl⟩
      have h := hK (.string (o.kind ++ (⟨#[32]⟩ : ByteArray))) X rfl (Below.refl _ _)
      refine wpOp_of rfl rfl ?_
      clear hK hg
      go_simp
      rw [if_neg (by omega), Oper.upon_value]
      go_simp
      simpa [updT, e1] using h
    · have h := hK (.pointer (some ⟨B, 1, none⟩)) X rfl (Below.refl _ _)
      refine wpOp_of rfl rfl ?_
      clear hK hg
      go_simp
      simpa [updT] using h
    · have e3 : t 3 = .pointer (some ⟨B, 1, none⟩) := hg 3 ⟨_, rfl, ⟨3, .data⟩, by simp, rfl, rfl⟩
      have q := (hb.cell (p := ⟨B, 1, none⟩) hB).trans hc1
      have h := hK (.string o.name) X rfl (Below.refl _ _)
      refine wpOp_of rfl rfl ?_
      clear hK hg
      go_simp
      simpa [updT, e3] using h
    · have e2 : t 2 = .string (o.kind ++ (⟨#[32]⟩ : ByteArray)) := hg 2 ⟨_, rfl, ⟨2, .data⟩, by simp, rfl, rfl⟩
      have e4 : t 4 = .string o.name := hg 4 ⟨_, rfl, ⟨4, .data⟩, by simp, rfl, rfl⟩
      have h := hK (.string (o.kind ++ (⟨#[32]⟩ : ByteArray) ++ o.name)) X rfl (Below.refl _ _)
      refine wpOp_of rfl rfl ?_
      clear hK hg
      go_simp
      rw [if_neg (by omega), Oper.upon_value]
      go_simp
      simpa [updT, e2, e4] using h
    · have e5 : t 5 = .string (o.kind ++ (⟨#[32]⟩ : ByteArray) ++ o.name) := hg 5 ⟨_, rfl, ⟨5, .data⟩, by simp, rfl, rfl⟩
      have h := hK (.string (o.kind ++ (⟨#[32]⟩ : ByteArray) ++ o.name ++ (⟨#[32]⟩ : ByteArray))) X rfl (Below.refl _ _)
      refine wpOp_of rfl rfl ?_
      clear hK hg
      go_simp
      rw [if_neg (by omega), Oper.upon_value]
      go_simp
      simpa [updT, e5] using h
    · have h := hK (.pointer (some ⟨B, 2, none⟩)) X rfl (Below.refl _ _)
      refine wpOp_of rfl rfl ?_
      clear hK hg
      go_simp
      simpa [updT] using h
    · have e7 : t 7 = .pointer (some ⟨B, 2, none⟩) := hg 7 ⟨_, rfl, ⟨7, .data⟩, by simp, rfl, rfl⟩
      have q := (hb.cell (p := ⟨B, 2, none⟩) hB).trans hc2
      have h := hK (.int .i64 vv) X rfl (Below.refl _ _)
      refine wpOp_of rfl rfl ?_
      clear hK hg
      go_simp
      simpa [updT, e7] using h
    · have e8 : t 8 = .int .i64 vv := hg 8 ⟨_, rfl, ⟨8, .data⟩, by simp, rfl, rfl⟩
      refine wpOp_of rfl rfl ?_
      have HK := hid hK
      clear hK hg
      go_simp
      go_at_call 13
      refine (decS_any vv (by omega) X).mono ?_
      rintro r Y ⟨rfl, hbY⟩
      have h := HK.out (.string (dS vv)) Y rfl hbY
      simpa [updT, e8] using h
    · have e6 : t 6 = .string (o.kind ++ (⟨#[32]⟩ : ByteArray) ++ o.name ++ (⟨#[32]⟩ : ByteArray)) := hg 6 ⟨_, rfl, ⟨6, .data⟩, by simp, rfl, rfl⟩
      have e9 : t 9 = .string (dS vv) := hg 9 ⟨_, rfl, ⟨9, .data⟩, by simp, rfl, rfl⟩
      have h := hK (.string (o.kind ++ (⟨#[32]⟩ : ByteArray) ++ o.name ++ (⟨#[32]⟩ : ByteArray) ++ dS vv)) X rfl (Below.refl _ _)
      refine wpOp_of rfl rfl ?_
      clear hK hg
      go_simp
      rw [if_neg (by omega), Oper.upon_value]
      go_simp
      simpa [updT, e6, e9] using h
    · have e10 : t 10 = .string (o.kind ++ (⟨#[32]⟩ : ByteArray) ++ o.name ++ (⟨#[32]⟩ : ByteArray) ++ dS vv) := hg 10 ⟨_, rfl, ⟨10, .data⟩, by simp, rfl, rfl⟩
      have h := hK (.string (o.kind ++ (⟨#[32]⟩ : ByteArray) ++ o.name ++ (⟨#[32]⟩ : ByteArray) ++ dS vv ++ (⟨#[32]⟩ : ByteArray))) X rfl (Below.refl _ _)
      refine wpOp_of rfl rfl ?_
      clear hK hg
      go_simp
      rw [if_neg (by omega), Oper.upon_value]
      go_simp
      simpa [updT, e10] using h
    · have h := hK (.pointer (some ⟨B, 3, none⟩)) X rfl (Below.refl _ _)
      refine wpOp_of rfl rfl ?_
      clear hK hg
      go_simp
      simpa [updT] using h
    · have e12 : t 12 = .pointer (some ⟨B, 3, none⟩) := hg 12 ⟨_, rfl, ⟨12, .data⟩, by simp, rfl, rfl⟩
      have q := (hb.cell (p := ⟨B, 3, none⟩) hB).trans hc3
      have h := hK (.int .i64 bb) X rfl (Below.refl _ _)
      refine wpOp_of rfl rfl ?_
      clear hK hg
      go_simp
      simpa [updT, e12] using h
    · have e13 : t 13 = .int .i64 bb := hg 13 ⟨_, rfl, ⟨13, .data⟩, by simp, rfl, rfl⟩
      refine wpOp_of rfl rfl ?_
      have HK := hid hK
      clear hK hg
      go_simp
      go_at_call 13
      refine (decS_any bb (by omega) X).mono ?_
      rintro r Y ⟨rfl, hbY⟩
      have h := HK.out (.string (dS bb)) Y rfl hbY
      simpa [updT, e13] using h
    · have e11 : t 11 = .string (o.kind ++ (⟨#[32]⟩ : ByteArray) ++ o.name ++ (⟨#[32]⟩ : ByteArray) ++ dS vv ++ (⟨#[32]⟩ : ByteArray)) := hg 11 ⟨_, rfl, ⟨11, .data⟩, by simp, rfl, rfl⟩
      have e14 : t 14 = .string (dS bb) := hg 14 ⟨_, rfl, ⟨14, .data⟩, by simp, rfl, rfl⟩
      have h := hK (.string (o.kind ++ (⟨#[32]⟩ : ByteArray) ++ o.name ++ (⟨#[32]⟩ : ByteArray) ++ dS vv ++ (⟨#[32]⟩ : ByteArray) ++ dS bb)) X rfl (Below.refl _ _)
      refine wpOp_of rfl rfl ?_
      clear hK hg
      go_simp
      rw [if_neg (by omega), Oper.upon_value]
      go_simp
      simpa [updT, e11, e14] using h
    · have e15 : t 15 = .string (o.kind ++ (⟨#[32]⟩ : ByteArray) ++ o.name ++ (⟨#[32]⟩ : ByteArray) ++ dS vv ++ (⟨#[32]⟩ : ByteArray) ++ dS bb) := hg 15 ⟨_, rfl, ⟨15, .data⟩, by simp, rfl, rfl⟩
      have h := hK (.string (o.kind ++ (⟨#[32]⟩ : ByteArray) ++ o.name ++ (⟨#[32]⟩ : ByteArray) ++ dS vv ++ (⟨#[32]⟩ : ByteArray) ++ dS bb ++ (⟨#[32]⟩ : ByteArray))) X rfl (Below.refl _ _)
      refine wpOp_of rfl rfl ?_
      clear hK hg
      go_simp
      rw [if_neg (by omega), Oper.upon_value]
      go_simp
      simpa [updT, e15] using h
  · intro t X K hb hg hK
    have e16 : t 16 = .string (o.kind ++ (⟨#[32]⟩ : ByteArray) ++ o.name ++ (⟨#[32]⟩ : ByteArray) ++ dS vv ++ (⟨#[32]⟩ : ByteArray) ++ dS bb ++ (⟨#[32]⟩ : ByteArray)) := hg 16 (by omega)
    have h := hK ⟨#[p0, .pointer (some ⟨B, 0, none⟩), p2, .string s0, p4, t 0, t 1, t 2, t 3, t 4, t 5, t 6, t 7, t 8, t 9, t 10, t 11, t 12, t 13, t 14, t 15, t 16, p22, p23, p24, p25, p26, p27, p28, p29, p30, p31, p32, p33, p34, p35, p36, p37, p38, p39, p40, p41, p42, p43, p44, p45, p46, p47, p48, p49], []⟩ X ⟨t, rfl, hb⟩
    rw [es0] at h
    refine wpOp_of rfl rfl ?_
    clear hK hg
    go_simp
    simpa [e16] using h
  · rintro a X ⟨t, rfl, hb⟩
    exact hQ t X hb
def hdTo (s0 : ByteArray) (hs : Nat → ByteArray) : Nat → ByteArray | 0 => s0 | k + 1 => hdTo s0 hs k ++ (⟨#[32]⟩ : ByteArray) ++ hs k
def enS (b : Bool) : ByteArray := if b then ⟨#[101, 110, 100, 105, 110, 103, 32]⟩ else ⟨#[45, 32]⟩
def obj0 (o : Ob) (vv bb : Nat) : ByteArray := o.kind ++ (⟨#[32]⟩ : ByteArray) ++ o.name ++ (⟨#[32]⟩ : ByteArray) ++ dS vv ++ (⟨#[32]⟩ : ByteArray) ++ dS bb ++ (⟨#[32]⟩ : ByteArray)
def objS (o : Ob) (vv bb : Nat) : ByteArray := hdTo (obj0 o vv bb ++ enS o.ending ++ quS o.text) o.hs o.hn ++ (⟨#[10]⟩ : ByteArray)
/-- sizes that a valid book has -/
structure ObSm (o : Ob) : Prop where
  k : (o.kind.size : Int) ≤ 1000000
  n : (o.name.size : Int) ≤ 1000000
  t : (o.text.size : Int) ≤ 1000000
  h : (o.hn : Int) ≤ 1000
  s : ∀ i, i < o.hn → ((o.hs i).size : Int) ≤ 1000000
theorem obj0_size {o : Ob} {vv bb : Nat} (hs : ObSm o) (hv : (vv : Int) ≤ 1000000) (hb : (bb : Int) ≤ 1000000) : ((obj0 o vv bb).size : Int) ≤ 4000010 := by
  have := hs.k
  have := hs.n
  have := dS_size hv
  have := dS_size hb
  have e1 : ((⟨#[32]⟩ : ByteArray)).size = 1 := rfl
  unfold obj0
  simp only [ByteArray.size_append, e1]
  omega
theorem hdTo_size {s0 : ByteArray} {hs : Nat → ByteArray} {n : Nat} (h : ∀ i, i < n → ((hs i).size : Int) ≤ 1000000) : ∀ k, k ≤ n → ((hdTo s0 hs k).size : Int) ≤ s0.size + 1000001 * (k : Int)
  | 0, _ => by simp [hdTo]
  | k + 1, hk => by
    have h1 := hdTo_size (s0 := s0) h k (by omega)
    have h2 := h k (by omega)
    have e : (hdTo s0 hs (k + 1)).size = (hdTo s0 hs k).size + 1 + (hs k).size := by
      rw [hdTo, ByteArray.size_append, ByteArray.size_append]; rfl
    rw [e]
    omega
theorem objS_size {o : Ob} {vv bb : Nat} (hs : ObSm o) (hv : (vv : Int) ≤ 1000000) (hb : (bb : Int) ≤ 1000000) : ((objS o vv bb).size : Int) ≤ 1100000000 := by
  have h1 := obj0_size hs hv hb
  have h2 := quS_size hs.t
  have h3 : (enS o.ending).size ≤ 7 := by unfold enS; split <;> simp [ByteArray.size]
  have h4 := hdTo_size (s0 := obj0 o vv bb ++ enS o.ending ++ quS o.text) hs.s o.hn (Nat.le_refl _)
  have h5 := hs.h
  have e1 : ((⟨#[10]⟩ : ByteArray)).size = 1 := rfl
  unfold objS
  simp only [ByteArray.size_append, e1] at h4 ⊢
  omega
set_option maxRecDepth 100000 in
set_option maxHeartbeats 4000000 in
theorem obj_any (o : Ob) (vv bb : Nat) (ad : Option Addr) (cap : Nat) (w : World) (lo hi : Nat) (hhi : hi ≤ w.heap.size) (hv : (vv : Int) ≤ 1000000) (hbo : (bb : Int) ≤ 1000000) (ev : o.ver = vv) (eb : o.born = bb) (hsm : ObSm o) (hc : StrsIn w lo hi ad o.hn o.hs) :
    Calls Tryz.prog 14 #[.agg #[.string o.kind, .string o.name, .int .i64 o.ver, .int .i64 o.born, .string o.text, .bool o.ending, .slice ad o.hn cap]] w fun e w' => e = .returned (.string (objS o vv bb)) ∧ Below w.heap.size w w' := by
  rw [ev, eb]
  have z0 := obj0_size hsm hv hbo
  have zq : ((quS o.text).size : Int) ≤ 3000002 := quS_size hsm.t
  have zt := hsm.t
  have zh := hsm.h
  have hk := hsm.k
  have hn := hsm.n
  have HC := hid hc
  have HSM := hid hsm
  clear ev eb hc hsm
  go_enter Tryz.func14, Tryz.ntmps14
  go_wp2_with fail
  obtain ⟨s0, es0⟩ : ∃ s0, s0 = obj0 o vv bb := ⟨_, rfl⟩
  rw [← es0] at z0
  have ES := hid (show objS o vv bb = hdTo (s0 ++ enS o.ending ++ quS o.text) o.hs o.hn ++ (⟨#[10]⟩ : ByteArray) by rw [es0]; rfl)
  refine objReg _ _ _ _ _ _ _ _ _ _ _ _ _ _ _ _ _ _ _ _ _ _ _ _ _ _ _ _ _ _ _ _ (fun _ => undef) o w.heap.size vv bb s0 _ (by simp) (by simp) (by simp) (by simp) (by simp) (by omega) (by omega) hv hbo (dS_size hv) (dS_size hbo) es0 _ ?_
  clear es0
  intro t X hX
  have hXw : Below w.heap.size w X := (below_alloc w _).trans (hX.mono (by simp))
  have zX := hX.size
  simp only [World.size_alloc] at zX
  have b4 : X.cell? ⟨w.heap.size, 4, none⟩ = some (.string o.text) := (hX.cell (p := ⟨w.heap.size, 4, none⟩) (by simp)).trans (by simp)
  have b5 : X.cell? ⟨w.heap.size, 5, none⟩ = some (.bool o.ending) := (hX.cell (p := ⟨w.heap.size, 5, none⟩) (by simp)).trans (by simp)
  have b6 : X.cell? ⟨w.heap.size, 6, none⟩ = some (.slice ad o.hn cap) := (hX.cell (p := ⟨w.heap.size, 6, none⟩) (by simp)).trans (by simp)
  obtain ⟨s1, es1⟩ : ∃ s1, s1 = s0 ++ enS o.ending := ⟨_, rfl⟩
  have z1 : (s1.size : Int) ≤ 4000017 := by
    rw [es1, ByteArray.size_append]
    have : (enS o.ending).size ≤ 7 := by unfold enS; split <;> simp [ByteArray.size]
    omega
  rw [← es1] at ES
  have HX := hid hX
  clear hX
  cases he : o.ending
  all_goals
    rw [he] at b5 es1
    simp only [enS, if_true, Bool.false_eq_true, if_false] at es1
    go_wp2_with (go_at_call 15; refine (quoteS_any o.text _ (by omega)).mono ?_; rintro e Y ⟨rfl, hY⟩)
    have hYw : Below w.heap.size w Y := hXw.trans (hY.mono (by omega))
    have zY := hY.size
    have c6 : Y.cell? ⟨w.heap.size, 6, none⟩ = some (.slice ad o.hn cap) := (hY.cell (p := ⟨w.heap.size, 6, none⟩) (by show w.heap.size < _; omega)).trans b6
    rw [← es1]
    have ES1 := hid es1
    clear b4 b5 b6 hXw HX hY es1
    go_loop [3, 4] (fun s i => ∃ k : Nat, k ≤ o.hn ∧ i = .int .i64 k ∧ s = .string (hdTo (s1 ++ quS o.text) o.hs k)) (fun _ i => o.hn - (intOf i).toNat)
    case atStart => exact ⟨0, Nat.zero_le _, rfl, rfl⟩
    case round =>
      obtain ⟨k, hk, rfl, rfl⟩ := hrel
      have zk := hdTo_size (s0 := s1 ++ quS o.text) HSM.out.s k hk
      simp only [ByteArray.size_append] at zk
      by_cases hkn : k < o.hn
      · obtain ⟨b, off, rfl, e2, e3, e4⟩ := HC.out k hkn
        have zhk := HSM.out.s k hkn
        have c8 : Y.cell? ⟨b, off + k, none⟩ = some (.string (o.hs k)) := (hYw.cell (p := ⟨b, off + k, none⟩) (by show b < _; omega)).trans e4
        have STEP := hid (show hdTo (s1 ++ quS o.text) o.hs (k + 1) = hdTo (s1 ++ quS o.text) o.hs k ++ (⟨#[32]⟩ : ByteArray) ++ o.hs k from rfl)
        obtain ⟨sk, hsk⟩ : ∃ sk, hdTo (s1 ++ quS o.text) o.hs k = sk := ⟨_, rfl⟩
        rw [hsk] at zk STEP
        rw [hsk]
        clear hsk
        go_wp2
        go_round
        case rel => exact ⟨k + 1, by omega, by go_num, by rw [STEP.out]⟩
        case measure => simp [intOf]; omega
      · have hkk : k = o.hn := by omega
        subst hkk
        obtain ⟨sk, hsk⟩ : ∃ sk, hdTo (s1 ++ quS o.text) o.hs o.hn = sk := ⟨_, rfl⟩
        have ES2 := hid (ES.out.trans (by rw [hsk]))
        rw [hsk] at zk
        rw [hsk]
        clear hsk
        go_wp2
        go_ret
        exact ⟨by rw [ES2.out]; rfl, hYw⟩

end Go.Proofs.YtkbghbbaldjinaaGreatDoor
