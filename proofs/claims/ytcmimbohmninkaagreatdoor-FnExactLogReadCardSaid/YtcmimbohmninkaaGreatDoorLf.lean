import Derived.Test.YtcmimbohmninkaaGreatDoorLd
import Derived.Test.YtcmimbohmninkaaGreatDoorGp
import Derived.Test.YtcmimbohmninkaaGreatDoorRg
namespace Go.Proofs.YtcmimbohmninkaaGreatDoor
open Go.RowKit
def dS (n : Nat) : ByteArray := ⟨(Lib.decDigits n).toArray⟩
theorem dS_size {n : Nat} (h : (n : Int) ≤ 1000000) : ((dS n).size : Int) ≤ 1000001 := by
  have := dec_size n
  unfold dS
  omega
theorem decS_any (n : Nat) (h : (n : Int) ≤ 4611686018427387904) (w : World) : Calls Tryz.prog 18 #[.int .i64 n] w fun e w' => e = .returned (.string (dS n)) ∧ Below w.heap.size w w' := dec_any n h w
def quS (s : ByteArray) : ByteArray := ⟨(quL s).toArray⟩
theorem quoteS_any (s : ByteArray) (w : World) (hs : (s.size : Int) ≤ 1099511627776) : Calls Tryz.prog 20 #[.string s] w fun e w' => e = .returned (.string (quS s)) ∧ Below w.heap.size w w' := quote_any s w hs
theorem quS_size {s : ByteArray} (hs : (s.size : Int) ≤ 1000000) : ((quS s).size : Int) ≤ 3000002 := by
  have e : (quS s).size = (quL s).length := by simp [quS, ByteArray.size]
  have := qTo_len s s.size
  rw [e]
  unfold quL
  rw [List.length_append]
  simp
  omega
/-- the form of a call, as a text -/
def formS (cl ki na ho te : ByteArray) (nn oo ss : Nat) : ByteArray := cl ++ (⟨#[32]⟩ : ByteArray) ++ dS nn ++ (⟨#[32]⟩ : ByteArray) ++ dS oo ++ (⟨#[32]⟩ : ByteArray) ++ ki ++ (⟨#[32]⟩ : ByteArray) ++ na ++ (⟨#[32]⟩ : ByteArray) ++ dS ss ++ (⟨#[32]⟩ : ByteArray) ++ ho ++ (⟨#[32]⟩ : ByteArray) ++ quS te
/-- which calls have a form, as long as it is not too long -/
def okB (c : Bc) : Bool := nameB c.client && (inB c.num 1 1000000 && (decide (c.wn = 0) && (decide (c.rn = 1) && (wrB (c.rs 0) && decide ((c.rs 0).seen ≤ 1000000)))))
def formC (c : Bc) : ByteArray := formS c.client (c.rs 0).kind (c.rs 0).name (holdS (c.rs 0).hold) (c.rs 0).text c.num.toNat (c.rs 0).op.toNat (c.rs 0).seen.toNat
/-- what LogForm answers -/
def lfS (c : Bc) : ByteArray := if okB c = true ∧ ((formC c).size : Int) ≤ 100 then formC c else ⟨#[]⟩
theorem name_size {s : ByteArray} (h : nameB s = true) : (s.size : Int) ≤ 20 := by
  unfold nameB at h
  rw [Bool.and_eq_true] at h
  exact (inB_of h.1).2
/-- what an ok call is, part by part -/
structure OkC (c : Bc) : Prop where
  cl : (c.client.size : Int) ≤ 20
  n0 : 1 ≤ c.num
  n1 : c.num ≤ 1000000
  wn : c.wn = 0
  rn : c.rn = 1
  ki : ((c.rs 0).kind.size : Int) ≤ 20
  na : ((c.rs 0).name.size : Int) ≤ 20
  te : ((c.rs 0).text.size : Int) ≤ 300
  ho : ((c.rs 0).hold.size : Int) ≤ 20
  s0 : 0 ≤ (c.rs 0).seen
  s1 : (c.rs 0).seen ≤ 1000000
  o0 : 1 ≤ (c.rs 0).op
  o1 : (c.rs 0).op ≤ 5
theorem okC_of {c : Bc} (h : okB c = true) : OkC c := by
  simp only [okB, Bool.and_eq_true, decide_eq_true_eq] at h
  obtain ⟨h1, h2, h3, h4, h5, h6⟩ := h
  simp only [wrB, comB, Bool.and_eq_true, Bool.or_eq_true, decide_eq_true_eq] at h5
  obtain ⟨⟨k1, k2, k3, k4, k5⟩, k6⟩ := h5
  have ho : ((c.rs 0).hold.size : Int) ≤ 20 := by
    rcases k5 with e | e
    · have : (c.rs 0).hold = ⟨#[]⟩ := by simpa [emB] using e
      rw [this]
      decide
    · exact name_size e
  have hop : 1 ≤ (c.rs 0).op ∧ (c.rs 0).op ≤ 5 := by
    cases hq : inB (c.rs 0).op 1 5 with
    | true => exact inB_of hq
    | false => rw [useB_no hq] at k6; cases k6
  exact ⟨name_size h1, (inB_of h2).1, (inB_of h2).2, h3, h4, name_size k1, name_size k2, by omega, ho, k3, h6, hop.1, hop.2⟩
def lfReg7G (cl : ByteArray) (ki : ByteArray) (na : ByteArray) (ho : ByteArray) (te : ByteArray) (nn : Nat) (oo : Nat) (ss : Nat) (C : Nat) (R : Nat) (_s0 : ByteArray) (i : Nat) (v : Value) (_X : World) : Prop :=
  match i with
  | 0 => v = .pointer (some ⟨C, 0, none⟩)
  | 1 => v = .string cl
  | 2 => v = .string (cl ++ (⟨#[32]⟩ : ByteArray))
  | 3 => v = .pointer (some ⟨C, 1, none⟩)
  | 4 => v = .int .i64 nn
  | 5 => v = .string (dS nn)
  | 6 => v = .string (cl ++ (⟨#[32]⟩ : ByteArray) ++ dS nn)
  | 7 => v = .string (cl ++ (⟨#[32]⟩ : ByteArray) ++ dS nn ++ (⟨#[32]⟩ : ByteArray))
  | 8 => v = .pointer (some ⟨R, 0, none⟩)
  | 9 => v = .int .i64 oo
  | 10 => v = .string (dS oo)
  | 11 => v = .string (cl ++ (⟨#[32]⟩ : ByteArray) ++ dS nn ++ (⟨#[32]⟩ : ByteArray) ++ dS oo)
  | 12 => v = .string (cl ++ (⟨#[32]⟩ : ByteArray) ++ dS nn ++ (⟨#[32]⟩ : ByteArray) ++ dS oo ++ (⟨#[32]⟩ : ByteArray))
  | 13 => v = .pointer (some ⟨R, 1, none⟩)
  | 14 => v = .string ki
  | 15 => v = .string (cl ++ (⟨#[32]⟩ : ByteArray) ++ dS nn ++ (⟨#[32]⟩ : ByteArray) ++ dS oo ++ (⟨#[32]⟩ : ByteArray) ++ ki)
  | 16 => v = .string (cl ++ (⟨#[32]⟩ : ByteArray) ++ dS nn ++ (⟨#[32]⟩ : ByteArray) ++ dS oo ++ (⟨#[32]⟩ : ByteArray) ++ ki ++ (⟨#[32]⟩ : ByteArray))
  | 17 => v = .pointer (some ⟨R, 2, none⟩)
  | 18 => v = .string na
  | 19 => v = .string (cl ++ (⟨#[32]⟩ : ByteArray) ++ dS nn ++ (⟨#[32]⟩ : ByteArray) ++ dS oo ++ (⟨#[32]⟩ : ByteArray) ++ ki ++ (⟨#[32]⟩ : ByteArray) ++ na)
  | 20 => v = .string (cl ++ (⟨#[32]⟩ : ByteArray) ++ dS nn ++ (⟨#[32]⟩ : ByteArray) ++ dS oo ++ (⟨#[32]⟩ : ByteArray) ++ ki ++ (⟨#[32]⟩ : ByteArray) ++ na ++ (⟨#[32]⟩ : ByteArray))
  | 21 => v = .pointer (some ⟨R, 3, none⟩)
  | 22 => v = .int .i64 ss
  | 23 => v = .string (dS ss)
  | 24 => v = .string (cl ++ (⟨#[32]⟩ : ByteArray) ++ dS nn ++ (⟨#[32]⟩ : ByteArray) ++ dS oo ++ (⟨#[32]⟩ : ByteArray) ++ ki ++ (⟨#[32]⟩ : ByteArray) ++ na ++ (⟨#[32]⟩ : ByteArray) ++ dS ss)
  | 25 => v = .string (cl ++ (⟨#[32]⟩ : ByteArray) ++ dS nn ++ (⟨#[32]⟩ : ByteArray) ++ dS oo ++ (⟨#[32]⟩ : ByteArray) ++ ki ++ (⟨#[32]⟩ : ByteArray) ++ na ++ (⟨#[32]⟩ : ByteArray) ++ dS ss ++ (⟨#[32]⟩ : ByteArray))
  | 26 => v = .string ho
  | 27 => v = .string (cl ++ (⟨#[32]⟩ : ByteArray) ++ dS nn ++ (⟨#[32]⟩ : ByteArray) ++ dS oo ++ (⟨#[32]⟩ : ByteArray) ++ ki ++ (⟨#[32]⟩ : ByteArray) ++ na ++ (⟨#[32]⟩ : ByteArray) ++ dS ss ++ (⟨#[32]⟩ : ByteArray) ++ ho)
  | 28 => v = .string (cl ++ (⟨#[32]⟩ : ByteArray) ++ dS nn ++ (⟨#[32]⟩ : ByteArray) ++ dS oo ++ (⟨#[32]⟩ : ByteArray) ++ ki ++ (⟨#[32]⟩ : ByteArray) ++ na ++ (⟨#[32]⟩ : ByteArray) ++ dS ss ++ (⟨#[32]⟩ : ByteArray) ++ ho ++ (⟨#[32]⟩ : ByteArray))
  | 29 => v = .pointer (some ⟨R, 4, none⟩)
  | 30 => v = .string te
  | 31 => v = .string (quS te)
  | 32 => v = .string (cl ++ (⟨#[32]⟩ : ByteArray) ++ dS nn ++ (⟨#[32]⟩ : ByteArray) ++ dS oo ++ (⟨#[32]⟩ : ByteArray) ++ ki ++ (⟨#[32]⟩ : ByteArray) ++ na ++ (⟨#[32]⟩ : ByteArray) ++ dS ss ++ (⟨#[32]⟩ : ByteArray) ++ ho ++ (⟨#[32]⟩ : ByteArray) ++ quS te)
  | _ => True
set_option maxRecDepth 100000 in
set_option maxHeartbeats 4000000 in
theorem lfReg7 (p0 p2 p5 p6 p7 p8 p9 p10 p11 p12 p13 p14 p15 p16 p17 p51 p52 p53 p54 : Value) (v0 v1 v2 v3 v4 v5 v6 v7 v8 v9 v10 v11 v12 v13 v14 v15 v16 v17 v18 v19 v20 v21 v22 v23 v24 v25 v26 v27 v28 v29 v30 v31 v32 : Value) (cl : ByteArray) (ki : ByteArray) (na : ByteArray) (ho : ByteArray) (te : ByteArray) (nn : Nat) (oo : Nat) (ss : Nat) (C : Nat) (R : Nat) (s0 : ByteArray) (W : World) (hC : C < W.heap.size) (hR : R < W.heap.size) (hc0 : W.cell? ⟨C, 0, none⟩ = some (.string cl)) (hc1 : W.cell? ⟨C, 1, none⟩ = some (.int .i64 nn)) (hr0 : W.cell? ⟨R, 0, none⟩ = some (.int .i64 oo)) (hr1 : W.cell? ⟨R, 1, none⟩ = some (.string ki)) (hr2 : W.cell? ⟨R, 2, none⟩ = some (.string na)) (hr3 : W.cell? ⟨R, 3, none⟩ = some (.int .i64 ss)) (hr4 : W.cell? ⟨R, 4, none⟩ = some (.string te)) (z0 : (cl.size : Int) ≤ 1000000) (z1 : (ki.size : Int) ≤ 1000000) (z2 : (na.size : Int) ≤ 1000000) (z3 : (ho.size : Int) ≤ 1000000) (z4 : (te.size : Int) ≤ 1000000) (n0 : (nn : Int) ≤ 1000000) (n1 : (oo : Int) ≤ 1000000) (n2 : (ss : Int) ≤ 1000000) (y0 : ((dS nn).size : Int) ≤ 1000001) (y1 : ((dS oo).size : Int) ≤ 1000001) (y2 : ((dS ss).size : Int) ≤ 1000001) (y3 : ((quS te).size : Int) ≤ 3000002) (es0 : s0 = cl ++ (⟨#[32]⟩ : ByteArray) ++ dS nn ++ (⟨#[32]⟩ : ByteArray) ++ dS oo ++ (⟨#[32]⟩ : ByteArray) ++ ki ++ (⟨#[32]⟩ : ByteArray) ++ na ++ (⟨#[32]⟩ : ByteArray) ++ dS ss ++ (⟨#[32]⟩ : ByteArray) ++ ho ++ (⟨#[32]⟩ : ByteArray) ++ quS te) (Q : Exit → Act → World → Prop) (hQ : ∀ (t : Nat → Value) X, Below W.heap.size W X → Q .normal ⟨#[p0, .pointer (some ⟨C, 0, none⟩), p2, .pointer (some ⟨R, 0, none⟩), .string ho, .string s0, p6, p7, p8, p9, p10, p11, p12, p13, p14, p15, p16, p17, t 0, t 1, t 2, t 3, t 4, t 5, t 6, t 7, t 8, t 9, t 10, t 11, t 12, t 13, t 14, t 15, t 16, t 17, t 18, t 19, t 20, t 21, t 22, t 23, t 24, t 25, t 26, t 27, t 28, t 29, t 30, t 31, t 32, p51, p52, p53, p54], []⟩ X) :
    Code.wp Tryz.prog (Code.region 7 #[{ dst := some 18, op := Op.fieldAddr 27 (Operand.tmp 1) 0, type := 0, pos := "l20_call.go:24", after := #[], guard := none }, { dst := some 19, op := Op.load 9 (Operand.tmp 18), type := 9, pos := "l20_call.go:24", after := #[{ on := 0, ground := Ground.data }], guard := none }, { dst := some 20, op := Op.binOp BinOp.add 9 (Operand.tmp 19) (Operand.const (Value.string { data := #[32] })) 9, type := 9, pos := "l20_call.go:24", after := #[{ on := 1, ground := Ground.data }], guard := none }, { dst := some 21, op := Op.fieldAddr 27 (Operand.tmp 1) 1, type := 0, pos := "l20_call.go:24", after := #[], guard := none }, { dst := some 22, op := Op.load 3 (Operand.tmp 21), type := 3, pos := "l20_call.go:24", after := #[{ on := 3, ground := Ground.data }], guard := none }, { dst := some 23, op := Op.call { callee := Callee.value (Operand.func 18), args := #[Operand.tmp 22], argTypes := #[3] }, type := 9, pos := "l20_call.go:24", after := #[{ on := 4, ground := Ground.data }], guard := none }, { dst := some 24, op := Op.binOp BinOp.add 9 (Operand.tmp 20) (Operand.tmp 23) 9, type := 9, pos := "l20_call.go:24", after := #[{ on := 2, ground := Ground.data }, { on := 5, ground := Ground.data }], guard := none }, { dst := some 25, op := Op.binOp BinOp.add 9 (Operand.tmp 24) (Operand.const (Value.string { data := #[32] })) 9, type := 9, pos := "l20_call.go:24", after := #[{ on := 6, ground := Ground.data }], guard := none }, { dst := some 26, op := Op.fieldAddr 40 (Operand.tmp 3) 0, type := 0, pos := "l20_call.go:24", after := #[], guard := none }, { dst := some 27, op := Op.load 3 (Operand.tmp 26), type := 3, pos := "l20_call.go:24", after := #[{ on := 8, ground := Ground.data }], guard := none }, { dst := some 28, op := Op.call { callee := Callee.value (Operand.func 18), args := #[Operand.tmp 27], argTypes := #[3] }, type := 9, pos := "l20_call.go:24", after := #[{ on := 9, ground := Ground.data }, { on := 5, ground := Ground.chain }], guard := none }, { dst := some 29, op := Op.binOp BinOp.add 9 (Operand.tmp 25) (Operand.tmp 28) 9, type := 9, pos := "l20_call.go:24", after := #[{ on := 7, ground := Ground.data }, { on := 10, ground := Ground.data }], guard := none }, { dst := some 30, op := Op.binOp BinOp.add 9 (Operand.tmp 29) (Operand.const (Value.string { data := #[32] })) 9, type := 9, pos := "l20_call.go:24", after := #[{ on := 11, ground := Ground.data }], guard := none }, { dst := some 31, op := Op.fieldAddr 40 (Operand.tmp 3) 1, type := 0, pos := "l20_call.go:24", after := #[], guard := none }, { dst := some 32, op := Op.load 9 (Operand.tmp 31), type := 9, pos := "l20_call.go:24", after := #[{ on := 13, ground := Ground.data }], guard := none }, { dst := some 33, op := Op.binOp BinOp.add 9 (Operand.tmp 30) (Operand.tmp 32) 9, type := 9, pos := "l20_call.go:24", after := #[{ on := 12, ground := Ground.data }, { on := 14, ground := Ground.data }], guard := none }, { dst := some 34, op := Op.binOp BinOp.add 9 (Operand.tmp 33) (Operand.const (Value.string { data := #[32] })) 9, type := 9, pos := "l20_call.go:24", after := #[{ on := 15, ground := Ground.data }], guard := none }, { dst := some 35, op := Op.fieldAddr 40 (Operand.tmp 3) 2, type := 0, pos := "l20_call.go:24", after := #[], guard := none }, { dst := some 36, op := Op.load 9 (Operand.tmp 35), type := 9, pos := "l20_call.go:24", after := #[{ on := 17, ground := Ground.data }], guard := none }, { dst := some 37, op := Op.binOp BinOp.add 9 (Operand.tmp 34) (Operand.tmp 36) 9, type := 9, pos := "l20_call.go:24", after := #[{ on := 16, ground := Ground.data }, { on := 18, ground := Ground.data }], guard := none }, { dst := some 38, op := Op.binOp BinOp.add 9 (Operand.tmp 37) (Operand.const (Value.string { data := #[32] })) 9, type := 9, pos := "l20_call.go:24", after := #[{ on := 19, ground := Ground.data }], guard := none }, { dst := some 39, op := Op.fieldAddr 40 (Operand.tmp 3) 3, type := 0, pos := "l20_call.go:24", after := #[], guard := none }, { dst := some 40, op := Op.load 3 (Operand.tmp 39), type := 3, pos := "l20_call.go:24", after := #[{ on := 21, ground := Ground.data }], guard := none }, { dst := some 41, op := Op.call { callee := Callee.value (Operand.func 18), args := #[Operand.tmp 40], argTypes := #[3] }, type := 9, pos := "l20_call.go:24", after := #[{ on := 22, ground := Ground.data }, { on := 10, ground := Ground.chain }], guard := none }, { dst := some 42, op := Op.binOp BinOp.add 9 (Operand.tmp 38) (Operand.tmp 41) 9, type := 9, pos := "l20_call.go:24", after := #[{ on := 20, ground := Ground.data }, { on := 23, ground := Ground.data }], guard := none }, { dst := some 43, op := Op.binOp BinOp.add 9 (Operand.tmp 42) (Operand.const (Value.string { data := #[32] })) 9, type := 9, pos := "l20_call.go:24", after := #[{ on := 24, ground := Ground.data }], guard := none }, { dst := some 44, op := Op.move (Operand.tmp 4), type := 9, pos := "l20_call.go:24", after := #[], guard := none }, { dst := some 45, op := Op.binOp BinOp.add 9 (Operand.tmp 43) (Operand.tmp 44) 9, type := 9, pos := "l20_call.go:24", after := #[{ on := 25, ground := Ground.data }, { on := 26, ground := Ground.data }], guard := none }, { dst := some 46, op := Op.binOp BinOp.add 9 (Operand.tmp 45) (Operand.const (Value.string { data := #[32] })) 9, type := 9, pos := "l20_call.go:24", after := #[{ on := 27, ground := Ground.data }], guard := none }, { dst := some 47, op := Op.fieldAddr 40 (Operand.tmp 3) 4, type := 0, pos := "l20_call.go:24", after := #[], guard := none }, { dst := some 48, op := Op.load 9 (Operand.tmp 47), type := 9, pos := "l20_call.go:24", after := #[{ on := 29, ground := Ground.data }], guard := none }, { dst := some 49, op := Op.call { callee := Callee.value (Operand.func 20), args := #[Operand.tmp 48], argTypes := #[9] }, type := 9, pos := "l20_call.go:24", after := #[{ on := 30, ground := Ground.data }, { on := 23, ground := Ground.chain }], guard := none }, { dst := some 50, op := Op.binOp BinOp.add 9 (Operand.tmp 46) (Operand.tmp 49) 9, type := 9, pos := "l20_call.go:24", after := #[{ on := 28, ground := Ground.data }, { on := 31, ground := Ground.data }], guard := none }, { dst := some 5, op := Op.assign (Operand.tmp 50), type := 9, pos := "l20_call.go:24", after := #[{ on := 32, ground := Ground.data }, { on := 31, ground := Ground.chain }, { on := 0, ground := Ground.phase }, { on := 1, ground := Ground.phase }, { on := 2, ground := Ground.phase }, { on := 3, ground := Ground.phase }, { on := 4, ground := Ground.phase }, { on := 5, ground := Ground.phase }, { on := 6, ground := Ground.phase }, { on := 7, ground := Ground.phase }, { on := 8, ground := Ground.phase }, { on := 9, ground := Ground.phase }, { on := 10, ground := Ground.phase }, { on := 11, ground := Ground.phase }, { on := 12, ground := Ground.phase }, { on := 13, ground := Ground.phase }, { on := 14, ground := Ground.phase }, { on := 15, ground := Ground.phase }, { on := 16, ground := Ground.phase }, { on := 17, ground := Ground.phase }, { on := 18, ground := Ground.phase }, { on := 19, ground := Ground.phase }, { on := 20, ground := Ground.phase }, { on := 21, ground := Ground.phase }, { on := 22, ground := Ground.phase }, { on := 23, ground := Ground.phase }, { on := 24, ground := Ground.phase }, { on := 25, ground := Ground.phase }, { on := 26, ground := Ground.phase }, { on := 27, ground := Ground.phase }, { on := 28, ground := Ground.phase }, { on := 29, ground := Ground.phase }, { on := 30, ground := Ground.phase }, { on := 31, ground := Ground.phase }, { on := 32, ground := Ground.phase }], guard := none }] true) Q ⟨#[p0, .pointer (some ⟨C, 0, none⟩), p2, .pointer (some ⟨R, 0, none⟩), .string ho, p5, p6, p7, p8, p9, p10, p11, p12, p13, p14, p15, p16, p17, v0, v1, v2, v3, v4, v5, v6, v7, v8, v9, v10, v11, v12, v13, v14, v15, v16, v17, v18, v19, v20, v21, v22, v23, v24, v25, v26, v27, v28, v29, v30, v31, v32, p51, p52, p53, p54], []⟩ W := by
  refine regionH (by kernel_rfl) 33 (fun t : Nat → Value => #[p0, .pointer (some ⟨C, 0, none⟩), p2, .pointer (some ⟨R, 0, none⟩), .string ho, p5, p6, p7, p8, p9, p10, p11, p12, p13, p14, p15, p16, p17, t 0, t 1, t 2, t 3, t 4, t 5, t 6, t 7, t 8, t 9, t 10, t 11, t 12, t 13, t 14, t 15, t 16, t 17, t 18, t 19, t 20, t 21, t 22, t 23, t 24, t 25, t 26, t 27, t 28, t 29, t 30, t 31, t 32, p51, p52, p53, p54]) (fun i => match i with | 0 => v0 | 1 => v1 | 2 => v2 | 3 => v3 | 4 => v4 | 5 => v5 | 6 => v6 | 7 => v7 | 8 => v8 | 9 => v9 | 10 => v10 | 11 => v11 | 12 => v12 | 13 => v13 | 14 => v14 | 15 => v15 | 16 => v16 | 17 => v17 | 18 => v18 | 19 => v19 | 20 => v20 | 21 => v21 | 22 => v22 | 23 => v23 | 24 => v24 | 25 => v25 | 26 => v26 | 27 => v27 | 28 => v28 | 29 => v29 | 30 => v30 | 31 => v31 | _ => v32) (lfReg7G cl ki na ho te nn oo ss C R s0) (fun a X => ∃ (t : Nat → Value), a = ⟨#[p0, .pointer (some ⟨C, 0, none⟩), p2, .pointer (some ⟨R, 0, none⟩), .string ho, .string s0, p6, p7, p8, p9, p10, p11, p12, p13, p14, p15, p16, p17, t 0, t 1, t 2, t 3, t 4, t 5, t 6, t 7, t 8, t 9, t 10, t 11, t 12, t 13, t 14, t 15, t 16, t 17, t 18, t 19, t 20, t 21, t 22, t 23, t 24, t 25, t 26, t 27, t 28, t 29, t 30, t 31, t 32, p51, p52, p53, p54], []⟩ ∧ Below W.heap.size W X) (by kernel_rfl) (by kernel_rfl) (by kernel_rfl) ?_ rfl ?_ ?_ ?_
  · intro i v X Y hi h hb
    rcases (show i = 0 ∨ i = 1 ∨ i = 2 ∨ i = 3 ∨ i = 4 ∨ i = 5 ∨ i = 6 ∨ i = 7 ∨ i = 8 ∨ i = 9 ∨ i = 10 ∨ i = 11 ∨ i = 12 ∨ i = 13 ∨ i = 14 ∨ i = 15 ∨ i = 16 ∨ i = 17 ∨ i = 18 ∨ i = 19 ∨ i = 20 ∨ i = 21 ∨ i = 22 ∨ i = 23 ∨ i = 24 ∨ i = 25 ∨ i = 26 ∨ i = 27 ∨ i = 28 ∨ i = 29 ∨ i = 30 ∨ i = 31 ∨ i = 32 by omega) with rfl | rfl | rfl | rfl | rfl | rfl | rfl | rfl | rfl | rfl | rfl | rfl | rfl | rfl | rfl | rfl | rfl | rfl | rfl | rfl | rfl | rfl | rfl | rfl | rfl | rfl | rfl | rfl | rfl | rfl | rfl | rfl | rfl
    · exact h
    · exact h
    · exact h
    · exact h
    · exact h
    · exact h
    · exact h
    · exact h
    · exact h
    · exact h
    · exact h
    · exact h
    · exact h
    · exact h
    · exact h
    · exact h
    · exact h
    · exact h
    · exact h
    · exact h
    · exact h
    · exact h
    · exact h
    · exact h
    · exact h
    · exact h
    · exact h
    · exact h
    · exact h
    · exact h
    · exact h
    · exact h
    · exact h
  · intro i hi t X K hb hg hK
    rcases (show i = 0 ∨ i = 1 ∨ i = 2 ∨ i = 3 ∨ i = 4 ∨ i = 5 ∨ i = 6 ∨ i = 7 ∨ i = 8 ∨ i = 9 ∨ i = 10 ∨ i = 11 ∨ i = 12 ∨ i = 13 ∨ i = 14 ∨ i = 15 ∨ i = 16 ∨ i = 17 ∨ i = 18 ∨ i = 19 ∨ i = 20 ∨ i = 21 ∨ i = 22 ∨ i = 23 ∨ i = 24 ∨ i = 25 ∨ i = 26 ∨ i = 27 ∨ i = 28 ∨ i = 29 ∨ i = 30 ∨ i = 31 ∨ i = 32 by omega) with rfl | rfl | rfl | rfl | rfl | rfl | rfl | rfl | rfl | rfl | rfl | rfl | rfl | rfl | rfl | rfl | rfl | rfl | rfl | rfl | rfl | rfl | rfl | rfl | rfl | rfl | rfl | rfl | rfl | rfl | rfl | rfl | rfl
    · have h := hK (.pointer (some ⟨C, 0, none⟩)) X rfl (Below.refl _ _)
      refine wpOp_of rfl rfl ?_
      clear hK hg
      go_simp
      simpa [updT] using h
    · have e0 : t 0 = .pointer (some ⟨C, 0, none⟩) := hg 0 ⟨_, rfl, ⟨0, .data⟩, by simp, rfl, rfl⟩
      have q := (hb.cell (p := ⟨C, 0, none⟩) hC).trans hc0
      have h := hK (.string cl) X rfl (Below.refl _ _)
      refine wpOp_of rfl rfl ?_
      clear hK hg
      go_simp
      simpa [updT, e0] using h
    · have e1 : t 1 = .string cl := hg 1 ⟨_, rfl, ⟨1, .data⟩, by simp, rfl, rfl⟩
      have h := hK (.string (cl ++ (⟨#[32]⟩ : ByteArray))) X rfl (Below.refl _ _)
      refine wpOp_of rfl rfl ?_
      clear hK hg
      go_simp
      rw [if_neg (by omega), Oper.upon_value]
      go_simp
      simpa [updT, e1] using h
    · have h := hK (.pointer (some ⟨C, 1, none⟩)) X rfl (Below.refl _ _)
      refine wpOp_of rfl rfl ?_
      clear hK hg
      go_simp
      simpa [updT] using h
    · have e3 : t 3 = .pointer (some ⟨C, 1, none⟩) := hg 3 ⟨_, rfl, ⟨3, .data⟩, by simp, rfl, rfl⟩
      have q := (hb.cell (p := ⟨C, 1, none⟩) hC).trans hc1
      have h := hK (.int .i64 nn) X rfl (Below.refl _ _)
      refine wpOp_of rfl rfl ?_
      clear hK hg
      go_simp
      simpa [updT, e3] using h
    · have e4 : t 4 = .int .i64 nn := hg 4 ⟨_, rfl, ⟨4, .data⟩, by simp, rfl, rfl⟩
      refine wpOp_of rfl rfl ?_
      have HK := hid hK
      clear hK hg
      go_simp
      go_at_call 18
      refine (decS_any nn (by omega) X).mono ?_
      rintro r Y ⟨rfl, hbY⟩
      have h := HK.out (.string (dS nn)) Y rfl hbY
      simpa [updT, e4] using h
    · have e2 : t 2 = .string (cl ++ (⟨#[32]⟩ : ByteArray)) := hg 2 ⟨_, rfl, ⟨2, .data⟩, by simp, rfl, rfl⟩
      have e5 : t 5 = .string (dS nn) := hg 5 ⟨_, rfl, ⟨5, .data⟩, by simp, rfl, rfl⟩
      have h := hK (.string (cl ++ (⟨#[32]⟩ : ByteArray) ++ dS nn)) X rfl (Below.refl _ _)
      refine wpOp_of rfl rfl ?_
      clear hK hg
      go_simp
      rw [if_neg (by omega), Oper.upon_value]
      go_simp
      simpa [updT, e2, e5] using h
    · have e6 : t 6 = .string (cl ++ (⟨#[32]⟩ : ByteArray) ++ dS nn) := hg 6 ⟨_, rfl, ⟨6, .data⟩, by simp, rfl, rfl⟩
      have h := hK (.string (cl ++ (⟨#[32]⟩ : ByteArray) ++ dS nn ++ (⟨#[32]⟩ : ByteArray))) X rfl (Below.refl _ _)
      refine wpOp_of rfl rfl ?_
      clear hK hg
      go_simp
      rw [if_neg (by omega), Oper.upon_value]
      go_simp
      simpa [updT, e6] using h
    · have h := hK (.pointer (some ⟨R, 0, none⟩)) X rfl (Below.refl _ _)
      refine wpOp_of rfl rfl ?_
      clear hK hg
      go_simp
      simpa [updT] using h
    · have e8 : t 8 = .pointer (some ⟨R, 0, none⟩) := hg 8 ⟨_, rfl, ⟨8, .data⟩, by simp, rfl, rfl⟩
      have q := (hb.cell (p := ⟨R, 0, none⟩) hR).trans hr0
      have h := hK (.int .i64 oo) X rfl (Below.refl _ _)
      refine wpOp_of rfl rfl ?_
      clear hK hg
      go_simp
      simpa [updT, e8] using h
    · have e9 : t 9 = .int .i64 oo := hg 9 ⟨_, rfl, ⟨9, .data⟩, by simp, rfl, rfl⟩
      refine wpOp_of rfl rfl ?_
      have HK := hid hK
      clear hK hg
      go_simp
      go_at_call 18
      refine (decS_any oo (by omega) X).mono ?_
      rintro r Y ⟨rfl, hbY⟩
      have h := HK.out (.string (dS oo)) Y rfl hbY
      simpa [updT, e9] using h
    · have e7 : t 7 = .string (cl ++ (⟨#[32]⟩ : ByteArray) ++ dS nn ++ (⟨#[32]⟩ : ByteArray)) := hg 7 ⟨_, rfl, ⟨7, .data⟩, by simp, rfl, rfl⟩
      have e10 : t 10 = .string (dS oo) := hg 10 ⟨_, rfl, ⟨10, .data⟩, by simp, rfl, rfl⟩
      have h := hK (.string (cl ++ (⟨#[32]⟩ : ByteArray) ++ dS nn ++ (⟨#[32]⟩ : ByteArray) ++ dS oo)) X rfl (Below.refl _ _)
      refine wpOp_of rfl rfl ?_
      clear hK hg
      go_simp
      rw [if_neg (by omega), Oper.upon_value]
      go_simp
      simpa [updT, e7, e10] using h
    · have e11 : t 11 = .string (cl ++ (⟨#[32]⟩ : ByteArray) ++ dS nn ++ (⟨#[32]⟩ : ByteArray) ++ dS oo) := hg 11 ⟨_, rfl, ⟨11, .data⟩, by simp, rfl, rfl⟩
      have h := hK (.string (cl ++ (⟨#[32]⟩ : ByteArray) ++ dS nn ++ (⟨#[32]⟩ : ByteArray) ++ dS oo ++ (⟨#[32]⟩ : ByteArray))) X rfl (Below.refl _ _)
      refine wpOp_of rfl rfl ?_
      clear hK hg
      go_simp
      rw [if_neg (by omega), Oper.upon_value]
      go_simp
      simpa [updT, e11] using h
    · have h := hK (.pointer (some ⟨R, 1, none⟩)) X rfl (Below.refl _ _)
      refine wpOp_of rfl rfl ?_
      clear hK hg
      go_simp
      simpa [updT] using h
    · have e13 : t 13 = .pointer (some ⟨R, 1, none⟩) := hg 13 ⟨_, rfl, ⟨13, .data⟩, by simp, rfl, rfl⟩
      have q := (hb.cell (p := ⟨R, 1, none⟩) hR).trans hr1
      have h := hK (.string ki) X rfl (Below.refl _ _)
      refine wpOp_of rfl rfl ?_
      clear hK hg
      go_simp
      simpa [updT, e13] using h
    · have e12 : t 12 = .string (cl ++ (⟨#[32]⟩ : ByteArray) ++ dS nn ++ (⟨#[32]⟩ : ByteArray) ++ dS oo ++ (⟨#[32]⟩ : ByteArray)) := hg 12 ⟨_, rfl, ⟨12, .data⟩, by simp, rfl, rfl⟩
      have e14 : t 14 = .string ki := hg 14 ⟨_, rfl, ⟨14, .data⟩, by simp, rfl, rfl⟩
      have h := hK (.string (cl ++ (⟨#[32]⟩ : ByteArray) ++ dS nn ++ (⟨#[32]⟩ : ByteArray) ++ dS oo ++ (⟨#[32]⟩ : ByteArray) ++ ki)) X rfl (Below.refl _ _)
      refine wpOp_of rfl rfl ?_
      clear hK hg
      go_simp
      rw [if_neg (by omega), Oper.upon_value]
      go_simp
      simpa [updT, e12, e14] using h
    · have e15 : t 15 = .string (cl ++ (⟨#[32]⟩ : ByteArray) ++ dS nn ++ (⟨#[32]⟩ : ByteArray) ++ dS oo ++ (⟨#[32]⟩ : ByteArray) ++ ki) := hg 15 ⟨_, rfl, ⟨15, .data⟩, by simp, rfl, rfl⟩
      have h := hK (.string (cl ++ (⟨#[32]⟩ : ByteArray) ++ dS nn ++ (⟨#[32]⟩ : ByteArray) ++ dS oo ++ (⟨#[32]⟩ : ByteArray) ++ ki ++ (⟨#[32]⟩ : ByteArray))) X rfl (Below.refl _ _)
      refine wpOp_of rfl rfl ?_
      clear hK hg
      go_simp
      rw [if_neg (by omega), Oper.upon_value]
      go_simp
      simpa [updT, e15] using h
    · have h := hK (.pointer (some ⟨R, 2, none⟩)) X rfl (Below.refl _ _)
      refine wpOp_of rfl rfl ?_
      clear hK hg
      go_simp
      simpa [updT] using h
    · have e17 : t 17 = .pointer (some ⟨R, 2, none⟩) := hg 17 ⟨_, rfl, ⟨17, .data⟩, by simp, rfl, rfl⟩
      have q := (hb.cell (p := ⟨R, 2, none⟩) hR).trans hr2
      have h := hK (.string na) X rfl (Below.refl _ _)
      refine wpOp_of rfl rfl ?_
      clear hK hg
      go_simp
      simpa [updT, e17] using h
    · have e16 : t 16 = .string (cl ++ (⟨#[32]⟩ : ByteArray) ++ dS nn ++ (⟨#[32]⟩ : ByteArray) ++ dS oo ++ (⟨#[32]⟩ : ByteArray) ++ ki ++ (⟨#[32]⟩ : ByteArray)) := hg 16 ⟨_, rfl, ⟨16, .data⟩, by simp, rfl, rfl⟩
      have e18 : t 18 = .string na := hg 18 ⟨_, rfl, ⟨18, .data⟩, by simp, rfl, rfl⟩
      have h := hK (.string (cl ++ (⟨#[32]⟩ : ByteArray) ++ dS nn ++ (⟨#[32]⟩ : ByteArray) ++ dS oo ++ (⟨#[32]⟩ : ByteArray) ++ ki ++ (⟨#[32]⟩ : ByteArray) ++ na)) X rfl (Below.refl _ _)
      refine wpOp_of rfl rfl ?_
      clear hK hg
      go_simp
      rw [if_neg (by omega), Oper.upon_value]
      go_simp
      simpa [updT, e16, e18] using h
    · have e19 : t 19 = .string (cl ++ (⟨#[32]⟩ : ByteArray) ++ dS nn ++ (⟨#[32]⟩ : ByteArray) ++ dS oo ++ (⟨#[32]⟩ : ByteArray) ++ ki ++ (⟨#[32]⟩ : ByteArray) ++ na) := hg 19 ⟨_, rfl, ⟨19, .data⟩, by simp, rfl, rfl⟩
      have h := hK (.string (cl ++ (⟨#[32]⟩ : ByteArray) ++ dS nn ++ (⟨#[32]⟩ : ByteArray) ++ dS oo ++ (⟨#[32]⟩ : ByteArray) ++ ki ++ (⟨#[32]⟩ : ByteArray) ++ na ++ (⟨#[32]⟩ : ByteArray))) X rfl (Below.refl _ _)
      refine wpOp_of rfl rfl ?_
      clear hK hg
      go_simp
      rw [if_neg (by omega), Oper.upon_value]
      go_simp
      simpa [updT, e19] using h
    · have h := hK (.pointer (some ⟨R, 3, none⟩)) X rfl (Below.refl _ _)
      refine wpOp_of rfl rfl ?_
      clear hK hg
      go_simp
      simpa [updT] using h
    · have e21 : t 21 = .pointer (some ⟨R, 3, none⟩) := hg 21 ⟨_, rfl, ⟨21, .data⟩, by simp, rfl, rfl⟩
      have q := (hb.cell (p := ⟨R, 3, none⟩) hR).trans hr3
      have h := hK (.int .i64 ss) X rfl (Below.refl _ _)
      refine wpOp_of rfl rfl ?_
      clear hK hg
      go_simp
      simpa [updT, e21] using h
    · have e22 : t 22 = .int .i64 ss := hg 22 ⟨_, rfl, ⟨22, .data⟩, by simp, rfl, rfl⟩
      refine wpOp_of rfl rfl ?_
      have HK := hid hK
      clear hK hg
      go_simp
      go_at_call 18
      refine (decS_any ss (by omega) X).mono ?_
      rintro r Y ⟨rfl, hbY⟩
      have h := HK.out (.string (dS ss)) Y rfl hbY
      simpa [updT, e22] using h
    · have e20 : t 20 = .string (cl ++ (⟨#[32]⟩ : ByteArray) ++ dS nn ++ (⟨#[32]⟩ : ByteArray) ++ dS oo ++ (⟨#[32]⟩ : ByteArray) ++ ki ++ (⟨#[32]⟩ : ByteArray) ++ na ++ (⟨#[32]⟩ : ByteArray)) := hg 20 ⟨_, rfl, ⟨20, .data⟩, by simp, rfl, rfl⟩
      have e23 : t 23 = .string (dS ss) := hg 23 ⟨_, rfl, ⟨23, .data⟩, by simp, rfl, rfl⟩
      have h := hK (.string (cl ++ (⟨#[32]⟩ : ByteArray) ++ dS nn ++ (⟨#[32]⟩ : ByteArray) ++ dS oo ++ (⟨#[32]⟩ : ByteArray) ++ ki ++ (⟨#[32]⟩ : ByteArray) ++ na ++ (⟨#[32]⟩ : ByteArray) ++ dS ss)) X rfl (Below.refl _ _)
      refine wpOp_of rfl rfl ?_
      clear hK hg
      go_simp
      rw [if_neg (by omega), Oper.upon_value]
      go_simp
      simpa [updT, e20, e23] using h
    · have e24 : t 24 = .string (cl ++ (⟨#[32]⟩ : ByteArray) ++ dS nn ++ (⟨#[32]⟩ : ByteArray) ++ dS oo ++ (⟨#[32]⟩ : ByteArray) ++ ki ++ (⟨#[32]⟩ : ByteArray) ++ na ++ (⟨#[32]⟩ : ByteArray) ++ dS ss) := hg 24 ⟨_, rfl, ⟨24, .data⟩, by simp, rfl, rfl⟩
      have h := hK (.string (cl ++ (⟨#[32]⟩ : ByteArray) ++ dS nn ++ (⟨#[32]⟩ : ByteArray) ++ dS oo ++ (⟨#[32]⟩ : ByteArray) ++ ki ++ (⟨#[32]⟩ : ByteArray) ++ na ++ (⟨#[32]⟩ : ByteArray) ++ dS ss ++ (⟨#[32]⟩ : ByteArray))) X rfl (Below.refl _ _)
      refine wpOp_of rfl rfl ?_
      clear hK hg
      go_simp
      rw [if_neg (by omega), Oper.upon_value]
      go_simp
      simpa [updT, e24] using h
    · have h := hK (.string ho) X rfl (Below.refl _ _)
      refine wpOp_of rfl rfl ?_
      clear hK hg
      go_simp
      simpa [updT] using h
    · have e25 : t 25 = .string (cl ++ (⟨#[32]⟩ : ByteArray) ++ dS nn ++ (⟨#[32]⟩ : ByteArray) ++ dS oo ++ (⟨#[32]⟩ : ByteArray) ++ ki ++ (⟨#[32]⟩ : ByteArray) ++ na ++ (⟨#[32]⟩ : ByteArray) ++ dS ss ++ (⟨#[32]⟩ : ByteArray)) := hg 25 ⟨_, rfl, ⟨25, .data⟩, by simp, rfl, rfl⟩
      have e26 : t 26 = .string ho := hg 26 ⟨_, rfl, ⟨26, .data⟩, by simp, rfl, rfl⟩
      have h := hK (.string (cl ++ (⟨#[32]⟩ : ByteArray) ++ dS nn ++ (⟨#[32]⟩ : ByteArray) ++ dS oo ++ (⟨#[32]⟩ : ByteArray) ++ ki ++ (⟨#[32]⟩ : ByteArray) ++ na ++ (⟨#[32]⟩ : ByteArray) ++ dS ss ++ (⟨#[32]⟩ : ByteArray) ++ ho)) X rfl (Below.refl _ _)
      refine wpOp_of rfl rfl ?_
      clear hK hg
      go_simp
      rw [if_neg (by omega), Oper.upon_value]
      go_simp
      simpa [updT, e25, e26] using h
    · have e27 : t 27 = .string (cl ++ (⟨#[32]⟩ : ByteArray) ++ dS nn ++ (⟨#[32]⟩ : ByteArray) ++ dS oo ++ (⟨#[32]⟩ : ByteArray) ++ ki ++ (⟨#[32]⟩ : ByteArray) ++ na ++ (⟨#[32]⟩ : ByteArray) ++ dS ss ++ (⟨#[32]⟩ : ByteArray) ++ ho) := hg 27 ⟨_, rfl, ⟨27, .data⟩, by simp, rfl, rfl⟩
      have h := hK (.string (cl ++ (⟨#[32]⟩ : ByteArray) ++ dS nn ++ (⟨#[32]⟩ : ByteArray) ++ dS oo ++ (⟨#[32]⟩ : ByteArray) ++ ki ++ (⟨#[32]⟩ : ByteArray) ++ na ++ (⟨#[32]⟩ : ByteArray) ++ dS ss ++ (⟨#[32]⟩ : ByteArray) ++ ho ++ (⟨#[32]⟩ : ByteArray))) X rfl (Below.refl _ _)
      refine wpOp_of rfl rfl ?_
      clear hK hg
      go_simp
      rw [if_neg (by omega), Oper.upon_value]
      go_simp
      simpa [updT, e27] using h
    · have h := hK (.pointer (some ⟨R, 4, none⟩)) X rfl (Below.refl _ _)
      refine wpOp_of rfl rfl ?_
      clear hK hg
      go_simp
      simpa [updT] using h
    · have e29 : t 29 = .pointer (some ⟨R, 4, none⟩) := hg 29 ⟨_, rfl, ⟨29, .data⟩, by simp, rfl, rfl⟩
      have q := (hb.cell (p := ⟨R, 4, none⟩) hR).trans hr4
      have h := hK (.string te) X rfl (Below.refl _ _)
      refine wpOp_of rfl rfl ?_
      clear hK hg
      go_simp
      simpa [updT, e29] using h
    · have e30 : t 30 = .string te := hg 30 ⟨_, rfl, ⟨30, .data⟩, by simp, rfl, rfl⟩
      refine wpOp_of rfl rfl ?_
      have HK := hid hK
      clear hK hg
      go_simp
      go_at_call 20
      refine (quoteS_any te X (by omega)).mono ?_
      rintro r Y ⟨rfl, hbY⟩
      have h := HK.out (.string (quS te)) Y rfl hbY
      simpa [updT, e30] using h
    · have e28 : t 28 = .string (cl ++ (⟨#[32]⟩ : ByteArray) ++ dS nn ++ (⟨#[32]⟩ : ByteArray) ++ dS oo ++ (⟨#[32]⟩ : ByteArray) ++ ki ++ (⟨#[32]⟩ : ByteArray) ++ na ++ (⟨#[32]⟩ : ByteArray) ++ dS ss ++ (⟨#[32]⟩ : ByteArray) ++ ho ++ (⟨#[32]⟩ : ByteArray)) := hg 28 ⟨_, rfl, ⟨28, .data⟩, by simp, rfl, rfl⟩
      have e31 : t 31 = .string (quS te) := hg 31 ⟨_, rfl, ⟨31, .data⟩, by simp, rfl, rfl⟩
      have h := hK (.string (cl ++ (⟨#[32]⟩ : ByteArray) ++ dS nn ++ (⟨#[32]⟩ : ByteArray) ++ dS oo ++ (⟨#[32]⟩ : ByteArray) ++ ki ++ (⟨#[32]⟩ : ByteArray) ++ na ++ (⟨#[32]⟩ : ByteArray) ++ dS ss ++ (⟨#[32]⟩ : ByteArray) ++ ho ++ (⟨#[32]⟩ : ByteArray) ++ quS te)) X rfl (Below.refl _ _)
      refine wpOp_of rfl rfl ?_
      clear hK hg
      go_simp
      rw [if_neg (by omega), Oper.upon_value]
      go_simp
      simpa [updT, e28, e31] using h
  · intro t X K hb hg hK
    have e32 : t 32 = .string (cl ++ (⟨#[32]⟩ : ByteArray) ++ dS nn ++ (⟨#[32]⟩ : ByteArray) ++ dS oo ++ (⟨#[32]⟩ : ByteArray) ++ ki ++ (⟨#[32]⟩ : ByteArray) ++ na ++ (⟨#[32]⟩ : ByteArray) ++ dS ss ++ (⟨#[32]⟩ : ByteArray) ++ ho ++ (⟨#[32]⟩ : ByteArray) ++ quS te) := hg 32 (by omega)
    have h := hK ⟨#[p0, .pointer (some ⟨C, 0, none⟩), p2, .pointer (some ⟨R, 0, none⟩), .string ho, .string s0, p6, p7, p8, p9, p10, p11, p12, p13, p14, p15, p16, p17, t 0, t 1, t 2, t 3, t 4, t 5, t 6, t 7, t 8, t 9, t 10, t 11, t 12, t 13, t 14, t 15, t 16, t 17, t 18, t 19, t 20, t 21, t 22, t 23, t 24, t 25, t 26, t 27, t 28, t 29, t 30, t 31, t 32, p51, p52, p53, p54], []⟩ X ⟨t, rfl, hb⟩
    rw [es0] at h
    refine wpOp_of rfl rfl ?_
    clear hK hg
    go_simp
    simpa [e32] using h
  · rintro a X ⟨t, rfl, hb⟩
    exact hQ t X hb
set_option maxRecDepth 100000 in
set_option maxHeartbeats 4000000 in
theorem l20Ok_one (cl : ByteArray) (num : Int) (A1 : Option Addr) (A3 A4 b off : Nat) (y : Wr) (w : World) (hcl : (cl.size : Int) ≤ 140737488355328) (hb : b < w.heap.size) (hy : WrCells w b off y) (hf : WrFit y) (h1 : nameB cl = true) (h2 : inB num 1 1000000 = true) :
    Calls Tryz.prog 19 #[.agg #[.string cl, .int .i64 num, .slice A1 0 A3, .slice (some ⟨b, off, none⟩) 1 A4]] w fun e w' => e = .returned (.bool (wrB y && decide (y.seen ≤ 1000000))) ∧ Below w.heap.size w w' := by
  obtain ⟨d0, d1, d2, d3, d4, d5⟩ := hy.below (below_alloc w (.cells #[.string cl, .int .i64 num, .slice A1 0 A3, .slice (some ⟨b, off, none⟩) 1 A4] 27)) hb
  have HF := hid hf
  clear hy hf
  cases hw : wrB y with
  | false =>
    go_enter Tryz.func19, Tryz.ntmps19
    go_wp2_with (first | (go_at_call 29; go_must (refine (nameOk_any _ _ hcl).mono ?_; rintro e w1 ⟨rfl, rfl⟩; rw [h1])) | (go_at_call 30; go_must (refine (in_any _ _ _ _).mono ?_; rintro e w1 ⟨rfl, rfl⟩; rw [h2])) | (go_at_call 31; go_must (refine (writeOk_any y HF.out _).mono ?_; rintro e w2 ⟨rfl, hb2⟩; rw [hw])))
    go_ret
    exact ⟨rfl, ((below_alloc _ _).alloc (by simp) _).trans (hb2.mono (by simp; omega))⟩
  | true =>
    have HE := hid (show (true && decide (y.seen ≤ 1000000)) = decide (y.seen ≤ 1000000) by simp)
    go_enter Tryz.func19, Tryz.ntmps19
    go_wp2_with (first | (go_at_call 29; go_must (refine (nameOk_any _ _ hcl).mono ?_; rintro e w1 ⟨rfl, rfl⟩; rw [h1])) | (go_at_call 30; go_must (refine (in_any _ _ _ _).mono ?_; rintro e w1 ⟨rfl, rfl⟩; rw [h2])) | (go_at_call 31; go_must (refine (writeOk_any y HF.out _).mono ?_; rintro e w2 ⟨rfl, hb2⟩; rw [hw]; have q3 := (hb2.cell (p := ⟨w.heap.size + 1, 3, none⟩) (by show w.heap.size + 1 < _; simp)))))
    go_ret
    exact ⟨rfl, ((below_alloc _ _).alloc (by simp) _).trans (hb2.mono (by simp; omega))⟩
set_option maxRecDepth 100000 in
set_option maxHeartbeats 4000000 in
theorem l20Ok_any (c : Bc) (A : BcA) (w : World) (lo hi : Nat) (hhi : hi ≤ w.heap.size) (hf : BcFit c) (hc : BcIn w lo hi c A) :
    Calls Tryz.prog 19 #[bcV c A] w fun e w' => e = .returned (.bool (okB c)) ∧ Below w.heap.size w w' := by
  have hcl := hf.cl
  have hrn := hf.rn
  have hwn := hf.wn
  have HF := hid hf
  have HC := hid hc
  clear hf hc
  cases h1 : nameB c.client with
  | false =>
    have HE := hid (show okB c = false by simp [okB, h1])
    go_enter Tryz.func19, Tryz.ntmps19
    go_wp2_with (first | (go_at_call 29; go_must (refine (nameOk_any _ _ hcl).mono ?_; rintro e w1 ⟨rfl, rfl⟩; rw [h1])))
    go_ret
    exact ⟨ret_bool HE.out.symm, below_alloc _ _⟩
  | true =>
  cases h2 : inB c.num 1 1000000 with
  | false =>
    have HE := hid (show okB c = false by simp [okB, h2])
    go_enter Tryz.func19, Tryz.ntmps19
    go_wp2_with (first | (go_at_call 29; go_must (refine (nameOk_any _ _ hcl).mono ?_; rintro e w1 ⟨rfl, rfl⟩; rw [h1])) | (go_at_call 30; go_must (refine (in_any _ _ _ _).mono ?_; rintro e w1 ⟨rfl, rfl⟩; rw [h2])))
    go_ret
    exact ⟨ret_bool HE.out.symm, below_alloc _ _⟩
  | true =>
  by_cases h3 : c.wn = 0
  · by_cases h4 : c.rn = 1
    · obtain ⟨b, off, e, hlo, hbh, hcx⟩ := HC.out.rs 0 (by omega)
      have HOK : okB c = (wrB (c.rs 0) && decide ((c.rs 0).seen ≤ 1000000)) := by simp [okB, h1, h2, h3, h4]
      rw [HOK]
      unfold bcV
      rw [h3, h4, e]
      simp only [Nat.zero_mul, Nat.add_zero] at hcx
      exact l20Ok_one c.client c.num A.wa A.wc A.rc b off (c.rs 0) w hcl (by omega) hcx (HF.out.rs 0 (by omega)) h1 h2
    · have HE := hid (show okB c = false by simp [okB, h4])
      have h4b : ((c.rn : Int) == 1) = false := by simp; omega
      have h4c : ((c.rn : Int) != 1) = true := by simp; omega
      have h3b : decide ((0 : Int) < (c.wn : Int)) = false := by simp [h3]
      go_enter Tryz.func19, Tryz.ntmps19
      go_wp2_with (first | (go_at_call 29; go_must (refine (nameOk_any _ _ hcl).mono ?_; rintro e w1 ⟨rfl, rfl⟩; rw [h1])) | (go_at_call 30; go_must (refine (in_any _ _ _ _).mono ?_; rintro e w1 ⟨rfl, rfl⟩; rw [h2])))
      go_ret
      exact ⟨ret_bool HE.out.symm, below_alloc _ _⟩
  · have HE := hid (show okB c = false by simp [okB, h3])
    have h3b : decide ((0 : Int) < (c.wn : Int)) = true := by simp; omega
    go_enter Tryz.func19, Tryz.ntmps19
    go_wp2_with (first | (go_at_call 29; go_must (refine (nameOk_any _ _ hcl).mono ?_; rintro e w1 ⟨rfl, rfl⟩; rw [h1])) | (go_at_call 30; go_must (refine (in_any _ _ _ _).mono ?_; rintro e w1 ⟨rfl, rfl⟩; rw [h2])))
    go_ret
    exact ⟨ret_bool HE.out.symm, below_alloc _ _⟩
set_option maxRecDepth 100000 in
set_option maxHeartbeats 4000000 in
theorem specForm_one (cl : ByteArray) (nn : Nat) (A1 : Option Addr) (A3 A4 b off : Nat) (y : Wr) (oo ss : Nat) (w : World) (hb : b < w.heap.size) (hy : WrCells w b off y) (eo : y.op = oo) (es : y.seen = ss) (z0 : (cl.size : Int) ≤ 20) (z1 : (y.kind.size : Int) ≤ 20) (z2 : (y.name.size : Int) ≤ 20) (z3 : (y.hold.size : Int) ≤ 20) (z4 : (y.text.size : Int) ≤ 300) (n0 : (nn : Int) ≤ 1000000) (n1 : (oo : Int) ≤ 1000000) (n2 : (ss : Int) ≤ 1000000)
    (hOK : ∀ W : World, Below w.heap.size w W → Calls Tryz.prog 19 #[.agg #[.string cl, .int .i64 nn, .slice A1 0 A3, .slice (some ⟨b, off, none⟩) 1 A4]] W fun e w' => e = .returned (.bool true) ∧ Below W.heap.size W w') :
    Calls Tryz.prog 12 #[.agg #[.string cl, .int .i64 nn, .slice A1 0 A3, .slice (some ⟨b, off, none⟩) 1 A4]] w fun e w' => e = .returned (.string (if ((formS cl y.kind y.name (holdS y.hold) y.text nn oo ss).size : Int) ≤ 100 then formS cl y.kind y.name (holdS y.hold) y.text nn oo ss else ⟨#[]⟩)) ∧ Below w.heap.size w w' := by
  have hB0 := below_alloc w (.cells #[.string cl, .int .i64 nn, .slice A1 0 A3, .slice (some ⟨b, off, none⟩) 1 A4] 27)
  have H0 := hid (holds_new w #[.string cl, .int .i64 nn, .slice A1 0 A3, .slice (some ⟨b, off, none⟩) 1 A4] 27)
  have hz0 : w.heap.size < (w.alloc (.cells #[.string cl, .int .i64 nn, .slice A1 0 A3, .slice (some ⟨b, off, none⟩) 1 A4] 27)).heap.size := by simp
  have HOK := hid (hOK _ hB0)
  have HY := hid hy
  obtain ⟨op, ki, na, se, te, ho⟩ := y
  dsimp only at eo es z1 z2 z3 z4 ⊢
  subst eo es
  clear hy hOK
  have z5 : ((holdS ho).size : Int) ≤ 20 := by
    unfold holdS
    split
    · decide
    · exact z3
  have y0 := dS_size n0
  have y1 := dS_size n1
  have y2 := dS_size n2
  have y3 := quS_size (s := te) (by omega)
  by_cases hh : ho = ⟨#[]⟩
  · subst hh
    rw [show holdS ⟨#[]⟩ = ⟨#[42]⟩ from if_pos rfl] at *
    obtain ⟨s0, hs0⟩ : ∃ s0, formS cl ki na ⟨#[42]⟩ te nn oo ss = s0 := ⟨_, rfl⟩
    rw [hs0]
    have HS0 := hid hs0
    obtain ⟨out, hout⟩ : ∃ out, (if (s0.size : Int) ≤ 100 then s0 else (⟨#[]⟩ : ByteArray)) = out := ⟨_, rfl⟩
    rw [hout]
    have HO := hid hout
    clear hout
    clear hs0
    go_enter Tryz.func12, Tryz.ntmps12
    go_wp2_with (go_at_call 19; go_must (refine HOK.out.mono ?_; rintro e w1 ⟨rfl, hb1⟩; have hB1 : Below w.heap.size w w1 := (hB0.trans (hb1.mono hB0.size)); have hz1 : w.heap.size < w1.heap.size := Nat.lt_of_lt_of_le hz0 hb1.size; obtain ⟨p0, p1, p2, p3⟩ := holds_four (H0.out.below hb1 hz0); obtain ⟨d0, d1, d2, d3, d4, d5⟩ := HY.out.below hB1 hb))
    obtain ⟨U, hU⟩ : ∃ U, w1.alloc (.cells #[.int .i64 oo, .string ki, .string na, .int .i64 ss, .string te, .string ⟨#[]⟩] 40) = U := ⟨_, rfl⟩
    have r0 : U.cell? ⟨w1.heap.size, 0, none⟩ = some (.int .i64 oo) := by rw [← hU]; simp
    have r1 : U.cell? ⟨w1.heap.size, 1, none⟩ = some (.string ki) := by rw [← hU]; simp
    have r2 : U.cell? ⟨w1.heap.size, 2, none⟩ = some (.string na) := by rw [← hU]; simp
    have r3 : U.cell? ⟨w1.heap.size, 3, none⟩ = some (.int .i64 ss) := by rw [← hU]; simp
    have r4 : U.cell? ⟨w1.heap.size, 4, none⟩ = some (.string te) := by rw [← hU]; simp
    have k0 : U.cell? ⟨w.heap.size, 0, none⟩ = some (.string cl) := by rw [← hU]; exact (World.cell?_alloc_past _ _ _ hz1).trans p0
    have k1 : U.cell? ⟨w.heap.size, 1, none⟩ = some (.int .i64 nn) := by rw [← hU]; exact (World.cell?_alloc_past _ _ _ hz1).trans p1
    have hUz : U.heap.size = w1.heap.size + 1 := by rw [← hU]; simp
    have hBU : Below w.heap.size w U := by rw [← hU]; exact hB1.alloc hB1.size _
    rw [hU]
    clear hU p0 p1 p2 p3 d0 d1 d2 d3 d4 d5
    refine lfReg7 _ _ _ _ _ _ _ _ _ _ _ _ _ _ _ _ _ _ _ _ _ _ _ _ _ _ _ _ _ _ _ _ _ _ _ _ _ _ _ _ _ _ _ _ _ _ _ _ _ _ _ _ cl ki na ⟨#[42]⟩ te nn oo ss w.heap.size w1.heap.size s0 U (by omega) (by omega) k0 k1 r0 r1 r2 r3 r4 (by omega) (by omega) (by omega) (by first | omega | decide) (by omega) n0 n1 n2 y0 y1 y2 y3 HS0.out.symm _ ?_
    intro t X hbX
    have hBX : Below w.heap.size w X := hBU.trans (hbX.mono hBU.size)
    clear r0 r1 r2 r3 r4 k0 k1 hbX
    by_cases hl : (s0.size : Int) ≤ 100
    · go_wp2
      go_ret
      exact ⟨by rw [← HO.out, if_pos hl]; rfl, hBX⟩
    · go_wp2
      go_ret
      exact ⟨by rw [← HO.out, if_neg (by omega)]; rfl, hBX⟩
  · rw [show holdS ho = ho from if_neg hh] at *
    have hie : ho.toList.isEmpty = false := by
      cases hq : ho.toList with
      | nil => exact absurd hq (em_list hh)
      | cons a l => rfl
    obtain ⟨s0, hs0⟩ : ∃ s0, formS cl ki na ho te nn oo ss = s0 := ⟨_, rfl⟩
    rw [hs0]
    have HS0 := hid hs0
    obtain ⟨out, hout⟩ : ∃ out, (if (s0.size : Int) ≤ 100 then s0 else (⟨#[]⟩ : ByteArray)) = out := ⟨_, rfl⟩
    rw [hout]
    have HO := hid hout
    clear hout
    clear hs0 hh
    go_enter Tryz.func12, Tryz.ntmps12
    go_wp2_with (go_at_call 19; go_must (refine HOK.out.mono ?_; rintro e w1 ⟨rfl, hb1⟩; have hB1 : Below w.heap.size w w1 := (hB0.trans (hb1.mono hB0.size)); have hz1 : w.heap.size < w1.heap.size := Nat.lt_of_lt_of_le hz0 hb1.size; obtain ⟨p0, p1, p2, p3⟩ := holds_four (H0.out.below hb1 hz0); obtain ⟨d0, d1, d2, d3, d4, d5⟩ := HY.out.below hB1 hb))
    obtain ⟨U, hU⟩ : ∃ U, w1.alloc (.cells #[.int .i64 oo, .string ki, .string na, .int .i64 ss, .string te, .string ho] 40) = U := ⟨_, rfl⟩
    have r0 : U.cell? ⟨w1.heap.size, 0, none⟩ = some (.int .i64 oo) := by rw [← hU]; simp
    have r1 : U.cell? ⟨w1.heap.size, 1, none⟩ = some (.string ki) := by rw [← hU]; simp
    have r2 : U.cell? ⟨w1.heap.size, 2, none⟩ = some (.string na) := by rw [← hU]; simp
    have r3 : U.cell? ⟨w1.heap.size, 3, none⟩ = some (.int .i64 ss) := by rw [← hU]; simp
    have r4 : U.cell? ⟨w1.heap.size, 4, none⟩ = some (.string te) := by rw [← hU]; simp
    have k0 : U.cell? ⟨w.heap.size, 0, none⟩ = some (.string cl) := by rw [← hU]; exact (World.cell?_alloc_past _ _ _ hz1).trans p0
    have k1 : U.cell? ⟨w.heap.size, 1, none⟩ = some (.int .i64 nn) := by rw [← hU]; exact (World.cell?_alloc_past _ _ _ hz1).trans p1
    have hUz : U.heap.size = w1.heap.size + 1 := by rw [← hU]; simp
    have hBU : Below w.heap.size w U := by rw [← hU]; exact hB1.alloc hB1.size _
    rw [hU]
    clear hU p0 p1 p2 p3 d0 d1 d2 d3 d4 d5
    refine lfReg7 _ _ _ _ _ _ _ _ _ _ _ _ _ _ _ _ _ _ _ _ _ _ _ _ _ _ _ _ _ _ _ _ _ _ _ _ _ _ _ _ _ _ _ _ _ _ _ _ _ _ _ _ cl ki na ho te nn oo ss w.heap.size w1.heap.size s0 U (by omega) (by omega) k0 k1 r0 r1 r2 r3 r4 (by omega) (by omega) (by omega) (by first | omega | decide) (by omega) n0 n1 n2 y0 y1 y2 y3 HS0.out.symm _ ?_
    intro t X hbX
    have hBX : Below w.heap.size w X := hBU.trans (hbX.mono hBU.size)
    clear r0 r1 r2 r3 r4 k0 k1 hbX
    by_cases hl : (s0.size : Int) ≤ 100
    · go_wp2
      go_ret
      exact ⟨by rw [← HO.out, if_pos hl]; rfl, hBX⟩
    · go_wp2
      go_ret
      exact ⟨by rw [← HO.out, if_neg (by omega)]; rfl, hBX⟩
set_option maxRecDepth 100000 in
set_option maxHeartbeats 1000000 in
theorem specForm_any (c : Bc) (A : BcA) (w : World) (lo hi : Nat) (hhi : hi ≤ w.heap.size) (hf : BcFit c) (hc : BcIn w lo hi c A) :
    Calls Tryz.prog 12 #[bcV c A] w fun e w' => e = .returned (.string (lfS c)) ∧ Below w.heap.size w w' := by
  have HOK := hid (fun (W : World) (hB : Below w.heap.size w W) => l20Ok_any c A W lo hi (Nat.le_trans hhi hB.size) hf (hc.below hB hhi))
  cases hk : okB c with
  | false =>
    have HE := hid (show lfS c = ⟨#[]⟩ from if_neg (fun h => by rw [hk] at h; cases h.1))
    rw [hk] at HOK
    clear hf hc
    go_enter Tryz.func12, Tryz.ntmps12
    go_wp2_with (go_at_call 19; go_must (refine (HOK.out _ (below_alloc _ _)).mono ?_; rintro e w1 ⟨rfl, hb1⟩))
    go_ret
    exact ⟨by rw [HE.out]; rfl, (below_alloc _ _).trans (hb1.mono (by simp))⟩
  | true =>
    have o := okC_of hk
    have HE : lfS c = if ((formC c).size : Int) ≤ 100 then formC c else ⟨#[]⟩ := by
      unfold lfS
      rw [hk]
      simp
    rw [hk] at HOK
    obtain ⟨b, off, e, hlo, hbh, hcx⟩ := hc.rs 0 (by rw [o.rn]; omega)
    simp only [Nat.zero_mul, Nat.add_zero] at hcx
    have en : c.num = (c.num.toNat : Int) := by have := o.n0; omega
    have e1 : bcV c A = .agg #[.string c.client, .int .i64 (c.num.toNat : Int), .slice A.wa 0 A.wc, .slice (some ⟨b, off, none⟩) 1 A.rc] := by
      unfold bcV
      rw [o.wn, o.rn, e, ← en]
    rw [HE, e1]
    rw [e1] at HOK
    exact specForm_one c.client c.num.toNat A.wa A.wc A.rc b off (c.rs 0) (c.rs 0).op.toNat (c.rs 0).seen.toNat w (by omega) hcx (by have := o.o0; omega) (by have := o.s0; omega) o.cl o.ki o.na o.ho o.te (by have := o.n1; omega) (by have := o.o1; omega) (by have := o.s1; omega) HOK.out
end Go.Proofs.YtcmimbohmninkaaGreatDoor
