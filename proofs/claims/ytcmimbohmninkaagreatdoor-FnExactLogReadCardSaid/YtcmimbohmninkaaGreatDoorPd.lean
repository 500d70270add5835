import Derived.Test.YtcmimbohmninkaaGreatDoorPc
import Derived.Test.YtcmimbohmninkaaGreatDoorRg
namespace Go.Proofs.YtcmimbohmninkaaGreatDoor
open Go.RowKit
theorem OwnB.below {W W' : World} {base : Nat} {v : Value} {l : List UInt8} (h : OwnB W base v l) (hb : Below W.heap.size W W') : OwnB W' base v l := World.ownsRow.kept h (grown_of_below hb) (Classical.em _)
theorem operB {o : Oper} {a : Act} {w : World} {K : Act → World → Prop} {Q : Exit → Act → World → Prop} (s x : Operand) (hop : o.op = Op.call { callee := Callee.builtin Builtin.append, args := #[s, x], argTypes := #[48, 48] })
    (base : Nat) (v : Value) (L M : List UInt8) (b : Nat) (hs : a.eval s = v) (hx : a.eval x = .slice (some ⟨b, 0, none⟩) M.length M.length) (ho : OwnB w base v L)
    (hc : ∀ j u, (Lib.byteCells M)[j]? = some u → w.cell? ((⟨b, 0, none⟩ : Addr).add j) = some u) (hl : (L.length : Int) + M.length ≤ 70368744177664) (hbase : base ≤ w.heap.size)
    (hK : ∀ v2 w2, OwnB w2 base v2 (L ++ M) → Below base w w2 → K (a.put o.dst v2) w2) : o.wp Tryz.prog a w K Q := by
  obtain ⟨v2, w2, hr, h2, h3⟩ := appB_run b ho hc hl hbase o.type
  unfold Oper.wp execOp
  simp only [hop, resolve, invoke, builtin, Sem.run_bind, Sem.run_pure, Result.andThen_ok, List.map_toArray, List.map_cons, List.map_nil, hs, hx, hr]
  exact hK v2 w2 h2 h3
def uqReg6G (s : ByteArray) (vv : Value) (l : List UInt8) (pp : Nat) (i : Nat) (v : Value) (_X : World) : Prop :=
  match i with
  | 0 => v = vv
  | 1 => v = .string ⟨l.toArray⟩
  | 2 => v = .string s
  | 3 => v = .int .i64 pp
  | 4 => v = .int .i64 ((pp : Int) + 1)
  | 5 => v = .string (s.extract (pp + 1) s.size)
  | 6 => v = .string ⟨l.toArray⟩
  | _ => True
set_option maxRecDepth 100000 in
set_option maxHeartbeats 4000000 in
theorem uqReg6 (p1 p3 p6 p7 p8 p9 p10 p11 p12 p13 p14 p15 p16 p23 p24 p25 p26 p27 p28 p29 p30 p31 p32 p33 p34 p35 p36 p37 p38 p39 p40 p41 p42 p43 p44 p45 p46 p47 p48 p49 p50 p51 p52 p53 p54 p55 p56 p57 p58 p59 p60 p61 p62 p63 p64 p65 p66 p67 p68 p69 p70 p71 p72 p73 p74 p75 : Value) (v0 v1 v2 v3 v4 v5 v6 : Value) (s : ByteArray) (vv : Value) (l : List UInt8) (pp : Nat) (W : World) (his : pp < s.size) (hs : (s.size : Int) ≤ 1048576) (hcv : ∀ X, Below W.heap.size W X → (convert 48 9 vv).run Tryz.prog X = .ok (.string ⟨l.toArray⟩) X) (Q : Exit → Act → World → Prop) (hQ : ∀ (t : Nat → Value) (v3 : Value) X, v3 = .string (s.extract (pp + 1) s.size) ∧ t 6 = .string ⟨l.toArray⟩ ∧ Below W.heap.size W X → Q .normal ⟨#[(.string s), p1, t 6, v3, vv, (.int .i64 pp), p6, p7, p8, p9, p10, p11, p12, p13, p14, p15, p16, t 0, t 1, t 2, t 3, t 4, t 5, p23, p24, p25, p26, p27, p28, p29, p30, p31, p32, p33, p34, p35, p36, p37, p38, p39, p40, p41, p42, p43, p44, p45, p46, p47, p48, p49, p50, p51, p52, p53, p54, p55, p56, p57, p58, p59, p60, p61, p62, p63, p64, p65, p66, p67, p68, p69, p70, p71, p72, p73, p74, p75], []⟩ X) :
    Code.wp Tryz.prog (Code.region 6 #[{ dst := some 17, op := Op.move (Operand.tmp 4), type := 48, pos := "l9_book_form.go:91", after := #[], guard := none }, { dst := some 18, op := Op.convert 48 9 (Operand.tmp 17), type := 9, pos := "l9_book_form.go:91", after := #[{ on := 0, ground := Ground.data }], guard := none }, { dst := some 19, op := Op.move (Operand.tmp 0), type := 9, pos := "l9_book_form.go:91", after := #[], guard := none }, { dst := some 20, op := Op.move (Operand.tmp 5), type := 3, pos := "l9_book_form.go:91", after := #[], guard := none }, { dst := some 21, op := Op.binOp BinOp.add 3 (Operand.tmp 20) (Operand.const (Value.int IntKind.i64 1)) 3, type := 3, pos := "l9_book_form.go:91", after := #[{ on := 3, ground := Ground.data }], guard := none }, { dst := some 22, op := Op.slice 9 (Operand.tmp 19) (some (Operand.tmp 21)) none none, type := 9, pos := "l9_book_form.go:91", after := #[{ on := 2, ground := Ground.data }, { on := 4, ground := Ground.data }], guard := none }, { dst := some 2, op := Op.assign (Operand.tmp 18), type := 9, pos := "l9_book_form.go:91", after := #[{ on := 1, ground := Ground.data }, { on := 0, ground := Ground.phase }, { on := 1, ground := Ground.phase }, { on := 2, ground := Ground.textOnly Departure.lateStores }, { on := 3, ground := Ground.textOnly Departure.lateStores }, { on := 4, ground := Ground.textOnly Departure.lateStores }, { on := 5, ground := Ground.textOnly Departure.lateStoresUnsure }], guard := none }, { dst := some 3, op := Op.assign (Operand.tmp 22), type := 9, pos := "l9_book_form.go:91", after := #[{ on := 5, ground := Ground.data }, { on := 6, ground := Ground.chain }, { on := 0, ground := Ground.phase }, { on := 1, ground := Ground.phase }, { on := 2, ground := Ground.phase }, { on := 3, ground := Ground.phase }, { on := 4, ground := Ground.phase }, { on := 5, ground := Ground.phase }, { on := 6, ground := Ground.phase }], guard := none }] true) Q ⟨#[(.string s), p1, v6, p3, vv, (.int .i64 pp), p6, p7, p8, p9, p10, p11, p12, p13, p14, p15, p16, v0, v1, v2, v3, v4, v5, p23, p24, p25, p26, p27, p28, p29, p30, p31, p32, p33, p34, p35, p36, p37, p38, p39, p40, p41, p42, p43, p44, p45, p46, p47, p48, p49, p50, p51, p52, p53, p54, p55, p56, p57, p58, p59, p60, p61, p62, p63, p64, p65, p66, p67, p68, p69, p70, p71, p72, p73, p74, p75], []⟩ W := by
  refine regionJ (by kernel_rfl) 7 (fun t : Nat → Value => #[(.string s), p1, t 6, p3, vv, (.int .i64 pp), p6, p7, p8, p9, p10, p11, p12, p13, p14, p15, p16, t 0, t 1, t 2, t 3, t 4, t 5, p23, p24, p25, p26, p27, p28, p29, p30, p31, p32, p33, p34, p35, p36, p37, p38, p39, p40, p41, p42, p43, p44, p45, p46, p47, p48, p49, p50, p51, p52, p53, p54, p55, p56, p57, p58, p59, p60, p61, p62, p63, p64, p65, p66, p67, p68, p69, p70, p71, p72, p73, p74, p75]) (fun i => match i with | 0 => v0 | 1 => v1 | 2 => v2 | 3 => v3 | 4 => v4 | 5 => v5 | _ => v6) (uqReg6G s vv l pp) (fun a X => ∃ (t : Nat → Value) (v3 : Value), a = ⟨#[(.string s), p1, t 6, v3, vv, (.int .i64 pp), p6, p7, p8, p9, p10, p11, p12, p13, p14, p15, p16, t 0, t 1, t 2, t 3, t 4, t 5, p23, p24, p25, p26, p27, p28, p29, p30, p31, p32, p33, p34, p35, p36, p37, p38, p39, p40, p41, p42, p43, p44, p45, p46, p47, p48, p49, p50, p51, p52, p53, p54, p55, p56, p57, p58, p59, p60, p61, p62, p63, p64, p65, p66, p67, p68, p69, p70, p71, p72, p73, p74, p75], []⟩ ∧ v3 = .string (s.extract (pp + 1) s.size) ∧ t 6 = .string ⟨l.toArray⟩ ∧ Below W.heap.size W X) (by kernel_rfl) (by kernel_rfl) (by kernel_rfl) ?_ rfl ?_ ?_ ?_
  · intro i v X Y hi h hb
    rcases (show i = 0 ∨ i = 1 ∨ i = 2 ∨ i = 3 ∨ i = 4 ∨ i = 5 ∨ i = 6 by omega) with rfl | rfl | rfl | rfl | rfl | rfl | rfl
    · exact h
    · exact h
    · exact h
    · exact h
    · exact h
    · exact h
    · exact h
  · intro i hi t X K hb hg hK
    rcases (show i = 0 ∨ i = 1 ∨ i = 2 ∨ i = 3 ∨ i = 4 ∨ i = 5 ∨ i = 6 by omega) with rfl | rfl | rfl | rfl | rfl | rfl | rfl
    · have h := hK (vv) X rfl (Below.refl _ _)
      refine wpOp_of rfl rfl ?_
      clear hK hg
      go_simp
      simpa [updT] using h
    · have e0 : t 0 = vv := hg 0 ⟨_, rfl, ⟨0, .data⟩, by simp, rfl, rfl⟩
      have q := hcv X hb
      have h := hK (.string ⟨l.toArray⟩) X rfl (Below.refl _ _)
      refine wpOp_of rfl rfl ?_
      clear hK hg
      go_simp
      simpa [updT, e0] using h
    · have h := hK (.string s) X rfl (Below.refl _ _)
      refine wpOp_of rfl rfl ?_
      clear hK hg
      go_simp
      simpa [updT] using h
    · have h := hK (.int .i64 pp) X rfl (Below.refl _ _)
      refine wpOp_of rfl rfl ?_
      clear hK hg
      go_simp
      simpa [updT] using h
    · have e3 : t 3 = .int .i64 pp := hg 3 ⟨_, rfl, ⟨3, .data⟩, by simp, rfl, rfl⟩
      have h := hK (.int .i64 ((pp : Int) + 1)) X rfl (Below.refl _ _)
      have hw : IntKind.i64.wrap ((pp : Int) + 1) = (pp : Int) + 1 := wrap_i64_le (by omega) (by omega)
      refine wpOp_of rfl rfl ?_
      clear hK hg
      go_simp
      simpa [updT, e3, hw] using h
    · have e2 : t 2 = .string s := hg 2 ⟨_, rfl, ⟨2, .data⟩, by simp, rfl, rfl⟩
      have e4 : t 4 = .int .i64 ((pp : Int) + 1) := hg 4 ⟨_, rfl, ⟨4, .data⟩, by simp, rfl, rfl⟩
      have h := hK (.string (s.extract (pp + 1) s.size)) X rfl (Below.refl _ _)
      refine wpOp_of rfl rfl ?_
      clear hK hg
      go_simp
      rw [if_pos (by omega)]
      go_simp
      simpa [updT, e2, e4] using h
    · have e1 : t 1 = .string ⟨l.toArray⟩ := hg 1 ⟨_, rfl, ⟨1, .data⟩, by simp, rfl, rfl⟩
      have h := hK (.string ⟨l.toArray⟩) X rfl (Below.refl _ _)
      refine wpOp_of rfl rfl ?_
      clear hK hg
      go_simp
      simpa [updT, e1] using h
  · intro t X K hb hg hK
    have e5 : t 5 = .string (s.extract (pp + 1) s.size) := hg 5 (by omega)
    have e6 : t 6 = .string ⟨l.toArray⟩ := hg 6 (by omega)
    refine wpOp_of rfl rfl ?_
    have HK := hid hK
    clear hK hg
    go_simp
    have h := HK.out _ X ⟨t, .string (s.extract (pp + 1) s.size), rfl, rfl, e6, hb⟩
    simpa [e5, e6] using h
  · rintro a X ⟨t, v3, rfl, hp⟩
    exact hQ t v3 X hp
def uqReg8G (s : ByteArray) (vv : Value) (_l : List UInt8) (pp : Nat) (bb : UInt8) (i : Nat) (v : Value) (X : World) : Prop :=
  match i with
  | 0 => v = vv
  | 1 => v = .string s
  | 2 => v = .int .i64 pp
  | 3 => v = .int .i64 ((pp : Int) + 1)
  | 4 => v = .int .u8 ((byteAt s (pp + 1)).toNat : Int)
  | 5 => v = .int .i64 (hexZ (byteAt s (pp + 1)).toNat)
  | 6 => v = .int .i64 (16 * hexZ (byteAt s (pp + 1)).toNat)
  | 7 => v = .string s
  | 8 => v = .int .i64 pp
  | 9 => v = .int .i64 ((pp : Int) + 2)
  | 10 => v = .int .u8 ((byteAt s (pp + 2)).toNat : Int)
  | 11 => v = .int .i64 (hexZ (byteAt s (pp + 2)).toNat)
  | 12 => v = .int .i64 (16 * hexZ (byteAt s (pp + 1)).toNat + hexZ (byteAt s (pp + 2)).toNat)
  | 13 => v = .int .u8 (bb.toNat : Int)
  | 14 => ∃ g, v = .slice (some ⟨g, 0, none⟩) 1 1 ∧ g < X.heap.size ∧ X.cell? ⟨g, 0, none⟩ = some (.int .u8 (bb.toNat : Int))
  | _ => True
set_option maxRecDepth 100000 in
set_option maxHeartbeats 4000000 in
theorem uqReg8 (p1 p2 p3 p6 p7 p8 p9 p10 p11 p12 p13 p14 p15 p16 p17 p18 p19 p20 p21 p22 p23 p24 p25 p26 p27 p28 p29 p30 p31 p32 p33 p34 p35 p36 p37 p38 p39 p40 p41 p42 p43 p44 p45 p46 p47 p48 p49 p65 p66 p67 p68 p69 p70 p71 p72 p73 p74 p75 : Value) (v0 v1 v2 v3 v4 v5 v6 v7 v8 v9 v10 v11 v12 v13 v14 : Value) (s : ByteArray) (vv : Value) (l : List UInt8) (pp : Nat) (bb : UInt8) (W : World) (base : Nat) (hbase : base ≤ W.heap.size) (his : pp + 2 < s.size) (hs : (s.size : Int) ≤ 1048576) (h1 : 0 ≤ hexZ (byteAt s (pp + 1)).toNat) (h1b : hexZ (byteAt s (pp + 1)).toNat ≤ 15) (h2 : 0 ≤ hexZ (byteAt s (pp + 2)).toNat) (h2b : hexZ (byteAt s (pp + 2)).toNat ≤ 15) (hbb : 16 * hexZ (byteAt s (pp + 1)).toNat + hexZ (byteAt s (pp + 2)).toNat = (bb.toNat : Int)) (hll : (l.length : Int) ≤ 1048576) (hO : OwnB W base vv l) (Q : Exit → Act → World → Prop) (hQ : ∀ (t : Nat → Value) (v3 : Value) X, (OwnB X base v3 (l ++ [bb]) ∧ Below base W X) → Q .normal ⟨#[(.string s), p1, p2, p3, v3, (.int .i64 pp), p6, p7, p8, p9, p10, p11, p12, p13, p14, p15, p16, p17, p18, p19, p20, p21, p22, p23, p24, p25, p26, p27, p28, p29, p30, p31, p32, p33, p34, p35, p36, p37, p38, p39, p40, p41, p42, p43, p44, p45, p46, p47, p48, p49, t 0, t 1, t 2, t 3, t 4, t 5, t 6, t 7, t 8, t 9, t 10, t 11, t 12, t 13, t 14, v3, p66, p67, p68, p69, p70, p71, p72, p73, p74, p75], []⟩ X) :
    Code.wp Tryz.prog (Code.region 8 #[{ dst := some 50, op := Op.move (Operand.tmp 4), type := 48, pos := "l9_book_form.go:94", after := #[], guard := none }, { dst := some 51, op := Op.move (Operand.tmp 0), type := 9, pos := "l9_book_form.go:94", after := #[], guard := none }, { dst := some 52, op := Op.move (Operand.tmp 5), type := 3, pos := "l9_book_form.go:94", after := #[], guard := none }, { dst := some 53, op := Op.binOp BinOp.add 3 (Operand.tmp 52) (Operand.const (Value.int IntKind.i64 1)) 3, type := 3, pos := "l9_book_form.go:94", after := #[{ on := 2, ground := Ground.data }], guard := none }, { dst := some 54, op := Op.index 9 (Operand.tmp 51) (Operand.tmp 53), type := 5, pos := "l9_book_form.go:94", after := #[{ on := 1, ground := Ground.data }, { on := 3, ground := Ground.data }], guard := none }, { dst := some 55, op := Op.call { callee := Callee.value (Operand.func 17), args := #[Operand.tmp 54], argTypes := #[5] }, type := 3, pos := "l9_book_form.go:94", after := #[{ on := 4, ground := Ground.data }], guard := none }, { dst := some 56, op := Op.binOp BinOp.mul 3 (Operand.const (Value.int IntKind.i64 16)) (Operand.tmp 55) 3, type := 3, pos := "l9_book_form.go:94", after := #[{ on := 5, ground := Ground.data }], guard := none }, { dst := some 57, op := Op.move (Operand.tmp 0), type := 9, pos := "l9_book_form.go:94", after := #[], guard := none }, { dst := some 58, op := Op.move (Operand.tmp 5), type := 3, pos := "l9_book_form.go:94", after := #[], guard := none }, { dst := some 59, op := Op.binOp BinOp.add 3 (Operand.tmp 58) (Operand.const (Value.int IntKind.i64 2)) 3, type := 3, pos := "l9_book_form.go:94", after := #[{ on := 8, ground := Ground.data }], guard := none }, { dst := some 60, op := Op.index 9 (Operand.tmp 57) (Operand.tmp 59), type := 5, pos := "l9_book_form.go:94", after := #[{ on := 7, ground := Ground.data }, { on := 9, ground := Ground.data }], guard := none }, { dst := some 61, op := Op.call { callee := Callee.value (Operand.func 17), args := #[Operand.tmp 60], argTypes := #[5] }, type := 3, pos := "l9_book_form.go:94", after := #[{ on := 10, ground := Ground.data }, { on := 5, ground := Ground.chain }], guard := none }, { dst := some 62, op := Op.binOp BinOp.add 3 (Operand.tmp 56) (Operand.tmp 61) 3, type := 3, pos := "l9_book_form.go:94", after := #[{ on := 6, ground := Ground.data }, { on := 11, ground := Ground.data }], guard := none }, { dst := some 63, op := Op.convert 3 5 (Operand.tmp 62), type := 5, pos := "l9_book_form.go:94", after := #[{ on := 12, ground := Ground.data }], guard := none }, { dst := some 64, op := Op.buildSlice 48 1 #[(0, Operand.tmp 63)], type := 48, pos := "l9_book_form.go:94", after := #[{ on := 13, ground := Ground.data }], guard := none }, { dst := some 65, op := Op.call { callee := Callee.builtin Builtin.append, args := #[Operand.tmp 50, Operand.tmp 64], argTypes := #[48, 48] }, type := 48, pos := "l9_book_form.go:94", after := #[{ on := 0, ground := Ground.data }, { on := 14, ground := Ground.data }, { on := 11, ground := Ground.chain }], guard := none }, { dst := some 4, op := Op.assign (Operand.tmp 65), type := 48, pos := "l9_book_form.go:94", after := #[{ on := 15, ground := Ground.data }, { on := 15, ground := Ground.chain }, { on := 0, ground := Ground.phase }, { on := 1, ground := Ground.phase }, { on := 2, ground := Ground.phase }, { on := 3, ground := Ground.phase }, { on := 4, ground := Ground.phase }, { on := 5, ground := Ground.phase }, { on := 6, ground := Ground.phase }, { on := 7, ground := Ground.phase }, { on := 8, ground := Ground.phase }, { on := 9, ground := Ground.phase }, { on := 10, ground := Ground.phase }, { on := 11, ground := Ground.phase }, { on := 12, ground := Ground.phase }, { on := 13, ground := Ground.phase }, { on := 14, ground := Ground.phase }, { on := 15, ground := Ground.phase }], guard := none }] true) Q ⟨#[(.string s), p1, p2, p3, vv, (.int .i64 pp), p6, p7, p8, p9, p10, p11, p12, p13, p14, p15, p16, p17, p18, p19, p20, p21, p22, p23, p24, p25, p26, p27, p28, p29, p30, p31, p32, p33, p34, p35, p36, p37, p38, p39, p40, p41, p42, p43, p44, p45, p46, p47, p48, p49, v0, v1, v2, v3, v4, v5, v6, v7, v8, v9, v10, v11, v12, v13, v14, p65, p66, p67, p68, p69, p70, p71, p72, p73, p74, p75], []⟩ W := by
  refine regionK (by kernel_rfl) 15 (fun t : Nat → Value => #[(.string s), p1, p2, p3, vv, (.int .i64 pp), p6, p7, p8, p9, p10, p11, p12, p13, p14, p15, p16, p17, p18, p19, p20, p21, p22, p23, p24, p25, p26, p27, p28, p29, p30, p31, p32, p33, p34, p35, p36, p37, p38, p39, p40, p41, p42, p43, p44, p45, p46, p47, p48, p49, t 0, t 1, t 2, t 3, t 4, t 5, t 6, t 7, t 8, t 9, t 10, t 11, t 12, t 13, t 14, p65, p66, p67, p68, p69, p70, p71, p72, p73, p74, p75]) (fun i => match i with | 0 => v0 | 1 => v1 | 2 => v2 | 3 => v3 | 4 => v4 | 5 => v5 | 6 => v6 | 7 => v7 | 8 => v8 | 9 => v9 | 10 => v10 | 11 => v11 | 12 => v12 | 13 => v13 | _ => v14) (uqReg8G s vv l pp bb) (fun a X => ∃ (t : Nat → Value) (v3 : Value), a = ⟨#[(.string s), p1, p2, p3, vv, (.int .i64 pp), p6, p7, p8, p9, p10, p11, p12, p13, p14, p15, p16, p17, p18, p19, p20, p21, p22, p23, p24, p25, p26, p27, p28, p29, p30, p31, p32, p33, p34, p35, p36, p37, p38, p39, p40, p41, p42, p43, p44, p45, p46, p47, p48, p49, t 0, t 1, t 2, t 3, t 4, t 5, t 6, t 7, t 8, t 9, t 10, t 11, t 12, t 13, t 14, v3, p66, p67, p68, p69, p70, p71, p72, p73, p74, p75], []⟩ ∧ (OwnB X base v3 (l ++ [bb]) ∧ Below base W X)) (fun a X => ∃ (t : Nat → Value) (v3 : Value), a = ⟨#[(.string s), p1, p2, p3, v3, (.int .i64 pp), p6, p7, p8, p9, p10, p11, p12, p13, p14, p15, p16, p17, p18, p19, p20, p21, p22, p23, p24, p25, p26, p27, p28, p29, p30, p31, p32, p33, p34, p35, p36, p37, p38, p39, p40, p41, p42, p43, p44, p45, p46, p47, p48, p49, t 0, t 1, t 2, t 3, t 4, t 5, t 6, t 7, t 8, t 9, t 10, t 11, t 12, t 13, t 14, v3, p66, p67, p68, p69, p70, p71, p72, p73, p74, p75], []⟩ ∧ (OwnB X base v3 (l ++ [bb]) ∧ Below base W X)) (by kernel_rfl) (by kernel_rfl) (by kernel_rfl) (by kernel_rfl) ?_ rfl ?_ ?_ ?_ ?_
  · intro i v X Y hi h hb
    rcases (show i = 0 ∨ i = 1 ∨ i = 2 ∨ i = 3 ∨ i = 4 ∨ i = 5 ∨ i = 6 ∨ i = 7 ∨ i = 8 ∨ i = 9 ∨ i = 10 ∨ i = 11 ∨ i = 12 ∨ i = 13 ∨ i = 14 by omega) with rfl | rfl | rfl | rfl | rfl | rfl | rfl | rfl | rfl | rfl | rfl | rfl | rfl | rfl | rfl
    · exact h
    · exact h
    · exact h
    · exact h
    · exact h
    · exact h
    · exact h
    · exact h
    · exact h
    · exact h
    · exact h
    · exact h
    · exact h
    · exact h
    · obtain ⟨g, e, hg0, h0⟩ := h
      exact ⟨g, e, Nat.lt_of_lt_of_le hg0 hb.size, (hb.cell (p := ⟨g, 0, none⟩) hg0).trans h0⟩
  · intro i hi t X K hb hg hK
    rcases (show i = 0 ∨ i = 1 ∨ i = 2 ∨ i = 3 ∨ i = 4 ∨ i = 5 ∨ i = 6 ∨ i = 7 ∨ i = 8 ∨ i = 9 ∨ i = 10 ∨ i = 11 ∨ i = 12 ∨ i = 13 ∨ i = 14 by omega) with rfl | rfl | rfl | rfl | rfl | rfl | rfl | rfl | rfl | rfl | rfl | rfl | rfl | rfl | rfl
    · have h := hK (vv) X rfl (Below.refl _ _)
      refine wpOp_of rfl rfl ?_
      clear hK hg
      go_simp
      simpa [updT] using h
    · have h := hK (.string s) X rfl (Below.refl _ _)
      refine wpOp_of rfl rfl ?_
      clear hK hg
      go_simp
      simpa [updT] using h
    · have h := hK (.int .i64 pp) X rfl (Below.refl _ _)
      refine wpOp_of rfl rfl ?_
      clear hK hg
      go_simp
      simpa [updT] using h
    · have e2 : t 2 = .int .i64 pp := hg 2 ⟨_, rfl, ⟨2, .data⟩, by simp, rfl, rfl⟩
      have h := hK (.int .i64 ((pp : Int) + 1)) X rfl (Below.refl _ _)
      have hw : IntKind.i64.wrap ((pp : Int) + 1) = (pp : Int) + 1 := wrap_i64_le (by omega) (by omega)
      refine wpOp_of rfl rfl ?_
      clear hK hg
      go_simp
      simpa [updT, e2, hw] using h
    · have e1 : t 1 = .string s := hg 1 ⟨_, rfl, ⟨1, .data⟩, by simp, rfl, rfl⟩
      have e3 : t 3 = .int .i64 ((pp : Int) + 1) := hg 3 ⟨_, rfl, ⟨3, .data⟩, by simp, rfl, rfl⟩
      have h := hK (.int .u8 ((byteAt s (pp + 1)).toNat : Int)) X rfl (Below.refl _ _)
      rw [byteAt_eq s (pp + 1) (by omega)] at h
      have hi : (0 : Int) ≤ (pp : Int) + 1 ∧ (pp : Int) + 1 < (s.size : Int) := by omega
      have hn : ((pp : Int) + 1).toNat = pp + 1 := by omega
      refine wpOp_of rfl rfl ?_
      clear hK hg
      go_simp
      simpa [updT, e1, e3, hn] using h
    · have e4 : t 4 = .int .u8 ((byteAt s (pp + 1)).toNat : Int) := hg 4 ⟨_, rfl, ⟨4, .data⟩, by simp, rfl, rfl⟩
      have hbY := Below.refl X.heap.size X
      refine wpOp_of rfl rfl ?_
      have HK := hid hK
      clear hK hg
      go_simp
      go_at_call 17
      refine (hexN_any (byteAt s (pp + 1)).toNat (UInt8.toNat_lt _) X).mono ?_
      rintro r Y ⟨rfl, rfl⟩
      have h := HK.out (.int .i64 (hexZ (byteAt s (pp + 1)).toNat)) Y rfl hbY
      simpa [updT, e4] using h
    · have e5 : t 5 = .int .i64 (hexZ (byteAt s (pp + 1)).toNat) := hg 5 ⟨_, rfl, ⟨5, .data⟩, by simp, rfl, rfl⟩
      have h := hK (.int .i64 (16 * hexZ (byteAt s (pp + 1)).toNat)) X rfl (Below.refl _ _)
      have hw : IntKind.i64.wrap (16 * hexZ (byteAt s (pp + 1)).toNat) = 16 * hexZ (byteAt s (pp + 1)).toNat := wrap_i64_le (by omega) (by omega)
      refine wpOp_of rfl rfl ?_
      clear hK hg
      go_simp
      simpa [updT, e5, hw] using h
    · have h := hK (.string s) X rfl (Below.refl _ _)
      refine wpOp_of rfl rfl ?_
      clear hK hg
      go_simp
      simpa [updT] using h
    · have h := hK (.int .i64 pp) X rfl (Below.refl _ _)
      refine wpOp_of rfl rfl ?_
      clear hK hg
      go_simp
      simpa [updT] using h
    · have e8 : t 8 = .int .i64 pp := hg 8 ⟨_, rfl, ⟨8, .data⟩, by simp, rfl, rfl⟩
      have h := hK (.int .i64 ((pp : Int) + 2)) X rfl (Below.refl _ _)
      have hw : IntKind.i64.wrap ((pp : Int) + 2) = (pp : Int) + 2 := wrap_i64_le (by omega) (by omega)
      refine wpOp_of rfl rfl ?_
      clear hK hg
      go_simp
      simpa [updT, e8, hw] using h
    · have e7 : t 7 = .string s := hg 7 ⟨_, rfl, ⟨7, .data⟩, by simp, rfl, rfl⟩
      have e9 : t 9 = .int .i64 ((pp : Int) + 2) := hg 9 ⟨_, rfl, ⟨9, .data⟩, by simp, rfl, rfl⟩
      have h := hK (.int .u8 ((byteAt s (pp + 2)).toNat : Int)) X rfl (Below.refl _ _)
      rw [byteAt_eq s (pp + 2) (by omega)] at h
      have hi : (0 : Int) ≤ (pp : Int) + 2 ∧ (pp : Int) + 2 < (s.size : Int) := by omega
      have hn : ((pp : Int) + 2).toNat = pp + 2 := by omega
      refine wpOp_of rfl rfl ?_
      clear hK hg
      go_simp
      simpa [updT, e7, e9, hn] using h
    · have e10 : t 10 = .int .u8 ((byteAt s (pp + 2)).toNat : Int) := hg 10 ⟨_, rfl, ⟨10, .data⟩, by simp, rfl, rfl⟩
      have hbY := Below.refl X.heap.size X
      refine wpOp_of rfl rfl ?_
      have HK := hid hK
      clear hK hg
      go_simp
      go_at_call 17
      refine (hexN_any (byteAt s (pp + 2)).toNat (UInt8.toNat_lt _) X).mono ?_
      rintro r Y ⟨rfl, rfl⟩
      have h := HK.out (.int .i64 (hexZ (byteAt s (pp + 2)).toNat)) Y rfl hbY
      simpa [updT, e10] using h
    · have e6 : t 6 = .int .i64 (16 * hexZ (byteAt s (pp + 1)).toNat) := hg 6 ⟨_, rfl, ⟨6, .data⟩, by simp, rfl, rfl⟩
      have e11 : t 11 = .int .i64 (hexZ (byteAt s (pp + 2)).toNat) := hg 11 ⟨_, rfl, ⟨11, .data⟩, by simp, rfl, rfl⟩
      have h := hK (.int .i64 (16 * hexZ (byteAt s (pp + 1)).toNat + hexZ (byteAt s (pp + 2)).toNat)) X rfl (Below.refl _ _)
      have hw : IntKind.i64.wrap (16 * hexZ (byteAt s (pp + 1)).toNat + hexZ (byteAt s (pp + 2)).toNat) = 16 * hexZ (byteAt s (pp + 1)).toNat + hexZ (byteAt s (pp + 2)).toNat := wrap_i64_le (by omega) (by omega)
      refine wpOp_of rfl rfl ?_
      clear hK hg hbb
      go_simp
      simpa [updT, e6, e11, hw] using h
    · have e12 : t 12 = .int .i64 (16 * hexZ (byteAt s (pp + 1)).toNat + hexZ (byteAt s (pp + 2)).toNat) := hg 12 ⟨_, rfl, ⟨12, .data⟩, by simp, rfl, rfl⟩
      have h := hK (.int .u8 (bb.toNat : Int)) X rfl (Below.refl _ _)
      have hb6 : bb.toNat < 256 := UInt8.toNat_lt _
      rw [hbb] at e12
      have hw : IntKind.u8.wrap (bb.toNat : Int) = (bb.toNat : Int) := wrap_u8_le (by omega) (by omega)
      refine wpOp_of rfl rfl ?_
      clear hK hg
      go_simp
      simpa [updT, e12, hw] using h
    · have e13 : t 13 = .int .u8 (bb.toNat : Int) := hg 13 ⟨_, rfl, ⟨13, .data⟩, by simp, rfl, rfl⟩
      have h := hK (.slice (some ⟨X.heap.size, 0, none⟩) 1 1) (X.alloc (.cells #[.int .u8 (bb.toNat : Int)] 5)) ⟨X.heap.size, rfl, by simp, by simp⟩ (below_alloc _ _)
      refine wpOp_of rfl rfl ?_
      clear hK hg
      go_simp
      simpa [updT, e13] using h
  · intro t X K hb hg hK
    have e0 : t 0 = vv := hg 0 (by omega)
    obtain ⟨g, e14, hg0, hc0⟩ := hg 14 (by omega)
    refine wpOp_of rfl rfl ?_
    refine operB (.tmp 50) (.tmp 64) rfl base (t 0) l [bb] g rfl (by rw [e14]; rfl) (by rw [e0]; exact OwnB.below hO hb) (by
      intro j u hu
      have : j = 0 := by
        rcases j with _ | j
        · rfl
        · simp [Lib.byteCells] at hu
      subst this
      simp [Lib.byteCells] at hu
      rw [← hu]
      simpa [Addr.add] using hc0) (by simp; omega) (Nat.le_trans hbase hb.size) (fun v3 w2 h1 h2 => ?_)
    have h := hK ⟨#[(.string s), p1, p2, p3, vv, (.int .i64 pp), p6, p7, p8, p9, p10, p11, p12, p13, p14, p15, p16, p17, p18, p19, p20, p21, p22, p23, p24, p25, p26, p27, p28, p29, p30, p31, p32, p33, p34, p35, p36, p37, p38, p39, p40, p41, p42, p43, p44, p45, p46, p47, p48, p49, t 0, t 1, t 2, t 3, t 4, t 5, t 6, t 7, t 8, t 9, t 10, t 11, t 12, t 13, t 14, v3, p66, p67, p68, p69, p70, p71, p72, p73, p74, p75], []⟩ w2 ⟨t, v3, rfl, h1, (hb.mono hbase).trans h2⟩
    exact h
  · rintro a X K ⟨t, v3, rfl, hp⟩ hK
    have h := hK ⟨#[(.string s), p1, p2, p3, v3, (.int .i64 pp), p6, p7, p8, p9, p10, p11, p12, p13, p14, p15, p16, p17, p18, p19, p20, p21, p22, p23, p24, p25, p26, p27, p28, p29, p30, p31, p32, p33, p34, p35, p36, p37, p38, p39, p40, p41, p42, p43, p44, p45, p46, p47, p48, p49, t 0, t 1, t 2, t 3, t 4, t 5, t 6, t 7, t 8, t 9, t 10, t 11, t 12, t 13, t 14, v3, p66, p67, p68, p69, p70, p71, p72, p73, p74, p75], []⟩ X ⟨t, v3, rfl, hp⟩
    refine wpOp_of rfl rfl ?_
    clear hK
    go_simp
    exact h
  · rintro a X ⟨t, v3, rfl, hp⟩
    exact hQ t v3 X hp
end Go.Proofs.YtcmimbohmninkaaGreatDoor
