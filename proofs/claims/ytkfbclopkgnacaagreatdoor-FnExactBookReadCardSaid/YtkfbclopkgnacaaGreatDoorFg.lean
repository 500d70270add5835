import Derived.Test.YtkfbclopkgnacaaGreatDoorFp
import Derived.Test.YtkfbclopkgnacaaGreatDoorPa
namespace Go.Proofs.YtkfbclopkgnacaaGreatDoor
open Go.RowKit
def headRegG (B : Nat) (na : Nat) (fl : Nat) (W : World) (i : Nat) (v : Value) (X : World) : Prop :=
  match i with
  | 0 => v = .pointer (some ⟨B, 0, none⟩)
  | 1 => v = .int .i64 na
  | 2 => v = .string (dS na)
  | 3 => v = .string ((⟨#[98, 111, 111, 107, 32]⟩ : ByteArray) ++ dS na)
  | 4 => v = .string ((⟨#[98, 111, 111, 107, 32]⟩ : ByteArray) ++ dS na ++ (⟨#[32]⟩ : ByteArray))
  | 5 => v = .pointer (some ⟨B, 1, none⟩)
  | 6 => v = .int .i64 fl
  | 7 => v = .string (dS fl)
  | 8 => v = .string ((⟨#[98, 111, 111, 107, 32]⟩ : ByteArray) ++ dS na ++ (⟨#[32]⟩ : ByteArray) ++ dS fl)
  | 9 => v = .string ((⟨#[98, 111, 111, 107, 32]⟩ : ByteArray) ++ dS na ++ (⟨#[32]⟩ : ByteArray) ++ dS fl ++ (⟨#[10]⟩ : ByteArray))
  | 10 => BL X W.heap.size v (headS na fl).data.toList
  | _ => True
set_option maxRecDepth 100000 in
set_option maxHeartbeats 4000000 in
theorem headReg (p0 p2 p3 p4 p5 p6 p7 p8 p9 p10 p11 p23 p24 p25 p26 p27 p28 p29 p30 p31 p32 p33 p34 p35 p36 p37 p38 p39 p40 p41 p42 p43 p44 p45 p46 p47 p48 p49 p50 p51 p52 p53 p54 p55 p56 p57 p58 p59 p60 p61 p62 p63 p64 p65 p66 p67 p68 p69 p70 p71 p72 p73 p74 p75 p76 p77 p78 p79 p80 p81 p82 p83 p84 p85 p86 p87 p88 p89 p90 p91 p92 p93 p94 p95 p96 p97 p98 p99 p100 p101 p102 p103 p104 p105 p106 : Value) (t0 : Nat → Value) (B : Nat) (na : Nat) (fl : Nat) (W : World) (hB : B < W.heap.size) (hc0 : W.cell? ⟨B, 0, none⟩ = some (.int .i64 na)) (hc1 : W.cell? ⟨B, 1, none⟩ = some (.int .i64 fl)) (hv : (na : Int) ≤ 1000000) (hbo : (fl : Int) ≤ 1000000) (zv : ((dS na).size : Int) ≤ 1000001) (zb : ((dS fl).size : Int) ≤ 1000001) (Q : Exit → Act → World → Prop) (hQ : ∀ (t : Nat → Value) (v3 : Value) X, Below W.heap.size W X → BL X W.heap.size v3 (headS na fl).data.toList → Q .normal ⟨#[p0, .pointer (some ⟨B, 0, none⟩), p2, v3, p4, p5, p6, p7, p8, p9, p10, p11, t 0, t 1, t 2, t 3, t 4, t 5, t 6, t 7, t 8, t 9, t 10, p23, p24, p25, p26, p27, p28, p29, p30, p31, p32, p33, p34, p35, p36, p37, p38, p39, p40, p41, p42, p43, p44, p45, p46, p47, p48, p49, p50, p51, p52, p53, p54, p55, p56, p57, p58, p59, p60, p61, p62, p63, p64, p65, p66, p67, p68, p69, p70, p71, p72, p73, p74, p75, p76, p77, p78, p79, p80, p81, p82, p83, p84, p85, p86, p87, p88, p89, p90, p91, p92, p93, p94, p95, p96, p97, p98, p99, p100, p101, p102, p103, p104, p105, p106], []⟩ X) :
    Code.wp Tryz.prog (Code.region 3 #[{ dst := some 12, op := Op.fieldAddr 26 (Operand.tmp 1) 0, type := 0, pos := "l9_book_form.go:24", after := #[], guard := none }, { dst := some 13, op := Op.load 3 (Operand.tmp 12), type := 3, pos := "l9_book_form.go:24", after := #[{ on := 0, ground := Ground.data }], guard := none }, { dst := some 14, op := Op.call { callee := Callee.value (Operand.func 26), args := #[Operand.tmp 13], argTypes := #[3] }, type := 9, pos := "l9_book_form.go:24", after := #[{ on := 1, ground := Ground.data }], guard := none }, { dst := some 15, op := Op.binOp BinOp.add 9 (Operand.const (Value.string { data := #[98, 111, 111, 107, 32] })) (Operand.tmp 14) 9, type := 9, pos := "l9_book_form.go:24", after := #[{ on := 2, ground := Ground.data }], guard := none }, { dst := some 16, op := Op.binOp BinOp.add 9 (Operand.tmp 15) (Operand.const (Value.string { data := #[32] })) 9, type := 9, pos := "l9_book_form.go:24", after := #[{ on := 3, ground := Ground.data }], guard := none }, { dst := some 17, op := Op.fieldAddr 26 (Operand.tmp 1) 1, type := 0, pos := "l9_book_form.go:24", after := #[], guard := none }, { dst := some 18, op := Op.load 3 (Operand.tmp 17), type := 3, pos := "l9_book_form.go:24", after := #[{ on := 5, ground := Ground.data }], guard := none }, { dst := some 19, op := Op.call { callee := Callee.value (Operand.func 26), args := #[Operand.tmp 18], argTypes := #[3] }, type := 9, pos := "l9_book_form.go:24", after := #[{ on := 6, ground := Ground.data }, { on := 2, ground := Ground.chain }], guard := none }, { dst := some 20, op := Op.binOp BinOp.add 9 (Operand.tmp 16) (Operand.tmp 19) 9, type := 9, pos := "l9_book_form.go:24", after := #[{ on := 4, ground := Ground.data }, { on := 7, ground := Ground.data }], guard := none }, { dst := some 21, op := Op.binOp BinOp.add 9 (Operand.tmp 20) (Operand.const (Value.string { data := #[10] })) 9, type := 9, pos := "l9_book_form.go:24", after := #[{ on := 8, ground := Ground.data }], guard := none }, { dst := some 22, op := Op.convert 9 54 (Operand.tmp 21), type := 54, pos := "l9_book_form.go:24", after := #[{ on := 9, ground := Ground.data }], guard := none }, { dst := some 3, op := Op.assign (Operand.tmp 22), type := 54, pos := "l9_book_form.go:24", after := #[{ on := 10, ground := Ground.data }, { on := 7, ground := Ground.chain }, { on := 0, ground := Ground.phase }, { on := 1, ground := Ground.phase }, { on := 2, ground := Ground.phase }, { on := 3, ground := Ground.phase }, { on := 4, ground := Ground.phase }, { on := 5, ground := Ground.phase }, { on := 6, ground := Ground.phase }, { on := 7, ground := Ground.phase }, { on := 8, ground := Ground.phase }, { on := 9, ground := Ground.phase }, { on := 10, ground := Ground.phase }], guard := none }] true) Q ⟨#[p0, .pointer (some ⟨B, 0, none⟩), p2, p3, p4, p5, p6, p7, p8, p9, p10, p11, t0 0, t0 1, t0 2, t0 3, t0 4, t0 5, t0 6, t0 7, t0 8, t0 9, t0 10, p23, p24, p25, p26, p27, p28, p29, p30, p31, p32, p33, p34, p35, p36, p37, p38, p39, p40, p41, p42, p43, p44, p45, p46, p47, p48, p49, p50, p51, p52, p53, p54, p55, p56, p57, p58, p59, p60, p61, p62, p63, p64, p65, p66, p67, p68, p69, p70, p71, p72, p73, p74, p75, p76, p77, p78, p79, p80, p81, p82, p83, p84, p85, p86, p87, p88, p89, p90, p91, p92, p93, p94, p95, p96, p97, p98, p99, p100, p101, p102, p103, p104, p105, p106], []⟩ W := by
  refine regionH (by kernel_rfl) 11 (fun t : Nat → Value => #[p0, .pointer (some ⟨B, 0, none⟩), p2, p3, p4, p5, p6, p7, p8, p9, p10, p11, t 0, t 1, t 2, t 3, t 4, t 5, t 6, t 7, t 8, t 9, t 10, p23, p24, p25, p26, p27, p28, p29, p30, p31, p32, p33, p34, p35, p36, p37, p38, p39, p40, p41, p42, p43, p44, p45, p46, p47, p48, p49, p50, p51, p52, p53, p54, p55, p56, p57, p58, p59, p60, p61, p62, p63, p64, p65, p66, p67, p68, p69, p70, p71, p72, p73, p74, p75, p76, p77, p78, p79, p80, p81, p82, p83, p84, p85, p86, p87, p88, p89, p90, p91, p92, p93, p94, p95, p96, p97, p98, p99, p100, p101, p102, p103, p104, p105, p106]) t0 (headRegG B na fl W) (fun a X => ∃ (t : Nat → Value) (v3 : Value), a = ⟨#[p0, .pointer (some ⟨B, 0, none⟩), p2, v3, p4, p5, p6, p7, p8, p9, p10, p11, t 0, t 1, t 2, t 3, t 4, t 5, t 6, t 7, t 8, t 9, t 10, p23, p24, p25, p26, p27, p28, p29, p30, p31, p32, p33, p34, p35, p36, p37, p38, p39, p40, p41, p42, p43, p44, p45, p46, p47, p48, p49, p50, p51, p52, p53, p54, p55, p56, p57, p58, p59, p60, p61, p62, p63, p64, p65, p66, p67, p68, p69, p70, p71, p72, p73, p74, p75, p76, p77, p78, p79, p80, p81, p82, p83, p84, p85, p86, p87, p88, p89, p90, p91, p92, p93, p94, p95, p96, p97, p98, p99, p100, p101, p102, p103, p104, p105, p106], []⟩ ∧ Below W.heap.size W X ∧ BL X W.heap.size v3 (headS na fl).data.toList) (by kernel_rfl) (by kernel_rfl) (by kernel_rfl) ?_ rfl ?_ ?_ ?_
  · intro i v X Y hi h hb
    rcases (show i = 0 ∨ i = 1 ∨ i = 2 ∨ i = 3 ∨ i = 4 ∨ i = 5 ∨ i = 6 ∨ i = 7 ∨ i = 8 ∨ i = 9 ∨ i = 10 by omega) with rfl | rfl | rfl | rfl | rfl | rfl | rfl | rfl | rfl | rfl | rfl
    · exact h
    · exact h
    · exact h
    · exact h
    · exact h
    · exact h
    · exact h
    · exact h
    · exact h
    · exact h
    · exact h.grow hb
  · intro i hi t X K hb hg hK
    rcases (show i = 0 ∨ i = 1 ∨ i = 2 ∨ i = 3 ∨ i = 4 ∨ i = 5 ∨ i = 6 ∨ i = 7 ∨ i = 8 ∨ i = 9 ∨ i = 10 by omega) with rfl | rfl | rfl | rfl | rfl | rfl | rfl | rfl | rfl | rfl | rfl
    · have h := hK (.pointer (some ⟨B, 0, none⟩)) X rfl (Below.refl _ _)
      refine wpOp_of rfl rfl ?_
      clear hK hg
      go_simp
      simpa [updT] using h
    · have e0 : t 0 = .pointer (some ⟨B, 0, none⟩) := hg 0 ⟨_, rfl, ⟨0, .data⟩, by simp, rfl, rfl⟩
      have q := (hb.cell (p := ⟨B, 0, none⟩) hB).trans hc0
      have h := hK (.int .i64 na) X rfl (Below.refl _ _)
      refine wpOp_of rfl rfl ?_
      clear hK hg
      go_simp
      simpa [updT, e0] using h
    · have e1 : t 1 = .int .i64 na := hg 1 ⟨_, rfl, ⟨1, .data⟩, by simp, rfl, rfl⟩
      refine wpOp_of rfl rfl ?_
      have HK := hid hK
      clear hK hg
      go_simp
      go_at_call 26
      refine (decS_any na (by omega) X).mono ?_
      rintro r Y ⟨rfl, hbY⟩
      have h := HK.out (.string (dS na)) Y rfl hbY
      simpa [updT, e1] using h
    · have e2 : t 2 = .string (dS na) := hg 2 ⟨_, rfl, ⟨2, .data⟩, by simp, rfl, rfl⟩
      have h := hK (.string ((⟨#[98, 111, 111, 107, 32]⟩ : ByteArray) ++ dS na)) X rfl (Below.refl _ _)
      refine wpOp_of rfl rfl ?_
      clear hK hg
      go_simp
      rw [if_neg (by omega), Oper.upon_value]
      go_simp
      simpa [updT, e2] using h
    · have e3 : t 3 = .string ((⟨#[98, 111, 111, 107, 32]⟩ : ByteArray) ++ dS na) := hg 3 ⟨_, rfl, ⟨3, .data⟩, by simp, rfl, rfl⟩
      have h := hK (.string ((⟨#[98, 111, 111, 107, 32]⟩ : ByteArray) ++ dS na ++ (⟨#[32]⟩ : ByteArray))) X rfl (Below.refl _ _)
      refine wpOp_of rfl rfl ?_
      clear hK hg
      go_simp
      rw [if_neg (by omega), Oper.upon_value]
      go_simp
      simpa [updT, e3] using h
    · have h := hK (.pointer (some ⟨B, 1, none⟩)) X rfl (Below.refl _ _)
      refine wpOp_of rfl rfl ?_
      clear hK hg
      go_simp
      simpa [updT] using h
    · have e5 : t 5 = .pointer (some ⟨B, 1, none⟩) := hg 5 ⟨_, rfl, ⟨5, .data⟩, by simp, rfl, rfl⟩
      have q := (hb.cell (p := ⟨B, 1, none⟩) hB).trans hc1
      have h := hK (.int .i64 fl) X rfl (Below.refl _ _)
      refine wpOp_of rfl rfl ?_
      clear hK hg
      go_simp
      simpa [updT, e5] using h
    · have e6 : t 6 = .int .i64 fl := hg 6 ⟨_, rfl, ⟨6, .data⟩, by simp, rfl, rfl⟩
      refine wpOp_of rfl rfl ?_
      have HK := hid hK
      clear hK hg
      go_simp
      go_at_call 26
      refine (decS_any fl (by omega) X).mono ?_
      rintro r Y ⟨rfl, hbY⟩
      have h := HK.out (.string (dS fl)) Y rfl hbY
      simpa [updT, e6] using h
    · have e4 : t 4 = .string ((⟨#[98, 111, 111, 107, 32]⟩ : ByteArray) ++ dS na ++ (⟨#[32]⟩ : ByteArray)) := hg 4 ⟨_, rfl, ⟨4, .data⟩, by simp, rfl, rfl⟩
      have e7 : t 7 = .string (dS fl) := hg 7 ⟨_, rfl, ⟨7, .data⟩, by simp, rfl, rfl⟩
      have h := hK (.string ((⟨#[98, 111, 111, 107, 32]⟩ : ByteArray) ++ dS na ++ (⟨#[32]⟩ : ByteArray) ++ dS fl)) X rfl (Below.refl _ _)
      refine wpOp_of rfl rfl ?_
      clear hK hg
      go_simp
      rw [if_neg (by omega), Oper.upon_value]
      go_simp
      simpa [updT, e4, e7] using h
    · have e8 : t 8 = .string ((⟨#[98, 111, 111, 107, 32]⟩ : ByteArray) ++ dS na ++ (⟨#[32]⟩ : ByteArray) ++ dS fl) := hg 8 ⟨_, rfl, ⟨8, .data⟩, by simp, rfl, rfl⟩
      have h := hK (.string ((⟨#[98, 111, 111, 107, 32]⟩ : ByteArray) ++ dS na ++ (⟨#[32]⟩ : ByteArray) ++ dS fl ++ (⟨#[10]⟩ : ByteArray))) X rfl (Below.refl _ _)
      refine wpOp_of rfl rfl ?_
      clear hK hg
      go_simp
      rw [if_neg (by omega), Oper.upon_value]
      go_simp
      simpa [updT, e8] using h
    · have e9 : t 9 = .string ((⟨#[98, 111, 111, 107, 32]⟩ : ByteArray) ++ dS na ++ (⟨#[32]⟩ : ByteArray) ++ dS fl ++ (⟨#[10]⟩ : ByteArray)) := hg 9 ⟨_, rfl, ⟨9, .data⟩, by simp, rfl, rfl⟩
      obtain ⟨v, Y, hrun, hBL, hbY⟩ := BL.new X ((⟨#[98, 111, 111, 107, 32]⟩ : ByteArray) ++ dS na ++ (⟨#[32]⟩ : ByteArray) ++ dS fl ++ (⟨#[10]⟩ : ByteArray))
      have h := hK v Y (hBL.mono hb.size) hbY
      refine wpOp_of rfl rfl ?_
      clear hK hg
      go_simp
      simpa [updT, e9] using h
  · intro t X K hb hg hK
    have g10 : BL X W.heap.size (t 10) (headS na fl).data.toList := hg 10 (by omega)
    have h := hK ⟨#[p0, .pointer (some ⟨B, 0, none⟩), p2, (t 10), p4, p5, p6, p7, p8, p9, p10, p11, t 0, t 1, t 2, t 3, t 4, t 5, t 6, t 7, t 8, t 9, t 10, p23, p24, p25, p26, p27, p28, p29, p30, p31, p32, p33, p34, p35, p36, p37, p38, p39, p40, p41, p42, p43, p44, p45, p46, p47, p48, p49, p50, p51, p52, p53, p54, p55, p56, p57, p58, p59, p60, p61, p62, p63, p64, p65, p66, p67, p68, p69, p70, p71, p72, p73, p74, p75, p76, p77, p78, p79, p80, p81, p82, p83, p84, p85, p86, p87, p88, p89, p90, p91, p92, p93, p94, p95, p96, p97, p98, p99, p100, p101, p102, p103, p104, p105, p106], []⟩ X ⟨t, t 10, rfl, hb, g10⟩
    refine wpOp_of rfl rfl ?_
    clear hK hg
    go_simp
    exact h
  · rintro a X ⟨t, v3, rfl, hb, hl⟩
    exact hQ t v3 X hb hl
def tickRegG (ti : Ti) (B : Nat) (nn : Nat) (cc : Nat) (vv : Nat) (v0 : Value) (i : Nat) (v : Value) (_X : World) : Prop :=
  match i with
  | 0 => v = v0
  | 1 => v = .pointer (some ⟨B, 0, none⟩)
  | 2 => v = .string ti.client
  | 3 => v = .string ((⟨#[116, 105, 99, 107, 101, 116, 32]⟩ : ByteArray) ++ ti.client)
  | 4 => v = .string ((⟨#[116, 105, 99, 107, 101, 116, 32]⟩ : ByteArray) ++ ti.client ++ (⟨#[32]⟩ : ByteArray))
  | 5 => v = .pointer (some ⟨B, 1, none⟩)
  | 6 => v = .int .i64 nn
  | 7 => v = .string (dS nn)
  | 8 => v = .string ((⟨#[116, 105, 99, 107, 101, 116, 32]⟩ : ByteArray) ++ ti.client ++ (⟨#[32]⟩ : ByteArray) ++ dS nn)
  | 9 => v = .string ((⟨#[116, 105, 99, 107, 101, 116, 32]⟩ : ByteArray) ++ ti.client ++ (⟨#[32]⟩ : ByteArray) ++ dS nn ++ (⟨#[32]⟩ : ByteArray))
  | 10 => v = .pointer (some ⟨B, 3, none⟩)
  | 11 => v = .int .i64 cc
  | 12 => v = .string (dS cc)
  | 13 => v = .string ((⟨#[116, 105, 99, 107, 101, 116, 32]⟩ : ByteArray) ++ ti.client ++ (⟨#[32]⟩ : ByteArray) ++ dS nn ++ (⟨#[32]⟩ : ByteArray) ++ dS cc)
  | 14 => v = .string ((⟨#[116, 105, 99, 107, 101, 116, 32]⟩ : ByteArray) ++ ti.client ++ (⟨#[32]⟩ : ByteArray) ++ dS nn ++ (⟨#[32]⟩ : ByteArray) ++ dS cc ++ (⟨#[32]⟩ : ByteArray))
  | 15 => v = .pointer (some ⟨B, 4, none⟩)
  | 16 => v = .int .i64 vv
  | 17 => v = .string (dS vv)
  | 18 => v = .string ((⟨#[116, 105, 99, 107, 101, 116, 32]⟩ : ByteArray) ++ ti.client ++ (⟨#[32]⟩ : ByteArray) ++ dS nn ++ (⟨#[32]⟩ : ByteArray) ++ dS cc ++ (⟨#[32]⟩ : ByteArray) ++ dS vv)
  | 19 => v = .string ((⟨#[116, 105, 99, 107, 101, 116, 32]⟩ : ByteArray) ++ ti.client ++ (⟨#[32]⟩ : ByteArray) ++ dS nn ++ (⟨#[32]⟩ : ByteArray) ++ dS cc ++ (⟨#[32]⟩ : ByteArray) ++ dS vv ++ (⟨#[32]⟩ : ByteArray))
  | 20 => v = .pointer (some ⟨B, 2, none⟩)
  | 21 => v = .string ti.print
  | 22 => v = .string (quS ti.print)
  | 23 => v = .string ((⟨#[116, 105, 99, 107, 101, 116, 32]⟩ : ByteArray) ++ ti.client ++ (⟨#[32]⟩ : ByteArray) ++ dS nn ++ (⟨#[32]⟩ : ByteArray) ++ dS cc ++ (⟨#[32]⟩ : ByteArray) ++ dS vv ++ (⟨#[32]⟩ : ByteArray) ++ quS ti.print)
  | 24 => v = .string ((⟨#[116, 105, 99, 107, 101, 116, 32]⟩ : ByteArray) ++ ti.client ++ (⟨#[32]⟩ : ByteArray) ++ dS nn ++ (⟨#[32]⟩ : ByteArray) ++ dS cc ++ (⟨#[32]⟩ : ByteArray) ++ dS vv ++ (⟨#[32]⟩ : ByteArray) ++ quS ti.print ++ (⟨#[10]⟩ : ByteArray))
  | _ => True
set_option maxRecDepth 100000 in
set_option maxHeartbeats 4000000 in
theorem tickReg (p0 p1 p2 p4 p5 p6 p7 p9 p10 p11 p12 p13 p14 p15 p16 p17 p18 p19 p20 p21 p22 p23 p24 p25 p26 p27 p28 p29 p30 p31 p32 p33 p34 p35 p36 p37 p38 p39 p40 p41 p42 p43 p44 p45 p46 p47 p48 p49 p50 p51 p52 p53 p54 p55 p56 p57 p58 p59 p60 p61 p62 p63 p64 p65 p66 p67 p68 p69 p70 p71 p72 p73 p74 p75 p101 p102 p103 p104 p105 p106 : Value) (t0 : Nat → Value) (ti : Ti) (B : Nat) (nn : Nat) (cc : Nat) (vv : Nat) (v0 : Value) (W : World) (hB : B < W.heap.size) (hc0 : W.cell? ⟨B, 0, none⟩ = some (.string ti.client)) (hc1 : W.cell? ⟨B, 1, none⟩ = some (.int .i64 nn)) (hc2 : W.cell? ⟨B, 2, none⟩ = some (.string ti.print)) (hc3 : W.cell? ⟨B, 3, none⟩ = some (.int .i64 cc)) (hc4 : W.cell? ⟨B, 4, none⟩ = some (.int .i64 vv)) (hn : (nn : Int) ≤ 1000000) (hcd : (cc : Int) ≤ 1000000) (hv : (vv : Int) ≤ 1000000) (zc : (ti.client.size : Int) ≤ 1000000) (zp : (ti.print.size : Int) ≤ 1000000) (zn : ((dS nn).size : Int) ≤ 1000001) (zcc : ((dS cc).size : Int) ≤ 1000001) (zv : ((dS vv).size : Int) ≤ 1000001) (zq : ((quS ti.print).size : Int) ≤ 3000002) (base : Nat) (L : List UInt8) (hbase : base ≤ W.heap.size) (hBL : BL W base v0 L) (zL : (L.length : Int) ≤ 1000000000000) (ln : ByteArray) (eln : ln = (⟨#[116, 105, 99, 107, 101, 116, 32]⟩ : ByteArray) ++ ti.client ++ (⟨#[32]⟩ : ByteArray) ++ dS nn ++ (⟨#[32]⟩ : ByteArray) ++ dS cc ++ (⟨#[32]⟩ : ByteArray) ++ dS vv ++ (⟨#[32]⟩ : ByteArray) ++ quS ti.print ++ (⟨#[10]⟩ : ByteArray)) (Q : Exit → Act → World → Prop) (hQ : ∀ (t : Nat → Value) (v3 : Value) X, (BL X base v3 (L ++ ln.data.toList) ∧ Below base W X) → Q .normal ⟨#[p0, p1, p2, v3, p4, p5, p6, p7, .pointer (some ⟨B, 0, none⟩), p9, p10, p11, p12, p13, p14, p15, p16, p17, p18, p19, p20, p21, p22, p23, p24, p25, p26, p27, p28, p29, p30, p31, p32, p33, p34, p35, p36, p37, p38, p39, p40, p41, p42, p43, p44, p45, p46, p47, p48, p49, p50, p51, p52, p53, p54, p55, p56, p57, p58, p59, p60, p61, p62, p63, p64, p65, p66, p67, p68, p69, p70, p71, p72, p73, p74, p75, t 0, t 1, t 2, t 3, t 4, t 5, t 6, t 7, t 8, t 9, t 10, t 11, t 12, t 13, t 14, t 15, t 16, t 17, t 18, t 19, t 20, t 21, t 22, t 23, t 24, v3, p102, p103, p104, p105, p106], []⟩ X) :
    Code.wp Tryz.prog (Code.region 19 #[{ dst := some 76, op := Op.move (Operand.tmp 3), type := 54, pos := "l9_book_form.go:37", after := #[], guard := none }, { dst := some 77, op := Op.fieldAddr 45 (Operand.tmp 8) 0, type := 0, pos := "l9_book_form.go:37", after := #[], guard := none }, { dst := some 78, op := Op.load 9 (Operand.tmp 77), type := 9, pos := "l9_book_form.go:37", after := #[{ on := 1, ground := Ground.data }], guard := none }, { dst := some 79, op := Op.binOp BinOp.add 9 (Operand.const (Value.string { data := #[116, 105, 99, 107, 101, 116, 32] })) (Operand.tmp 78) 9, type := 9, pos := "l9_book_form.go:37", after := #[{ on := 2, ground := Ground.data }], guard := none }, { dst := some 80, op := Op.binOp BinOp.add 9 (Operand.tmp 79) (Operand.const (Value.string { data := #[32] })) 9, type := 9, pos := "l9_book_form.go:37", after := #[{ on := 3, ground := Ground.data }], guard := none }, { dst := some 81, op := Op.fieldAddr 45 (Operand.tmp 8) 1, type := 0, pos := "l9_book_form.go:37", after := #[], guard := none }, { dst := some 82, op := Op.load 3 (Operand.tmp 81), type := 3, pos := "l9_book_form.go:37", after := #[{ on := 5, ground := Ground.data }], guard := none }, { dst := some 83, op := Op.call { callee := Callee.value (Operand.func 26), args := #[Operand.tmp 82], argTypes := #[3] }, type := 9, pos := "l9_book_form.go:37", after := #[{ on := 6, ground := Ground.data }], guard := none }, { dst := some 84, op := Op.binOp BinOp.add 9 (Operand.tmp 80) (Operand.tmp 83) 9, type := 9, pos := "l9_book_form.go:37", after := #[{ on := 4, ground := Ground.data }, { on := 7, ground := Ground.data }], guard := none }, { dst := some 85, op := Op.binOp BinOp.add 9 (Operand.tmp 84) (Operand.const (Value.string { data := #[32] })) 9, type := 9, pos := "l9_book_form.go:37", after := #[{ on := 8, ground := Ground.data }], guard := none }, { dst := some 86, op := Op.fieldAddr 45 (Operand.tmp 8) 3, type := 0, pos := "l9_book_form.go:37", after := #[], guard := none }, { dst := some 87, op := Op.load 3 (Operand.tmp 86), type := 3, pos := "l9_book_form.go:37", after := #[{ on := 10, ground := Ground.data }], guard := none }, { dst := some 88, op := Op.call { callee := Callee.value (Operand.func 26), args := #[Operand.tmp 87], argTypes := #[3] }, type := 9, pos := "l9_book_form.go:37", after := #[{ on := 11, ground := Ground.data }, { on := 7, ground := Ground.chain }], guard := none }, { dst := some 89, op := Op.binOp BinOp.add 9 (Operand.tmp 85) (Operand.tmp 88) 9, type := 9, pos := "l9_book_form.go:37", after := #[{ on := 9, ground := Ground.data }, { on := 12, ground := Ground.data }], guard := none }, { dst := some 90, op := Op.binOp BinOp.add 9 (Operand.tmp 89) (Operand.const (Value.string { data := #[32] })) 9, type := 9, pos := "l9_book_form.go:37", after := #[{ on := 13, ground := Ground.data }], guard := none }, { dst := some 91, op := Op.fieldAddr 45 (Operand.tmp 8) 4, type := 0, pos := "l9_book_form.go:37", after := #[], guard := none }, { dst := some 92, op := Op.load 3 (Operand.tmp 91), type := 3, pos := "l9_book_form.go:37", after := #[{ on := 15, ground := Ground.data }], guard := none }, { dst := some 93, op := Op.call { callee := Callee.value (Operand.func 26), args := #[Operand.tmp 92], argTypes := #[3] }, type := 9, pos := "l9_book_form.go:37", after := #[{ on := 16, ground := Ground.data }, { on := 12, ground := Ground.chain }], guard := none }, { dst := some 94, op := Op.binOp BinOp.add 9 (Operand.tmp 90) (Operand.tmp 93) 9, type := 9, pos := "l9_book_form.go:37", after := #[{ on := 14, ground := Ground.data }, { on := 17, ground := Ground.data }], guard := none }, { dst := some 95, op := Op.binOp BinOp.add 9 (Operand.tmp 94) (Operand.const (Value.string { data := #[32] })) 9, type := 9, pos := "l9_book_form.go:37", after := #[{ on := 18, ground := Ground.data }], guard := none }, { dst := some 96, op := Op.fieldAddr 45 (Operand.tmp 8) 2, type := 0, pos := "l9_book_form.go:37", after := #[], guard := none }, { dst := some 97, op := Op.load 9 (Operand.tmp 96), type := 9, pos := "l9_book_form.go:37", after := #[{ on := 20, ground := Ground.data }], guard := none }, { dst := some 98, op := Op.call { callee := Callee.value (Operand.func 30), args := #[Operand.tmp 97], argTypes := #[9] }, type := 9, pos := "l9_book_form.go:37", after := #[{ on := 21, ground := Ground.data }, { on := 17, ground := Ground.chain }], guard := none }, { dst := some 99, op := Op.binOp BinOp.add 9 (Operand.tmp 95) (Operand.tmp 98) 9, type := 9, pos := "l9_book_form.go:37", after := #[{ on := 19, ground := Ground.data }, { on := 22, ground := Ground.data }], guard := none }, { dst := some 100, op := Op.binOp BinOp.add 9 (Operand.tmp 99) (Operand.const (Value.string { data := #[10] })) 9, type := 9, pos := "l9_book_form.go:37", after := #[{ on := 23, ground := Ground.data }], guard := none }, { dst := some 101, op := Op.call { callee := Callee.builtin Builtin.append, args := #[Operand.tmp 76, Operand.tmp 100], argTypes := #[54, 9] }, type := 54, pos := "l9_book_form.go:37", after := #[{ on := 0, ground := Ground.data }, { on := 24, ground := Ground.data }, { on := 22, ground := Ground.chain }], guard := none }, { dst := some 3, op := Op.assign (Operand.tmp 101), type := 54, pos := "l9_book_form.go:37", after := #[{ on := 25, ground := Ground.data }, { on := 25, ground := Ground.chain }, { on := 0, ground := Ground.phase }, { on := 1, ground := Ground.phase }, { on := 2, ground := Ground.phase }, { on := 3, ground := Ground.phase }, { on := 4, ground := Ground.phase }, { on := 5, ground := Ground.phase }, { on := 6, ground := Ground.phase }, { on := 7, ground := Ground.phase }, { on := 8, ground := Ground.phase }, { on := 9, ground := Ground.phase }, { on := 10, ground := Ground.phase }, { on := 11, ground := Ground.phase }, { on := 12, ground := Ground.phase }, { on := 13, ground := Ground.phase }, { on := 14, ground := Ground.phase }, { on := 15, ground := Ground.phase }, { on := 16, ground := Ground.phase }, { on := 17, ground := Ground.phase }, { on := 18, ground := Ground.phase }, { on := 19, ground := Ground.phase }, { on := 20, ground := Ground.phase }, { on := 21, ground := Ground.phase }, { on := 22, ground := Ground.phase }, { on := 23, ground := Ground.phase }, { on := 24, ground := Ground.phase }, { on := 25, ground := Ground.phase }], guard := none }] true) Q ⟨#[p0, p1, p2, v0, p4, p5, p6, p7, .pointer (some ⟨B, 0, none⟩), p9, p10, p11, p12, p13, p14, p15, p16, p17, p18, p19, p20, p21, p22, p23, p24, p25, p26, p27, p28, p29, p30, p31, p32, p33, p34, p35, p36, p37, p38, p39, p40, p41, p42, p43, p44, p45, p46, p47, p48, p49, p50, p51, p52, p53, p54, p55, p56, p57, p58, p59, p60, p61, p62, p63, p64, p65, p66, p67, p68, p69, p70, p71, p72, p73, p74, p75, t0 0, t0 1, t0 2, t0 3, t0 4, t0 5, t0 6, t0 7, t0 8, t0 9, t0 10, t0 11, t0 12, t0 13, t0 14, t0 15, t0 16, t0 17, t0 18, t0 19, t0 20, t0 21, t0 22, t0 23, t0 24, p101, p102, p103, p104, p105, p106], []⟩ W := by
  refine regionK (by kernel_rfl) 25 (fun t : Nat → Value => #[p0, p1, p2, v0, p4, p5, p6, p7, .pointer (some ⟨B, 0, none⟩), p9, p10, p11, p12, p13, p14, p15, p16, p17, p18, p19, p20, p21, p22, p23, p24, p25, p26, p27, p28, p29, p30, p31, p32, p33, p34, p35, p36, p37, p38, p39, p40, p41, p42, p43, p44, p45, p46, p47, p48, p49, p50, p51, p52, p53, p54, p55, p56, p57, p58, p59, p60, p61, p62, p63, p64, p65, p66, p67, p68, p69, p70, p71, p72, p73, p74, p75, t 0, t 1, t 2, t 3, t 4, t 5, t 6, t 7, t 8, t 9, t 10, t 11, t 12, t 13, t 14, t 15, t 16, t 17, t 18, t 19, t 20, t 21, t 22, t 23, t 24, p101, p102, p103, p104, p105, p106]) t0 (tickRegG ti B nn cc vv v0) (fun a X => ∃ (t : Nat → Value) (v3 : Value), a = ⟨#[p0, p1, p2, v0, p4, p5, p6, p7, .pointer (some ⟨B, 0, none⟩), p9, p10, p11, p12, p13, p14, p15, p16, p17, p18, p19, p20, p21, p22, p23, p24, p25, p26, p27, p28, p29, p30, p31, p32, p33, p34, p35, p36, p37, p38, p39, p40, p41, p42, p43, p44, p45, p46, p47, p48, p49, p50, p51, p52, p53, p54, p55, p56, p57, p58, p59, p60, p61, p62, p63, p64, p65, p66, p67, p68, p69, p70, p71, p72, p73, p74, p75, t 0, t 1, t 2, t 3, t 4, t 5, t 6, t 7, t 8, t 9, t 10, t 11, t 12, t 13, t 14, t 15, t 16, t 17, t 18, t 19, t 20, t 21, t 22, t 23, t 24, v3, p102, p103, p104, p105, p106], []⟩ ∧ (BL X base v3 (L ++ ln.data.toList) ∧ Below base W X)) (fun a X => ∃ (t : Nat → Value) (v3 : Value), a = ⟨#[p0, p1, p2, v3, p4, p5, p6, p7, .pointer (some ⟨B, 0, none⟩), p9, p10, p11, p12, p13, p14, p15, p16, p17, p18, p19, p20, p21, p22, p23, p24, p25, p26, p27, p28, p29, p30, p31, p32, p33, p34, p35, p36, p37, p38, p39, p40, p41, p42, p43, p44, p45, p46, p47, p48, p49, p50, p51, p52, p53, p54, p55, p56, p57, p58, p59, p60, p61, p62, p63, p64, p65, p66, p67, p68, p69, p70, p71, p72, p73, p74, p75, t 0, t 1, t 2, t 3, t 4, t 5, t 6, t 7, t 8, t 9, t 10, t 11, t 12, t 13, t 14, t 15, t 16, t 17, t 18, t 19, t 20, t 21, t 22, t 23, t 24, v3, p102, p103, p104, p105, p106], []⟩ ∧ (BL X base v3 (L ++ ln.data.toList) ∧ Below base W X)) (by kernel_rfl) (by kernel_rfl) (by kernel_rfl) (by kernel_rfl) ?_ rfl ?_ ?_ ?_ ?_
  · intro i v X Y hi h hb
    rcases (show i = 0 ∨ i = 1 ∨ i = 2 ∨ i = 3 ∨ i = 4 ∨ i = 5 ∨ i = 6 ∨ i = 7 ∨ i = 8 ∨ i = 9 ∨ i = 10 ∨ i = 11 ∨ i = 12 ∨ i = 13 ∨ i = 14 ∨ i = 15 ∨ i = 16 ∨ i = 17 ∨ i = 18 ∨ i = 19 ∨ i = 20 ∨ i = 21 ∨ i = 22 ∨ i = 23 ∨ i = 24 by omega) with rfl | rfl | rfl | rfl | rfl | rfl | rfl | rfl | rfl | rfl | rfl | rfl | rfl | rfl | rfl | rfl | rfl | rfl | rfl | rfl | rfl | rfl | rfl | rfl | rfl
    · exact h
    · exact h
    · exact h
    · exact h
    · exact h
    · exact h
    · exact h
    · exact h
    · exact h
    · exact h
    · exact h
    · exact h
    · exact h
    · exact h
    · exact h
    · exact h
    · exact h
    · exact h
    · exact h
    · exact h
    · exact h
    · exact h
    · exact h
    · exact h
    · exact h
  · intro i hi t X K hb hg hK
    rcases (show i = 0 ∨ i = 1 ∨ i = 2 ∨ i = 3 ∨ i = 4 ∨ i = 5 ∨ i = 6 ∨ i = 7 ∨ i = 8 ∨ i = 9 ∨ i = 10 ∨ i = 11 ∨ i = 12 ∨ i = 13 ∨ i = 14 ∨ i = 15 ∨ i = 16 ∨ i = 17 ∨ i = 18 ∨ i = 19 ∨ i = 20 ∨ i = 21 ∨ i = 22 ∨ i = 23 ∨ i = 24 by omega) with rfl | rfl | rfl | rfl | rfl | rfl | rfl | rfl | rfl | rfl | rfl | rfl | rfl | rfl | rfl | rfl | rfl | rfl | rfl | rfl | rfl | rfl | rfl | rfl | rfl
    · have h := hK (v0) X rfl (Below.refl _ _)
      refine wpOp_of rfl rfl ?_
      clear hK hg
      go_simp
      simpa [updT] using h
    · have h := hK (.pointer (some ⟨B, 0, none⟩)) X rfl (Below.refl _ _)
      refine wpOp_of rfl rfl ?_
      clear hK hg
      go_simp
      simpa [updT] using h
    · have e1 : t 1 = .pointer (some ⟨B, 0, none⟩) := hg 1 ⟨_, rfl, ⟨1, .data⟩, by simp, rfl, rfl⟩
      have q := (hb.cell (p := ⟨B, 0, none⟩) hB).trans hc0
      have h := hK (.string ti.client) X rfl (Below.refl _ _)
      refine wpOp_of rfl rfl ?_
      clear hK hg
      go_simp
      simpa [updT, e1] using h
    · have e2 : t 2 = .string ti.client := hg 2 ⟨_, rfl, ⟨2, .data⟩, by simp, rfl, rfl⟩
      have h := hK (.string ((⟨#[116, 105, 99, 107, 101, 116, 32]⟩ : ByteArray) ++ ti.client)) X rfl (Below.refl _ _)
      refine wpOp_of rfl rfl ?_
      clear hK hg
      go_simp
      rw [if_neg (by omega), Oper.upon_value]
      go_simp
      simpa [updT, e2] using h
    · have e3 : t 3 = .string ((⟨#[116, 105, 99, 107, 101, 116, 32]⟩ : ByteArray) ++ ti.client) := hg 3 ⟨_, rfl, ⟨3, .data⟩, by simp, rfl, rfl⟩
      have h := hK (.string ((⟨#[116, 105, 99, 107, 101, 116, 32]⟩ : ByteArray) ++ ti.client ++ (⟨#[32]⟩ : ByteArray))) X rfl (Below.refl _ _)
      refine wpOp_of rfl rfl ?_
      clear hK hg
      go_simp
      rw [if_neg (by omega), Oper.upon_value]
      go_simp
      simpa [updT, e3] using h
    · have h := hK (.pointer (some ⟨B, 1, none⟩)) X rfl (Below.refl _ _)
      refine wpOp_of rfl rfl ?_
      clear hK hg
      go_simp
      simpa [updT] using h
    · have e5 : t 5 = .pointer (some ⟨B, 1, none⟩) := hg 5 ⟨_, rfl, ⟨5, .data⟩, by simp, rfl, rfl⟩
      have q := (hb.cell (p := ⟨B, 1, none⟩) hB).trans hc1
      have h := hK (.int .i64 nn) X rfl (Below.refl _ _)
      refine wpOp_of rfl rfl ?_
      clear hK hg
      go_simp
      simpa [updT, e5] using h
    · have e6 : t 6 = .int .i64 nn := hg 6 ⟨_, rfl, ⟨6, .data⟩, by simp, rfl, rfl⟩
      refine wpOp_of rfl rfl ?_
      have HK := hid hK
      clear hK hg
      go_simp
      go_at_call 26
      refine (decS_any nn (by omega) X).mono ?_
      rintro r Y ⟨rfl, hbY⟩
      have h := HK.out (.string (dS nn)) Y rfl hbY
      simpa [updT, e6] using h
    · have e4 : t 4 = .string ((⟨#[116, 105, 99, 107, 101, 116, 32]⟩ : ByteArray) ++ ti.client ++ (⟨#[32]⟩ : ByteArray)) := hg 4 ⟨_, rfl, ⟨4, .data⟩, by simp, rfl, rfl⟩
      have e7 : t 7 = .string (dS nn) := hg 7 ⟨_, rfl, ⟨7, .data⟩, by simp, rfl, rfl⟩
      have h := hK (.string ((⟨#[116, 105, 99, 107, 101, 116, 32]⟩ : ByteArray) ++ ti.client ++ (⟨#[32]⟩ : ByteArray) ++ dS nn)) X rfl (Below.refl _ _)
      refine wpOp_of rfl rfl ?_
      clear hK hg
      go_simp
      rw [if_neg (by omega), Oper.upon_value]
      go_simp
      simpa [updT, e4, e7] using h
    · have e8 : t 8 = .string ((⟨#[116, 105, 99, 107, 101, 116, 32]⟩ : ByteArray) ++ ti.client ++ (⟨#[32]⟩ : ByteArray) ++ dS nn) := hg 8 ⟨_, rfl, ⟨8, .data⟩, by simp, rfl, rfl⟩
      have h := hK (.string ((⟨#[116, 105, 99, 107, 101, 116, 32]⟩ : ByteArray) ++ ti.client ++ (⟨#[32]⟩ : ByteArray) ++ dS nn ++ (⟨#[32]⟩ : ByteArray))) X rfl (Below.refl _ _)
      refine wpOp_of rfl rfl ?_
      clear hK hg
      go_simp
      rw [if_neg (by omega), Oper.upon_value]
      go_simp
      simpa [updT, e8] using h
    · have h := hK (.pointer (some ⟨B, 3, none⟩)) X rfl (Below.refl _ _)
      refine wpOp_of rfl rfl ?_
      clear hK hg
      go_simp
      simpa [updT] using h
    · have e10 : t 10 = .pointer (some ⟨B, 3, none⟩) := hg 10 ⟨_, rfl, ⟨10, .data⟩, by simp, rfl, rfl⟩
      have q := (hb.cell (p := ⟨B, 3, none⟩) hB).trans hc3
      have h := hK (.int .i64 cc) X rfl (Below.refl _ _)
      refine wpOp_of rfl rfl ?_
      clear hK hg
      go_simp
      simpa [updT, e10] using h
    · have e11 : t 11 = .int .i64 cc := hg 11 ⟨_, rfl, ⟨11, .data⟩, by simp, rfl, rfl⟩
      refine wpOp_of rfl rfl ?_
      have HK := hid hK
      clear hK hg
      go_simp
      go_at_call 26
      refine (decS_any cc (by omega) X).mono ?_
      rintro r Y ⟨rfl, hbY⟩
      have h := HK.out (.string (dS cc)) Y rfl hbY
      simpa [updT, e11] using h
    · have e9 : t 9 = .string ((⟨#[116, 105, 99, 107, 101, 116, 32]⟩ : ByteArray) ++ ti.client ++ (⟨#[32]⟩ : ByteArray) ++ dS nn ++ (⟨#[32]⟩ : ByteArray)) := hg 9 ⟨_, rfl, ⟨9, .data⟩, by simp, rfl, rfl⟩
      have e12 : t 12 = .string (dS cc) := hg 12 ⟨_, rfl, ⟨12, .data⟩, by simp, rfl, rfl⟩
      have h := hK (.string ((⟨#[116, 105, 99, 107, 101, 116, 32]⟩ : ByteArray) ++ ti.client ++ (⟨#[32]⟩ : ByteArray) ++ dS nn ++ (⟨#[32]⟩ : ByteArray) ++ dS cc)) X rfl (Below.refl _ _)
      refine wpOp_of rfl rfl ?_
      clear hK hg
      go_simp
      rw [if_neg (by omega), Oper.upon_value]
      go_simp
      simpa [updT, e9, e12] using h
    · have e13 : t 13 = .string ((⟨#[116, 105, 99, 107, 101, 116, 32]⟩ : ByteArray) ++ ti.client ++ (⟨#[32]⟩ : ByteArray) ++ dS nn ++ (⟨#[32]⟩ : ByteArray) ++ dS cc) := hg 13 ⟨_, rfl, ⟨13, .data⟩, by simp, rfl, rfl⟩
      have h := hK (.string ((⟨#[116, 105, 99, 107, 101, 116, 32]⟩ : ByteArray) ++ ti.client ++ (⟨#[32]⟩ : ByteArray) ++ dS nn ++ (⟨#[32]⟩ : ByteArray) ++ dS cc ++ (⟨#[32]⟩ : ByteArray))) X rfl (Below.refl _ _)
      refine wpOp_of rfl rfl ?_
      clear hK hg
      go_simp
      rw [if_neg (by omega), Oper.upon_value]
      go_simp
      simpa [updT, e13] using h
    · have h := hK (.pointer (some ⟨B, 4, none⟩)) X rfl (Below.refl _ _)
      refine wpOp_of rfl rfl ?_
      clear hK hg
      go_simp
      simpa [updT] using h
    · have e15 : t 15 = .pointer (some ⟨B, 4, none⟩) := hg 15 ⟨_, rfl, ⟨15, .data⟩, by simp, rfl, rfl⟩
      have q := (hb.cell (p := ⟨B, 4, none⟩) hB).trans hc4
      have h := hK (.int .i64 vv) X rfl (Below.refl _ _)
      refine wpOp_of rfl rfl ?_
      clear hK hg
      go_simp
      simpa [updT, e15] using h
    · have e16 : t 16 = .int .i64 vv := hg 16 ⟨_, rfl, ⟨16, .data⟩, by simp, rfl, rfl⟩
      refine wpOp_of rfl rfl ?_
      have HK := hid hK
      clear hK hg
      go_simp
      go_at_call 26
      refine (decS_any vv (by omega) X).mono ?_
      rintro r Y ⟨rfl, hbY⟩
      have h := HK.out (.string (dS vv)) Y rfl hbY
      simpa [updT, e16] using h
    · have e14 : t 14 = .string ((⟨#[116, 105, 99, 107, 101, 116, 32]⟩ : ByteArray) ++ ti.client ++ (⟨#[32]⟩ : ByteArray) ++ dS nn ++ (⟨#[32]⟩ : ByteArray) ++ dS cc ++ (⟨#[32]⟩ : ByteArray)) := hg 14 ⟨_, rfl, ⟨14, .data⟩, by simp, rfl, rfl⟩
      have e17 : t 17 = .string (dS vv) := hg 17 ⟨_, rfl, ⟨17, .data⟩, by simp, rfl, rfl⟩
      have h := hK (.string ((⟨#[116, 105, 99, 107, 101, 116, 32]⟩ : ByteArray) ++ ti.client ++ (⟨#[32]⟩ : ByteArray) ++ dS nn ++ (⟨#[32]⟩ : ByteArray) ++ dS cc ++ (⟨#[32]⟩ : ByteArray) ++ dS vv)) X rfl (Below.refl _ _)
      refine wpOp_of rfl rfl ?_
      clear hK hg
      go_simp
      rw [if_neg (by omega), Oper.upon_value]
      go_simp
      simpa [updT, e14, e17] using h
    · have e18 : t 18 = .string ((⟨#[116, 105, 99, 107, 101, 116, 32]⟩ : ByteArray) ++ ti.client ++ (⟨#[32]⟩ : ByteArray) ++ dS nn ++ (⟨#[32]⟩ : ByteArray) ++ dS cc ++ (⟨#[32]⟩ : ByteArray) ++ dS vv) := hg 18 ⟨_, rfl, ⟨18, .data⟩, by simp, rfl, rfl⟩
      have h := hK (.string ((⟨#[116, 105, 99, 107, 101, 116, 32]⟩ : ByteArray) ++ ti.client ++ (⟨#[32]⟩ : ByteArray) ++ dS nn ++ (⟨#[32]⟩ : ByteArray) ++ dS cc ++ (⟨#[32]⟩ : ByteArray) ++ dS vv ++ (⟨#[32]⟩ : ByteArray))) X rfl (Below.refl _ _)
      refine wpOp_of rfl rfl ?_
      clear hK hg
      go_simp
      rw [if_neg (by omega), Oper.upon_value]
      go_simp
      simpa [updT, e18] using h
    · have h := hK (.pointer (some ⟨B, 2, none⟩)) X rfl (Below.refl _ _)
      refine wpOp_of rfl rfl ?_
      clear hK hg
      go_simp
      simpa [updT] using h
    · have e20 : t 20 = .pointer (some ⟨B, 2, none⟩) := hg 20 ⟨_, rfl, ⟨20, .data⟩, by simp, rfl, rfl⟩
      have q := (hb.cell (p := ⟨B, 2, none⟩) hB).trans hc2
      have h := hK (.string ti.print) X rfl (Below.refl _ _)
      refine wpOp_of rfl rfl ?_
      clear hK hg
      go_simp
      simpa [updT, e20] using h
    · have e21 : t 21 = .string ti.print := hg 21 ⟨_, rfl, ⟨21, .data⟩, by simp, rfl, rfl⟩
      refine wpOp_of rfl rfl ?_
      have HK := hid hK
      clear hK hg
      go_simp
      go_at_call 30
      refine (quoteS_any ti.print X (by omega)).mono ?_
      rintro r Y ⟨rfl, hbY⟩
      have h := HK.out (.string (quS ti.print)) Y rfl hbY
      simpa [updT, e21] using h
    · have e19 : t 19 = .string ((⟨#[116, 105, 99, 107, 101, 116, 32]⟩ : ByteArray) ++ ti.client ++ (⟨#[32]⟩ : ByteArray) ++ dS nn ++ (⟨#[32]⟩ : ByteArray) ++ dS cc ++ (⟨#[32]⟩ : ByteArray) ++ dS vv ++ (⟨#[32]⟩ : ByteArray)) := hg 19 ⟨_, rfl, ⟨19, .data⟩, by simp, rfl, rfl⟩
      have e22 : t 22 = .string (quS ti.print) := hg 22 ⟨_, rfl, ⟨22, .data⟩, by simp, rfl, rfl⟩
      have h := hK (.string ((⟨#[116, 105, 99, 107, 101, 116, 32]⟩ : ByteArray) ++ ti.client ++ (⟨#[32]⟩ : ByteArray) ++ dS nn ++ (⟨#[32]⟩ : ByteArray) ++ dS cc ++ (⟨#[32]⟩ : ByteArray) ++ dS vv ++ (⟨#[32]⟩ : ByteArray) ++ quS ti.print)) X rfl (Below.refl _ _)
      refine wpOp_of rfl rfl ?_
      clear hK hg
      go_simp
      rw [if_neg (by omega), Oper.upon_value]
      go_simp
      simpa [updT, e19, e22] using h
    · have e23 : t 23 = .string ((⟨#[116, 105, 99, 107, 101, 116, 32]⟩ : ByteArray) ++ ti.client ++ (⟨#[32]⟩ : ByteArray) ++ dS nn ++ (⟨#[32]⟩ : ByteArray) ++ dS cc ++ (⟨#[32]⟩ : ByteArray) ++ dS vv ++ (⟨#[32]⟩ : ByteArray) ++ quS ti.print) := hg 23 ⟨_, rfl, ⟨23, .data⟩, by simp, rfl, rfl⟩
      have h := hK (.string ((⟨#[116, 105, 99, 107, 101, 116, 32]⟩ : ByteArray) ++ ti.client ++ (⟨#[32]⟩ : ByteArray) ++ dS nn ++ (⟨#[32]⟩ : ByteArray) ++ dS cc ++ (⟨#[32]⟩ : ByteArray) ++ dS vv ++ (⟨#[32]⟩ : ByteArray) ++ quS ti.print ++ (⟨#[10]⟩ : ByteArray))) X rfl (Below.refl _ _)
      refine wpOp_of rfl rfl ?_
      clear hK hg
      go_simp
      rw [if_neg (by omega), Oper.upon_value]
      go_simp
      simpa [updT, e23] using h
  · intro t X K hb hg hK
    have e0 : t 0 = v0 := hg 0 (by omega)
    have e24 : t 24 = .string ln := by rw [eln]; exact hg 24 (by omega)
    have zl : (ln.size : Int) ≤ 10000000 := by
      have x1 : ((⟨#[32]⟩ : ByteArray)).size = 1 := rfl
      have x2 : ((⟨#[10]⟩ : ByteArray)).size = 1 := rfl
      have x3 : ((⟨#[116, 105, 99, 107, 101, 116, 32]⟩ : ByteArray)).size = 7 := rfl
      rw [eln]
      simp only [ByteArray.size_append, x1, x2, x3]
      omega
    refine wpOp_of rfl rfl ?_
    refine operBL (.tmp 76) (.tmp 100) rfl base (t 0) L ln rfl e24 (by rw [e0]; exact hBL.grow hb) (by omega) (Nat.le_trans hbase hb.size) (fun v2 w2 h1 h2 => ?_)
    have h := hK ⟨#[p0, p1, p2, v0, p4, p5, p6, p7, .pointer (some ⟨B, 0, none⟩), p9, p10, p11, p12, p13, p14, p15, p16, p17, p18, p19, p20, p21, p22, p23, p24, p25, p26, p27, p28, p29, p30, p31, p32, p33, p34, p35, p36, p37, p38, p39, p40, p41, p42, p43, p44, p45, p46, p47, p48, p49, p50, p51, p52, p53, p54, p55, p56, p57, p58, p59, p60, p61, p62, p63, p64, p65, p66, p67, p68, p69, p70, p71, p72, p73, p74, p75, t 0, t 1, t 2, t 3, t 4, t 5, t 6, t 7, t 8, t 9, t 10, t 11, t 12, t 13, t 14, t 15, t 16, t 17, t 18, t 19, t 20, t 21, t 22, t 23, t 24, v2, p102, p103, p104, p105, p106], []⟩ w2 ⟨t, v2, rfl, h1, (hb.mono hbase).trans h2⟩
    exact h
  · rintro a X K ⟨t, v3, rfl, hp⟩ hK
    have h := hK ⟨#[p0, p1, p2, v3, p4, p5, p6, p7, .pointer (some ⟨B, 0, none⟩), p9, p10, p11, p12, p13, p14, p15, p16, p17, p18, p19, p20, p21, p22, p23, p24, p25, p26, p27, p28, p29, p30, p31, p32, p33, p34, p35, p36, p37, p38, p39, p40, p41, p42, p43, p44, p45, p46, p47, p48, p49, p50, p51, p52, p53, p54, p55, p56, p57, p58, p59, p60, p61, p62, p63, p64, p65, p66, p67, p68, p69, p70, p71, p72, p73, p74, p75, t 0, t 1, t 2, t 3, t 4, t 5, t 6, t 7, t 8, t 9, t 10, t 11, t 12, t 13, t 14, t 15, t 16, t 17, t 18, t 19, t 20, t 21, t 22, t 23, t 24, v3, p102, p103, p104, p105, p106], []⟩ X ⟨t, v3, rfl, hp⟩
    refine wpOp_of rfl rfl ?_
    clear hK
    go_simp
    exact h
  · rintro a X ⟨t, v3, rfl, hp⟩
    exact hQ t v3 X hp
end Go.Proofs.YtkfbclopkgnacaaGreatDoor
