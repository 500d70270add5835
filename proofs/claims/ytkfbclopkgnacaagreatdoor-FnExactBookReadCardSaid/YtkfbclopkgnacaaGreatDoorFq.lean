import Derived.Test.YtkfbclopkgnacaaGreatDoorFo
import Derived.Test.YtkfbclopkgnacaaGreatDoorPa
namespace Go.Proofs.YtkfbclopkgnacaaGreatDoor
open Go.RowKit
def headImplG (B : Nat) (na : Nat) (fl : Nat) (_bw : Nat) (W : World) (i : Nat) (v : Value) (X : World) : Prop :=
  match i with
  | 0 => v = .pointer (some ⟨B, 0, none⟩)
  | 1 => v = .int .i64 na
  | 2 => v = .string (dS na)
  | 3 => v = .pointer (some ⟨B, 1, none⟩)
  | 4 => v = .int .i64 fl
  | 5 => v = .string (dS fl)
  | 6 => SL X W.heap.size v [⟨#[98, 111, 111, 107]⟩, dS na, dS fl]
  | _ => True
set_option maxRecDepth 100000 in
set_option maxHeartbeats 4000000 in
theorem headImpl (p0 p2 p4 p5 p6 p7 p8 p9 p10 p11 p12 p20 p21 p22 p23 p24 p25 p26 p27 p28 p29 p30 p31 p32 p33 p34 p35 p36 p37 p38 p39 p40 p41 p42 p43 p44 p45 p46 p47 p48 p49 p50 p51 p52 p53 p54 p55 p56 p57 p58 p59 p60 p61 p62 p63 p64 p65 p66 p67 p68 p69 p70 p71 p72 p73 p74 p75 : Value) (t0 : Nat → Value) (B : Nat) (na : Nat) (fl : Nat) (bw : Nat) (W : World) (hB : B < W.heap.size) (hc0 : W.cell? ⟨B, 0, none⟩ = some (.int .i64 na)) (hc1 : W.cell? ⟨B, 1, none⟩ = some (.int .i64 fl)) (hv : (na : Int) ≤ 1000000) (hbo : (fl : Int) ≤ 1000000) (zv : ((dS na).size : Int) ≤ 1000001) (zb : ((dS fl).size : Int) ≤ 1000001) (Bs : Nat) (l : List UInt8) (hW : Wr Bs bw l W) (hBs : Bs ≤ W.heap.size) (hl : (l.length : Int) ≤ 600000000000) (hT : Tab W) (Q : Exit → Act → World → Prop) (hQ : ∀ (t : Nat → Value) (v3 : Value) X, (Wr Bs bw (l ++ (headS na fl).data.toList) X ∧ Below Bs W X) → Q .normal ⟨#[p0, .pointer (some ⟨B, 0, none⟩), p2, .pointer (some ⟨bw, 0, none⟩), p4, p5, p6, p7, p8, p9, p10, p11, p12, t 0, t 1, t 2, t 3, t 4, t 5, t 6, v3, p21, p22, p23, p24, p25, p26, p27, p28, p29, p30, p31, p32, p33, p34, p35, p36, p37, p38, p39, p40, p41, p42, p43, p44, p45, p46, p47, p48, p49, p50, p51, p52, p53, p54, p55, p56, p57, p58, p59, p60, p61, p62, p63, p64, p65, p66, p67, p68, p69, p70, p71, p72, p73, p74, p75], []⟩ X) :
    Code.wp Tryz.prog (Code.region 4 #[{ dst := some 13, op := Op.fieldAddr 26 (Operand.tmp 1) 0, type := 0, pos := "l9_book_form.go:44", after := #[], guard := none }, { dst := some 14, op := Op.load 3 (Operand.tmp 13), type := 3, pos := "l9_book_form.go:44", after := #[{ on := 0, ground := Ground.data }], guard := none }, { dst := some 15, op := Op.call { callee := Callee.value (Operand.func 39), args := #[Operand.tmp 14], argTypes := #[3] }, type := 9, pos := "l9_book_form.go:44", after := #[{ on := 1, ground := Ground.data }], guard := none }, { dst := some 16, op := Op.fieldAddr 26 (Operand.tmp 1) 1, type := 0, pos := "l9_book_form.go:44", after := #[], guard := none }, { dst := some 17, op := Op.load 3 (Operand.tmp 16), type := 3, pos := "l9_book_form.go:44", after := #[{ on := 3, ground := Ground.data }], guard := none }, { dst := some 18, op := Op.call { callee := Callee.value (Operand.func 39), args := #[Operand.tmp 17], argTypes := #[3] }, type := 9, pos := "l9_book_form.go:44", after := #[{ on := 4, ground := Ground.data }, { on := 2, ground := Ground.chain }], guard := none }, { dst := some 19, op := Op.buildSlice 32 3 #[(0, Operand.const (Value.string { data := #[98, 111, 111, 107] })), (1, Operand.tmp 15), (2, Operand.tmp 18)], type := 32, pos := "l9_book_form.go:44", after := #[{ on := 2, ground := Ground.data }, { on := 5, ground := Ground.data }], guard := none }, { dst := some 20, op := Op.call { callee := Callee.value (Operand.func 38), args := #[Operand.tmp 3, Operand.tmp 19], argTypes := #[71, 32] }, type := 0, pos := "l9_book_form.go:44", after := #[{ on := 6, ground := Ground.data }, { on := 5, ground := Ground.chain }], guard := none }] true) Q ⟨#[p0, .pointer (some ⟨B, 0, none⟩), p2, .pointer (some ⟨bw, 0, none⟩), p4, p5, p6, p7, p8, p9, p10, p11, p12, t0 0, t0 1, t0 2, t0 3, t0 4, t0 5, t0 6, p20, p21, p22, p23, p24, p25, p26, p27, p28, p29, p30, p31, p32, p33, p34, p35, p36, p37, p38, p39, p40, p41, p42, p43, p44, p45, p46, p47, p48, p49, p50, p51, p52, p53, p54, p55, p56, p57, p58, p59, p60, p61, p62, p63, p64, p65, p66, p67, p68, p69, p70, p71, p72, p73, p74, p75], []⟩ W := by
  refine regionJ (by kernel_rfl) 7 (fun t : Nat → Value => #[p0, .pointer (some ⟨B, 0, none⟩), p2, .pointer (some ⟨bw, 0, none⟩), p4, p5, p6, p7, p8, p9, p10, p11, p12, t 0, t 1, t 2, t 3, t 4, t 5, t 6, p20, p21, p22, p23, p24, p25, p26, p27, p28, p29, p30, p31, p32, p33, p34, p35, p36, p37, p38, p39, p40, p41, p42, p43, p44, p45, p46, p47, p48, p49, p50, p51, p52, p53, p54, p55, p56, p57, p58, p59, p60, p61, p62, p63, p64, p65, p66, p67, p68, p69, p70, p71, p72, p73, p74, p75]) t0 (headImplG B na fl bw W) (fun a X => ∃ (t : Nat → Value) (v3 : Value), a = ⟨#[p0, .pointer (some ⟨B, 0, none⟩), p2, .pointer (some ⟨bw, 0, none⟩), p4, p5, p6, p7, p8, p9, p10, p11, p12, t 0, t 1, t 2, t 3, t 4, t 5, t 6, v3, p21, p22, p23, p24, p25, p26, p27, p28, p29, p30, p31, p32, p33, p34, p35, p36, p37, p38, p39, p40, p41, p42, p43, p44, p45, p46, p47, p48, p49, p50, p51, p52, p53, p54, p55, p56, p57, p58, p59, p60, p61, p62, p63, p64, p65, p66, p67, p68, p69, p70, p71, p72, p73, p74, p75], []⟩ ∧ (Wr Bs bw (l ++ (headS na fl).data.toList) X ∧ Below Bs W X)) (by kernel_rfl) (by kernel_rfl) (by kernel_rfl) ?_ rfl ?_ ?_ ?_
  · intro i v X Y hi h hb
    rcases (show i = 0 ∨ i = 1 ∨ i = 2 ∨ i = 3 ∨ i = 4 ∨ i = 5 ∨ i = 6 by omega) with rfl | rfl | rfl | rfl | rfl | rfl | rfl
    · exact h
    · exact h
    · exact h
    · exact h
    · exact h
    · exact h
    · exact h.grow hb (Nat.le_refl _)
  · intro i hi t X K hb hg hK
    rcases (show i = 0 ∨ i = 1 ∨ i = 2 ∨ i = 3 ∨ i = 4 ∨ i = 5 ∨ i = 6 by omega) with rfl | rfl | rfl | rfl | rfl | rfl | rfl
    · have h := hK (.pointer (some ⟨B, 0, none⟩)) X rfl (Below.refl _ _)
      refine wpOp_of rfl rfl ?_
      clear hK hg
      go_simp
      simpa [updT] using h
    · have e0 : t 0 = .pointer (some ⟨B, 0, none⟩) := hg 0 ⟨_, rfl, ⟨0, .data⟩, by simp, rfl, rfl⟩
      have q := (hb.cell (p := ⟨B, 0, none⟩) hB).trans hc0
      have h := hK (.int .i64 na) X rfl (Below.refl _ _)
      refine wpOp_of rfl rfl ?_
      clear hK hg
      go_simp
      simpa [updT, e0] using h
    · have e1 : t 1 = .int .i64 na := hg 1 ⟨_, rfl, ⟨1, .data⟩, by simp, rfl, rfl⟩
      refine wpOp_of rfl rfl ?_
      have HK := hid hK
      clear hK hg
      go_simp
      go_at_call 39
      refine (itoaS_any na (by omega) X (hT.below hb)).mono ?_
      rintro r Y ⟨rfl, hbY⟩
      have h := HK.out (.string (dS na)) Y rfl hbY
      simpa [updT, e1] using h
    · have h := hK (.pointer (some ⟨B, 1, none⟩)) X rfl (Below.refl _ _)
      refine wpOp_of rfl rfl ?_
      clear hK hg
      go_simp
      simpa [updT] using h
    · have e3 : t 3 = .pointer (some ⟨B, 1, none⟩) := hg 3 ⟨_, rfl, ⟨3, .data⟩, by simp, rfl, rfl⟩
      have q := (hb.cell (p := ⟨B, 1, none⟩) hB).trans hc1
      have h := hK (.int .i64 fl) X rfl (Below.refl _ _)
      refine wpOp_of rfl rfl ?_
      clear hK hg
      go_simp
      simpa [updT, e3] using h
    · have e4 : t 4 = .int .i64 fl := hg 4 ⟨_, rfl, ⟨4, .data⟩, by simp, rfl, rfl⟩
      refine wpOp_of rfl rfl ?_
      have HK := hid hK
      clear hK hg
      go_simp
      go_at_call 39
      refine (itoaS_any fl (by omega) X (hT.below hb)).mono ?_
      rintro r Y ⟨rfl, hbY⟩
      have h := HK.out (.string (dS fl)) Y rfl hbY
      simpa [updT, e4] using h
    · have e2 : t 2 = .string (dS na) := hg 2 ⟨_, rfl, ⟨2, .data⟩, by simp, rfl, rfl⟩
      have e5 : t 5 = .string (dS fl) := hg 5 ⟨_, rfl, ⟨5, .data⟩, by simp, rfl, rfl⟩
      have h := hK (.slice (some ⟨X.heap.size, 0, none⟩) 3 3) (X.alloc (.cells (sCells [⟨#[98, 111, 111, 107]⟩, dS na, dS fl]).toArray 9)) ((SL.new X [⟨#[98, 111, 111, 107]⟩, dS na, dS fl]).mono hb.size) (below_alloc _ _)
      refine wpOp_of rfl rfl ?_
      clear hK hg
      go_simp
      simpa [updT, e2, e5, sCells] using h
  · intro t X K hb hg hK
    have g : SL X W.heap.size (t 6) [⟨#[98, 111, 111, 107]⟩, dS na, dS fl] := hg 6 (by omega)
    have hlen : ((joinL [⟨#[98, 111, 111, 107]⟩, dS na, dS fl]).length : Int) ≤ 1000000000000 := by
      have h1 := joinL_len (m := 1000001) (a := ⟨#[98, 111, 111, 107]⟩) (xs := [dS na, dS fl]) (by
        intro s hs
        simp only [List.mem_cons, List.not_mem_nil, or_false] at hs
        rcases hs with rfl | rfl | rfl
        · decide
        · omega
        · omega)
      simp only [List.length_cons, List.length_nil] at h1
      omega
    refine wpOp_of rfl rfl ?_
    have HK := hid hK
    have HW := hid hW
    have HG := hid g
    clear hK hg hW g
    go_simp
    go_at_call 38
    refine (line_any Bs bw l W.heap.size (t 6) [⟨#[98, 111, 111, 107]⟩, dS na, dS fl] X (HW.out.grow hb) (Nat.le_trans hBs hb.size) HG.out (by simp) hlen (by omega)).mono ?_
    rintro r Y ⟨rfl, hw, hbY⟩
    have h := HK.out ⟨#[p0, .pointer (some ⟨B, 0, none⟩), p2, .pointer (some ⟨bw, 0, none⟩), p4, p5, p6, p7, p8, p9, p10, p11, p12, t 0, t 1, t 2, t 3, t 4, t 5, t 6, (.tuple #[]), p21, p22, p23, p24, p25, p26, p27, p28, p29, p30, p31, p32, p33, p34, p35, p36, p37, p38, p39, p40, p41, p42, p43, p44, p45, p46, p47, p48, p49, p50, p51, p52, p53, p54, p55, p56, p57, p58, p59, p60, p61, p62, p63, p64, p65, p66, p67, p68, p69, p70, p71, p72, p73, p74, p75], []⟩ Y ⟨t, .tuple #[], rfl, (headS_l na fl ▸ hw), (hb.mono hBs).trans hbY⟩
    simpa using h
  · rintro a X ⟨t, v3, rfl, hp⟩
    exact hQ t v3 X hp
def chImplG (c : Ch) (ad : Option Addr) (cap : Nat) (B : Nat) (_bw : Nat) (W : World) (i : Nat) (v : Value) (X : World) : Prop :=
  match i with
  | 0 => v = .pointer (some ⟨B, 2, none⟩)
  | 1 => v = .agg #[.string c.ob.kind, .string c.ob.name, .int .i64 c.ob.ver, .int .i64 c.ob.born, .string c.ob.text, .bool c.ob.ending, .slice ad c.ob.hn cap]
  | 2 => v = .pointer (some ⟨B, 1, none⟩)
  | 3 => v = .bool c.gone
  | 4 => v = .string (wrdS c.gone ⟨#[103, 111, 110, 101]⟩)
  | 5 => SL X W.heap.size v [⟨#[99, 104, 97, 110, 103, 101]⟩, wrdS c.gone ⟨#[103, 111, 110, 101]⟩]
  | _ => True
set_option maxRecDepth 100000 in
set_option maxHeartbeats 4000000 in
theorem chImpl (p0 p1 p2 p4 p5 p6 p8 p9 p10 p11 p12 p13 p14 p15 p16 p17 p18 p19 p20 p21 p22 p23 p24 p25 p26 p27 p28 p29 p30 p31 p32 p33 p34 p35 p36 p37 p38 p45 p46 p47 p48 p49 p50 p51 p52 p53 p54 p55 p56 p57 p58 p59 p60 p61 p62 p63 p64 p65 p66 p67 p68 p69 p70 p71 p72 p73 p74 p75 : Value) (t0 : Nat → Value) (c : Ch) (ad : Option Addr) (cap : Nat) (B : Nat) (bw : Nat) (W : World) (hB : B < W.heap.size) (hcc : ChCells W B 0 c ad cap) (ov : ObV c.ob) (lo hi : Nat) (hin : StrsIn W lo hi ad c.ob.hn c.ob.hs) (hhi : hi ≤ W.heap.size) (Bs : Nat) (l : List UInt8) (hW : Wr Bs bw l W) (hBs : Bs ≤ W.heap.size) (hl : (l.length : Int) ≤ 600000000000) (hT : Tab W) (Q : Exit → Act → World → Prop) (hQ : ∀ (t : Nat → Value) (v3 : Value) X, (Wr Bs bw (l ++ (cLine c).data.toList) X ∧ Below Bs W X) → Q .normal ⟨#[p0, p1, p2, .pointer (some ⟨bw, 0, none⟩), p4, p5, p6, .pointer (some ⟨B, 0, none⟩), p8, p9, p10, p11, p12, p13, p14, p15, p16, p17, p18, p19, p20, p21, p22, p23, p24, p25, p26, p27, p28, p29, p30, p31, p32, p33, p34, p35, p36, p37, p38, t 0, t 1, t 2, t 3, t 4, t 5, v3, p46, p47, p48, p49, p50, p51, p52, p53, p54, p55, p56, p57, p58, p59, p60, p61, p62, p63, p64, p65, p66, p67, p68, p69, p70, p71, p72, p73, p74, p75], []⟩ X) :
    Code.wp Tryz.prog (Code.region 13 #[{ dst := some 39, op := Op.fieldAddr 41 (Operand.tmp 7) 2, type := 0, pos := "l9_book_form.go:49", after := #[], guard := none }, { dst := some 40, op := Op.load 38 (Operand.tmp 39), type := 38, pos := "l9_book_form.go:49", after := #[{ on := 0, ground := Ground.data }], guard := none }, { dst := some 41, op := Op.fieldAddr 41 (Operand.tmp 7) 1, type := 0, pos := "l9_book_form.go:49", after := #[], guard := none }, { dst := some 42, op := Op.load 4 (Operand.tmp 41), type := 4, pos := "l9_book_form.go:49", after := #[{ on := 2, ground := Ground.data }], guard := none }, { dst := some 43, op := Op.call { callee := Callee.value (Operand.func 41), args := #[Operand.tmp 42, Operand.const (Value.string { data := #[103, 111, 110, 101] })], argTypes := #[4, 9] }, type := 9, pos := "l9_book_form.go:49", after := #[{ on := 3, ground := Ground.data }], guard := none }, { dst := some 44, op := Op.buildSlice 32 2 #[(0, Operand.const (Value.string { data := #[99, 104, 97, 110, 103, 101] })), (1, Operand.tmp 43)], type := 32, pos := "l9_book_form.go:49", after := #[{ on := 4, ground := Ground.data }], guard := none }, { dst := some 45, op := Op.call { callee := Callee.value (Operand.func 40), args := #[Operand.tmp 3, Operand.tmp 40, Operand.tmp 44], argTypes := #[71, 38, 32] }, type := 0, pos := "l9_book_form.go:49", after := #[{ on := 1, ground := Ground.data }, { on := 5, ground := Ground.data }, { on := 4, ground := Ground.chain }], guard := none }] true) Q ⟨#[p0, p1, p2, .pointer (some ⟨bw, 0, none⟩), p4, p5, p6, .pointer (some ⟨B, 0, none⟩), p8, p9, p10, p11, p12, p13, p14, p15, p16, p17, p18, p19, p20, p21, p22, p23, p24, p25, p26, p27, p28, p29, p30, p31, p32, p33, p34, p35, p36, p37, p38, t0 0, t0 1, t0 2, t0 3, t0 4, t0 5, p45, p46, p47, p48, p49, p50, p51, p52, p53, p54, p55, p56, p57, p58, p59, p60, p61, p62, p63, p64, p65, p66, p67, p68, p69, p70, p71, p72, p73, p74, p75], []⟩ W := by
  refine regionJ (by kernel_rfl) 6 (fun t : Nat → Value => #[p0, p1, p2, .pointer (some ⟨bw, 0, none⟩), p4, p5, p6, .pointer (some ⟨B, 0, none⟩), p8, p9, p10, p11, p12, p13, p14, p15, p16, p17, p18, p19, p20, p21, p22, p23, p24, p25, p26, p27, p28, p29, p30, p31, p32, p33, p34, p35, p36, p37, p38, t 0, t 1, t 2, t 3, t 4, t 5, p45, p46, p47, p48, p49, p50, p51, p52, p53, p54, p55, p56, p57, p58, p59, p60, p61, p62, p63, p64, p65, p66, p67, p68, p69, p70, p71, p72, p73, p74, p75]) t0 (chImplG c ad cap B bw W) (fun a X => ∃ (t : Nat → Value) (v3 : Value), a = ⟨#[p0, p1, p2, .pointer (some ⟨bw, 0, none⟩), p4, p5, p6, .pointer (some ⟨B, 0, none⟩), p8, p9, p10, p11, p12, p13, p14, p15, p16, p17, p18, p19, p20, p21, p22, p23, p24, p25, p26, p27, p28, p29, p30, p31, p32, p33, p34, p35, p36, p37, p38, t 0, t 1, t 2, t 3, t 4, t 5, v3, p46, p47, p48, p49, p50, p51, p52, p53, p54, p55, p56, p57, p58, p59, p60, p61, p62, p63, p64, p65, p66, p67, p68, p69, p70, p71, p72, p73, p74, p75], []⟩ ∧ (Wr Bs bw (l ++ (cLine c).data.toList) X ∧ Below Bs W X)) (by kernel_rfl) (by kernel_rfl) (by kernel_rfl) ?_ rfl ?_ ?_ ?_
  · intro i v X Y hi h hb
    rcases (show i = 0 ∨ i = 1 ∨ i = 2 ∨ i = 3 ∨ i = 4 ∨ i = 5 by omega) with rfl | rfl | rfl | rfl | rfl | rfl
    · exact h
    · exact h
    · exact h
    · exact h
    · exact h
    · exact h.grow hb (Nat.le_refl _)
  · intro i hi t X K hb hg hK
    rcases (show i = 0 ∨ i = 1 ∨ i = 2 ∨ i = 3 ∨ i = 4 ∨ i = 5 by omega) with rfl | rfl | rfl | rfl | rfl | rfl
    · have h := hK (.pointer (some ⟨B, 2, none⟩)) X rfl (Below.refl _ _)
      refine wpOp_of rfl rfl ?_
      clear hK hg
      go_simp
      simpa [updT] using h
    · have e0 : t 0 = .pointer (some ⟨B, 2, none⟩) := hg 0 ⟨_, rfl, ⟨0, .data⟩, by simp, rfl, rfl⟩
      obtain ⟨q0, q1, q2, q3, q4, q5, q6, q7, q8⟩ := hcc.below hb hB
      simp only [Nat.zero_add] at q0 q1 q2 q3 q4 q5 q6 q7 q8
      have h := hK (.agg #[.string c.ob.kind, .string c.ob.name, .int .i64 c.ob.ver, .int .i64 c.ob.born, .string c.ob.text, .bool c.ob.ending, .slice ad c.ob.hn cap]) X rfl (Below.refl _ _)
      refine wpOp_of rfl rfl ?_
      clear hK hg
      go_simp
      simpa [updT, e0] using h
    · have h := hK (.pointer (some ⟨B, 1, none⟩)) X rfl (Below.refl _ _)
      refine wpOp_of rfl rfl ?_
      clear hK hg
      go_simp
      simpa [updT] using h
    · have e2 : t 2 = .pointer (some ⟨B, 1, none⟩) := hg 2 ⟨_, rfl, ⟨2, .data⟩, by simp, rfl, rfl⟩
      have q := (hcc.below hb hB).c1
      simp only [Nat.zero_add] at q
      have h := hK (.bool c.gone) X rfl (Below.refl _ _)
      refine wpOp_of rfl rfl ?_
      clear hK hg
      go_simp
      simpa [updT, e2] using h
    · have e3 : t 3 = .bool c.gone := hg 3 ⟨_, rfl, ⟨3, .data⟩, by simp, rfl, rfl⟩
      refine wpOp_of rfl rfl ?_
      have HK := hid hK
      clear hK hg
      go_simp
      go_at_call 41
      refine (wordIf_any c.gone _ X).mono ?_
      rintro r Y ⟨rfl, rfl⟩
      have h := HK.out (.string (wrdS c.gone ⟨#[103, 111, 110, 101]⟩)) Y rfl (Below.refl _ _)
      simpa [updT, e3] using h
    · have e4 : t 4 = .string (wrdS c.gone ⟨#[103, 111, 110, 101]⟩) := hg 4 ⟨_, rfl, ⟨4, .data⟩, by simp, rfl, rfl⟩
      have h := hK (.slice (some ⟨X.heap.size, 0, none⟩) 2 2) (X.alloc (.cells (sCells [⟨#[99, 104, 97, 110, 103, 101]⟩, wrdS c.gone ⟨#[103, 111, 110, 101]⟩]).toArray 9)) ((SL.new X [⟨#[99, 104, 97, 110, 103, 101]⟩, wrdS c.gone ⟨#[103, 111, 110, 101]⟩]).mono hb.size) (below_alloc _ _)
      refine wpOp_of rfl rfl ?_
      clear hK hg
      go_simp
      simpa [updT, e4, sCells] using h
  · intro t X K hb hg hK
    have e1 : t 1 = .agg #[.string c.ob.kind, .string c.ob.name, .int .i64 c.ob.ver, .int .i64 c.ob.born, .string c.ob.text, .bool c.ob.ending, .slice ad c.ob.hn cap] := hg 1 (by omega)
    have g : SL X W.heap.size (t 5) [⟨#[99, 104, 97, 110, 103, 101]⟩, wrdS c.gone ⟨#[103, 111, 110, 101]⟩] := hg 5 (by omega)
    refine wpOp_of rfl rfl ?_
    have HK := hid hK
    have HW := hid hW
    have HG := hid g
    clear hK hg hW g
    go_simp
    go_at_call 40
    refine (implObj_any Bs bw l c.ob ov ad cap (t 5) W.heap.size ⟨#[99, 104, 97, 110, 103, 101]⟩ [wrdS c.gone ⟨#[103, 111, 110, 101]⟩] X lo hi (fun w2 h2 => HW.out.grow (hb.trans h2)) hBs hb.size HG.out (hT.below hb) (hin.below hb hhi) hhi (by simp) (by intro s hs; simp only [List.mem_cons, List.not_mem_nil, or_false] at hs; rcases hs with rfl | rfl <;> first | decide | (cases c.gone <;> decide)) hl).mono ?_
    rintro r Y ⟨rfl, hw, hbY⟩
    have h := HK.out ⟨#[p0, p1, p2, .pointer (some ⟨bw, 0, none⟩), p4, p5, p6, .pointer (some ⟨B, 0, none⟩), p8, p9, p10, p11, p12, p13, p14, p15, p16, p17, p18, p19, p20, p21, p22, p23, p24, p25, p26, p27, p28, p29, p30, p31, p32, p33, p34, p35, p36, p37, p38, t 0, t 1, t 2, t 3, t 4, t 5, (.tuple #[]), p46, p47, p48, p49, p50, p51, p52, p53, p54, p55, p56, p57, p58, p59, p60, p61, p62, p63, p64, p65, p66, p67, p68, p69, p70, p71, p72, p73, p74, p75], []⟩ Y ⟨t, .tuple #[], rfl, (cLine_l c ▸ hw), (hb.mono hBs).trans hbY⟩
    simpa [e1] using h
  · rintro a X ⟨t, v3, rfl, hp⟩
    exact hQ t v3 X hp
def tickImplG (ti : Ti) (B : Nat) (nn : Nat) (cc : Nat) (vv : Nat) (_bw : Nat) (W : World) (i : Nat) (v : Value) (X : World) : Prop :=
  match i with
  | 0 => v = .pointer (some ⟨B, 0, none⟩)
  | 1 => v = .string ti.client
  | 2 => v = .pointer (some ⟨B, 1, none⟩)
  | 3 => v = .int .i64 nn
  | 4 => v = .string (dS nn)
  | 5 => v = .pointer (some ⟨B, 3, none⟩)
  | 6 => v = .int .i64 cc
  | 7 => v = .string (dS cc)
  | 8 => v = .pointer (some ⟨B, 4, none⟩)
  | 9 => v = .int .i64 vv
  | 10 => v = .string (dS vv)
  | 11 => v = .pointer (some ⟨B, 2, none⟩)
  | 12 => v = .string ti.print
  | 13 => v = .string (quS ti.print)
  | 14 => SL X W.heap.size v [⟨#[116, 105, 99, 107, 101, 116]⟩, ti.client, dS nn, dS cc, dS vv, quS ti.print]
  | _ => True
set_option maxRecDepth 100000 in
set_option maxHeartbeats 4000000 in
theorem tickImpl (p0 p1 p2 p4 p5 p6 p7 p8 p10 p11 p12 p13 p14 p15 p16 p17 p18 p19 p20 p21 p22 p23 p24 p25 p26 p27 p28 p29 p30 p31 p32 p33 p34 p35 p36 p37 p38 p39 p40 p41 p42 p43 p44 p45 p46 p47 p48 p49 p50 p51 p52 p53 p69 p70 p71 p72 p73 p74 p75 : Value) (t0 : Nat → Value) (ti : Ti) (B : Nat) (nn : Nat) (cc : Nat) (vv : Nat) (bw : Nat) (W : World) (hB : B < W.heap.size) (hc0 : W.cell? ⟨B, 0, none⟩ = some (.string ti.client)) (hc1 : W.cell? ⟨B, 1, none⟩ = some (.int .i64 nn)) (hc2 : W.cell? ⟨B, 2, none⟩ = some (.string ti.print)) (hc3 : W.cell? ⟨B, 3, none⟩ = some (.int .i64 cc)) (hc4 : W.cell? ⟨B, 4, none⟩ = some (.int .i64 vv)) (hn : (nn : Int) ≤ 1000000) (hcd : (cc : Int) ≤ 1000000) (hv : (vv : Int) ≤ 1000000) (zc : (ti.client.size : Int) ≤ 1000000) (zp : (ti.print.size : Int) ≤ 1000000) (zn : ((dS nn).size : Int) ≤ 1000001) (zcc : ((dS cc).size : Int) ≤ 1000001) (zv : ((dS vv).size : Int) ≤ 1000001) (zq : ((quS ti.print).size : Int) ≤ 3000002) (en : Hid (nn = ti.num.toNat)) (ec : Hid (cc = ti.code.toNat)) (ev : Hid (vv = ti.ver.toNat)) (Bs : Nat) (l : List UInt8) (hW : Wr Bs bw l W) (hBs : Bs ≤ W.heap.size) (hl : (l.length : Int) ≤ 600000000000) (hT : Tab W) (Q : Exit → Act → World → Prop) (hQ : ∀ (t : Nat → Value) (v3 : Value) X, (Wr Bs bw (l ++ (tLine ti).data.toList) X ∧ Below Bs W X) → Q .normal ⟨#[p0, p1, p2, .pointer (some ⟨bw, 0, none⟩), p4, p5, p6, p7, p8, .pointer (some ⟨B, 0, none⟩), p10, p11, p12, p13, p14, p15, p16, p17, p18, p19, p20, p21, p22, p23, p24, p25, p26, p27, p28, p29, p30, p31, p32, p33, p34, p35, p36, p37, p38, p39, p40, p41, p42, p43, p44, p45, p46, p47, p48, p49, p50, p51, p52, p53, t 0, t 1, t 2, t 3, t 4, t 5, t 6, t 7, t 8, t 9, t 10, t 11, t 12, t 13, t 14, v3, p70, p71, p72, p73, p74, p75], []⟩ X) :
    Code.wp Tryz.prog (Code.region 18 #[{ dst := some 54, op := Op.fieldAddr 45 (Operand.tmp 9) 0, type := 0, pos := "l9_book_form.go:52", after := #[], guard := none }, { dst := some 55, op := Op.load 9 (Operand.tmp 54), type := 9, pos := "l9_book_form.go:52", after := #[{ on := 0, ground := Ground.data }], guard := none }, { dst := some 56, op := Op.fieldAddr 45 (Operand.tmp 9) 1, type := 0, pos := "l9_book_form.go:52", after := #[], guard := none }, { dst := some 57, op := Op.load 3 (Operand.tmp 56), type := 3, pos := "l9_book_form.go:52", after := #[{ on := 2, ground := Ground.data }], guard := none }, { dst := some 58, op := Op.call { callee := Callee.value (Operand.func 39), args := #[Operand.tmp 57], argTypes := #[3] }, type := 9, pos := "l9_book_form.go:52", after := #[{ on := 3, ground := Ground.data }], guard := none }, { dst := some 59, op := Op.fieldAddr 45 (Operand.tmp 9) 3, type := 0, pos := "l9_book_form.go:52", after := #[], guard := none }, { dst := some 60, op := Op.load 3 (Operand.tmp 59), type := 3, pos := "l9_book_form.go:52", after := #[{ on := 5, ground := Ground.data }], guard := none }, { dst := some 61, op := Op.call { callee := Callee.value (Operand.func 39), args := #[Operand.tmp 60], argTypes := #[3] }, type := 9, pos := "l9_book_form.go:52", after := #[{ on := 6, ground := Ground.data }, { on := 4, ground := Ground.chain }], guard := none }, { dst := some 62, op := Op.fieldAddr 45 (Operand.tmp 9) 4, type := 0, pos := "l9_book_form.go:52", after := #[], guard := none }, { dst := some 63, op := Op.load 3 (Operand.tmp 62), type := 3, pos := "l9_book_form.go:52", after := #[{ on := 8, ground := Ground.data }], guard := none }, { dst := some 64, op := Op.call { callee := Callee.value (Operand.func 39), args := #[Operand.tmp 63], argTypes := #[3] }, type := 9, pos := "l9_book_form.go:52", after := #[{ on := 9, ground := Ground.data }, { on := 7, ground := Ground.chain }], guard := none }, { dst := some 65, op := Op.fieldAddr 45 (Operand.tmp 9) 2, type := 0, pos := "l9_book_form.go:52", after := #[], guard := none }, { dst := some 66, op := Op.load 9 (Operand.tmp 65), type := 9, pos := "l9_book_form.go:52", after := #[{ on := 11, ground := Ground.data }], guard := none }, { dst := some 67, op := Op.call { callee := Callee.value (Operand.func 42), args := #[Operand.tmp 66], argTypes := #[9] }, type := 9, pos := "l9_book_form.go:52", after := #[{ on := 12, ground := Ground.data }, { on := 10, ground := Ground.chain }], guard := none }, { dst := some 68, op := Op.buildSlice 32 6 #[(0, Operand.const (Value.string { data := #[116, 105, 99, 107, 101, 116] })), (1, Operand.tmp 55), (2, Operand.tmp 58), (3, Operand.tmp 61), (4, Operand.tmp 64), (5, Operand.tmp 67)], type := 32, pos := "l9_book_form.go:52", after := #[{ on := 1, ground := Ground.data }, { on := 4, ground := Ground.data }, { on := 7, ground := Ground.data }, { on := 10, ground := Ground.data }, { on := 13, ground := Ground.data }], guard := none }, { dst := some 69, op := Op.call { callee := Callee.value (Operand.func 38), args := #[Operand.tmp 3, Operand.tmp 68], argTypes := #[71, 32] }, type := 0, pos := "l9_book_form.go:52", after := #[{ on := 14, ground := Ground.data }, { on := 13, ground := Ground.chain }], guard := none }] true) Q ⟨#[p0, p1, p2, .pointer (some ⟨bw, 0, none⟩), p4, p5, p6, p7, p8, .pointer (some ⟨B, 0, none⟩), p10, p11, p12, p13, p14, p15, p16, p17, p18, p19, p20, p21, p22, p23, p24, p25, p26, p27, p28, p29, p30, p31, p32, p33, p34, p35, p36, p37, p38, p39, p40, p41, p42, p43, p44, p45, p46, p47, p48, p49, p50, p51, p52, p53, t0 0, t0 1, t0 2, t0 3, t0 4, t0 5, t0 6, t0 7, t0 8, t0 9, t0 10, t0 11, t0 12, t0 13, t0 14, p69, p70, p71, p72, p73, p74, p75], []⟩ W := by
  refine regionJ (by kernel_rfl) 15 (fun t : Nat → Value => #[p0, p1, p2, .pointer (some ⟨bw, 0, none⟩), p4, p5, p6, p7, p8, .pointer (some ⟨B, 0, none⟩), p10, p11, p12, p13, p14, p15, p16, p17, p18, p19, p20, p21, p22, p23, p24, p25, p26, p27, p28, p29, p30, p31, p32, p33, p34, p35, p36, p37, p38, p39, p40, p41, p42, p43, p44, p45, p46, p47, p48, p49, p50, p51, p52, p53, t 0, t 1, t 2, t 3, t 4, t 5, t 6, t 7, t 8, t 9, t 10, t 11, t 12, t 13, t 14, p69, p70, p71, p72, p73, p74, p75]) t0 (tickImplG ti B nn cc vv bw W) (fun a X => ∃ (t : Nat → Value) (v3 : Value), a = ⟨#[p0, p1, p2, .pointer (some ⟨bw, 0, none⟩), p4, p5, p6, p7, p8, .pointer (some ⟨B, 0, none⟩), p10, p11, p12, p13, p14, p15, p16, p17, p18, p19, p20, p21, p22, p23, p24, p25, p26, p27, p28, p29, p30, p31, p32, p33, p34, p35, p36, p37, p38, p39, p40, p41, p42, p43, p44, p45, p46, p47, p48, p49, p50, p51, p52, p53, t 0, t 1, t 2, t 3, t 4, t 5, t 6, t 7, t 8, t 9, t 10, t 11, t 12, t 13, t 14, v3, p70, p71, p72, p73, p74, p75], []⟩ ∧ (Wr Bs bw (l ++ (tLine ti).data.toList) X ∧ Below Bs W X)) (by kernel_rfl) (by kernel_rfl) (by kernel_rfl) ?_ rfl ?_ ?_ ?_
  · intro i v X Y hi h hb
    rcases (show i = 0 ∨ i = 1 ∨ i = 2 ∨ i = 3 ∨ i = 4 ∨ i = 5 ∨ i = 6 ∨ i = 7 ∨ i = 8 ∨ i = 9 ∨ i = 10 ∨ i = 11 ∨ i = 12 ∨ i = 13 ∨ i = 14 by omega) with rfl | rfl | rfl | rfl | rfl | rfl | rfl | rfl | rfl | rfl | rfl | rfl | rfl | rfl | rfl
    · exact h
    · exact h
    · exact h
    · exact h
    · exact h
    · exact h
    · exact h
    · exact h
    · exact h
    · exact h
    · exact h
    · exact h
    · exact h
    · exact h
    · exact h.grow hb (Nat.le_refl _)
  · intro i hi t X K hb hg hK
    rcases (show i = 0 ∨ i = 1 ∨ i = 2 ∨ i = 3 ∨ i = 4 ∨ i = 5 ∨ i = 6 ∨ i = 7 ∨ i = 8 ∨ i = 9 ∨ i = 10 ∨ i = 11 ∨ i = 12 ∨ i = 13 ∨ i = 14 by omega) with rfl | rfl | rfl | rfl | rfl | rfl | rfl | rfl | rfl | rfl | rfl | rfl | rfl | rfl | rfl
    · have h := hK (.pointer (some ⟨B, 0, none⟩)) X rfl (Below.refl _ _)
      refine wpOp_of rfl rfl ?_
      clear hK hg
      go_simp
      simpa [updT] using h
    · have e0 : t 0 = .pointer (some ⟨B, 0, none⟩) := hg 0 ⟨_, rfl, ⟨0, .data⟩, by simp, rfl, rfl⟩
      have q := (hb.cell (p := ⟨B, 0, none⟩) hB).trans hc0
      have h := hK (.string ti.client) X rfl (Below.refl _ _)
      refine wpOp_of rfl rfl ?_
      clear hK hg
      go_simp
      simpa [updT, e0] using h
    · have h := hK (.pointer (some ⟨B, 1, none⟩)) X rfl (Below.refl _ _)
      refine wpOp_of rfl rfl ?_
      clear hK hg
      go_simp
      simpa [updT] using h
    · have e2 : t 2 = .pointer (some ⟨B, 1, none⟩) := hg 2 ⟨_, rfl, ⟨2, .data⟩, by simp, rfl, rfl⟩
      have q := (hb.cell (p := ⟨B, 1, none⟩) hB).trans hc1
      have h := hK (.int .i64 nn) X rfl (Below.refl _ _)
      refine wpOp_of rfl rfl ?_
      clear hK hg
      go_simp
      simpa [updT, e2] using h
    · have e3 : t 3 = .int .i64 nn := hg 3 ⟨_, rfl, ⟨3, .data⟩, by simp, rfl, rfl⟩
      refine wpOp_of rfl rfl ?_
      have HK := hid hK
      clear hK hg
      go_simp
      go_at_call 39
      refine (itoaS_any nn (by omega) X (hT.below hb)).mono ?_
      rintro r Y ⟨rfl, hbY⟩
      have h := HK.out (.string (dS nn)) Y rfl hbY
      simpa [updT, e3] using h
    · have h := hK (.pointer (some ⟨B, 3, none⟩)) X rfl (Below.refl _ _)
      refine wpOp_of rfl rfl ?_
      clear hK hg
      go_simp
      simpa [updT] using h
    · have e5 : t 5 = .pointer (some ⟨B, 3, none⟩) := hg 5 ⟨_, rfl, ⟨5, .data⟩, by simp, rfl, rfl⟩
      have q := (hb.cell (p := ⟨B, 3, none⟩) hB).trans hc3
      have h := hK (.int .i64 cc) X rfl (Below.refl _ _)
      refine wpOp_of rfl rfl ?_
      clear hK hg
      go_simp
      simpa [updT, e5] using h
    · have e6 : t 6 = .int .i64 cc := hg 6 ⟨_, rfl, ⟨6, .data⟩, by simp, rfl, rfl⟩
      refine wpOp_of rfl rfl ?_
      have HK := hid hK
      clear hK hg
      go_simp
      go_at_call 39
      refine (itoaS_any cc (by omega) X (hT.below hb)).mono ?_
      rintro r Y ⟨rfl, hbY⟩
      have h := HK.out (.string (dS cc)) Y rfl hbY
      simpa [updT, e6] using h
    · have h := hK (.pointer (some ⟨B, 4, none⟩)) X rfl (Below.refl _ _)
      refine wpOp_of rfl rfl ?_
      clear hK hg
      go_simp
      simpa [updT] using h
    · have e8 : t 8 = .pointer (some ⟨B, 4, none⟩) := hg 8 ⟨_, rfl, ⟨8, .data⟩, by simp, rfl, rfl⟩
      have q := (hb.cell (p := ⟨B, 4, none⟩) hB).trans hc4
      have h := hK (.int .i64 vv) X rfl (Below.refl _ _)
      refine wpOp_of rfl rfl ?_
      clear hK hg
      go_simp
      simpa [updT, e8] using h
    · have e9 : t 9 = .int .i64 vv := hg 9 ⟨_, rfl, ⟨9, .data⟩, by simp, rfl, rfl⟩
      refine wpOp_of rfl rfl ?_
      have HK := hid hK
      clear hK hg
      go_simp
      go_at_call 39
      refine (itoaS_any vv (by omega) X (hT.below hb)).mono ?_
      rintro r Y ⟨rfl, hbY⟩
      have h := HK.out (.string (dS vv)) Y rfl hbY
      simpa [updT, e9] using h
    · have h := hK (.pointer (some ⟨B, 2, none⟩)) X rfl (Below.refl _ _)
      refine wpOp_of rfl rfl ?_
      clear hK hg
      go_simp
      simpa [updT] using h
    · have e11 : t 11 = .pointer (some ⟨B, 2, none⟩) := hg 11 ⟨_, rfl, ⟨11, .data⟩, by simp, rfl, rfl⟩
      have q := (hb.cell (p := ⟨B, 2, none⟩) hB).trans hc2
      have h := hK (.string ti.print) X rfl (Below.refl _ _)
      refine wpOp_of rfl rfl ?_
      clear hK hg
      go_simp
      simpa [updT, e11] using h
    · have e12 : t 12 = .string ti.print := hg 12 ⟨_, rfl, ⟨12, .data⟩, by simp, rfl, rfl⟩
      refine wpOp_of rfl rfl ?_
      have HK := hid hK
      clear hK hg
      go_simp
      go_at_call 42
      refine (implQuoteS_any ti.print X (by omega)).mono ?_
      rintro r Y ⟨rfl, hbY⟩
      have h := HK.out (.string (quS ti.print)) Y rfl hbY
      simpa [updT, e12] using h
    · have e1 : t 1 = .string ti.client := hg 1 ⟨_, rfl, ⟨1, .data⟩, by simp, rfl, rfl⟩
      have e4 : t 4 = .string (dS nn) := hg 4 ⟨_, rfl, ⟨4, .data⟩, by simp, rfl, rfl⟩
      have e7 : t 7 = .string (dS cc) := hg 7 ⟨_, rfl, ⟨7, .data⟩, by simp, rfl, rfl⟩
      have e10 : t 10 = .string (dS vv) := hg 10 ⟨_, rfl, ⟨10, .data⟩, by simp, rfl, rfl⟩
      have e13 : t 13 = .string (quS ti.print) := hg 13 ⟨_, rfl, ⟨13, .data⟩, by simp, rfl, rfl⟩
      have h := hK (.slice (some ⟨X.heap.size, 0, none⟩) 6 6) (X.alloc (.cells (sCells [⟨#[116, 105, 99, 107, 101, 116]⟩, ti.client, dS nn, dS cc, dS vv, quS ti.print]).toArray 9)) ((SL.new X [⟨#[116, 105, 99, 107, 101, 116]⟩, ti.client, dS nn, dS cc, dS vv, quS ti.print]).mono hb.size) (below_alloc _ _)
      refine wpOp_of rfl rfl ?_
      clear hK hg
      go_simp
      simpa [updT, e1, e4, e7, e10, e13, sCells] using h
  · intro t X K hb hg hK
    have g : SL X W.heap.size (t 14) [⟨#[116, 105, 99, 107, 101, 116]⟩, ti.client, dS nn, dS cc, dS vv, quS ti.print] := hg 14 (by omega)
    have hlen : ((joinL [⟨#[116, 105, 99, 107, 101, 116]⟩, ti.client, dS nn, dS cc, dS vv, quS ti.print]).length : Int) ≤ 1000000000000 := by
      have h1 := joinL_len (m := 3000002) (a := ⟨#[116, 105, 99, 107, 101, 116]⟩) (xs := [ti.client, dS nn, dS cc, dS vv, quS ti.print]) (by
        intro s hs
        simp only [List.mem_cons, List.not_mem_nil, or_false] at hs
        rcases hs with rfl | rfl | rfl | rfl | rfl | rfl
        · decide
        · omega
        · omega
        · omega
        · omega
        · omega)
      simp only [List.length_cons, List.length_nil] at h1
      omega
    refine wpOp_of rfl rfl ?_
    have HK := hid hK
    have HW := hid hW
    have HG := hid g
    clear hK hg hW g
    go_simp
    go_at_call 38
    refine (line_any Bs bw l W.heap.size (t 14) [⟨#[116, 105, 99, 107, 101, 116]⟩, ti.client, dS nn, dS cc, dS vv, quS ti.print] X (HW.out.grow hb) (Nat.le_trans hBs hb.size) HG.out (by simp) hlen (by omega)).mono ?_
    rintro r Y ⟨rfl, hw0, hbY⟩
    have hw : Wr Bs bw (l ++ (tLine ti).data.toList) Y := by rw [← tLine_l, ← en.out, ← ec.out, ← ev.out]; exact hw0
    have h := HK.out ⟨#[p0, p1, p2, .pointer (some ⟨bw, 0, none⟩), p4, p5, p6, p7, p8, .pointer (some ⟨B, 0, none⟩), p10, p11, p12, p13, p14, p15, p16, p17, p18, p19, p20, p21, p22, p23, p24, p25, p26, p27, p28, p29, p30, p31, p32, p33, p34, p35, p36, p37, p38, p39, p40, p41, p42, p43, p44, p45, p46, p47, p48, p49, p50, p51, p52, p53, t 0, t 1, t 2, t 3, t 4, t 5, t 6, t 7, t 8, t 9, t 10, t 11, t 12, t 13, t 14, (.tuple #[]), p70, p71, p72, p73, p74, p75], []⟩ Y ⟨t, .tuple #[], rfl, hw, (hb.mono hBs).trans hbY⟩
    simpa using h
  · rintro a X ⟨t, v3, rfl, hp⟩
    exact hQ t v3 X hp
end Go.Proofs.YtkfbclopkgnacaaGreatDoor
