import Derived.Test.YtkfbclopkgnacaaGreatDoorJr
namespace Go.Proofs.YtkfbclopkgnacaaGreatDoor
open Go.RowKit Go.Shelf
/-- the cells of a new list of one element -/
def NwC (X : World) (H : Nat) (l : List Value) : Prop := ∀ j u, l[j]? = some u → X.cell? ((⟨H, 0, none⟩ : Addr).add j) = some u
theorem NwC.below {X Y : World} {H : Nat} {l : List Value} (h : NwC X H l) (hb : Below X.heap.size X Y) (hH : H < X.heap.size) : NwC Y H l := fun j u hu => by
  have e : ((⟨H, 0, none⟩ : Addr).add j) = ⟨H, 0 + j, none⟩ := by unfold Addr.add; split <;> simp_all
  have := h j u hu
  rw [e] at this ⊢
  rw [hb.cell (p := ⟨H, 0 + j, none⟩) hH]
  exact this
theorem StrsOwn.bel {X Y : World} {b : Nat} {ad : Option Addr} {n : Nat} {s : Nat → ByteArray} (h : StrsOwn X b (b + 1) ad n s) (hb : Below X.heap.size X Y) (hl : n ≠ 0 → b < X.heap.size) : StrsOwn Y b (b + 1) ad n s := h.frP (FrP.of_below (P := fun _ => False) hb) (fun h0 => ⟨fun h => h, hl h0⟩)
def rdReg15G (w : World) (wz : Nat) (v1 : Value) (rs : ByteArray) : Nat → Value → World → Prop
  | 0, v, _ => v = (.pointer (some ⟨w.heap.size + 1, 2, none⟩))
  | 1, v, _ => v = v1
  | 2, v, _ => v = .string rs
  | 3, v, X => ∃ (o : Ob) (ad : Option Addr) (cap b' : Nat), v = .agg #[.string o.kind, .string o.name, .int .i64 o.ver, .int .i64 o.born, .string o.text, .bool o.ending, .slice ad o.hn cap] ∧ StrsOwn X b' (b' + 1) ad o.hn o.hs ∧ (o.hn ≠ 0 → wz ≤ b' ∧ b' < X.heap.size) ∧ ObS rs o
  | 4, v, X => ∃ (o : Ob) (ad : Option Addr) (cap b' H : Nat), v = .slice (some ⟨H, 0, none⟩) 1 1 ∧ H < X.heap.size ∧ NwC X H [.string o.kind, .string o.name, .int .i64 o.ver, .int .i64 o.born, .string o.text, .bool o.ending, .slice ad o.hn cap] ∧ StrsOwn X b' (b' + 1) ad o.hn o.hs ∧ (o.hn ≠ 0 → wz ≤ b' ∧ b' < X.heap.size) ∧ ObS rs o
  | _, _, _ => True
set_option maxRecDepth 100000 in
set_option maxHeartbeats 4000000 in
theorem rdReg15 (p0 p1 p2 p3 p5 p6 p7 p9 p10 p11 p12 p13 p14 p15 p16 p17 p18 p19 p20 p21 p22 p23 p24 p25 p26 p27 p28 p29 p30 p31 p32 p33 p34 p35 p36 p37 p38 p39 p40 p41 p42 p43 p44 p45 p46 p47 p48 p49 p50 p51 p52 p53 p54 p55 p56 p57 p58 p59 p60 p61 p62 p63 p64 p65 p66 p67 p68 p69 p70 p71 p72 p73 p74 p75 p76 p77 p78 p79 p80 p81 p82 p83 p84 p85 p86 p87 p88 p89 p90 p91 p92 p93 p94 p95 p96 p97 p98 p99 p100 p101 p102 p103 p104 p105 p106 p107 p108 p109 p110 p111 p112 p113 p114 p115 p116 p117 p118 p119 p120 p121 p122 p123 p124 p125 p126 p127 p128 p129 p130 p131 p132 p133 p134 : Value) (w W1 W : World) (x : Bk) (v1 v2 v3 : Value) (rs : ByteArray) (hrs : (rs.size : Int) ≤ 1048576) (S : SpS w W1 W x v1 v2 v3) (hn : x.on ≤ 1048576) (Q : Exit → Act → World → Prop)
    (hQ : ∀ (t : Nat → Value) (u3 : Value) (o : Ob) (Y : World), SpS w W1 Y { x with on := x.on + 1, os := updF x.os x.on o } u3 v2 v3 → ObS rs o → Q .normal ⟨#[p0, p1, p2, p3, (.pointer (some ⟨w.heap.size + 1, 0, none⟩)), p5, p6, p7, (.string rs), p9, p10, p11, p12, p13, p14, p15, p16, p17, p18, p19, p20, p21, p22, p23, p24, p25, p26, p27, p28, p29, p30, p31, p32, p33, p34, p35, p36, p37, p38, p39, p40, p41, p42, p43, p44, p45, p46, p47, p48, p49, p50, p51, p52, p53, p54, p55, p56, p57, p58, p59, p60, p61, t 0, t 1, t 2, t 3, t 4, u3, (.pointer (some ⟨w.heap.size + 1, 2, none⟩)), p69, p70, p71, p72, p73, p74, p75, p76, p77, p78, p79, p80, p81, p82, p83, p84, p85, p86, p87, p88, p89, p90, p91, p92, p93, p94, p95, p96, p97, p98, p99, p100, p101, p102, p103, p104, p105, p106, p107, p108, p109, p110, p111, p112, p113, p114, p115, p116, p117, p118, p119, p120, p121, p122, p123, p124, p125, p126, p127, p128, p129, p130, p131, p132, p133, p134], []⟩ Y) :
    Code.wp Tryz.prog (Code.region 15 #[{ dst := some 62, op := Op.fieldAddr 26 (Operand.tmp 4) 2, type := 0, pos := "l9_book_form.go:147", after := #[], guard := none }, { dst := some 63, op := Op.load 22 (Operand.tmp 62), type := 22, pos := "l9_book_form.go:147", after := #[{ on := 0, ground := Ground.data }], guard := none }, { dst := some 64, op := Op.move (Operand.tmp 8), type := 9, pos := "l9_book_form.go:147", after := #[], guard := none }, { dst := some 65, op := Op.call { callee := Callee.value (Operand.func 12), args := #[Operand.tmp 64], argTypes := #[9] }, type := 38, pos := "l9_book_form.go:147", after := #[{ on := 2, ground := Ground.data }], guard := none }, { dst := some 66, op := Op.buildSlice 22 1 #[(0, Operand.tmp 65)], type := 22, pos := "l9_book_form.go:147", after := #[{ on := 3, ground := Ground.data }], guard := none }, { dst := some 67, op := Op.call { callee := Callee.builtin Builtin.append, args := #[Operand.tmp 63, Operand.tmp 66], argTypes := #[22, 22] }, type := 22, pos := "l9_book_form.go:147", after := #[{ on := 1, ground := Ground.data }, { on := 4, ground := Ground.data }, { on := 3, ground := Ground.chain }], guard := none }, { dst := some 68, op := Op.fieldAddr 26 (Operand.tmp 4) 2, type := 0, pos := "l9_book_form.go:147", after := #[{ on := 0, ground := Ground.phase }, { on := 1, ground := Ground.phase }, { on := 2, ground := Ground.phase }, { on := 3, ground := Ground.phase }, { on := 4, ground := Ground.phase }, { on := 5, ground := Ground.phase }], guard := none }, { dst := none, op := Op.store 22 (Operand.tmp 68) (Operand.tmp 67), type := 0, pos := "l9_book_form.go:147", after := #[{ on := 6, ground := Ground.data }, { on := 5, ground := Ground.data }, { on := 5, ground := Ground.chain }, { on := 0, ground := Ground.phase }, { on := 1, ground := Ground.phase }, { on := 2, ground := Ground.phase }, { on := 3, ground := Ground.phase }, { on := 4, ground := Ground.phase }, { on := 5, ground := Ground.phase }], guard := none }] true) Q ⟨#[p0, p1, p2, p3, (.pointer (some ⟨w.heap.size + 1, 0, none⟩)), p5, p6, p7, (.string rs), p9, p10, p11, p12, p13, p14, p15, p16, p17, p18, p19, p20, p21, p22, p23, p24, p25, p26, p27, p28, p29, p30, p31, p32, p33, p34, p35, p36, p37, p38, p39, p40, p41, p42, p43, p44, p45, p46, p47, p48, p49, p50, p51, p52, p53, p54, p55, p56, p57, p58, p59, p60, p61, p62, p63, p64, p65, p66, p67, p68, p69, p70, p71, p72, p73, p74, p75, p76, p77, p78, p79, p80, p81, p82, p83, p84, p85, p86, p87, p88, p89, p90, p91, p92, p93, p94, p95, p96, p97, p98, p99, p100, p101, p102, p103, p104, p105, p106, p107, p108, p109, p110, p111, p112, p113, p114, p115, p116, p117, p118, p119, p120, p121, p122, p123, p124, p125, p126, p127, p128, p129, p130, p131, p132, p133, p134], []⟩ W := by
  obtain ⟨i0, hi0, hz0, hz1, hz2⟩ := info_parts Tryz.info38r
  obtain ⟨A1, C1, h1, A2, C2, h2, hB⟩ := S.bd
  obtain ⟨c, hrow, hat⟩ := hB.o.row
  have hz := S.sz
  have hzf := S.fr.size
  refine regionQ (by kernel_rfl) 5 (fun t : Nat → Value => #[p0, p1, p2, p3, (.pointer (some ⟨w.heap.size + 1, 0, none⟩)), p5, p6, p7, (.string rs), p9, p10, p11, p12, p13, p14, p15, p16, p17, p18, p19, p20, p21, p22, p23, p24, p25, p26, p27, p28, p29, p30, p31, p32, p33, p34, p35, p36, p37, p38, p39, p40, p41, p42, p43, p44, p45, p46, p47, p48, p49, p50, p51, p52, p53, p54, p55, p56, p57, p58, p59, p60, p61, t 0, t 1, t 2, t 3, t 4, p67, p68, p69, p70, p71, p72, p73, p74, p75, p76, p77, p78, p79, p80, p81, p82, p83, p84, p85, p86, p87, p88, p89, p90, p91, p92, p93, p94, p95, p96, p97, p98, p99, p100, p101, p102, p103, p104, p105, p106, p107, p108, p109, p110, p111, p112, p113, p114, p115, p116, p117, p118, p119, p120, p121, p122, p123, p124, p125, p126, p127, p128, p129, p130, p131, p132, p133, p134]) (fun i => match i with | 0 => p62 | 1 => p63 | 2 => p64 | 3 => p65 | _ => p66) (rdReg15G w W.heap.size v1 rs)
    (fun (A : Act) (Y : World) => ∃ (t : Nat → Value) (u3 : Value) (o : Ob), A = ⟨#[p0, p1, p2, p3, (.pointer (some ⟨w.heap.size + 1, 0, none⟩)), p5, p6, p7, (.string rs), p9, p10, p11, p12, p13, p14, p15, p16, p17, p18, p19, p20, p21, p22, p23, p24, p25, p26, p27, p28, p29, p30, p31, p32, p33, p34, p35, p36, p37, p38, p39, p40, p41, p42, p43, p44, p45, p46, p47, p48, p49, p50, p51, p52, p53, p54, p55, p56, p57, p58, p59, p60, p61, t 0, t 1, t 2, t 3, t 4, u3, p68, p69, p70, p71, p72, p73, p74, p75, p76, p77, p78, p79, p80, p81, p82, p83, p84, p85, p86, p87, p88, p89, p90, p91, p92, p93, p94, p95, p96, p97, p98, p99, p100, p101, p102, p103, p104, p105, p106, p107, p108, p109, p110, p111, p112, p113, p114, p115, p116, p117, p118, p119, p120, p121, p122, p123, p124, p125, p126, p127, p128, p129, p130, p131, p132, p133, p134], []⟩ ∧ (∃ a3 n3 c3, u3 = .slice a3 n3 c3) ∧ Y.cell? ⟨w.heap.size + 1, 2, none⟩ = some v1 ∧ Y.frozen? ⟨w.heap.size + 1, 2, none⟩ = false ∧ SpS w W1 (Y.setCell ⟨w.heap.size + 1, 2, none⟩ u3) { x with on := x.on + 1, os := updF x.os x.on o } u3 v2 v3 ∧ ObS rs o)
    (fun (A : Act) (Y : World) => ∃ (t : Nat → Value) (u3 : Value) (o : Ob), A = ⟨#[p0, p1, p2, p3, (.pointer (some ⟨w.heap.size + 1, 0, none⟩)), p5, p6, p7, (.string rs), p9, p10, p11, p12, p13, p14, p15, p16, p17, p18, p19, p20, p21, p22, p23, p24, p25, p26, p27, p28, p29, p30, p31, p32, p33, p34, p35, p36, p37, p38, p39, p40, p41, p42, p43, p44, p45, p46, p47, p48, p49, p50, p51, p52, p53, p54, p55, p56, p57, p58, p59, p60, p61, t 0, t 1, t 2, t 3, t 4, u3, (.pointer (some ⟨w.heap.size + 1, 2, none⟩)), p69, p70, p71, p72, p73, p74, p75, p76, p77, p78, p79, p80, p81, p82, p83, p84, p85, p86, p87, p88, p89, p90, p91, p92, p93, p94, p95, p96, p97, p98, p99, p100, p101, p102, p103, p104, p105, p106, p107, p108, p109, p110, p111, p112, p113, p114, p115, p116, p117, p118, p119, p120, p121, p122, p123, p124, p125, p126, p127, p128, p129, p130, p131, p132, p133, p134], []⟩ ∧ (∃ a3 n3 c3, u3 = .slice a3 n3 c3) ∧ Y.cell? ⟨w.heap.size + 1, 2, none⟩ = some v1 ∧ Y.frozen? ⟨w.heap.size + 1, 2, none⟩ = false ∧ SpS w W1 (Y.setCell ⟨w.heap.size + 1, 2, none⟩ u3) { x with on := x.on + 1, os := updF x.os x.on o } u3 v2 v3 ∧ ObS rs o)
    (fun (A : Act) (Y : World) => ∃ (t : Nat → Value) (u3 : Value) (o : Ob), A = ⟨#[p0, p1, p2, p3, (.pointer (some ⟨w.heap.size + 1, 0, none⟩)), p5, p6, p7, (.string rs), p9, p10, p11, p12, p13, p14, p15, p16, p17, p18, p19, p20, p21, p22, p23, p24, p25, p26, p27, p28, p29, p30, p31, p32, p33, p34, p35, p36, p37, p38, p39, p40, p41, p42, p43, p44, p45, p46, p47, p48, p49, p50, p51, p52, p53, p54, p55, p56, p57, p58, p59, p60, p61, t 0, t 1, t 2, t 3, t 4, u3, (.pointer (some ⟨w.heap.size + 1, 2, none⟩)), p69, p70, p71, p72, p73, p74, p75, p76, p77, p78, p79, p80, p81, p82, p83, p84, p85, p86, p87, p88, p89, p90, p91, p92, p93, p94, p95, p96, p97, p98, p99, p100, p101, p102, p103, p104, p105, p106, p107, p108, p109, p110, p111, p112, p113, p114, p115, p116, p117, p118, p119, p120, p121, p122, p123, p124, p125, p126, p127, p128, p129, p130, p131, p132, p133, p134], []⟩ ∧ SpS w W1 Y { x with on := x.on + 1, os := updF x.os x.on o } u3 v2 v3 ∧ ObS rs o)
    rfl (by kernel_rfl) (by kernel_rfl) (by kernel_rfl) (by kernel_rfl) ?_ rfl ?_ ?_ ?_ ?_ ?_
  · intro i v X Y hi h hb
    rcases (show i = 0 ∨ i = 1 ∨ i = 2 ∨ i = 3 ∨ i = 4 by omega) with rfl | rfl | rfl | rfl | rfl
    · exact h
    · exact h
    · exact h
    · obtain ⟨o, ad, cap, b', e, h1, h2, h3⟩ := h
      exact ⟨o, ad, cap, b', e, h1.bel hb (fun h0 => (h2 h0).2), fun h0 => ⟨(h2 h0).1, Nat.lt_of_lt_of_le (h2 h0).2 hb.size⟩, h3⟩
    · obtain ⟨o, ad, cap, b', H, e, h0, h1, h2, h3, h4⟩ := h
      exact ⟨o, ad, cap, b', H, e, Nat.lt_of_lt_of_le h0 hb.size, h1.below hb h0, h2.bel hb (fun h0 => (h3 h0).2), fun h0 => ⟨(h3 h0).1, Nat.lt_of_lt_of_le (h3 h0).2 hb.size⟩, h4⟩
  · intro i hi t X K hb hg hK
    rcases (show i = 0 ∨ i = 1 ∨ i = 2 ∨ i = 3 ∨ i = 4 by omega) with rfl | rfl | rfl | rfl | rfl
    · have h := hK ((.pointer (some ⟨w.heap.size + 1, 2, none⟩))) X rfl (Below.refl _ _)
      refine wpOp_of rfl rfl ?_
      clear hK hg
      go_simp
      simpa [updT] using h
    · have e0 : t 0 = (.pointer (some ⟨w.heap.size + 1, 2, none⟩)) := hg 0 ⟨_, rfl, ⟨0, .data⟩, by simp, rfl, rfl⟩
      have c := (S.below hb).bk 2 _ rfl
      rw [Nat.zero_add] at c
      have h := hK (v1) X rfl (Below.refl _ _)
      refine wpOp_of rfl rfl ?_
      clear hK hg
      go_simp
      simpa [updT, e0] using h
    · have h := hK (.string rs) X rfl (Below.refl _ _)
      refine wpOp_of rfl rfl ?_
      clear hK hg
      go_simp
      simpa [updT] using h
    · have e2 : t 2 = .string rs := hg 2 ⟨_, rfl, ⟨2, .data⟩, by simp, rfl, rfl⟩
      refine wpOp_of rfl rfl ?_
      go_simp
      go_at_call 12
      refine (readObj_any rs hrs X).mono ?_
      rintro e Y ⟨o, ad, cap, b', rfl, h1, h2, h3, h4⟩
      have h := hK (.agg #[.string o.kind, .string o.name, .int .i64 o.ver, .int .i64 o.born, .string o.text, .bool o.ending, .slice ad o.hn cap]) Y ⟨o, ad, cap, b', rfl, h1, fun h0 => ⟨Nat.le_trans hb.size (h2 h0).1, (h2 h0).2⟩, h4⟩ h3
      simpa [updT, e2] using h
    · obtain ⟨o, ad, cap, b', e3, s3, l3, os⟩ := hg 3 ⟨_, rfl, ⟨3, .data⟩, by simp, rfl, rfl⟩
      have h := hK (.slice (some ⟨X.heap.size, 0, none⟩) 1 1) (X.alloc (.cells #[.string o.kind, .string o.name, .int .i64 o.ver, .int .i64 o.born, .string o.text, .bool o.ending, .slice ad o.hn cap] 38)) ⟨o, ad, cap, b', X.heap.size, rfl, by simp, news_alloc X [.string o.kind, .string o.name, .int .i64 o.ver, .int .i64 o.born, .string o.text, .bool o.ending, .slice ad o.hn cap] 38, s3.bel (below_alloc' X _) (fun h0 => (l3 h0).2), fun h0 => ⟨(l3 h0).1, Nat.lt_of_lt_of_le (l3 h0).2 (by simp)⟩, os⟩ (below_alloc' X _)
      refine wpOp_of rfl rfl ?_
      clear hK hg
      go_simp
      simpa [updT, e3] using h
  · intro t X K hb hg hK
    have e1 : t 1 = v1 := hg 1 (by omega)
    obtain ⟨o, ad, cap, b', H, eS, hH, nw, s3, l3, os⟩ := hg 4 (by omega)
    have HBX := hb
    have hzX := hb.size
    have hSX := S.below hb
    have hrow2 := ownsRow_fr hrow (FrP.of_below (P := fun _ => False) HBX) (fun _ _ h => h)
    refine wpOp_of rfl rfl (op_app (.tmp 63) (.tmp 66) 22 rfl W1.heap.size 38 i0 _ 7 96 Tryz.underlying22 hi0 hz0 hz1 hz2 rfl (by decide) v1 x.on (rowCells (x.on * 7) c) e1 hrow2 ⟨H, 0, none⟩ 1 1 [.string o.kind, .string o.name, .int .i64 o.ver, .int .i64 o.born, .string o.text, .bool o.ending, .slice ad o.hn cap] eS rfl nw (by simp [Value.oneCell']) (by unfold maxLen; omega) (by omega) (by omega) ?_)
    intro v6 w6 own6 grow6 at6
    obtain ⟨c6, f6⟩ := cell_grown2 (o := 2) grow6 (fun g hg => (hrow.lt g hg).1) (b := w.heap.size + 1) (by omega) (by omega) (hSX.bk 2 _ rfl) (hSX.bt 2 (by omega)).2
    refine hK _ _ ⟨t, v6, o, ?_, own_slice own6, c6, f6, SpS.addO S hB hat hb s3 l3 own6 grow6 at6, os⟩
    simp [Act.put]
  · rintro A Y K ⟨t, u3, o, rfl, s6, c6, f6, hR, hO⟩ hK
    have h := hK _ Y ⟨t, u3, o, rfl, s6, c6, f6, hR, hO⟩
    refine wpOp_of rfl rfl ?_
    clear hK
    go_simp
    simpa using h
  · rintro A Y K ⟨t, _, o, rfl, ⟨a3, n3, c3, rfl⟩, c6, f6, hR, hO⟩ hK
    have h := hK _ _ ⟨t, _, o, rfl, hR, hO⟩
    refine wpOp_of rfl rfl ?_
    clear hK
    go_simp
    simpa using h
  · rintro A Y ⟨t, u3, o, rfl, hR, hO⟩
    exact hQ t u3 o Y hR hO
def rdReg19G (w : World) (v2 : Value) (ob : Ob) (ad : Option Addr) (cap : Nat) (gw : ByteArray) (g cp B : Nat) : Nat → Value → World → Prop
  | 0, v, _ => v = (.pointer (some ⟨w.heap.size + 1, 3, none⟩))
  | 1, v, _ => v = v2
  | 2, v, _ => v = (.pointer (some ⟨B, 2, none⟩))
  | 3, v, _ => v = .int .i64 ob.ver
  | 4, v, _ => v = (.slice (some ⟨g, 0, none⟩) 1 cp)
  | 5, v, _ => v = (.pointer (some ⟨g, 0, none⟩))
  | 6, v, _ => v = .string gw
  | 7, v, _ => v = .bool (gw.toList == [103, 111, 110, 101])
  | 8, v, _ => v = .agg #[.string ob.kind, .string ob.name, .int .i64 ob.ver, .int .i64 ob.born, .string ob.text, .bool ob.ending, .slice ad ob.hn cap]
  | 9, v, _ => v = .agg #[.int .i64 ob.ver, .bool (gw.toList == [103, 111, 110, 101]), .string ob.kind, .string ob.name, .int .i64 ob.ver, .int .i64 ob.born, .string ob.text, .bool ob.ending, .slice ad ob.hn cap]
  | 10, v, X => ∃ H : Nat, v = .slice (some ⟨H, 0, none⟩) 1 1 ∧ H < X.heap.size ∧ NwC X H [.int .i64 ob.ver, .bool (gw.toList == [103, 111, 110, 101]), .string ob.kind, .string ob.name, .int .i64 ob.ver, .int .i64 ob.born, .string ob.text, .bool ob.ending, .slice ad ob.hn cap]
  | _, _, _ => True
set_option maxRecDepth 100000 in
set_option maxHeartbeats 4000000 in
theorem rdReg19 (p0 p1 p2 p3 p5 p6 p7 p8 p9 p10 p12 p14 p15 p16 p17 p18 p19 p20 p21 p22 p23 p24 p25 p26 p27 p28 p29 p30 p31 p32 p33 p34 p35 p36 p37 p38 p39 p40 p41 p42 p43 p44 p45 p46 p47 p48 p49 p50 p51 p52 p53 p54 p55 p56 p57 p58 p59 p60 p61 p62 p63 p64 p65 p66 p67 p68 p69 p70 p71 p72 p73 p74 p75 p76 p77 p78 p79 p80 p81 p82 p83 p84 p85 p86 p87 p88 p89 p90 p91 p92 p93 p94 p95 p96 p97 p98 p99 p100 p101 p102 p103 p104 p105 p106 p107 p108 p109 p110 p111 p112 p113 p114 p115 p116 p117 p118 p119 p120 p121 p122 p123 p124 p125 p126 p127 p128 p129 p130 p131 p132 p133 p134 : Value) (w W1 W : World) (x : Bk) (v1 v2 v3 : Value) (W0 : World) (ob : Ob) (ad : Option Addr) (cap b' : Nat) (gw : ByteArray) (g cp B : Nat) (S0 : SpS w W1 W0 x v1 v2 v3) (hb0 : Below W0.heap.size W0 W) (hgW : g < W.heap.size) (cg : W.cell? ⟨g, 0, none⟩ = some (.string gw)) (hBW : B < W.heap.size) (rgB : W.rangeAt B 0 [.string ob.kind, .string ob.name, .int .i64 ob.ver, .int .i64 ob.born, .string ob.text, .bool ob.ending, .slice ad ob.hn cap]) (sO : StrsOwn W b' (b' + 1) ad ob.hn ob.hs) (lO : ob.hn ≠ 0 → W0.heap.size ≤ b' ∧ b' < W.heap.size) (S : SpS w W1 W x v1 v2 v3) (hn : x.hn ≤ 1048576) (Q : Exit → Act → World → Prop)
    (hQ : ∀ (t : Nat → Value) (u3 : Value) (o : Ch) (Y : World), SpS w W1 Y { x with hn := x.hn + 1, hs := updF x.hs x.hn o } v1 u3 v3 → o = ⟨ob.ver, gw.toList == [103, 111, 110, 101], ob⟩ → Q .normal ⟨#[p0, p1, p2, p3, (.pointer (some ⟨w.heap.size + 1, 0, none⟩)), p5, p6, p7, p8, p9, p10, (.slice (some ⟨g, 0, none⟩) 1 cp), p12, (.pointer (some ⟨B, 0, none⟩)), p14, p15, p16, p17, p18, p19, p20, p21, p22, p23, p24, p25, p26, p27, p28, p29, p30, p31, p32, p33, p34, p35, p36, p37, p38, p39, p40, p41, p42, p43, p44, p45, p46, p47, p48, p49, p50, p51, p52, p53, p54, p55, p56, p57, p58, p59, p60, p61, p62, p63, p64, p65, p66, p67, p68, p69, p70, p71, p72, p73, p74, p75, p76, p77, t 0, t 1, t 2, t 3, t 4, t 5, t 6, t 7, t 8, t 9, t 10, u3, (.pointer (some ⟨w.heap.size + 1, 3, none⟩)), p91, p92, p93, p94, p95, p96, p97, p98, p99, p100, p101, p102, p103, p104, p105, p106, p107, p108, p109, p110, p111, p112, p113, p114, p115, p116, p117, p118, p119, p120, p121, p122, p123, p124, p125, p126, p127, p128, p129, p130, p131, p132, p133, p134], []⟩ Y) :
    Code.wp Tryz.prog (Code.region 19 #[{ dst := some 78, op := Op.fieldAddr 26 (Operand.tmp 4) 3, type := 0, pos := "l9_book_form.go:151", after := #[], guard := none }, { dst := some 79, op := Op.load 23 (Operand.tmp 78), type := 23, pos := "l9_book_form.go:151", after := #[{ on := 0, ground := Ground.data }], guard := none }, { dst := some 80, op := Op.fieldAddr 38 (Operand.tmp 13) 2, type := 0, pos := "l9_book_form.go:151", after := #[], guard := none }, { dst := some 81, op := Op.load 3 (Operand.tmp 80), type := 3, pos := "l9_book_form.go:151", after := #[{ on := 2, ground := Ground.data }], guard := none }, { dst := some 82, op := Op.move (Operand.tmp 11), type := 32, pos := "l9_book_form.go:151", after := #[], guard := none }, { dst := some 83, op := Op.indexAddr 32 (Operand.tmp 82) (Operand.const (Value.int IntKind.i64 0)), type := 0, pos := "l9_book_form.go:151", after := #[{ on := 4, ground := Ground.data }], guard := none }, { dst := some 84, op := Op.load 9 (Operand.tmp 83), type := 9, pos := "l9_book_form.go:151", after := #[{ on := 5, ground := Ground.data }], guard := none }, { dst := some 85, op := Op.binOp BinOp.eql 9 (Operand.tmp 84) (Operand.const (Value.string { data := #[103, 111, 110, 101] })) 9, type := 4, pos := "l9_book_form.go:151", after := #[{ on := 6, ground := Ground.data }], guard := none }, { dst := some 86, op := Op.load 38 (Operand.tmp 13), type := 38, pos := "l9_book_form.go:151", after := #[], guard := none }, { dst := some 87, op := Op.build 41 #[(0, Operand.tmp 81), (1, Operand.tmp 85), (2, Operand.tmp 86)], type := 41, pos := "l9_book_form.go:151", after := #[{ on := 3, ground := Ground.data }, { on := 7, ground := Ground.data }, { on := 8, ground := Ground.data }], guard := none }, { dst := some 88, op := Op.buildSlice 23 1 #[(0, Operand.tmp 87)], type := 23, pos := "l9_book_form.go:151", after := #[{ on := 9, ground := Ground.data }], guard := none }, { dst := some 89, op := Op.call { callee := Callee.builtin Builtin.append, args := #[Operand.tmp 79, Operand.tmp 88], argTypes := #[23, 23] }, type := 23, pos := "l9_book_form.go:151", after := #[{ on := 1, ground := Ground.data }, { on := 10, ground := Ground.data }], guard := none }, { dst := some 90, op := Op.fieldAddr 26 (Operand.tmp 4) 3, type := 0, pos := "l9_book_form.go:151", after := #[{ on := 0, ground := Ground.phase }, { on := 1, ground := Ground.phase }, { on := 2, ground := Ground.phase }, { on := 3, ground := Ground.phase }, { on := 4, ground := Ground.phase }, { on := 5, ground := Ground.phase }, { on := 6, ground := Ground.phase }, { on := 7, ground := Ground.phase }, { on := 8, ground := Ground.phase }, { on := 9, ground := Ground.phase }, { on := 10, ground := Ground.phase }, { on := 11, ground := Ground.phase }], guard := none }, { dst := none, op := Op.store 23 (Operand.tmp 90) (Operand.tmp 89), type := 0, pos := "l9_book_form.go:151", after := #[{ on := 12, ground := Ground.data }, { on := 11, ground := Ground.data }, { on := 11, ground := Ground.chain }, { on := 0, ground := Ground.phase }, { on := 1, ground := Ground.phase }, { on := 2, ground := Ground.phase }, { on := 3, ground := Ground.phase }, { on := 4, ground := Ground.phase }, { on := 5, ground := Ground.phase }, { on := 6, ground := Ground.phase }, { on := 7, ground := Ground.phase }, { on := 8, ground := Ground.phase }, { on := 9, ground := Ground.phase }, { on := 10, ground := Ground.phase }, { on := 11, ground := Ground.phase }], guard := none }] true) Q ⟨#[p0, p1, p2, p3, (.pointer (some ⟨w.heap.size + 1, 0, none⟩)), p5, p6, p7, p8, p9, p10, (.slice (some ⟨g, 0, none⟩) 1 cp), p12, (.pointer (some ⟨B, 0, none⟩)), p14, p15, p16, p17, p18, p19, p20, p21, p22, p23, p24, p25, p26, p27, p28, p29, p30, p31, p32, p33, p34, p35, p36, p37, p38, p39, p40, p41, p42, p43, p44, p45, p46, p47, p48, p49, p50, p51, p52, p53, p54, p55, p56, p57, p58, p59, p60, p61, p62, p63, p64, p65, p66, p67, p68, p69, p70, p71, p72, p73, p74, p75, p76, p77, p78, p79, p80, p81, p82, p83, p84, p85, p86, p87, p88, p89, p90, p91, p92, p93, p94, p95, p96, p97, p98, p99, p100, p101, p102, p103, p104, p105, p106, p107, p108, p109, p110, p111, p112, p113, p114, p115, p116, p117, p118, p119, p120, p121, p122, p123, p124, p125, p126, p127, p128, p129, p130, p131, p132, p133, p134], []⟩ W := by
  obtain ⟨i0, hi0, hz0, hz1, hz2⟩ := info_parts Tryz.info41r
  obtain ⟨A1, C1, h1, A2, C2, h2, hB⟩ := S0.bd
  have hz00 := S0.fr.size
  obtain ⟨c, hrow, hat⟩ := hB.h.row
  have hz := S.sz
  have hzf := S.fr.size
  refine regionQ (by kernel_rfl) 11 (fun t : Nat → Value => #[p0, p1, p2, p3, (.pointer (some ⟨w.heap.size + 1, 0, none⟩)), p5, p6, p7, p8, p9, p10, (.slice (some ⟨g, 0, none⟩) 1 cp), p12, (.pointer (some ⟨B, 0, none⟩)), p14, p15, p16, p17, p18, p19, p20, p21, p22, p23, p24, p25, p26, p27, p28, p29, p30, p31, p32, p33, p34, p35, p36, p37, p38, p39, p40, p41, p42, p43, p44, p45, p46, p47, p48, p49, p50, p51, p52, p53, p54, p55, p56, p57, p58, p59, p60, p61, p62, p63, p64, p65, p66, p67, p68, p69, p70, p71, p72, p73, p74, p75, p76, p77, t 0, t 1, t 2, t 3, t 4, t 5, t 6, t 7, t 8, t 9, t 10, p89, p90, p91, p92, p93, p94, p95, p96, p97, p98, p99, p100, p101, p102, p103, p104, p105, p106, p107, p108, p109, p110, p111, p112, p113, p114, p115, p116, p117, p118, p119, p120, p121, p122, p123, p124, p125, p126, p127, p128, p129, p130, p131, p132, p133, p134]) (fun i => match i with | 0 => p78 | 1 => p79 | 2 => p80 | 3 => p81 | 4 => p82 | 5 => p83 | 6 => p84 | 7 => p85 | 8 => p86 | 9 => p87 | _ => p88) (rdReg19G w v2 ob ad cap gw g cp B)
    (fun (A : Act) (Y : World) => ∃ (t : Nat → Value) (u3 : Value) (o : Ch), A = ⟨#[p0, p1, p2, p3, (.pointer (some ⟨w.heap.size + 1, 0, none⟩)), p5, p6, p7, p8, p9, p10, (.slice (some ⟨g, 0, none⟩) 1 cp), p12, (.pointer (some ⟨B, 0, none⟩)), p14, p15, p16, p17, p18, p19, p20, p21, p22, p23, p24, p25, p26, p27, p28, p29, p30, p31, p32, p33, p34, p35, p36, p37, p38, p39, p40, p41, p42, p43, p44, p45, p46, p47, p48, p49, p50, p51, p52, p53, p54, p55, p56, p57, p58, p59, p60, p61, p62, p63, p64, p65, p66, p67, p68, p69, p70, p71, p72, p73, p74, p75, p76, p77, t 0, t 1, t 2, t 3, t 4, t 5, t 6, t 7, t 8, t 9, t 10, u3, p90, p91, p92, p93, p94, p95, p96, p97, p98, p99, p100, p101, p102, p103, p104, p105, p106, p107, p108, p109, p110, p111, p112, p113, p114, p115, p116, p117, p118, p119, p120, p121, p122, p123, p124, p125, p126, p127, p128, p129, p130, p131, p132, p133, p134], []⟩ ∧ (∃ a3 n3 c3, u3 = .slice a3 n3 c3) ∧ Y.cell? ⟨w.heap.size + 1, 3, none⟩ = some v2 ∧ Y.frozen? ⟨w.heap.size + 1, 3, none⟩ = false ∧ SpS w W1 (Y.setCell ⟨w.heap.size + 1, 3, none⟩ u3) { x with hn := x.hn + 1, hs := updF x.hs x.hn o } v1 u3 v3 ∧ o = ⟨ob.ver, gw.toList == [103, 111, 110, 101], ob⟩)
    (fun (A : Act) (Y : World) => ∃ (t : Nat → Value) (u3 : Value) (o : Ch), A = ⟨#[p0, p1, p2, p3, (.pointer (some ⟨w.heap.size + 1, 0, none⟩)), p5, p6, p7, p8, p9, p10, (.slice (some ⟨g, 0, none⟩) 1 cp), p12, (.pointer (some ⟨B, 0, none⟩)), p14, p15, p16, p17, p18, p19, p20, p21, p22, p23, p24, p25, p26, p27, p28, p29, p30, p31, p32, p33, p34, p35, p36, p37, p38, p39, p40, p41, p42, p43, p44, p45, p46, p47, p48, p49, p50, p51, p52, p53, p54, p55, p56, p57, p58, p59, p60, p61, p62, p63, p64, p65, p66, p67, p68, p69, p70, p71, p72, p73, p74, p75, p76, p77, t 0, t 1, t 2, t 3, t 4, t 5, t 6, t 7, t 8, t 9, t 10, u3, (.pointer (some ⟨w.heap.size + 1, 3, none⟩)), p91, p92, p93, p94, p95, p96, p97, p98, p99, p100, p101, p102, p103, p104, p105, p106, p107, p108, p109, p110, p111, p112, p113, p114, p115, p116, p117, p118, p119, p120, p121, p122, p123, p124, p125, p126, p127, p128, p129, p130, p131, p132, p133, p134], []⟩ ∧ (∃ a3 n3 c3, u3 = .slice a3 n3 c3) ∧ Y.cell? ⟨w.heap.size + 1, 3, none⟩ = some v2 ∧ Y.frozen? ⟨w.heap.size + 1, 3, none⟩ = false ∧ SpS w W1 (Y.setCell ⟨w.heap.size + 1, 3, none⟩ u3) { x with hn := x.hn + 1, hs := updF x.hs x.hn o } v1 u3 v3 ∧ o = ⟨ob.ver, gw.toList == [103, 111, 110, 101], ob⟩)
    (fun (A : Act) (Y : World) => ∃ (t : Nat → Value) (u3 : Value) (o : Ch), A = ⟨#[p0, p1, p2, p3, (.pointer (some ⟨w.heap.size + 1, 0, none⟩)), p5, p6, p7, p8, p9, p10, (.slice (some ⟨g, 0, none⟩) 1 cp), p12, (.pointer (some ⟨B, 0, none⟩)), p14, p15, p16, p17, p18, p19, p20, p21, p22, p23, p24, p25, p26, p27, p28, p29, p30, p31, p32, p33, p34, p35, p36, p37, p38, p39, p40, p41, p42, p43, p44, p45, p46, p47, p48, p49, p50, p51, p52, p53, p54, p55, p56, p57, p58, p59, p60, p61, p62, p63, p64, p65, p66, p67, p68, p69, p70, p71, p72, p73, p74, p75, p76, p77, t 0, t 1, t 2, t 3, t 4, t 5, t 6, t 7, t 8, t 9, t 10, u3, (.pointer (some ⟨w.heap.size + 1, 3, none⟩)), p91, p92, p93, p94, p95, p96, p97, p98, p99, p100, p101, p102, p103, p104, p105, p106, p107, p108, p109, p110, p111, p112, p113, p114, p115, p116, p117, p118, p119, p120, p121, p122, p123, p124, p125, p126, p127, p128, p129, p130, p131, p132, p133, p134], []⟩ ∧ SpS w W1 Y { x with hn := x.hn + 1, hs := updF x.hs x.hn o } v1 u3 v3 ∧ o = ⟨ob.ver, gw.toList == [103, 111, 110, 101], ob⟩)
    rfl (by kernel_rfl) (by kernel_rfl) (by kernel_rfl) (by kernel_rfl) ?_ rfl ?_ ?_ ?_ ?_ ?_
  · intro i v X Y hi h hb
    rcases (show i = 0 ∨ i = 1 ∨ i = 2 ∨ i = 3 ∨ i = 4 ∨ i = 5 ∨ i = 6 ∨ i = 7 ∨ i = 8 ∨ i = 9 ∨ i = 10 by omega) with rfl | rfl | rfl | rfl | rfl | rfl | rfl | rfl | rfl | rfl | rfl
    · exact h
    · exact h
    · exact h
    · exact h
    · exact h
    · exact h
    · exact h
    · exact h
    · exact h
    · exact h
    · obtain ⟨H, e, h0, h1⟩ := h
      exact ⟨H, e, Nat.lt_of_lt_of_le h0 hb.size, h1.below hb h0⟩
  · intro i hi t X K hb hg hK
    rcases (show i = 0 ∨ i = 1 ∨ i = 2 ∨ i = 3 ∨ i = 4 ∨ i = 5 ∨ i = 6 ∨ i = 7 ∨ i = 8 ∨ i = 9 ∨ i = 10 by omega) with rfl | rfl | rfl | rfl | rfl | rfl | rfl | rfl | rfl | rfl | rfl
    · have h := hK ((.pointer (some ⟨w.heap.size + 1, 3, none⟩))) X rfl (Below.refl _ _)
      refine wpOp_of rfl rfl ?_
      clear hK hg
      go_simp
      simpa [updT] using h
    · have e0 : t 0 = (.pointer (some ⟨w.heap.size + 1, 3, none⟩)) := hg 0 ⟨_, rfl, ⟨0, .data⟩, by simp, rfl, rfl⟩
      have c := (S.below hb).bk 3 _ rfl
      rw [Nat.zero_add] at c
      have h := hK (v2) X rfl (Below.refl _ _)
      refine wpOp_of rfl rfl ?_
      clear hK hg
      go_simp
      simpa [updT, e0] using h
    · have h := hK ((.pointer (some ⟨B, 2, none⟩))) X rfl (Below.refl _ _)
      refine wpOp_of rfl rfl ?_
      clear hK hg
      go_simp
      simpa [updT] using h
    · have e2 : t 2 = (.pointer (some ⟨B, 2, none⟩)) := hg 2 ⟨_, rfl, ⟨2, .data⟩, by simp, rfl, rfl⟩
      have c := (range_below rgB hb hBW) 2 _ rfl
      rw [Nat.zero_add] at c
      have h := hK (.int .i64 ob.ver) X rfl (Below.refl _ _)
      refine wpOp_of rfl rfl ?_
      clear hK hg
      go_simp
      simpa [updT, e2] using h
    · have h := hK ((.slice (some ⟨g, 0, none⟩) 1 cp)) X rfl (Below.refl _ _)
      refine wpOp_of rfl rfl ?_
      clear hK hg
      go_simp
      simpa [updT] using h
    · have e4 : t 4 = (.slice (some ⟨g, 0, none⟩) 1 cp) := hg 4 ⟨_, rfl, ⟨4, .data⟩, by simp, rfl, rfl⟩
      have h := hK ((.pointer (some ⟨g, 0, none⟩))) X rfl (Below.refl _ _)
      refine wpOp_of rfl rfl ?_
      clear hK hg
      go_simp
      simpa [updT, e4] using h
    · have e5 : t 5 = (.pointer (some ⟨g, 0, none⟩)) := hg 5 ⟨_, rfl, ⟨5, .data⟩, by simp, rfl, rfl⟩
      have c : X.cell? ⟨g, 0, none⟩ = some (.string gw) := (hb.cell (p := ⟨g, 0, none⟩) hgW).trans cg
      have h := hK (.string gw) X rfl (Below.refl _ _)
      refine wpOp_of rfl rfl ?_
      clear hK hg
      go_simp
      simpa [updT, e5] using h
    · have e6 : t 6 = .string gw := hg 6 ⟨_, rfl, ⟨6, .data⟩, by simp, rfl, rfl⟩
      have h := hK (.bool (gw.toList == [103, 111, 110, 101])) X rfl (Below.refl _ _)
      refine wpOp_of rfl rfl ?_
      clear hK hg
      go_simp
      simpa [updT, e6] using h
    · have h := hK (.agg #[.string ob.kind, .string ob.name, .int .i64 ob.ver, .int .i64 ob.born, .string ob.text, .bool ob.ending, .slice ad ob.hn cap]) X rfl (Below.refl _ _)
      refine wpOp_of rfl rfl (wp_load_mid 38 _ rfl B 0 rfl [.string ob.kind, .string ob.name, .int .i64 ob.ver, .int .i64 ob.born, .string ob.text, .bool ob.ending, .slice ad ob.hn cap] _ (range_below rgB hb hBW) Tryz.underlying38 rfl sz38 ?_)
      simpa [updT, Act.put] using h
    · have e3 : t 3 = .int .i64 ob.ver := hg 3 ⟨_, rfl, ⟨3, .data⟩, by simp, rfl, rfl⟩
      have e7 : t 7 = .bool (gw.toList == [103, 111, 110, 101]) := hg 7 ⟨_, rfl, ⟨7, .data⟩, by simp, rfl, rfl⟩
      have e8 : t 8 = .agg #[.string ob.kind, .string ob.name, .int .i64 ob.ver, .int .i64 ob.born, .string ob.text, .bool ob.ending, .slice ad ob.hn cap] := hg 8 ⟨_, rfl, ⟨8, .data⟩, by simp, rfl, rfl⟩
      have h := hK (.agg #[.int .i64 ob.ver, .bool (gw.toList == [103, 111, 110, 101]), .string ob.kind, .string ob.name, .int .i64 ob.ver, .int .i64 ob.born, .string ob.text, .bool ob.ending, .slice ad ob.hn cap]) X rfl (Below.refl _ _)
      refine wpOp_of rfl rfl ?_
      clear hK hg
      go_simp
      simpa [updT, e3, e7, e8] using h
    · have e9 : t 9 = .agg #[.int .i64 ob.ver, .bool (gw.toList == [103, 111, 110, 101]), .string ob.kind, .string ob.name, .int .i64 ob.ver, .int .i64 ob.born, .string ob.text, .bool ob.ending, .slice ad ob.hn cap] := hg 9 ⟨_, rfl, ⟨9, .data⟩, by simp, rfl, rfl⟩
      have h := hK (.slice (some ⟨X.heap.size, 0, none⟩) 1 1) (X.alloc (.cells #[.int .i64 ob.ver, .bool (gw.toList == [103, 111, 110, 101]), .string ob.kind, .string ob.name, .int .i64 ob.ver, .int .i64 ob.born, .string ob.text, .bool ob.ending, .slice ad ob.hn cap] 41)) ⟨X.heap.size, rfl, by simp, news_alloc X [.int .i64 ob.ver, .bool (gw.toList == [103, 111, 110, 101]), .string ob.kind, .string ob.name, .int .i64 ob.ver, .int .i64 ob.born, .string ob.text, .bool ob.ending, .slice ad ob.hn cap] 41⟩ (below_alloc' X _)
      refine wpOp_of rfl rfl ?_
      clear hK hg
      go_simp
      simpa [updT, e9] using h
  · intro t X K hb hg hK
    have e1 : t 1 = v2 := hg 1 (by omega)
    obtain ⟨H, eS, hH, nw⟩ := hg 10 (by omega)
    have HBX := hb0.trans (hb.mono hb0.size)
    have os : (⟨ob.ver, gw.toList == [103, 111, 110, 101], ob⟩ : Ch) = ⟨ob.ver, gw.toList == [103, 111, 110, 101], ob⟩ := rfl
    have hzX := hb.size
    have hSX := S.below hb
    have hrow2 := ownsRow_fr hrow (FrP.of_below (P := fun _ => False) HBX) (fun _ _ h => h)
    refine wpOp_of rfl rfl (op_app (.tmp 79) (.tmp 88) 23 rfl W1.heap.size 41 i0 _ 9 112 Tryz.underlying23 hi0 hz0 hz1 hz2 rfl (by decide) v2 x.hn (rowCells (x.hn * 9) c) e1 hrow2 ⟨H, 0, none⟩ 1 1 [.int .i64 ob.ver, .bool (gw.toList == [103, 111, 110, 101]), .string ob.kind, .string ob.name, .int .i64 ob.ver, .int .i64 ob.born, .string ob.text, .bool ob.ending, .slice ad ob.hn cap] eS rfl nw (by simp [Value.oneCell']) (by unfold maxLen; omega) (by omega) (by omega) ?_)
    intro v6 w6 own6 grow6 at6
    obtain ⟨c6, f6⟩ := cell_grown2 (o := 3) grow6 (fun g hg => (hrow.lt g hg).1) (b := w.heap.size + 1) (by omega) (by omega) (hSX.bk 3 _ rfl) (hSX.bt 3 (by omega)).2
    refine hK _ _ ⟨t, v6, ⟨ob.ver, gw.toList == [103, 111, 110, 101], ob⟩, ?_, own_slice own6, c6, f6, SpS.addC (o := ⟨ob.ver, gw.toList == [103, 111, 110, 101], ob⟩) S hB S0.fr.size hat HBX hb (sO.bel hb (fun h0 => (lO h0).2)) (fun h0 => ⟨(lO h0).1, Nat.lt_of_lt_of_le (lO h0).2 hb.size⟩) own6 grow6 at6, os⟩
    simp [Act.put]
  · rintro A Y K ⟨t, u3, o, rfl, s6, c6, f6, hR, hO⟩ hK
    have h := hK _ Y ⟨t, u3, o, rfl, s6, c6, f6, hR, hO⟩
    refine wpOp_of rfl rfl ?_
    clear hK
    go_simp
    simpa using h
  · rintro A Y K ⟨t, _, o, rfl, ⟨a3, n3, c3, rfl⟩, c6, f6, hR, hO⟩ hK
    have h := hK _ _ ⟨t, _, o, rfl, hR, hO⟩
    refine wpOp_of rfl rfl ?_
    clear hK
    go_simp
    simpa using h
  · rintro A Y ⟨t, u3, o, rfl, hR, hO⟩
    exact hQ t u3 o Y hR hO
def rdReg23G (w : World) (v3 : Value) (g cp : Nat) (w0 w1 w2 w3 pr : ByteArray) : Nat → Value → World → Prop
  | 0, v, _ => v = (.pointer (some ⟨w.heap.size + 1, 4, none⟩))
  | 1, v, _ => v = v3
  | 2, v, _ => v = (.slice (some ⟨g, 0, none⟩) 4 cp)
  | 3, v, _ => v = .pointer (some ⟨g, 0, none⟩)
  | 4, v, _ => v = .string w0
  | 5, v, _ => v = (.slice (some ⟨g, 0, none⟩) 4 cp)
  | 6, v, _ => v = .pointer (some ⟨g, 1, none⟩)
  | 7, v, _ => v = .string w1
  | 8, v, _ => ∃ r : Int, v = .int .i64 r ∧ NuT w1 r
  | 9, v, _ => v = (.slice (some ⟨g, 0, none⟩) 4 cp)
  | 10, v, _ => v = .pointer (some ⟨g, 2, none⟩)
  | 11, v, _ => v = .string w2
  | 12, v, _ => ∃ r : Int, v = .int .i64 r ∧ NuT w2 r
  | 13, v, _ => v = (.slice (some ⟨g, 0, none⟩) 4 cp)
  | 14, v, _ => v = .pointer (some ⟨g, 3, none⟩)
  | 15, v, _ => v = .string w3
  | 16, v, _ => ∃ r : Int, v = .int .i64 r ∧ NuT w3 r
  | 17, v, _ => v = .string pr
  | 18, v, _ => ∃ r1 r2 r3 : Int, v = .agg #[.string w0, .int .i64 r1, .string pr, .int .i64 r2, .int .i64 r3] ∧ NuT w1 r1 ∧ NuT w2 r2 ∧ NuT w3 r3
  | 19, v, X => ∃ (r1 r2 r3 : Int) (H : Nat), v = .slice (some ⟨H, 0, none⟩) 1 1 ∧ H < X.heap.size ∧ NwC X H [.string w0, .int .i64 r1, .string pr, .int .i64 r2, .int .i64 r3] ∧ NuT w1 r1 ∧ NuT w2 r2 ∧ NuT w3 r3
  | _, _, _ => True
set_option maxRecDepth 100000 in
set_option maxHeartbeats 4000000 in
theorem rdReg23 (p0 p1 p2 p3 p5 p6 p7 p8 p9 p10 p11 p12 p13 p15 p17 p18 p19 p20 p21 p22 p23 p24 p25 p26 p27 p28 p29 p30 p31 p32 p33 p34 p35 p36 p37 p38 p39 p40 p41 p42 p43 p44 p45 p46 p47 p48 p49 p50 p51 p52 p53 p54 p55 p56 p57 p58 p59 p60 p61 p62 p63 p64 p65 p66 p67 p68 p69 p70 p71 p72 p73 p74 p75 p76 p77 p78 p79 p80 p81 p82 p83 p84 p85 p86 p87 p88 p89 p90 p91 p92 p93 p94 p95 p96 p97 p98 p99 p100 p101 p102 p103 p104 p105 p106 p107 p108 p109 p110 p111 p112 p113 p114 p115 p116 p117 p118 p119 p120 p121 p122 p123 p124 p125 p126 p127 p128 p129 p130 p131 p132 p133 p134 : Value) (w W1 W : World) (x : Bk) (v1 v2 v3 : Value) (g cp : Nat) (w0 w1 w2 w3 pr : ByteArray) (hgW : g < W.heap.size) (c0 : W.cell? ⟨g, 0, none⟩ = some (.string w0)) (c1 : W.cell? ⟨g, 1, none⟩ = some (.string w1)) (c2 : W.cell? ⟨g, 2, none⟩ = some (.string w2)) (c3 : W.cell? ⟨g, 3, none⟩ = some (.string w3)) (hw1 : (w1.size : Int) ≤ 1048576) (hw2 : (w2.size : Int) ≤ 1048576) (hw3 : (w3.size : Int) ≤ 1048576) (S : SpS w W1 W x v1 v2 v3) (hn : x.tn ≤ 1048576) (Q : Exit → Act → World → Prop)
    (hQ : ∀ (t : Nat → Value) (u3 : Value) (o : Ti) (Y : World), SpS w W1 Y { x with tn := x.tn + 1, ts := updF x.ts x.tn o } v1 v2 u3 → (o.client = w0 ∧ o.print = pr) ∧ NuT w1 o.num ∧ NuT w2 o.code ∧ NuT w3 o.ver → Q .normal ⟨#[p0, p1, p2, p3, (.pointer (some ⟨w.heap.size + 1, 0, none⟩)), p5, p6, p7, p8, p9, p10, p11, p12, p13, (.slice (some ⟨g, 0, none⟩) 4 cp), p15, (.string pr), p17, p18, p19, p20, p21, p22, p23, p24, p25, p26, p27, p28, p29, p30, p31, p32, p33, p34, p35, p36, p37, p38, p39, p40, p41, p42, p43, p44, p45, p46, p47, p48, p49, p50, p51, p52, p53, p54, p55, p56, p57, p58, p59, p60, p61, p62, p63, p64, p65, p66, p67, p68, p69, p70, p71, p72, p73, p74, p75, p76, p77, p78, p79, p80, p81, p82, p83, p84, p85, p86, p87, p88, p89, p90, p91, p92, p93, p94, p95, p96, p97, p98, p99, p100, p101, p102, t 0, t 1, t 2, t 3, t 4, t 5, t 6, t 7, t 8, t 9, t 10, t 11, t 12, t 13, t 14, t 15, t 16, t 17, t 18, t 19, u3, (.pointer (some ⟨w.heap.size + 1, 4, none⟩)), p125, p126, p127, p128, p129, p130, p131, p132, p133, p134], []⟩ Y) :
    Code.wp Tryz.prog (Code.region 23 #[{ dst := some 103, op := Op.fieldAddr 26 (Operand.tmp 4) 4, type := 0, pos := "l9_book_form.go:155", after := #[], guard := none }, { dst := some 104, op := Op.load 24 (Operand.tmp 103), type := 24, pos := "l9_book_form.go:155", after := #[{ on := 0, ground := Ground.data }], guard := none }, { dst := some 105, op := Op.move (Operand.tmp 14), type := 32, pos := "l9_book_form.go:155", after := #[], guard := none }, { dst := some 106, op := Op.indexAddr 32 (Operand.tmp 105) (Operand.const (Value.int IntKind.i64 0)), type := 0, pos := "l9_book_form.go:155", after := #[{ on := 2, ground := Ground.data }], guard := none }, { dst := some 107, op := Op.load 9 (Operand.tmp 106), type := 9, pos := "l9_book_form.go:155", after := #[{ on := 3, ground := Ground.data }], guard := none }, { dst := some 108, op := Op.move (Operand.tmp 14), type := 32, pos := "l9_book_form.go:155", after := #[], guard := none }, { dst := some 109, op := Op.indexAddr 32 (Operand.tmp 108) (Operand.const (Value.int IntKind.i64 1)), type := 0, pos := "l9_book_form.go:155", after := #[{ on := 5, ground := Ground.data }], guard := none }, { dst := some 110, op := Op.load 9 (Operand.tmp 109), type := 9, pos := "l9_book_form.go:155", after := #[{ on := 6, ground := Ground.data }], guard := none }, { dst := some 111, op := Op.call { callee := Callee.value (Operand.func 11), args := #[Operand.tmp 110], argTypes := #[9] }, type := 3, pos := "l9_book_form.go:155", after := #[{ on := 7, ground := Ground.data }], guard := none }, { dst := some 112, op := Op.move (Operand.tmp 14), type := 32, pos := "l9_book_form.go:155", after := #[], guard := none }, { dst := some 113, op := Op.indexAddr 32 (Operand.tmp 112) (Operand.const (Value.int IntKind.i64 2)), type := 0, pos := "l9_book_form.go:155", after := #[{ on := 9, ground := Ground.data }], guard := none }, { dst := some 114, op := Op.load 9 (Operand.tmp 113), type := 9, pos := "l9_book_form.go:155", after := #[{ on := 10, ground := Ground.data }], guard := none }, { dst := some 115, op := Op.call { callee := Callee.value (Operand.func 11), args := #[Operand.tmp 114], argTypes := #[9] }, type := 3, pos := "l9_book_form.go:155", after := #[{ on := 11, ground := Ground.data }, { on := 8, ground := Ground.chain }], guard := none }, { dst := some 116, op := Op.move (Operand.tmp 14), type := 32, pos := "l9_book_form.go:155", after := #[], guard := none }, { dst := some 117, op := Op.indexAddr 32 (Operand.tmp 116) (Operand.const (Value.int IntKind.i64 3)), type := 0, pos := "l9_book_form.go:155", after := #[{ on := 13, ground := Ground.data }], guard := none }, { dst := some 118, op := Op.load 9 (Operand.tmp 117), type := 9, pos := "l9_book_form.go:155", after := #[{ on := 14, ground := Ground.data }], guard := none }, { dst := some 119, op := Op.call { callee := Callee.value (Operand.func 11), args := #[Operand.tmp 118], argTypes := #[9] }, type := 3, pos := "l9_book_form.go:155", after := #[{ on := 15, ground := Ground.data }, { on := 12, ground := Ground.chain }], guard := none }, { dst := some 120, op := Op.move (Operand.tmp 16), type := 9, pos := "l9_book_form.go:155", after := #[], guard := none }, { dst := some 121, op := Op.build 45 #[(0, Operand.tmp 107), (1, Operand.tmp 111), (3, Operand.tmp 115), (4, Operand.tmp 119), (2, Operand.tmp 120)], type := 45, pos := "l9_book_form.go:155", after := #[{ on := 4, ground := Ground.data }, { on := 8, ground := Ground.data }, { on := 12, ground := Ground.data }, { on := 16, ground := Ground.data }, { on := 17, ground := Ground.data }], guard := none }, { dst := some 122, op := Op.buildSlice 24 1 #[(0, Operand.tmp 121)], type := 24, pos := "l9_book_form.go:155", after := #[{ on := 18, ground := Ground.data }], guard := none }, { dst := some 123, op := Op.call { callee := Callee.builtin Builtin.append, args := #[Operand.tmp 104, Operand.tmp 122], argTypes := #[24, 24] }, type := 24, pos := "l9_book_form.go:155", after := #[{ on := 1, ground := Ground.data }, { on := 19, ground := Ground.data }, { on := 16, ground := Ground.chain }], guard := none }, { dst := some 124, op := Op.fieldAddr 26 (Operand.tmp 4) 4, type := 0, pos := "l9_book_form.go:155", after := #[{ on := 0, ground := Ground.phase }, { on := 1, ground := Ground.phase }, { on := 2, ground := Ground.phase }, { on := 3, ground := Ground.phase }, { on := 4, ground := Ground.phase }, { on := 5, ground := Ground.phase }, { on := 6, ground := Ground.phase }, { on := 7, ground := Ground.phase }, { on := 8, ground := Ground.phase }, { on := 9, ground := Ground.phase }, { on := 10, ground := Ground.phase }, { on := 11, ground := Ground.phase }, { on := 12, ground := Ground.phase }, { on := 13, ground := Ground.phase }, { on := 14, ground := Ground.phase }, { on := 15, ground := Ground.phase }, { on := 16, ground := Ground.phase }, { on := 17, ground := Ground.phase }, { on := 18, ground := Ground.phase }, { on := 19, ground := Ground.phase }, { on := 20, ground := Ground.phase }], guard := none }, { dst := none, op := Op.store 24 (Operand.tmp 124) (Operand.tmp 123), type := 0, pos := "l9_book_form.go:155", after := #[{ on := 21, ground := Ground.data }, { on := 20, ground := Ground.data }, { on := 20, ground := Ground.chain }, { on := 0, ground := Ground.phase }, { on := 1, ground := Ground.phase }, { on := 2, ground := Ground.phase }, { on := 3, ground := Ground.phase }, { on := 4, ground := Ground.phase }, { on := 5, ground := Ground.phase }, { on := 6, ground := Ground.phase }, { on := 7, ground := Ground.phase }, { on := 8, ground := Ground.phase }, { on := 9, ground := Ground.phase }, { on := 10, ground := Ground.phase }, { on := 11, ground := Ground.phase }, { on := 12, ground := Ground.phase }, { on := 13, ground := Ground.phase }, { on := 14, ground := Ground.phase }, { on := 15, ground := Ground.phase }, { on := 16, ground := Ground.phase }, { on := 17, ground := Ground.phase }, { on := 18, ground := Ground.phase }, { on := 19, ground := Ground.phase }, { on := 20, ground := Ground.phase }], guard := none }] true) Q ⟨#[p0, p1, p2, p3, (.pointer (some ⟨w.heap.size + 1, 0, none⟩)), p5, p6, p7, p8, p9, p10, p11, p12, p13, (.slice (some ⟨g, 0, none⟩) 4 cp), p15, (.string pr), p17, p18, p19, p20, p21, p22, p23, p24, p25, p26, p27, p28, p29, p30, p31, p32, p33, p34, p35, p36, p37, p38, p39, p40, p41, p42, p43, p44, p45, p46, p47, p48, p49, p50, p51, p52, p53, p54, p55, p56, p57, p58, p59, p60, p61, p62, p63, p64, p65, p66, p67, p68, p69, p70, p71, p72, p73, p74, p75, p76, p77, p78, p79, p80, p81, p82, p83, p84, p85, p86, p87, p88, p89, p90, p91, p92, p93, p94, p95, p96, p97, p98, p99, p100, p101, p102, p103, p104, p105, p106, p107, p108, p109, p110, p111, p112, p113, p114, p115, p116, p117, p118, p119, p120, p121, p122, p123, p124, p125, p126, p127, p128, p129, p130, p131, p132, p133, p134], []⟩ W := by
  obtain ⟨i0, hi0, hz0, hz1, hz2⟩ := info_parts Tryz.info45r
  obtain ⟨A1, C1, h1, A2, C2, h2, hB⟩ := S.bd
  obtain ⟨c, hrow, hat⟩ := hB.t
  have hz := S.sz
  have hzf := S.fr.size
  refine regionQ (by kernel_rfl) 20 (fun t : Nat → Value => #[p0, p1, p2, p3, (.pointer (some ⟨w.heap.size + 1, 0, none⟩)), p5, p6, p7, p8, p9, p10, p11, p12, p13, (.slice (some ⟨g, 0, none⟩) 4 cp), p15, (.string pr), p17, p18, p19, p20, p21, p22, p23, p24, p25, p26, p27, p28, p29, p30, p31, p32, p33, p34, p35, p36, p37, p38, p39, p40, p41, p42, p43, p44, p45, p46, p47, p48, p49, p50, p51, p52, p53, p54, p55, p56, p57, p58, p59, p60, p61, p62, p63, p64, p65, p66, p67, p68, p69, p70, p71, p72, p73, p74, p75, p76, p77, p78, p79, p80, p81, p82, p83, p84, p85, p86, p87, p88, p89, p90, p91, p92, p93, p94, p95, p96, p97, p98, p99, p100, p101, p102, t 0, t 1, t 2, t 3, t 4, t 5, t 6, t 7, t 8, t 9, t 10, t 11, t 12, t 13, t 14, t 15, t 16, t 17, t 18, t 19, p123, p124, p125, p126, p127, p128, p129, p130, p131, p132, p133, p134]) (fun i => match i with | 0 => p103 | 1 => p104 | 2 => p105 | 3 => p106 | 4 => p107 | 5 => p108 | 6 => p109 | 7 => p110 | 8 => p111 | 9 => p112 | 10 => p113 | 11 => p114 | 12 => p115 | 13 => p116 | 14 => p117 | 15 => p118 | 16 => p119 | 17 => p120 | 18 => p121 | _ => p122) (rdReg23G w v3 g cp w0 w1 w2 w3 pr)
    (fun (A : Act) (Y : World) => ∃ (t : Nat → Value) (u3 : Value) (o : Ti), A = ⟨#[p0, p1, p2, p3, (.pointer (some ⟨w.heap.size + 1, 0, none⟩)), p5, p6, p7, p8, p9, p10, p11, p12, p13, (.slice (some ⟨g, 0, none⟩) 4 cp), p15, (.string pr), p17, p18, p19, p20, p21, p22, p23, p24, p25, p26, p27, p28, p29, p30, p31, p32, p33, p34, p35, p36, p37, p38, p39, p40, p41, p42, p43, p44, p45, p46, p47, p48, p49, p50, p51, p52, p53, p54, p55, p56, p57, p58, p59, p60, p61, p62, p63, p64, p65, p66, p67, p68, p69, p70, p71, p72, p73, p74, p75, p76, p77, p78, p79, p80, p81, p82, p83, p84, p85, p86, p87, p88, p89, p90, p91, p92, p93, p94, p95, p96, p97, p98, p99, p100, p101, p102, t 0, t 1, t 2, t 3, t 4, t 5, t 6, t 7, t 8, t 9, t 10, t 11, t 12, t 13, t 14, t 15, t 16, t 17, t 18, t 19, u3, p124, p125, p126, p127, p128, p129, p130, p131, p132, p133, p134], []⟩ ∧ (∃ a3 n3 c3, u3 = .slice a3 n3 c3) ∧ Y.cell? ⟨w.heap.size + 1, 4, none⟩ = some v3 ∧ Y.frozen? ⟨w.heap.size + 1, 4, none⟩ = false ∧ SpS w W1 (Y.setCell ⟨w.heap.size + 1, 4, none⟩ u3) { x with tn := x.tn + 1, ts := updF x.ts x.tn o } v1 v2 u3 ∧ (o.client = w0 ∧ o.print = pr) ∧ NuT w1 o.num ∧ NuT w2 o.code ∧ NuT w3 o.ver)
    (fun (A : Act) (Y : World) => ∃ (t : Nat → Value) (u3 : Value) (o : Ti), A = ⟨#[p0, p1, p2, p3, (.pointer (some ⟨w.heap.size + 1, 0, none⟩)), p5, p6, p7, p8, p9, p10, p11, p12, p13, (.slice (some ⟨g, 0, none⟩) 4 cp), p15, (.string pr), p17, p18, p19, p20, p21, p22, p23, p24, p25, p26, p27, p28, p29, p30, p31, p32, p33, p34, p35, p36, p37, p38, p39, p40, p41, p42, p43, p44, p45, p46, p47, p48, p49, p50, p51, p52, p53, p54, p55, p56, p57, p58, p59, p60, p61, p62, p63, p64, p65, p66, p67, p68, p69, p70, p71, p72, p73, p74, p75, p76, p77, p78, p79, p80, p81, p82, p83, p84, p85, p86, p87, p88, p89, p90, p91, p92, p93, p94, p95, p96, p97, p98, p99, p100, p101, p102, t 0, t 1, t 2, t 3, t 4, t 5, t 6, t 7, t 8, t 9, t 10, t 11, t 12, t 13, t 14, t 15, t 16, t 17, t 18, t 19, u3, (.pointer (some ⟨w.heap.size + 1, 4, none⟩)), p125, p126, p127, p128, p129, p130, p131, p132, p133, p134], []⟩ ∧ (∃ a3 n3 c3, u3 = .slice a3 n3 c3) ∧ Y.cell? ⟨w.heap.size + 1, 4, none⟩ = some v3 ∧ Y.frozen? ⟨w.heap.size + 1, 4, none⟩ = false ∧ SpS w W1 (Y.setCell ⟨w.heap.size + 1, 4, none⟩ u3) { x with tn := x.tn + 1, ts := updF x.ts x.tn o } v1 v2 u3 ∧ (o.client = w0 ∧ o.print = pr) ∧ NuT w1 o.num ∧ NuT w2 o.code ∧ NuT w3 o.ver)
    (fun (A : Act) (Y : World) => ∃ (t : Nat → Value) (u3 : Value) (o : Ti), A = ⟨#[p0, p1, p2, p3, (.pointer (some ⟨w.heap.size + 1, 0, none⟩)), p5, p6, p7, p8, p9, p10, p11, p12, p13, (.slice (some ⟨g, 0, none⟩) 4 cp), p15, (.string pr), p17, p18, p19, p20, p21, p22, p23, p24, p25, p26, p27, p28, p29, p30, p31, p32, p33, p34, p35, p36, p37, p38, p39, p40, p41, p42, p43, p44, p45, p46, p47, p48, p49, p50, p51, p52, p53, p54, p55, p56, p57, p58, p59, p60, p61, p62, p63, p64, p65, p66, p67, p68, p69, p70, p71, p72, p73, p74, p75, p76, p77, p78, p79, p80, p81, p82, p83, p84, p85, p86, p87, p88, p89, p90, p91, p92, p93, p94, p95, p96, p97, p98, p99, p100, p101, p102, t 0, t 1, t 2, t 3, t 4, t 5, t 6, t 7, t 8, t 9, t 10, t 11, t 12, t 13, t 14, t 15, t 16, t 17, t 18, t 19, u3, (.pointer (some ⟨w.heap.size + 1, 4, none⟩)), p125, p126, p127, p128, p129, p130, p131, p132, p133, p134], []⟩ ∧ SpS w W1 Y { x with tn := x.tn + 1, ts := updF x.ts x.tn o } v1 v2 u3 ∧ (o.client = w0 ∧ o.print = pr) ∧ NuT w1 o.num ∧ NuT w2 o.code ∧ NuT w3 o.ver)
    rfl (by kernel_rfl) (by kernel_rfl) (by kernel_rfl) (by kernel_rfl) ?_ rfl ?_ ?_ ?_ ?_ ?_
  · intro i v X Y hi h hb
    rcases (show i = 0 ∨ i = 1 ∨ i = 2 ∨ i = 3 ∨ i = 4 ∨ i = 5 ∨ i = 6 ∨ i = 7 ∨ i = 8 ∨ i = 9 ∨ i = 10 ∨ i = 11 ∨ i = 12 ∨ i = 13 ∨ i = 14 ∨ i = 15 ∨ i = 16 ∨ i = 17 ∨ i = 18 ∨ i = 19 by omega) with rfl | rfl | rfl | rfl | rfl | rfl | rfl | rfl | rfl | rfl | rfl | rfl | rfl | rfl | rfl | rfl | rfl | rfl | rfl | rfl
    · exact h
    · exact h
    · exact h
    · exact h
    · exact h
    · exact h
    · exact h
    · exact h
    · exact h
    · exact h
    · exact h
    · exact h
    · exact h
    · exact h
    · exact h
    · exact h
    · exact h
    · exact h
    · exact h
    · obtain ⟨r1, r2, r3, H, e, h0, h1, h2⟩ := h
      exact ⟨r1, r2, r3, H, e, Nat.lt_of_lt_of_le h0 hb.size, h1.below hb h0, h2⟩
  · intro i hi t X K hb hg hK
    rcases (show i = 0 ∨ i = 1 ∨ i = 2 ∨ i = 3 ∨ i = 4 ∨ i = 5 ∨ i = 6 ∨ i = 7 ∨ i = 8 ∨ i = 9 ∨ i = 10 ∨ i = 11 ∨ i = 12 ∨ i = 13 ∨ i = 14 ∨ i = 15 ∨ i = 16 ∨ i = 17 ∨ i = 18 ∨ i = 19 by omega) with rfl | rfl | rfl | rfl | rfl | rfl | rfl | rfl | rfl | rfl | rfl | rfl | rfl | rfl | rfl | rfl | rfl | rfl | rfl | rfl
    · have h := hK ((.pointer (some ⟨w.heap.size + 1, 4, none⟩))) X rfl (Below.refl _ _)
      refine wpOp_of rfl rfl ?_
      clear hK hg
      go_simp
      simpa [updT] using h
    · have e0 : t 0 = (.pointer (some ⟨w.heap.size + 1, 4, none⟩)) := hg 0 ⟨_, rfl, ⟨0, .data⟩, by simp, rfl, rfl⟩
      have c := (S.below hb).bk 4 _ rfl
      rw [Nat.zero_add] at c
      have h := hK (v3) X rfl (Below.refl _ _)
      refine wpOp_of rfl rfl ?_
      clear hK hg
      go_simp
      simpa [updT, e0] using h
    · have h := hK ((.slice (some ⟨g, 0, none⟩) 4 cp)) X rfl (Below.refl _ _)
      refine wpOp_of rfl rfl ?_
      clear hK hg
      go_simp
      simpa [updT] using h
    · have e2 : t 2 = (.slice (some ⟨g, 0, none⟩) 4 cp) := hg 2 ⟨_, rfl, ⟨2, .data⟩, by simp, rfl, rfl⟩
      have h := hK (.pointer (some ⟨g, 0, none⟩)) X rfl (Below.refl _ _)
      refine wpOp_of rfl rfl ?_
      clear hK hg
      go_simp
      simpa [updT, e2] using h
    · have e3 : t 3 = .pointer (some ⟨g, 0, none⟩) := hg 3 ⟨_, rfl, ⟨3, .data⟩, by simp, rfl, rfl⟩
      have c : X.cell? ⟨g, 0, none⟩ = some (.string w0) := (hb.cell (p := ⟨g, 0, none⟩) hgW).trans c0
      have h := hK (.string w0) X rfl (Below.refl _ _)
      refine wpOp_of rfl rfl ?_
      clear hK hg
      go_simp
      simpa [updT, e3] using h
    · have h := hK ((.slice (some ⟨g, 0, none⟩) 4 cp)) X rfl (Below.refl _ _)
      refine wpOp_of rfl rfl ?_
      clear hK hg
      go_simp
      simpa [updT] using h
    · have e5 : t 5 = (.slice (some ⟨g, 0, none⟩) 4 cp) := hg 5 ⟨_, rfl, ⟨5, .data⟩, by simp, rfl, rfl⟩
      have h := hK (.pointer (some ⟨g, 1, none⟩)) X rfl (Below.refl _ _)
      refine wpOp_of rfl rfl ?_
      clear hK hg
      go_simp
      simpa [updT, e5] using h
    · have e6 : t 6 = .pointer (some ⟨g, 1, none⟩) := hg 6 ⟨_, rfl, ⟨6, .data⟩, by simp, rfl, rfl⟩
      have c : X.cell? ⟨g, 1, none⟩ = some (.string w1) := (hb.cell (p := ⟨g, 1, none⟩) hgW).trans c1
      have h := hK (.string w1) X rfl (Below.refl _ _)
      refine wpOp_of rfl rfl ?_
      clear hK hg
      go_simp
      simpa [updT, e6] using h
    · have e7 : t 7 = .string w1 := hg 7 ⟨_, rfl, ⟨7, .data⟩, by simp, rfl, rfl⟩
      refine wpOp_of rfl rfl ?_
      go_simp
      go_at_call 11
      refine (number_any w1 hw1 X).mono ?_
      rintro e Y ⟨r, rfl, h1, h2, h3⟩
      have h := hK (.int .i64 r) Y ⟨r, rfl, h1, h2⟩ h3
      simpa [updT, e7] using h
    · have h := hK ((.slice (some ⟨g, 0, none⟩) 4 cp)) X rfl (Below.refl _ _)
      refine wpOp_of rfl rfl ?_
      clear hK hg
      go_simp
      simpa [updT] using h
    · have e9 : t 9 = (.slice (some ⟨g, 0, none⟩) 4 cp) := hg 9 ⟨_, rfl, ⟨9, .data⟩, by simp, rfl, rfl⟩
      have h := hK (.pointer (some ⟨g, 2, none⟩)) X rfl (Below.refl _ _)
      refine wpOp_of rfl rfl ?_
      clear hK hg
      go_simp
      simpa [updT, e9] using h
    · have e10 : t 10 = .pointer (some ⟨g, 2, none⟩) := hg 10 ⟨_, rfl, ⟨10, .data⟩, by simp, rfl, rfl⟩
      have c : X.cell? ⟨g, 2, none⟩ = some (.string w2) := (hb.cell (p := ⟨g, 2, none⟩) hgW).trans c2
      have h := hK (.string w2) X rfl (Below.refl _ _)
      refine wpOp_of rfl rfl ?_
      clear hK hg
      go_simp
      simpa [updT, e10] using h
    · have e11 : t 11 = .string w2 := hg 11 ⟨_, rfl, ⟨11, .data⟩, by simp, rfl, rfl⟩
      refine wpOp_of rfl rfl ?_
      go_simp
      go_at_call 11
      refine (number_any w2 hw2 X).mono ?_
      rintro e Y ⟨r, rfl, h1, h2, h3⟩
      have h := hK (.int .i64 r) Y ⟨r, rfl, h1, h2⟩ h3
      simpa [updT, e11] using h
    · have h := hK ((.slice (some ⟨g, 0, none⟩) 4 cp)) X rfl (Below.refl _ _)
      refine wpOp_of rfl rfl ?_
      clear hK hg
      go_simp
      simpa [updT] using h
    · have e13 : t 13 = (.slice (some ⟨g, 0, none⟩) 4 cp) := hg 13 ⟨_, rfl, ⟨13, .data⟩, by simp, rfl, rfl⟩
      have h := hK (.pointer (some ⟨g, 3, none⟩)) X rfl (Below.refl _ _)
      refine wpOp_of rfl rfl ?_
      clear hK hg
      go_simp
      simpa [updT, e13] using h
    · have e14 : t 14 = .pointer (some ⟨g, 3, none⟩) := hg 14 ⟨_, rfl, ⟨14, .data⟩, by simp, rfl, rfl⟩
      have c : X.cell? ⟨g, 3, none⟩ = some (.string w3) := (hb.cell (p := ⟨g, 3, none⟩) hgW).trans c3
      have h := hK (.string w3) X rfl (Below.refl _ _)
      refine wpOp_of rfl rfl ?_
      clear hK hg
      go_simp
      simpa [updT, e14] using h
    · have e15 : t 15 = .string w3 := hg 15 ⟨_, rfl, ⟨15, .data⟩, by simp, rfl, rfl⟩
      refine wpOp_of rfl rfl ?_
      go_simp
      go_at_call 11
      refine (number_any w3 hw3 X).mono ?_
      rintro e Y ⟨r, rfl, h1, h2, h3⟩
      have h := hK (.int .i64 r) Y ⟨r, rfl, h1, h2⟩ h3
      simpa [updT, e15] using h
    · have h := hK (.string pr) X rfl (Below.refl _ _)
      refine wpOp_of rfl rfl ?_
      clear hK hg
      go_simp
      simpa [updT] using h
    · have e4 : t 4 = .string w0 := hg 4 ⟨_, rfl, ⟨4, .data⟩, by simp, rfl, rfl⟩
      obtain ⟨r1, f1, k1⟩ := hg 8 ⟨_, rfl, ⟨8, .data⟩, by simp, rfl, rfl⟩
      obtain ⟨r2, f2, k2⟩ := hg 12 ⟨_, rfl, ⟨12, .data⟩, by simp, rfl, rfl⟩
      obtain ⟨r3, f3, k3⟩ := hg 16 ⟨_, rfl, ⟨16, .data⟩, by simp, rfl, rfl⟩
      have e17 : t 17 = .string pr := hg 17 ⟨_, rfl, ⟨17, .data⟩, by simp, rfl, rfl⟩
      have h := hK (.agg #[.string w0, .int .i64 r1, .string pr, .int .i64 r2, .int .i64 r3]) X ⟨r1, r2, r3, rfl, k1, k2, k3⟩ (Below.refl _ _)
      refine wpOp_of rfl rfl ?_
      clear hK hg
      go_simp
      simpa [updT, e4, f1, f2, f3, e17] using h
    · obtain ⟨r1, r2, r3, e18, k1, k2, k3⟩ := hg 18 ⟨_, rfl, ⟨18, .data⟩, by simp, rfl, rfl⟩
      have h := hK (.slice (some ⟨X.heap.size, 0, none⟩) 1 1) (X.alloc (.cells #[.string w0, .int .i64 r1, .string pr, .int .i64 r2, .int .i64 r3] 45)) ⟨r1, r2, r3, X.heap.size, rfl, by simp, news_alloc X [.string w0, .int .i64 r1, .string pr, .int .i64 r2, .int .i64 r3] 45, k1, k2, k3⟩ (below_alloc' X _)
      refine wpOp_of rfl rfl ?_
      clear hK hg
      go_simp
      simpa [updT, e18] using h
  · intro t X K hb hg hK
    have e1 : t 1 = v3 := hg 1 (by omega)
    obtain ⟨r1, r2, r3, H, eS, hH, nw, k1, k2, k3⟩ := hg 19 (by omega)
    have HBX := hb
    have os : ((⟨w0, r1, pr, r2, r3⟩ : Ti).client = w0 ∧ (⟨w0, r1, pr, r2, r3⟩ : Ti).print = pr) ∧ NuT w1 r1 ∧ NuT w2 r2 ∧ NuT w3 r3 := ⟨⟨rfl, rfl⟩, k1, k2, k3⟩
    have hzX := hb.size
    have hSX := S.below hb
    have hrow2 := ownsRow_fr hrow (FrP.of_below (P := fun _ => False) HBX) (fun _ _ h => h)
    refine wpOp_of rfl rfl (op_app (.tmp 104) (.tmp 122) 24 rfl W1.heap.size 45 i0 _ 5 56 Tryz.underlying24 hi0 hz0 hz1 hz2 rfl (by decide) v3 x.tn (rowCells (x.tn * 5) c) e1 hrow2 ⟨H, 0, none⟩ 1 1 [.string w0, .int .i64 r1, .string pr, .int .i64 r2, .int .i64 r3] eS rfl nw (by simp [Value.oneCell']) (by unfold maxLen; omega) (by omega) (by omega) ?_)
    intro v6 w6 own6 grow6 at6
    obtain ⟨c6, f6⟩ := cell_grown2 (o := 4) grow6 (fun g hg => (hrow.lt g hg).1) (b := w.heap.size + 1) (by omega) (by omega) (hSX.bk 4 _ rfl) (hSX.bt 4 (by omega)).2
    refine hK _ _ ⟨t, v6, ⟨w0, r1, pr, r2, r3⟩, ?_, own_slice own6, c6, f6, SpS.addT (o := ⟨w0, r1, pr, r2, r3⟩) S hB hat hb own6 grow6 at6, os⟩
    simp [Act.put]
  · rintro A Y K ⟨t, u3, o, rfl, s6, c6, f6, hR, hO⟩ hK
    have h := hK _ Y ⟨t, u3, o, rfl, s6, c6, f6, hR, hO⟩
    refine wpOp_of rfl rfl ?_
    clear hK
    go_simp
    simpa using h
  · rintro A Y K ⟨t, _, o, rfl, ⟨a3, n3, c3, rfl⟩, c6, f6, hR, hO⟩ hK
    have h := hK _ _ ⟨t, _, o, rfl, hR, hO⟩
    refine wpOp_of rfl rfl ?_
    clear hK
    go_simp
    simpa using h
  · rintro A Y ⟨t, u3, o, rfl, hR, hO⟩
    exact hQ t u3 o Y hR hO
end Go.Proofs.YtkfbclopkgnacaaGreatDoor
