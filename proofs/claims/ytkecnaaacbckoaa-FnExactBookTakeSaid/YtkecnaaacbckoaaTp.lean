import Derived.Test.YtkecnaaacbckoaaTo
namespace Go.Proofs.Ytkecnaaacbckoaa
open Go.RowKit Go.Maps
set_option maxRecDepth 100000 in
set_option maxHeartbeats 2000000 in
theorem takReg14 (p0 p1 p3 p4 p5 p6 p7 p9 p10 p11 p12 p13 p14 p15 p16 p17 p18 p19 p20 p21 p22 p23 p24 p25 p26 p27 p28 p29 p30 p31 p32 p33 p34 p35 p36 p37 p38 p39 p40 p41 p42 p43 p44 p45 p46 p47 p48 p49 p50 p51 p52 p53 p59 p60 p61 p62 p63 p64 p65 p66 p67 p68 p69 p70 p71 p72 p73 p74 p75 p76 p77 p78 p79 p80 p81 p82 p83 p84 p85 p86 p87 p88 p89 p90 p91 p92 p93 p94 p95 p96 p97 p98 p99 p100 p101 p102 p103 p104 p105 p106 p107 p108 p109 p110 p111 p112 p113 p114 p115 p116 p117 p118 : Value) (s0 b8 : Nat) (m : Mr) (a : Option Addr) (c gm dm : Nat) (Am : Nat → Option Addr) (Cm hm : Nat → Nat) (hmn : (m.n : Int) ≤ 1048576) (hf : ∀ i, i < m.n → ObFit (m.os i)) (W : World) (hv : Holds W b8 #[.string m.kind, .string m.pre, .int .i64 m.at_, .slice (some ⟨gm, 0, none⟩) m.n dm, .int .i64 m.seen]) (hbm : Holds W s0 #[.string m.kind, .string m.pre, .int .i64 m.at_, .slice a m.n c, .int .i64 m.seen]) (hat : ObsAt W (some ⟨gm, 0, none⟩) gm m.n m.os Am Cm hm) (hinm : ObjsIn W 0 s0 a m.n m.os) (hs : s0 < W.heap.size) (zb : b8 < W.heap.size) (Q : Exit → Act → World → Prop)
    (hQ : ∀ u0 u1 u2 u3 X, Below W.heap.size W X → Q .normal ⟨#[p0, p1, .pointer (some ⟨s0, 0, none⟩), p3, p4, p5, p6, p7, .pointer (some ⟨b8, 0, none⟩), p9, p10, p11, p12, p13, p14, p15, p16, p17, p18, p19, p20, p21, p22, p23, p24, p25, p26, p27, p28, p29, p30, p31, p32, p33, p34, p35, p36, p37, p38, p39, p40, p41, p42, p43, p44, p45, p46, p47, p48, p49, p50, p51, p52, p53, u0, u1, u2, u3, .bool false, p59, p60, p61, p62, p63, p64, p65, p66, p67, p68, p69, p70, p71, p72, p73, p74, p75, p76, p77, p78, p79, p80, p81, p82, p83, p84, p85, p86, p87, p88, p89, p90, p91, p92, p93, p94, p95, p96, p97, p98, p99, p100, p101, p102, p103, p104, p105, p106, p107, p108, p109, p110, p111, p112, p113, p114, p115, p116, p117, p118], []⟩ X) :
    Code.wp Try.prog (Code.region 14 #[{ dst := some 54, op := Op.load 32 (Operand.tmp 8), type := 32, pos := "exact.go:4105", after := #[], guard := none }, { dst := some 55, op := Op.load 24 (Operand.tmp 2), type := 24, pos := "exact.go:4105", after := #[], guard := none }, { dst := some 56, op := Op.call { callee := Callee.value (Operand.func 7), args := #[Operand.tmp 55], argTypes := #[24] }, type := 32, pos := "exact.go:4105", after := #[{ on := 1, ground := Ground.data }], guard := none }, { dst := some 57, op := Op.call { callee := Callee.value (Operand.func 10), args := #[Operand.tmp 54, Operand.tmp 56], argTypes := #[32, 32] }, type := 4, pos := "exact.go:4105", after := #[{ on := 0, ground := Ground.data }, { on := 2, ground := Ground.data }, { on := 2, ground := Ground.chain }], guard := none }, { dst := some 58, op := Op.unOp UnOp.not 4 (Operand.tmp 57), type := 4, pos := "exact.go:4105", after := #[{ on := 3, ground := Ground.data }], guard := none }] true) Q ⟨#[p0, p1, .pointer (some ⟨s0, 0, none⟩), p3, p4, p5, p6, p7, .pointer (some ⟨b8, 0, none⟩), p9, p10, p11, p12, p13, p14, p15, p16, p17, p18, p19, p20, p21, p22, p23, p24, p25, p26, p27, p28, p29, p30, p31, p32, p33, p34, p35, p36, p37, p38, p39, p40, p41, p42, p43, p44, p45, p46, p47, p48, p49, p50, p51, p52, p53, undef, undef, undef, undef, undef, p59, p60, p61, p62, p63, p64, p65, p66, p67, p68, p69, p70, p71, p72, p73, p74, p75, p76, p77, p78, p79, p80, p81, p82, p83, p84, p85, p86, p87, p88, p89, p90, p91, p92, p93, p94, p95, p96, p97, p98, p99, p100, p101, p102, p103, p104, p105, p106, p107, p108, p109, p110, p111, p112, p113, p114, p115, p116, p117, p118], []⟩ W := by
  refine region5 (by kernel_rfl) (fun t : Nat → Value => #[p0, p1, .pointer (some ⟨s0, 0, none⟩), p3, p4, p5, p6, p7, .pointer (some ⟨b8, 0, none⟩), p9, p10, p11, p12, p13, p14, p15, p16, p17, p18, p19, p20, p21, p22, p23, p24, p25, p26, p27, p28, p29, p30, p31, p32, p33, p34, p35, p36, p37, p38, p39, p40, p41, p42, p43, p44, p45, p46, p47, p48, p49, p50, p51, p52, p53, t 0, t 1, t 2, t 3, t 4, p59, p60, p61, p62, p63, p64, p65, p66, p67, p68, p69, p70, p71, p72, p73, p74, p75, p76, p77, p78, p79, p80, p81, p82, p83, p84, p85, p86, p87, p88, p89, p90, p91, p92, p93, p94, p95, p96, p97, p98, p99, p100, p101, p102, p103, p104, p105, p106, p107, p108, p109, p110, p111, p112, p113, p114, p115, p116, p117, p118]) (.agg #[.string m.kind, .string m.pre, .int .i64 m.at_, .slice (some ⟨gm, 0, none⟩) m.n dm, .int .i64 m.seen]) (.agg #[.string m.kind, .string m.pre, .int .i64 m.at_, .slice a m.n c, .int .i64 m.seen]) (fun v X => ∃ g d A C hb, v = .agg #[.string m.kind, .string m.pre, .int .i64 m.at_, .slice (some ⟨g, 0, none⟩) m.n d, .int .i64 m.seen] ∧ ObsAt X (some ⟨g, 0, none⟩) g m.n m.os A C hb) rfl (by kernel_rfl) ?hd ?st2 rfl ?s0 ?s1 ?s2 ?s3 ?s4 ?hfin
  case hd =>
    intro l i hr
    obtain ⟨_, o, ho, hdep⟩ := mem_ready.1 hr
    refine ⟨fun e => ?_, fun e => ?_, fun e => ?_⟩ <;> subst e <;> simp only [List.getElem?_toArray, List.getElem?_cons_succ, List.getElem?_cons_zero, Option.some.injEq] at ho <;> subst ho
    · exact hdep ⟨1, .data⟩ (by simp) rfl
    · exact ⟨hdep ⟨0, .data⟩ (by simp) rfl, hdep ⟨2, .data⟩ (by simp) rfl⟩
    · exact hdep ⟨3, .data⟩ (by simp) rfl
  case st2 =>
    rintro v X Y ⟨g, d, A, C, hb', e1, h⟩ hb
    exact ⟨g, d, A, C, hb', e1, h.grow hb⟩
  case s0 =>
    intro t X K hb hK
    obtain ⟨q0, q1, q2, q3, q4⟩ : X.cell? ⟨b8, 0, none⟩ = some (.string m.kind) ∧ X.cell? ⟨b8, 1, none⟩ = some (.string m.pre) ∧ X.cell? ⟨b8, 2, none⟩ = some (.int .i64 m.at_) ∧ X.cell? ⟨b8, 3, none⟩ = some (.slice (some ⟨gm, 0, none⟩) m.n dm) ∧ X.cell? ⟨b8, 4, none⟩ = some (.int .i64 m.seen) := by
      have h := hv.below hb zb
      exact ⟨h 0, h 1, h 2, h 3, h 4⟩
    refine wpOp_of rfl rfl ?_
    go_simp
    exact hK
  case s1 =>
    intro t X K hb hK
    obtain ⟨q0, q1, q2, q3, q4⟩ : X.cell? ⟨s0, 0, none⟩ = some (.string m.kind) ∧ X.cell? ⟨s0, 1, none⟩ = some (.string m.pre) ∧ X.cell? ⟨s0, 2, none⟩ = some (.int .i64 m.at_) ∧ X.cell? ⟨s0, 3, none⟩ = some (.slice a m.n c) ∧ X.cell? ⟨s0, 4, none⟩ = some (.int .i64 m.seen) := by
      have h := hbm.below hb hs
      exact ⟨h 0, h 1, h 2, h 3, h 4⟩
    refine wpOp_of rfl rfl ?_
    go_simp
    exact hK
  case s2 =>
    intro t X K hb e1 hK
    refine wpOp_of rfl rfl ?_
    have HK := hid hK
    clear hK
    go_simp
    go_at_call 7
    refine (toMr_any m a c X 0 s0 (by have := hb.size; omega) (by omega) hf (hinm.below hb (by omega))).mono ?_
    rintro e Y ⟨g, d, A, C, hb', rfl, ho, _, hbY⟩
    have h := HK.out _ Y ⟨g, d, A, C, hb', rfl, ho⟩ hbY
    simpa [updT, e1] using h
  case s3 =>
    intro t X K hb e0 h2 hK
    obtain ⟨g, d', A, C, hb', e2, i2⟩ := h2
    refine wpOp_of rfl rfl ?_
    have HK := hid hK
    have HI2 := hid i2
    clear hK i2
    go_simp
    go_at_call 10
    refine (eqMr_any m _ _ dm d' X 0 X.heap.size 0 X.heap.size (Nat.le_refl _) (Nat.le_refl _) (by omega) (fun i hi => by have := (hf i hi).h; omega) ((hat.grow hb).isIn (fun _ _ => Nat.zero_le _)) (HI2.out.isIn (fun _ _ => Nat.zero_le _))).mono ?_
    rintro e Y ⟨rfl, hbY⟩
    have h := HK.out Y hbY
    simpa [updT, e0, e2] using h
  case s4 =>
    intro t X K e3 hK
    refine wpOp_of rfl rfl ?_
    go_simp
    simpa [updT, e3] using hK
  case hfin =>
    intro t X e4 hb
    have h := hQ (t 0) (t 1) (t 2) (t 3) X hb
    rw [← e4] at h
    exact h
set_option maxRecDepth 100000 in
set_option maxHeartbeats 2000000 in
theorem takReg16 (p0 p1 p2 p4 p5 p6 p7 p8 p10 p11 p12 p13 p14 p15 p16 p17 p18 p19 p20 p21 p22 p23 p24 p25 p26 p27 p28 p29 p30 p31 p32 p33 p34 p35 p36 p37 p38 p39 p40 p41 p42 p43 p44 p45 p46 p47 p48 p49 p50 p51 p52 p53 p54 p55 p56 p57 p58 p64 p65 p66 p67 p68 p69 p70 p71 p72 p73 p74 p75 p76 p77 p78 p79 p80 p81 p82 p83 p84 p85 p86 p87 p88 p89 p90 p91 p92 p93 p94 p95 p96 p97 p98 p99 p100 p101 p102 p103 p104 p105 p106 p107 p108 p109 p110 p111 p112 p113 p114 p115 p116 p117 p118 : Value) (s0 b9 : Nat) (cd fv : Int) (n : Nat) (x : Nat → Ch) (an : Option Addr) (cn gn dn : Nat) (An : Nat → Option Addr) (Cn hn : Nat → Nat) (hnn : (n : Int) ≤ 1048576) (hfx : ∀ i, i < n → ObFit (x i).ob) (W : World) (hv : Holds W b9 #[.int .i64 cd, .slice (some ⟨gn, 0, none⟩) n dn, .int .i64 fv]) (hbn : Holds W (s0 + 1) #[.int .i64 cd, .slice an n cn, .int .i64 fv]) (hat : ChsAt W (some ⟨gn, 0, none⟩) gn n x An Cn hn) (hinn : ChgsIn W 0 s0 an n x) (hs : s0 + 1 < W.heap.size) (zb : b9 < W.heap.size) (Q : Exit → Act → World → Prop)
    (hQ : ∀ u0 u1 u2 u3 X, Below W.heap.size W X → Q .normal ⟨#[p0, p1, p2, .pointer (some ⟨s0 + 1, 0, none⟩), p4, p5, p6, p7, p8, .pointer (some ⟨b9, 0, none⟩), p10, p11, p12, p13, p14, p15, p16, p17, p18, p19, p20, p21, p22, p23, p24, p25, p26, p27, p28, p29, p30, p31, p32, p33, p34, p35, p36, p37, p38, p39, p40, p41, p42, p43, p44, p45, p46, p47, p48, p49, p50, p51, p52, p53, p54, p55, p56, p57, p58, u0, u1, u2, u3, .bool false, p64, p65, p66, p67, p68, p69, p70, p71, p72, p73, p74, p75, p76, p77, p78, p79, p80, p81, p82, p83, p84, p85, p86, p87, p88, p89, p90, p91, p92, p93, p94, p95, p96, p97, p98, p99, p100, p101, p102, p103, p104, p105, p106, p107, p108, p109, p110, p111, p112, p113, p114, p115, p116, p117, p118], []⟩ X) :
    Code.wp Try.prog (Code.region 16 #[{ dst := some 59, op := Op.load 38 (Operand.tmp 9), type := 38, pos := "exact.go:4108", after := #[], guard := none }, { dst := some 60, op := Op.load 27 (Operand.tmp 3), type := 27, pos := "exact.go:4108", after := #[], guard := none }, { dst := some 61, op := Op.call { callee := Callee.value (Operand.func 8), args := #[Operand.tmp 60], argTypes := #[27] }, type := 38, pos := "exact.go:4108", after := #[{ on := 1, ground := Ground.data }], guard := none }, { dst := some 62, op := Op.call { callee := Callee.value (Operand.func 11), args := #[Operand.tmp 59, Operand.tmp 61], argTypes := #[38, 38] }, type := 4, pos := "exact.go:4108", after := #[{ on := 0, ground := Ground.data }, { on := 2, ground := Ground.data }, { on := 2, ground := Ground.chain }], guard := none }, { dst := some 63, op := Op.unOp UnOp.not 4 (Operand.tmp 62), type := 4, pos := "exact.go:4108", after := #[{ on := 3, ground := Ground.data }], guard := none }] true) Q ⟨#[p0, p1, p2, .pointer (some ⟨s0 + 1, 0, none⟩), p4, p5, p6, p7, p8, .pointer (some ⟨b9, 0, none⟩), p10, p11, p12, p13, p14, p15, p16, p17, p18, p19, p20, p21, p22, p23, p24, p25, p26, p27, p28, p29, p30, p31, p32, p33, p34, p35, p36, p37, p38, p39, p40, p41, p42, p43, p44, p45, p46, p47, p48, p49, p50, p51, p52, p53, p54, p55, p56, p57, p58, undef, undef, undef, undef, undef, p64, p65, p66, p67, p68, p69, p70, p71, p72, p73, p74, p75, p76, p77, p78, p79, p80, p81, p82, p83, p84, p85, p86, p87, p88, p89, p90, p91, p92, p93, p94, p95, p96, p97, p98, p99, p100, p101, p102, p103, p104, p105, p106, p107, p108, p109, p110, p111, p112, p113, p114, p115, p116, p117, p118], []⟩ W := by
  refine region5 (by kernel_rfl) (fun t : Nat → Value => #[p0, p1, p2, .pointer (some ⟨s0 + 1, 0, none⟩), p4, p5, p6, p7, p8, .pointer (some ⟨b9, 0, none⟩), p10, p11, p12, p13, p14, p15, p16, p17, p18, p19, p20, p21, p22, p23, p24, p25, p26, p27, p28, p29, p30, p31, p32, p33, p34, p35, p36, p37, p38, p39, p40, p41, p42, p43, p44, p45, p46, p47, p48, p49, p50, p51, p52, p53, p54, p55, p56, p57, p58, t 0, t 1, t 2, t 3, t 4, p64, p65, p66, p67, p68, p69, p70, p71, p72, p73, p74, p75, p76, p77, p78, p79, p80, p81, p82, p83, p84, p85, p86, p87, p88, p89, p90, p91, p92, p93, p94, p95, p96, p97, p98, p99, p100, p101, p102, p103, p104, p105, p106, p107, p108, p109, p110, p111, p112, p113, p114, p115, p116, p117, p118]) (.agg #[.int .i64 cd, .slice (some ⟨gn, 0, none⟩) n dn, .int .i64 fv]) (.agg #[.int .i64 cd, .slice an n cn, .int .i64 fv]) (fun v X => ∃ g d A C hb, v = .agg #[.int .i64 cd, .slice (some ⟨g, 0, none⟩) n d, .int .i64 fv] ∧ ChsAt X (some ⟨g, 0, none⟩) g n x A C hb) rfl (by kernel_rfl) ?hd ?st2 rfl ?s0 ?s1 ?s2 ?s3 ?s4 ?hfin
  case hd =>
    intro l i hr
    obtain ⟨_, o, ho, hdep⟩ := mem_ready.1 hr
    refine ⟨fun e => ?_, fun e => ?_, fun e => ?_⟩ <;> subst e <;> simp only [List.getElem?_toArray, List.getElem?_cons_succ, List.getElem?_cons_zero, Option.some.injEq] at ho <;> subst ho
    · exact hdep ⟨1, .data⟩ (by simp) rfl
    · exact ⟨hdep ⟨0, .data⟩ (by simp) rfl, hdep ⟨2, .data⟩ (by simp) rfl⟩
    · exact hdep ⟨3, .data⟩ (by simp) rfl
  case st2 =>
    rintro v X Y ⟨g, d, A, C, hb', e1, h⟩ hb
    exact ⟨g, d, A, C, hb', e1, h.grow hb⟩
  case s0 =>
    intro t X K hb hK
    obtain ⟨q0, q1, q2⟩ : X.cell? ⟨b9, 0, none⟩ = some (.int .i64 cd) ∧ X.cell? ⟨b9, 1, none⟩ = some (.slice (some ⟨gn, 0, none⟩) n dn) ∧ X.cell? ⟨b9, 2, none⟩ = some (.int .i64 fv) := by
      have h := hv.below hb zb
      exact ⟨h 0, h 1, h 2⟩
    refine wpOp_of rfl rfl ?_
    go_simp
    exact hK
  case s1 =>
    intro t X K hb hK
    obtain ⟨q0, q1, q2⟩ : X.cell? ⟨s0 + 1, 0, none⟩ = some (.int .i64 cd) ∧ X.cell? ⟨s0 + 1, 1, none⟩ = some (.slice an n cn) ∧ X.cell? ⟨s0 + 1, 2, none⟩ = some (.int .i64 fv) := by
      have h := hbn.below hb hs
      exact ⟨h 0, h 1, h 2⟩
    refine wpOp_of rfl rfl ?_
    go_simp
    exact hK
  case s2 =>
    intro t X K hb e1 hK
    refine wpOp_of rfl rfl ?_
    have HK := hid hK
    clear hK
    go_simp
    go_at_call 8
    refine (toNw_any cd fv n x an cn X 0 s0 (by have := hb.size; omega) (by omega) hfx (hinn.below hb (by omega))).mono ?_
    rintro e Y ⟨g, d, A, C, hb', rfl, ho, _, hbY⟩
    have h := HK.out _ Y ⟨g, d, A, C, hb', rfl, ho⟩ hbY
    simpa [updT, e1] using h
  case s3 =>
    intro t X K hb e0 h2 hK
    obtain ⟨g, d', A, C, hb', e2, i2⟩ := h2
    refine wpOp_of rfl rfl ?_
    have HK := hid hK
    have HI2 := hid i2
    clear hK i2
    go_simp
    go_at_call 11
    refine (eqNw_any cd fv n x _ _ dn d' X 0 X.heap.size 0 X.heap.size (Nat.le_refl _) (Nat.le_refl _) (by omega) (fun i hi => by have := (hfx i hi).h; omega) ((hat.grow hb).isIn (fun _ _ => Nat.zero_le _)) (HI2.out.isIn (fun _ _ => Nat.zero_le _))).mono ?_
    rintro e Y ⟨rfl, hbY⟩
    have h := HK.out Y hbY
    simpa [updT, e0, e2] using h
  case s4 =>
    intro t X K e3 hK
    refine wpOp_of rfl rfl ?_
    go_simp
    simpa [updT, e3] using hK
  case hfin =>
    intro t X e4 hb
    have h := hQ (t 0) (t 1) (t 2) (t 3) X hb
    rw [← e4] at h
    exact h
end Go.Proofs.Ytkecnaaacbckoaa
