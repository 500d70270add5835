import Derived.Test.YtkecnaaacbckoaaTl
import Derived.Test.YtkecnaaacbckoaaTm
import Derived.Test.YtkecnaaacbckoaaTn
namespace Go.Proofs.Ytkecnaaacbckoaa
open Go.RowKit Go.Maps
theorem StrsIn.frQ {w w' : World} {P : Nat → Prop} {lo hi : Nat} {ad : Option Addr} {n : Nat} {s : Nat → ByteArray} (h : StrsIn w lo hi ad n s) (hf : FrP P w w') (hh : hi ≤ w.heap.size) (hp : ∀ q, lo ≤ q → q < hi → ¬ P q) : StrsIn w' lo hi ad n s := fun i hi' => by
  obtain ⟨b, off, e1, e2, e3, e4⟩ := h i hi'
  exact ⟨b, off, e1, e2, e3, (hf.cell (p := ⟨b, off + i, none⟩) (Nat.lt_of_lt_of_le e3 hh) (hp b e2 e3)).trans e4⟩
theorem ObjsIn.frQ {w w' : World} {P : Nat → Prop} {lo hi : Nat} {ad : Option Addr} {n : Nat} {y : Nat → Ob} (h : ObjsIn w lo hi ad n y) (hf : FrP P w w') (hh : hi ≤ w.heap.size) (hp : ∀ q, lo ≤ q → q < hi → ¬ P q) : ObjsIn w' lo hi ad n y := fun i hi' => by
  obtain ⟨b, off, ah, ch, e1, e2, e3, e4, e5⟩ := h i hi'
  exact ⟨b, off, ah, ch, e1, e2, e3, e4.frP hf (Nat.lt_of_lt_of_le e3 hh) (hp b e2 e3), e5.frQ hf hh hp⟩
/-- an answer, and where its list lies -/
def tkF4 (m : Mr) (cd fv : Int) (n : Nat) (x : Nat → Ch) (v : Value) (lo hi : Nat) (X : World) : Prop :=
  (∃ (adw : Option Addr) (cw n' : Nat) (y : Nat → Ob), v = .tuple #[.agg #[.string m.kind, .string m.pre, .int .i64 (tkS m cd fv n x).at_, .slice adw n' cw, .int .i64 (tkS m cd fv n x).seen], .int .i64 (tkC m.at_ cd fv n x)] ∧ toL n' y = (tkS m cd fv n x).l ∧ ObjsIn X lo hi adw n' y) ∧ hi ≤ X.heap.size
theorem tkF4_st (m : Mr) (cd fv : Int) (n : Nat) (x : Nat → Ch) : ∀ v lo hi X Y, tkF4 m cd fv n x v lo hi X → Below X.heap.size X Y → tkF4 m cd fv n x v lo hi Y := by
  rintro v lo hi X Y ⟨⟨adw, cw, n', y, e1, e2, e3⟩, e4⟩ hb
  exact ⟨⟨adw, cw, n', y, e1, e2, e3.below hb e4⟩, Nat.le_trans e4 hb.size⟩
def tkG (m : Mr) (a : Option Addr) (c : Nat) (cd fv : Int) (n : Nat) (x : Nat → Ch) (an : Option Addr) (cn : Nat) (i : Nat) (v : Value) (X : World) : Prop :=
  match i with
  | 0 => v = .agg #[.string m.kind, .string m.pre, .int .i64 m.at_, .slice a m.n c, .int .i64 m.seen]
  | 1 => ∃ g d A C hb, v = .agg #[.string m.kind, .string m.pre, .int .i64 m.at_, .slice (some ⟨g, 0, none⟩) m.n d, .int .i64 m.seen] ∧ ObsAt X (some ⟨g, 0, none⟩) g m.n m.os A C hb
  | 2 => v = .agg #[.int .i64 cd, .slice an n cn, .int .i64 fv]
  | _ => ∃ g d A C hb, v = .agg #[.int .i64 cd, .slice (some ⟨g, 0, none⟩) n d, .int .i64 fv] ∧ ChsAt X (some ⟨g, 0, none⟩) g n x A C hb
theorem tkG_st (m : Mr) (a : Option Addr) (c : Nat) (cd fv : Int) (n : Nat) (x : Nat → Ch) (an : Option Addr) (cn : Nat) : ∀ i v X Y, tkG m a c cd fv n x an cn i v X → Below X.heap.size X Y → tkG m a c cd fv n x an cn i v Y := by
  intro i v X Y h hb
  match i with
  | 0 => exact h
  | 1 =>
    obtain ⟨g, d, A, C, hb', e1, e2⟩ := h
    exact ⟨g, d, A, C, hb', e1, e2.grow hb⟩
  | 2 => exact h
  | _ + 3 =>
    obtain ⟨g, d, A, C, hb', e1, e2⟩ := h
    exact ⟨g, d, A, C, hb', e1, e2.grow hb⟩
/-- the answer in its box -/
def tkFin (m : Mr) (cd fv : Int) (n : Nat) (x : Nat → Ch) (W : World) (b : Nat) (X : World) : Prop :=
  ∃ (adw : Option Addr) (cw n' : Nat) (y : Nat → Ob) (lo hi : Nat), W.heap.size ≤ b ∧ b < X.heap.size ∧ (X.cell? ⟨b, 0, none⟩ = some (.string m.kind) ∧ X.cell? ⟨b, 1, none⟩ = some (.string m.pre) ∧ X.cell? ⟨b, 2, none⟩ = some (.int .i64 (tkS m cd fv n x).at_) ∧ X.cell? ⟨b, 3, none⟩ = some (.slice adw n' cw) ∧ X.cell? ⟨b, 4, none⟩ = some (.int .i64 (tkS m cd fv n x).seen)) ∧ toL n' y = (tkS m cd fv n x).l ∧ ObjsIn X lo hi adw n' y ∧ W.heap.size ≤ lo ∧ hi ≤ X.heap.size
theorem toL_map (L : List EO) : toL L.length (fun i => (ixE L i).ob) = L.map EO.ob := by
  apply List.ext_getElem
  · simp [toL]
  · intro i h1 h2
    have hi : i < L.length := by simpa using h2
    simp [toL, ixE_lt hi]
theorem specTake4 (m : Mr) (a : Option Addr) (c : Nat) (cd fv : Int) (n : Nat) (x : Nat → Ch) (an : Option Addr) (cn : Nat) (X : World) (hsum : (m.n : Int) + n ≤ 1048576) (hf : ∀ i, i < m.n → ObFit (m.os i)) (hfx : ∀ i, i < n → ObFit (x i).ob) (hc : ObjsIn X 0 X.heap.size a m.n m.os) (hx : ChgsIn X 0 X.heap.size an n x) :
    Calls Try.prog 6 #[.agg #[.string m.kind, .string m.pre, .int .i64 m.at_, .slice a m.n c, .int .i64 m.seen], .agg #[.int .i64 cd, .slice an n cn, .int .i64 fv]] X fun r Y => ∃ v, r = .returned v ∧ tkF4 m cd fv n x v X.heap.size Y.heap.size Y ∧ Below X.heap.size X Y :=
  (specTake_any m a c cd fv n x an cn X 0 X.heap.size (Nat.le_refl _) hsum hf hfx hc hx).mono fun _r _Y ⟨ad', cap', n', y, h1, h2, h3, h4⟩ => ⟨_, h1, ⟨⟨ad', cap', n', y, rfl, h2, h3⟩, Nat.le_refl _⟩, h4⟩
theorem implTake4 (m : Mr) (a : Option Addr) (c : Nat) (cd fv : Int) (n : Nat) (x : Nat → Ch) (an : Option Addr) (cn : Nat) (X : World) (hsum : (m.n : Int) + n ≤ 1048576) (hf : ∀ i, i < m.n → ObFit (m.os i)) (hfx : ∀ i, i < n → ObFit (x i).ob) (hc : ObjsIn X 0 X.heap.size a m.n m.os) (hx : ChgsIn X 0 X.heap.size an n x) :
    Calls Try.prog 9 #[.agg #[.string m.kind, .string m.pre, .int .i64 m.at_, .slice a m.n c, .int .i64 m.seen], .agg #[.int .i64 cd, .slice an n cn, .int .i64 fv]] X fun r Y => ∃ v, r = .returned v ∧ tkF4 m cd fv n x v X.heap.size Y.heap.size Y ∧ Below X.heap.size X Y :=
  (implTake_any m a c cd fv n x an cn X 0 X.heap.size (Nat.le_refl _) (by omega) (by omega) hf hfx hc hx).mono fun r Y ⟨ad', cap', g, L, h1, h2, h3, h4, h5, h6, h7⟩ => by
    have hob := obsAt_of (fun h => (h3 h).1) (fun h => (h3 h).2) h4 (fun e he h0 => (h6 e he h0).1)
    refine ⟨_, h1, ⟨⟨ad', cap', L.length, fun i => (ixE L i).ob, rfl, by rw [toL_map]; exact h2, hob.isIn (fun q hq => ?_)⟩, Nat.le_refl _⟩, h7⟩
    rcases hq with ⟨q1, q2⟩ | ⟨i, q1, q2, q3⟩
    · rw [q2]
      exact h5 (fun e => by rw [e] at q1; exact absurd q1 (Nat.lt_irrefl _))
    · rw [q3]
      exact (h6 _ (ixE_mem q1) q2).2
set_option maxRecDepth 100000 in
set_option maxHeartbeats 2000000 in
theorem takReg8 (p0 p1 p4 p5 p8 p9 p10 p11 p12 p13 p14 p15 p16 p17 p18 p19 p20 p21 p22 p23 p24 p25 p26 p35 p36 p37 p38 p39 p40 p41 p42 p43 p44 p45 p46 p47 p48 p49 p50 p51 p52 p53 p54 p55 p56 p57 p58 p59 p60 p61 p62 p63 p64 p65 p66 p67 p68 p69 p70 p71 p72 p73 p74 p75 p76 p77 p78 p79 p80 p81 p82 p83 p84 p85 p86 p87 p88 p89 p90 p91 p92 p93 p94 p95 p96 p97 p98 p99 p100 p101 p102 p103 p104 p105 p106 p107 p108 p109 p110 p111 p112 p113 p114 p115 p116 p117 p118 : Value) (s0 : Nat) (m : Mr) (a : Option Addr) (c : Nat) (cd fv : Int) (n : Nat) (x : Nat → Ch) (an : Option Addr) (cn : Nat) (hsum : (m.n : Int) + n ≤ 1048576) (hf : ∀ i, i < m.n → ObFit (m.os i)) (hfx : ∀ i, i < n → ObFit (x i).ob) (W : World) (hbm : Holds W s0 #[.string m.kind, .string m.pre, .int .i64 m.at_, .slice a m.n c, .int .i64 m.seen]) (hbn : Holds W (s0 + 1) #[.int .i64 cd, .slice an n cn, .int .i64 fv]) (hinm : ObjsIn W 0 s0 a m.n m.os) (hinn : ChgsIn W 0 s0 an n x) (hs : s0 + 1 < W.heap.size) (Q : Exit → Act → World → Prop)
    (hQ : ∀ u0 u1 u2 u3 u4 u5 u6 u7 b X, tkFin m cd fv n x W b X → Below W.heap.size W X → Q .normal ⟨#[p0, p1, .pointer (some ⟨s0, 0, none⟩), .pointer (some ⟨s0 + 1, 0, none⟩), p4, p5, .pointer (some ⟨b, 0, none⟩), .int .i64 (tkC m.at_ cd fv n x), p8, p9, p10, p11, p12, p13, p14, p15, p16, p17, p18, p19, p20, p21, p22, p23, p24, p25, p26, u5, u0, u1, u2, u3, u4, u6, u7, p35, p36, p37, p38, p39, p40, p41, p42, p43, p44, p45, p46, p47, p48, p49, p50, p51, p52, p53, p54, p55, p56, p57, p58, p59, p60, p61, p62, p63, p64, p65, p66, p67, p68, p69, p70, p71, p72, p73, p74, p75, p76, p77, p78, p79, p80, p81, p82, p83, p84, p85, p86, p87, p88, p89, p90, p91, p92, p93, p94, p95, p96, p97, p98, p99, p100, p101, p102, p103, p104, p105, p106, p107, p108, p109, p110, p111, p112, p113, p114, p115, p116, p117, p118], []⟩ X) :
    Code.wp Try.prog (Code.region 8 #[{ dst := some 28, op := Op.load 24 (Operand.tmp 2), type := 24, pos := "exact.go:4098", after := #[], guard := none }, { dst := some 29, op := Op.call { callee := Callee.value (Operand.func 7), args := #[Operand.tmp 28], argTypes := #[24] }, type := 32, pos := "exact.go:4098", after := #[{ on := 0, ground := Ground.data }], guard := none }, { dst := some 30, op := Op.load 27 (Operand.tmp 3), type := 27, pos := "exact.go:4098", after := #[], guard := none }, { dst := some 31, op := Op.call { callee := Callee.value (Operand.func 8), args := #[Operand.tmp 30], argTypes := #[27] }, type := 38, pos := "exact.go:4098", after := #[{ on := 2, ground := Ground.data }, { on := 1, ground := Ground.chain }], guard := none }, { dst := some 32, op := Op.call { callee := Callee.value (Operand.func 6), args := #[Operand.tmp 29, Operand.tmp 31], argTypes := #[32, 38] }, type := 33, pos := "exact.go:4098", after := #[{ on := 1, ground := Ground.data }, { on := 3, ground := Ground.data }, { on := 3, ground := Ground.chain }], guard := none }, { dst := some 27, op := Op.move (Operand.tmp 32), type := 33, pos := "exact.go:4098", after := #[{ on := 4, ground := Ground.data }], guard := none }, { dst := some 33, op := Op.extract (Operand.tmp 27) 0, type := 32, pos := "exact.go:4098", after := #[{ on := 5, ground := Ground.data }], guard := none }, { dst := some 34, op := Op.extract (Operand.tmp 27) 1, type := 3, pos := "exact.go:4098", after := #[{ on := 5, ground := Ground.data }, { on := 9, ground := Ground.gcOnly Departure.lateStores }], guard := none }, { dst := some 6, op := Op.alloc 32, type := 0, pos := "exact.go:4098", after := #[], guard := none }, { dst := none, op := Op.store 32 (Operand.tmp 6) (Operand.tmp 33), type := 0, pos := "exact.go:4098", after := #[{ on := 8, ground := Ground.data }, { on := 6, ground := Ground.data }, { on := 4, ground := Ground.chain }, { on := 0, ground := Ground.phase }, { on := 1, ground := Ground.phase }, { on := 2, ground := Ground.phase }, { on := 3, ground := Ground.phase }, { on := 4, ground := Ground.phase }, { on := 5, ground := Ground.phase }, { on := 6, ground := Ground.phase }, { on := 7, ground := Ground.textOnly Departure.lateStores }, { on := 8, ground := Ground.phase }], guard := none }, { dst := some 7, op := Op.assign (Operand.tmp 34), type := 3, pos := "exact.go:4098", after := #[{ on := 7, ground := Ground.data }, { on := 9, ground := Ground.chain }, { on := 0, ground := Ground.phase }, { on := 1, ground := Ground.phase }, { on := 2, ground := Ground.phase }, { on := 3, ground := Ground.phase }, { on := 4, ground := Ground.phase }, { on := 5, ground := Ground.phase }, { on := 6, ground := Ground.phase }, { on := 7, ground := Ground.phase }, { on := 8, ground := Ground.phase }, { on := 9, ground := Ground.phase }], guard := none }] true) Q ⟨#[p0, p1, .pointer (some ⟨s0, 0, none⟩), .pointer (some ⟨s0 + 1, 0, none⟩), p4, p5, undef, undef, p8, p9, p10, p11, p12, p13, p14, p15, p16, p17, p18, p19, p20, p21, p22, p23, p24, p25, p26, undef, undef, undef, undef, undef, undef, undef, undef, p35, p36, p37, p38, p39, p40, p41, p42, p43, p44, p45, p46, p47, p48, p49, p50, p51, p52, p53, p54, p55, p56, p57, p58, p59, p60, p61, p62, p63, p64, p65, p66, p67, p68, p69, p70, p71, p72, p73, p74, p75, p76, p77, p78, p79, p80, p81, p82, p83, p84, p85, p86, p87, p88, p89, p90, p91, p92, p93, p94, p95, p96, p97, p98, p99, p100, p101, p102, p103, p104, p105, p106, p107, p108, p109, p110, p111, p112, p113, p114, p115, p116, p117, p118], []⟩ W := by
  refine regionT (by kernel_rfl) (fun t : Nat → Value => #[p0, p1, .pointer (some ⟨s0, 0, none⟩), .pointer (some ⟨s0 + 1, 0, none⟩), p4, p5, t 8, undef, p8, p9, p10, p11, p12, p13, p14, p15, p16, p17, p18, p19, p20, p21, p22, p23, p24, p25, p26, t 5, t 0, t 1, t 2, t 3, t 4, t 6, t 7, p35, p36, p37, p38, p39, p40, p41, p42, p43, p44, p45, p46, p47, p48, p49, p50, p51, p52, p53, p54, p55, p56, p57, p58, p59, p60, p61, p62, p63, p64, p65, p66, p67, p68, p69, p70, p71, p72, p73, p74, p75, p76, p77, p78, p79, p80, p81, p82, p83, p84, p85, p86, p87, p88, p89, p90, p91, p92, p93, p94, p95, p96, p97, p98, p99, p100, p101, p102, p103, p104, p105, p106, p107, p108, p109, p110, p111, p112, p113, p114, p115, p116, p117, p118]) (fun t : Nat → Value => #[p0, p1, .pointer (some ⟨s0, 0, none⟩), .pointer (some ⟨s0 + 1, 0, none⟩), p4, p5, t 8, t 7, p8, p9, p10, p11, p12, p13, p14, p15, p16, p17, p18, p19, p20, p21, p22, p23, p24, p25, p26, t 5, t 0, t 1, t 2, t 3, t 4, t 6, t 7, p35, p36, p37, p38, p39, p40, p41, p42, p43, p44, p45, p46, p47, p48, p49, p50, p51, p52, p53, p54, p55, p56, p57, p58, p59, p60, p61, p62, p63, p64, p65, p66, p67, p68, p69, p70, p71, p72, p73, p74, p75, p76, p77, p78, p79, p80, p81, p82, p83, p84, p85, p86, p87, p88, p89, p90, p91, p92, p93, p94, p95, p96, p97, p98, p99, p100, p101, p102, p103, p104, p105, p106, p107, p108, p109, p110, p111, p112, p113, p114, p115, p116, p117, p118]) (tkG m a c cd fv n x an cn) (tkF4 m cd fv n x) #[.string ByteArray.empty, .string ByteArray.empty, .int .i64 0, .slice none 0 0, .int .i64 0] 32 (fun v u X => (∃ u0, v = .tuple #[u0, .int .i64 (tkC m.at_ cd fv n x)]) ∧ ∃ b, u = .pointer (some ⟨b, 0, none⟩) ∧ tkFin m cd fv n x W b X) rfl (by kernel_rfl) ?_ (tkG_st m a c cd fv n x an cn) (tkF4_st m cd fv n x) (fun v lo hi X h => h.2) (fun v lo hi X h => by obtain ⟨⟨adw, cw, n', y, rfl, _⟩, _⟩ := h; exact ⟨_, _, rfl⟩) rfl ?_ ?_ ?_ ?_ ?_ ?_ ?_ ?_ ?_ ?_ ?_ ?_
  · intro l i hr
    obtain ⟨_, o, ho, hdep⟩ := mem_ready.1 hr
    refine ⟨fun e => ?_, fun e => ?_, fun e => ?_, fun e => ?_, fun e => ?_, fun e => ?_, fun e => ?_, fun e => ?_⟩ <;> subst e <;> simp only [List.getElem?_toArray, List.getElem?_cons_succ, List.getElem?_cons_zero, Option.some.injEq] at ho <;> subst ho
    · exact hdep ⟨0, .data⟩ (by simp) rfl
    · exact hdep ⟨2, .data⟩ (by simp) rfl
    · exact ⟨hdep ⟨1, .data⟩ (by simp) rfl, hdep ⟨3, .data⟩ (by simp) rfl⟩
    · exact hdep ⟨4, .data⟩ (by simp) rfl
    · exact hdep ⟨5, .data⟩ (by simp) rfl
    · exact hdep ⟨5, .data⟩ (by simp) rfl
    · refine ⟨fun j hj => ?_, hdep ⟨8, .data⟩ (by simp) rfl⟩
      rcases (show j = 0 ∨ j = 1 ∨ j = 2 ∨ j = 3 ∨ j = 4 ∨ j = 5 ∨ j = 6 by omega) with rfl | rfl | rfl | rfl | rfl | rfl | rfl
      · exact hdep ⟨0, .phase⟩ (by simp) rfl
      · exact hdep ⟨1, .phase⟩ (by simp) rfl
      · exact hdep ⟨2, .phase⟩ (by simp) rfl
      · exact hdep ⟨3, .phase⟩ (by simp) rfl
      · exact hdep ⟨4, .phase⟩ (by simp) rfl
      · exact hdep ⟨5, .phase⟩ (by simp) rfl
      · exact hdep ⟨6, .phase⟩ (by simp) rfl
    · intro j hj
      rcases (show j = 0 ∨ j = 1 ∨ j = 2 ∨ j = 3 ∨ j = 4 ∨ j = 5 ∨ j = 6 ∨ j = 7 ∨ j = 8 ∨ j = 9 by omega) with rfl | rfl | rfl | rfl | rfl | rfl | rfl | rfl | rfl | rfl
      · exact hdep ⟨0, .phase⟩ (by simp) rfl
      · exact hdep ⟨1, .phase⟩ (by simp) rfl
      · exact hdep ⟨2, .phase⟩ (by simp) rfl
      · exact hdep ⟨3, .phase⟩ (by simp) rfl
      · exact hdep ⟨4, .phase⟩ (by simp) rfl
      · exact hdep ⟨5, .phase⟩ (by simp) rfl
      · exact hdep ⟨6, .phase⟩ (by simp) rfl
      · exact hdep ⟨7, .phase⟩ (by simp) rfl
      · exact hdep ⟨8, .phase⟩ (by simp) rfl
      · exact hdep ⟨9, .chain⟩ (by simp) rfl
  · intro t X K hb hK
    obtain ⟨q0, q1, q2, q3, q4⟩ : X.cell? ⟨s0, 0, none⟩ = some (.string m.kind) ∧ X.cell? ⟨s0, 1, none⟩ = some (.string m.pre) ∧ X.cell? ⟨s0, 2, none⟩ = some (.int .i64 m.at_) ∧ X.cell? ⟨s0, 3, none⟩ = some (.slice a m.n c) ∧ X.cell? ⟨s0, 4, none⟩ = some (.int .i64 m.seen) := by
      have h := hbm.below hb (by omega)
      exact ⟨h 0, h 1, h 2, h 3, h 4⟩
    have h := hK (.agg #[.string m.kind, .string m.pre, .int .i64 m.at_, .slice a m.n c, .int .i64 m.seen]) X rfl (Below.refl _ _)
    refine wpOp_of rfl rfl ?_
    go_simp
    exact h
  · intro t X K hb g0 hK
    have e0 : t 0 = .agg #[.string m.kind, .string m.pre, .int .i64 m.at_, .slice a m.n c, .int .i64 m.seen] := g0
    refine wpOp_of rfl rfl ?_
    have HK := hid hK
    clear hK g0
    go_simp
    go_at_call 7
    refine (toMr_any m a c X 0 s0 (by have := hb.size; omega) (by omega) hf (hinm.below hb (by omega))).mono ?_
    rintro e Y ⟨g, d, A, C, hb', rfl, ho, _, hbY⟩
    have h := HK.out _ Y ⟨g, d, A, C, hb', rfl, ho⟩ hbY
    simpa [updT, e0] using h
  · intro t X K hb hK
    obtain ⟨q0, q1, q2⟩ : X.cell? ⟨s0 + 1, 0, none⟩ = some (.int .i64 cd) ∧ X.cell? ⟨s0 + 1, 1, none⟩ = some (.slice an n cn) ∧ X.cell? ⟨s0 + 1, 2, none⟩ = some (.int .i64 fv) := by
      have h := hbn.below hb (by omega)
      exact ⟨h 0, h 1, h 2⟩
    have h := hK (.agg #[.int .i64 cd, .slice an n cn, .int .i64 fv]) X rfl (Below.refl _ _)
    refine wpOp_of rfl rfl ?_
    go_simp
    exact h
  · intro t X K hb g2 hK
    have e2 : t 2 = .agg #[.int .i64 cd, .slice an n cn, .int .i64 fv] := g2
    refine wpOp_of rfl rfl ?_
    have HK := hid hK
    clear hK g2
    go_simp
    go_at_call 8
    refine (toNw_any cd fv n x an cn X 0 s0 (by have := hb.size; omega) (by omega) hfx (hinn.below hb (by omega))).mono ?_
    rintro e Y ⟨g, d, A, C, hb', rfl, ho, _, hbY⟩
    have h := HK.out _ Y ⟨g, d, A, C, hb', rfl, ho⟩ hbY
    simpa [updT, e2] using h
  · intro t X K hb g1 g3 hK
    obtain ⟨g, d, A, C, hb', e1, ho⟩ := g1
    obtain ⟨g', d', A', C', hb'', e3, ho'⟩ := g3
    refine wpOp_of rfl rfl ?_
    have HK := hid hK
    have HO := hid ho
    have HO' := hid ho'
    clear hK ho ho'
    go_simp
    go_at_call 6
    refine (specTake4 m _ d cd fv n x _ d' X hsum hf hfx (HO.out.isIn (fun _ _ => Nat.zero_le _)) (HO'.out.isIn (fun _ _ => Nat.zero_le _))).mono ?_
    rintro e Y ⟨v, rfl, hF, hbY⟩
    have h := HK.out v Y hF hbY
    simpa [updT, e1, e3] using h
  · intro t X K h
    refine wpOp_of rfl rfl ?_
    go_simp
    exact h
  · intro t X K u0 u1 e5 h
    refine wpOp_of rfl rfl ?_
    go_simp
    simpa [updT, e5] using h
  · intro t X K u0 u1 e5 h
    refine wpOp_of rfl rfl ?_
    go_simp
    simpa [updT, e5] using h
  · intro t X K h
    refine wpOp_of rfl rfl ?_
    go_simp
    exact h
  · intro t X K b lo hi hb e8 zb hbx h4 hlo hbl e6 hK
    obtain ⟨⟨adw, cw, n', y, e4, hl, hin⟩, hhi⟩ := h4
    have e6' : t 6 = .agg #[.string m.kind, .string m.pre, .int .i64 (tkS m cd fv n x).at_, .slice adw n' cw, .int .i64 (tkS m cd fv n x).seen] := by rw [e6, e4]; rfl
    obtain ⟨Y, hY, fY, y0, y1, y2, y3, y4⟩ := resFin5 hbx rfl (.string m.kind) (.string m.pre) (.int .i64 (tkS m cd fv n x).at_) (.slice adw n' cw) (.int .i64 (tkS m cd fv n x).seen)
    have bY : Below W.heap.size W Y := hb.trans (fY.below (fun q hq e => by have : q = b := e; omega) hb.size)
    have h := hK Y ⟨⟨_, e4⟩, b, e8, ⟨adw, cw, n', y, lo, hi, zb, Nat.lt_of_lt_of_le hbx.lt fY.size, ⟨y0, y1, y2, y3, y4⟩, hl, hin.frQ fY hhi (fun q h1 h2 e => by have : q = b := e; omega), hlo, Nat.le_trans hhi fY.size⟩⟩ bY
    obtain ⟨r0, r1, r2, r3, r4⟩ : X.cell? ⟨b, 0, none⟩ = some (.string ByteArray.empty) ∧ X.cell? ⟨b, 1, none⟩ = some (.string ByteArray.empty) ∧ X.cell? ⟨b, 2, none⟩ = some (.int .i64 0) ∧ X.cell? ⟨b, 3, none⟩ = some (.slice none 0 0) ∧ X.cell? ⟨b, 4, none⟩ = some (.int .i64 0) := ⟨hbx.cell 0, hbx.cell 1, hbx.cell 2, hbx.cell 3, hbx.cell 4⟩
    have f0 := hbx.free 0
    have f1 := hbx.free 1
    have f2 := hbx.free 2
    have f3 := hbx.free 3
    have f4 := hbx.free 4
    rw [← hY] at h
    clear hY fY y0 y1 y2 y3 y4 bY hK hbx hin e4 e6 hb
    refine wpOp_of rfl rfl ?_
    go_simp
    simpa [e8, e6'] using h
  · intro t X K h
    refine wpOp_of rfl rfl ?_
    go_simp
    exact h
  · rintro t X e7 ⟨⟨u0, e4⟩, b, e8, hF⟩ hb
    have h := hQ (t 0) (t 1) (t 2) (t 3) (t 4) (t 5) (t 6) (t 7) b X hF hb
    have e7' : t 7 = .int .i64 (tkC m.at_ cd fv n x) := by rw [e7, e4]; rfl
    simpa [e8, e7'] using h
set_option maxRecDepth 100000 in
set_option maxHeartbeats 2000000 in
theorem takReg31 (p0 p1 p4 p5 p6 p7 p8 p9 p10 p11 p12 p13 p14 p17 p18 p19 p20 p21 p22 p23 p24 p25 p26 p27 p28 p29 p30 p31 p32 p33 p34 p35 p36 p37 p38 p39 p40 p41 p42 p43 p44 p45 p46 p47 p48 p49 p50 p51 p52 p53 p54 p55 p56 p57 p58 p59 p60 p61 p62 p63 p64 p65 p66 p67 p68 p69 p70 p71 p72 p73 p74 p75 p76 p77 p78 p79 p80 p81 p82 p83 p84 p85 p86 p87 p88 p89 p90 p91 p92 p93 p102 p103 p104 p105 p106 p107 p108 p109 p110 p111 p112 p113 p114 p115 p116 p117 p118 : Value) (s0 : Nat) (m : Mr) (a : Option Addr) (c : Nat) (cd fv : Int) (n : Nat) (x : Nat → Ch) (an : Option Addr) (cn : Nat) (hsum : (m.n : Int) + n ≤ 1048576) (hf : ∀ i, i < m.n → ObFit (m.os i)) (hfx : ∀ i, i < n → ObFit (x i).ob) (W : World) (hbm : Holds W s0 #[.string m.kind, .string m.pre, .int .i64 m.at_, .slice a m.n c, .int .i64 m.seen]) (hbn : Holds W (s0 + 1) #[.int .i64 cd, .slice an n cn, .int .i64 fv]) (hinm : ObjsIn W 0 s0 a m.n m.os) (hinn : ChgsIn W 0 s0 an n x) (hs : s0 + 1 < W.heap.size) (Q : Exit → Act → World → Prop)
    (hQ : ∀ u0 u1 u2 u3 u4 u5 u6 u7 b X, tkFin m cd fv n x W b X → Below W.heap.size W X → Q .normal ⟨#[p0, p1, .pointer (some ⟨s0, 0, none⟩), .pointer (some ⟨s0 + 1, 0, none⟩), p4, p5, p6, p7, p8, p9, p10, p11, p12, p13, p14, .pointer (some ⟨b, 0, none⟩), .int .i64 (tkC m.at_ cd fv n x), p17, p18, p19, p20, p21, p22, p23, p24, p25, p26, p27, p28, p29, p30, p31, p32, p33, p34, p35, p36, p37, p38, p39, p40, p41, p42, p43, p44, p45, p46, p47, p48, p49, p50, p51, p52, p53, p54, p55, p56, p57, p58, p59, p60, p61, p62, p63, p64, p65, p66, p67, p68, p69, p70, p71, p72, p73, p74, p75, p76, p77, p78, p79, p80, p81, p82, p83, p84, p85, p86, p87, p88, p89, p90, p91, p92, p93, u5, u0, u1, u2, u3, u4, u6, u7, p102, p103, p104, p105, p106, p107, p108, p109, p110, p111, p112, p113, p114, p115, p116, p117, p118], []⟩ X) :
    Code.wp Try.prog (Code.region 31 #[{ dst := some 95, op := Op.load 24 (Operand.tmp 2), type := 24, pos := "exact.go:4127", after := #[], guard := none }, { dst := some 96, op := Op.call { callee := Callee.value (Operand.func 7), args := #[Operand.tmp 95], argTypes := #[24] }, type := 32, pos := "exact.go:4127", after := #[{ on := 0, ground := Ground.data }], guard := none }, { dst := some 97, op := Op.load 27 (Operand.tmp 3), type := 27, pos := "exact.go:4127", after := #[], guard := none }, { dst := some 98, op := Op.call { callee := Callee.value (Operand.func 8), args := #[Operand.tmp 97], argTypes := #[27] }, type := 38, pos := "exact.go:4127", after := #[{ on := 2, ground := Ground.data }, { on := 1, ground := Ground.chain }], guard := none }, { dst := some 99, op := Op.call { callee := Callee.value (Operand.func 9), args := #[Operand.tmp 96, Operand.tmp 98], argTypes := #[32, 38] }, type := 33, pos := "exact.go:4127", after := #[{ on := 1, ground := Ground.data }, { on := 3, ground := Ground.data }, { on := 3, ground := Ground.chain }], guard := none }, { dst := some 94, op := Op.move (Operand.tmp 99), type := 33, pos := "exact.go:4127", after := #[{ on := 4, ground := Ground.data }], guard := none }, { dst := some 100, op := Op.extract (Operand.tmp 94) 0, type := 32, pos := "exact.go:4127", after := #[{ on := 5, ground := Ground.data }], guard := none }, { dst := some 101, op := Op.extract (Operand.tmp 94) 1, type := 3, pos := "exact.go:4127", after := #[{ on := 5, ground := Ground.data }, { on := 9, ground := Ground.gcOnly Departure.lateStores }], guard := none }, { dst := some 15, op := Op.alloc 32, type := 0, pos := "exact.go:4127", after := #[], guard := none }, { dst := none, op := Op.store 32 (Operand.tmp 15) (Operand.tmp 100), type := 0, pos := "exact.go:4127", after := #[{ on := 8, ground := Ground.data }, { on := 6, ground := Ground.data }, { on := 4, ground := Ground.chain }, { on := 0, ground := Ground.phase }, { on := 1, ground := Ground.phase }, { on := 2, ground := Ground.phase }, { on := 3, ground := Ground.phase }, { on := 4, ground := Ground.phase }, { on := 5, ground := Ground.phase }, { on := 6, ground := Ground.phase }, { on := 7, ground := Ground.textOnly Departure.lateStores }, { on := 8, ground := Ground.phase }], guard := none }, { dst := some 16, op := Op.assign (Operand.tmp 101), type := 3, pos := "exact.go:4127", after := #[{ on := 7, ground := Ground.data }, { on := 9, ground := Ground.chain }, { on := 0, ground := Ground.phase }, { on := 1, ground := Ground.phase }, { on := 2, ground := Ground.phase }, { on := 3, ground := Ground.phase }, { on := 4, ground := Ground.phase }, { on := 5, ground := Ground.phase }, { on := 6, ground := Ground.phase }, { on := 7, ground := Ground.phase }, { on := 8, ground := Ground.phase }, { on := 9, ground := Ground.phase }], guard := none }] true) Q ⟨#[p0, p1, .pointer (some ⟨s0, 0, none⟩), .pointer (some ⟨s0 + 1, 0, none⟩), p4, p5, p6, p7, p8, p9, p10, p11, p12, p13, p14, undef, undef, p17, p18, p19, p20, p21, p22, p23, p24, p25, p26, p27, p28, p29, p30, p31, p32, p33, p34, p35, p36, p37, p38, p39, p40, p41, p42, p43, p44, p45, p46, p47, p48, p49, p50, p51, p52, p53, p54, p55, p56, p57, p58, p59, p60, p61, p62, p63, p64, p65, p66, p67, p68, p69, p70, p71, p72, p73, p74, p75, p76, p77, p78, p79, p80, p81, p82, p83, p84, p85, p86, p87, p88, p89, p90, p91, p92, p93, undef, undef, undef, undef, undef, undef, undef, undef, p102, p103, p104, p105, p106, p107, p108, p109, p110, p111, p112, p113, p114, p115, p116, p117, p118], []⟩ W := by
  refine regionT (by kernel_rfl) (fun t : Nat → Value => #[p0, p1, .pointer (some ⟨s0, 0, none⟩), .pointer (some ⟨s0 + 1, 0, none⟩), p4, p5, p6, p7, p8, p9, p10, p11, p12, p13, p14, t 8, undef, p17, p18, p19, p20, p21, p22, p23, p24, p25, p26, p27, p28, p29, p30, p31, p32, p33, p34, p35, p36, p37, p38, p39, p40, p41, p42, p43, p44, p45, p46, p47, p48, p49, p50, p51, p52, p53, p54, p55, p56, p57, p58, p59, p60, p61, p62, p63, p64, p65, p66, p67, p68, p69, p70, p71, p72, p73, p74, p75, p76, p77, p78, p79, p80, p81, p82, p83, p84, p85, p86, p87, p88, p89, p90, p91, p92, p93, t 5, t 0, t 1, t 2, t 3, t 4, t 6, t 7, p102, p103, p104, p105, p106, p107, p108, p109, p110, p111, p112, p113, p114, p115, p116, p117, p118]) (fun t : Nat → Value => #[p0, p1, .pointer (some ⟨s0, 0, none⟩), .pointer (some ⟨s0 + 1, 0, none⟩), p4, p5, p6, p7, p8, p9, p10, p11, p12, p13, p14, t 8, t 7, p17, p18, p19, p20, p21, p22, p23, p24, p25, p26, p27, p28, p29, p30, p31, p32, p33, p34, p35, p36, p37, p38, p39, p40, p41, p42, p43, p44, p45, p46, p47, p48, p49, p50, p51, p52, p53, p54, p55, p56, p57, p58, p59, p60, p61, p62, p63, p64, p65, p66, p67, p68, p69, p70, p71, p72, p73, p74, p75, p76, p77, p78, p79, p80, p81, p82, p83, p84, p85, p86, p87, p88, p89, p90, p91, p92, p93, t 5, t 0, t 1, t 2, t 3, t 4, t 6, t 7, p102, p103, p104, p105, p106, p107, p108, p109, p110, p111, p112, p113, p114, p115, p116, p117, p118]) (tkG m a c cd fv n x an cn) (tkF4 m cd fv n x) #[.string ByteArray.empty, .string ByteArray.empty, .int .i64 0, .slice none 0 0, .int .i64 0] 32 (fun v u X => (∃ u0, v = .tuple #[u0, .int .i64 (tkC m.at_ cd fv n x)]) ∧ ∃ b, u = .pointer (some ⟨b, 0, none⟩) ∧ tkFin m cd fv n x W b X) rfl (by kernel_rfl) ?_ (tkG_st m a c cd fv n x an cn) (tkF4_st m cd fv n x) (fun v lo hi X h => h.2) (fun v lo hi X h => by obtain ⟨⟨adw, cw, n', y, rfl, _⟩, _⟩ := h; exact ⟨_, _, rfl⟩) rfl ?_ ?_ ?_ ?_ ?_ ?_ ?_ ?_ ?_ ?_ ?_ ?_
  · intro l i hr
    obtain ⟨_, o, ho, hdep⟩ := mem_ready.1 hr
    refine ⟨fun e => ?_, fun e => ?_, fun e => ?_, fun e => ?_, fun e => ?_, fun e => ?_, fun e => ?_, fun e => ?_⟩ <;> subst e <;> simp only [List.getElem?_toArray, List.getElem?_cons_succ, List.getElem?_cons_zero, Option.some.injEq] at ho <;> subst ho
    · exact hdep ⟨0, .data⟩ (by simp) rfl
    · exact hdep ⟨2, .data⟩ (by simp) rfl
    · exact ⟨hdep ⟨1, .data⟩ (by simp) rfl, hdep ⟨3, .data⟩ (by simp) rfl⟩
    · exact hdep ⟨4, .data⟩ (by simp) rfl
    · exact hdep ⟨5, .data⟩ (by simp) rfl
    · exact hdep ⟨5, .data⟩ (by simp) rfl
    · refine ⟨fun j hj => ?_, hdep ⟨8, .data⟩ (by simp) rfl⟩
      rcases (show j = 0 ∨ j = 1 ∨ j = 2 ∨ j = 3 ∨ j = 4 ∨ j = 5 ∨ j = 6 by omega) with rfl | rfl | rfl | rfl | rfl | rfl | rfl
      · exact hdep ⟨0, .phase⟩ (by simp) rfl
      · exact hdep ⟨1, .phase⟩ (by simp) rfl
      · exact hdep ⟨2, .phase⟩ (by simp) rfl
      · exact hdep ⟨3, .phase⟩ (by simp) rfl
      · exact hdep ⟨4, .phase⟩ (by simp) rfl
      · exact hdep ⟨5, .phase⟩ (by simp) rfl
      · exact hdep ⟨6, .phase⟩ (by simp) rfl
    · intro j hj
      rcases (show j = 0 ∨ j = 1 ∨ j = 2 ∨ j = 3 ∨ j = 4 ∨ j = 5 ∨ j = 6 ∨ j = 7 ∨ j = 8 ∨ j = 9 by omega) with rfl | rfl | rfl | rfl | rfl | rfl | rfl | rfl | rfl | rfl
      · exact hdep ⟨0, .phase⟩ (by simp) rfl
      · exact hdep ⟨1, .phase⟩ (by simp) rfl
      · exact hdep ⟨2, .phase⟩ (by simp) rfl
      · exact hdep ⟨3, .phase⟩ (by simp) rfl
      · exact hdep ⟨4, .phase⟩ (by simp) rfl
      · exact hdep ⟨5, .phase⟩ (by simp) rfl
      · exact hdep ⟨6, .phase⟩ (by simp) rfl
      · exact hdep ⟨7, .phase⟩ (by simp) rfl
      · exact hdep ⟨8, .phase⟩ (by simp) rfl
      · exact hdep ⟨9, .chain⟩ (by simp) rfl
  · intro t X K hb hK
    obtain ⟨q0, q1, q2, q3, q4⟩ : X.cell? ⟨s0, 0, none⟩ = some (.string m.kind) ∧ X.cell? ⟨s0, 1, none⟩ = some (.string m.pre) ∧ X.cell? ⟨s0, 2, none⟩ = some (.int .i64 m.at_) ∧ X.cell? ⟨s0, 3, none⟩ = some (.slice a m.n c) ∧ X.cell? ⟨s0, 4, none⟩ = some (.int .i64 m.seen) := by
      have h := hbm.below hb (by omega)
      exact ⟨h 0, h 1, h 2, h 3, h 4⟩
    have h := hK (.agg #[.string m.kind, .string m.pre, .int .i64 m.at_, .slice a m.n c, .int .i64 m.seen]) X rfl (Below.refl _ _)
    refine wpOp_of rfl rfl ?_
    go_simp
    exact h
  · intro t X K hb g0 hK
    have e0 : t 0 = .agg #[.string m.kind, .string m.pre, .int .i64 m.at_, .slice a m.n c, .int .i64 m.seen] := g0
    refine wpOp_of rfl rfl ?_
    have HK := hid hK
    clear hK g0
    go_simp
    go_at_call 7
    refine (toMr_any m a c X 0 s0 (by have := hb.size; omega) (by omega) hf (hinm.below hb (by omega))).mono ?_
    rintro e Y ⟨g, d, A, C, hb', rfl, ho, _, hbY⟩
    have h := HK.out _ Y ⟨g, d, A, C, hb', rfl, ho⟩ hbY
    simpa [updT, e0] using h
  · intro t X K hb hK
    obtain ⟨q0, q1, q2⟩ : X.cell? ⟨s0 + 1, 0, none⟩ = some (.int .i64 cd) ∧ X.cell? ⟨s0 + 1, 1, none⟩ = some (.slice an n cn) ∧ X.cell? ⟨s0 + 1, 2, none⟩ = some (.int .i64 fv) := by
      have h := hbn.below hb (by omega)
      exact ⟨h 0, h 1, h 2⟩
    have h := hK (.agg #[.int .i64 cd, .slice an n cn, .int .i64 fv]) X rfl (Below.refl _ _)
    refine wpOp_of rfl rfl ?_
    go_simp
    exact h
  · intro t X K hb g2 hK
    have e2 : t 2 = .agg #[.int .i64 cd, .slice an n cn, .int .i64 fv] := g2
    refine wpOp_of rfl rfl ?_
    have HK := hid hK
    clear hK g2
    go_simp
    go_at_call 8
    refine (toNw_any cd fv n x an cn X 0 s0 (by have := hb.size; omega) (by omega) hfx (hinn.below hb (by omega))).mono ?_
    rintro e Y ⟨g, d, A, C, hb', rfl, ho, _, hbY⟩
    have h := HK.out _ Y ⟨g, d, A, C, hb', rfl, ho⟩ hbY
    simpa [updT, e2] using h
  · intro t X K hb g1 g3 hK
    obtain ⟨g, d, A, C, hb', e1, ho⟩ := g1
    obtain ⟨g', d', A', C', hb'', e3, ho'⟩ := g3
    refine wpOp_of rfl rfl ?_
    have HK := hid hK
    have HO := hid ho
    have HO' := hid ho'
    clear hK ho ho'
    go_simp
    go_at_call 9
    refine (implTake4 m _ d cd fv n x _ d' X hsum hf hfx (HO.out.isIn (fun _ _ => Nat.zero_le _)) (HO'.out.isIn (fun _ _ => Nat.zero_le _))).mono ?_
    rintro e Y ⟨v, rfl, hF, hbY⟩
    have h := HK.out v Y hF hbY
    simpa [updT, e1, e3] using h
  · intro t X K h
    refine wpOp_of rfl rfl ?_
    go_simp
    exact h
  · intro t X K u0 u1 e5 h
    refine wpOp_of rfl rfl ?_
    go_simp
    simpa [updT, e5] using h
  · intro t X K u0 u1 e5 h
    refine wpOp_of rfl rfl ?_
    go_simp
    simpa [updT, e5] using h
  · intro t X K h
    refine wpOp_of rfl rfl ?_
    go_simp
    exact h
  · intro t X K b lo hi hb e8 zb hbx h4 hlo hbl e6 hK
    obtain ⟨⟨adw, cw, n', y, e4, hl, hin⟩, hhi⟩ := h4
    have e6' : t 6 = .agg #[.string m.kind, .string m.pre, .int .i64 (tkS m cd fv n x).at_, .slice adw n' cw, .int .i64 (tkS m cd fv n x).seen] := by rw [e6, e4]; rfl
    obtain ⟨Y, hY, fY, y0, y1, y2, y3, y4⟩ := resFin5 hbx rfl (.string m.kind) (.string m.pre) (.int .i64 (tkS m cd fv n x).at_) (.slice adw n' cw) (.int .i64 (tkS m cd fv n x).seen)
    have bY : Below W.heap.size W Y := hb.trans (fY.below (fun q hq e => by have : q = b := e; omega) hb.size)
    have h := hK Y ⟨⟨_, e4⟩, b, e8, ⟨adw, cw, n', y, lo, hi, zb, Nat.lt_of_lt_of_le hbx.lt fY.size, ⟨y0, y1, y2, y3, y4⟩, hl, hin.frQ fY hhi (fun q h1 h2 e => by have : q = b := e; omega), hlo, Nat.le_trans hhi fY.size⟩⟩ bY
    obtain ⟨r0, r1, r2, r3, r4⟩ : X.cell? ⟨b, 0, none⟩ = some (.string ByteArray.empty) ∧ X.cell? ⟨b, 1, none⟩ = some (.string ByteArray.empty) ∧ X.cell? ⟨b, 2, none⟩ = some (.int .i64 0) ∧ X.cell? ⟨b, 3, none⟩ = some (.slice none 0 0) ∧ X.cell? ⟨b, 4, none⟩ = some (.int .i64 0) := ⟨hbx.cell 0, hbx.cell 1, hbx.cell 2, hbx.cell 3, hbx.cell 4⟩
    have f0 := hbx.free 0
    have f1 := hbx.free 1
    have f2 := hbx.free 2
    have f3 := hbx.free 3
    have f4 := hbx.free 4
    rw [← hY] at h
    clear hY fY y0 y1 y2 y3 y4 bY hK hbx hin e4 e6 hb
    refine wpOp_of rfl rfl ?_
    go_simp
    simpa [e8, e6'] using h
  · intro t X K h
    refine wpOp_of rfl rfl ?_
    go_simp
    exact h
  · rintro t X e7 ⟨⟨u0, e4⟩, b, e8, hF⟩ hb
    have h := hQ (t 0) (t 1) (t 2) (t 3) (t 4) (t 5) (t 6) (t 7) b X hF hb
    have e7' : t 7 = .int .i64 (tkC m.at_ cd fv n x) := by rw [e7, e4]; rfl
    simpa [e8, e7'] using h
end Go.Proofs.Ytkecnaaacbckoaa
