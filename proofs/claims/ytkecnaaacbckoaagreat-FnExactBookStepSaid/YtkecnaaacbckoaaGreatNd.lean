import Derived.Test.YtkecnaaacbckoaaGreatNc
import Derived.Test.YtkecnaaacbckoaaGreatGx
import Derived.Sort.Row
namespace Go.Proofs.YtkecnaaacbckoaaGreat
open Go.RowKit Go.Shelf
attribute [local go_sem] Oper.semAt_some
def upC (t : Nat → Value) (i : Nat) (v : Value) : Nat → Value := fun j => bif j == i then v else t j
theorem BdCh.congr {w : World} {base : Nat} {v : Value} {k : Nat} {x y : Nat → Ch} {A : Nat → Option Addr} {C hb : Nat → Nat} (h : BdCh w base v k x A C hb) (e : ∀ i, i < k → x i = y i) : BdCh w base v k y A C hb := by
  refine ⟨?_, fun i hi => by rw [← e i hi]; exact h.hold i hi, fun i hi h0 => h.hlt i hi (by rw [e i hi]; exact h0), fun i hi h0 => h.ne i hi (by rw [e i hi]; exact h0), fun i j hi hj h0 h1 q => h.inj i j hi hj (by rw [e i hi]; exact h0) (by rw [e j hj]; exact h1) q⟩
  obtain ⟨c, r, ha⟩ := h.row
  exact ⟨c, r, fun i hi => by rw [← e i hi]; exact ha i hi⟩
theorem BdCh.push {w : World} {base : Nat} {v : Value} {l : List Nat} {k : Nat} {x : Nat → Ch} {A : Nat → Option Addr} {C hb : Nat → Nat} {w' : World} {v' : Value} {c : Nat → Value} {ad' : Option Addr} {cap' b' : Nat} (h : BdCh w base v l.length (pick x l) A C hb) (hat : ∀ i, i < l.length → atCh c i (pick x l i) (A i) (C i))
    (ho : w'.ownsRow base 75 9 v' (l.length + 1) (rowCells (l.length * 9) c ++ [.int .i64 (x k).ver, .bool (x k).gone, .string (x k).ob.kind, .string (x k).ob.name, .int .i64 (x k).ob.ver, .int .i64 (x k).ob.born, .string (x k).ob.text, .bool (x k).ob.ending, .slice ad' (x k).ob.hn cap'])) (hg : w.grownBy w' v.ownBlock) (hw : v'.ownBlock = v.ownBlock ∨ v'.ownBlock = some w.heap.size)
    (hs : StrsOwn w b' (b' + 1) ad' (x k).ob.hn (x k).ob.hs) (hl : (x k).ob.hn ≠ 0 → base ≤ b' ∧ b' < w.heap.size) (hv : (x k).ob.hn ≠ 0 → v.ownBlock ≠ some b') (hd : ∀ i, i < l.length → (pick x l i).ob.hn ≠ 0 → (x k).ob.hn ≠ 0 → hb i ≠ b') :
    BdCh w' base v' (l ++ [k]).length (pick x (l ++ [k])) (updF A l.length ad') (updF C l.length cap') (updF hb l.length b') := by
  have e : (l ++ [k]).length = l.length + 1 := by simp
  rw [e]
  have hp : pick x (l ++ [k]) l.length = x k := pick_new
  refine BdCh.app (x := pick x (l ++ [k])) (h.congr (fun i hi => (pick_old hi).symm)) (c := c) (fun i hi => by rw [pick_old hi]; exact hat i hi) (by rw [hp]; exact ho) hg hw (by rw [hp]; exact hs) (by rw [hp]; exact hl) (by rw [hp]; exact hv) (fun i hi => by rw [hp, pick_old hi]; exact hd i hi)
/-- a change that was copied; laid as a row of one; the list with it behind -/
def Cp3 (W : World) (z : Ch) (v : Value) (X : World) : Prop := ∃ ad cap b, v = .agg #[.int .i64 z.ver, .bool z.gone, .string z.ob.kind, .string z.ob.name, .int .i64 z.ob.ver, .int .i64 z.ob.born, .string z.ob.text, .bool z.ob.ending, .slice ad z.ob.hn cap] ∧ W.heap.size ≤ b ∧ (z.ob.hn ≠ 0 → b < X.heap.size) ∧ StrsOwn X b (b + 1) ad z.ob.hn z.ob.hs
def Cp4 (W : World) (z : Ch) (v : Value) (X : World) : Prop := ∃ ad cap b q, v = .slice (some ⟨q, 0, none⟩) 1 1 ∧ W.heap.size ≤ b ∧ (z.ob.hn ≠ 0 → b < X.heap.size) ∧ StrsOwn X b (b + 1) ad z.ob.hn z.ob.hs ∧ q < X.heap.size ∧ ∀ j u, ([.int .i64 z.ver, .bool z.gone, .string z.ob.kind, .string z.ob.name, .int .i64 z.ob.ver, .int .i64 z.ob.born, .string z.ob.text, .bool z.ob.ending, .slice ad z.ob.hn cap] : List Value)[j]? = some u → X.cell? ((⟨q, 0, none⟩ : Addr).add j) = some u
def Cp5 (W : World) (Bn base : Nat) (Pk : Nat → Prop) (x : Nat → Ch) (L : List Nat) (k : Nat) (cd fr : Value) (vo : Value) (v : Value) (X : World) : Prop :=
  (∃ A C hb, BdCh X base v (L ++ [k]).length (pick x (L ++ [k])) A C hb) ∧ X.heap[Bn]? = some (.cells #[cd, vo, fr] 46 (0, 0)) ∧ KeepsOthers W X ∧ FrP Pk W X ∧ Keep92 W X
theorem strsOwn_below1 {X Y : World} {b : Nat} {ad : Option Addr} {n : Nat} {s : Nat → ByteArray} (h : StrsOwn X b (b + 1) ad n s) (hz : n ≠ 0 → b < X.heap.size) (hb : Below X.heap.size X Y) : StrsOwn Y b (b + 1) ad n s := h.frP (FrP.of_below (P := fun _ => False) hb) (fun h0 => ⟨fun e => e, hz h0⟩)
theorem Cp3.below {W X Y : World} {z : Ch} {v : Value} (h : Cp3 W z v X) (hb : Below X.heap.size X Y) : Cp3 W z v Y := by
  obtain ⟨ad, cap, b, e, h1, h2, h3⟩ := h
  exact ⟨ad, cap, b, e, h1, fun h0 => Nat.lt_of_lt_of_le (h2 h0) hb.size, strsOwn_below1 h3 h2 hb⟩
def Nx11 (mk : (Nat → Value) → Array Value) (W : World) (Bn base : Nat) (Pk : Nat → Prop) (x : Nat → Ch) (L : List Nat) (k : Nat) (v : Value) (a0 : Option Addr) (c0 : Nat) (cd fr : Value) (l : Array Bool) (a : Act) (X : World) : Prop :=
  ∃ t : Nat → Value, a = ⟨mk t, []⟩ ∧ l.size = 8 ∧ (l.getD 4 false = true → l.getD 3 false = true) ∧ (l.getD 5 false = true → l.getD 4 false = true) ∧ (l.getD 5 false = true → l.getD 1 false = true) ∧ (l.getD 3 false = true → l.getD 2 false = true) ∧ (l.getD 7 false = true → ∀ i, i < 8 → l.getD i false = true) ∧ (l.getD 5 false = false → Below W.heap.size W X) ∧
    (l.getD 0 false = true → t 0 = .pointer (some ⟨Bn, 1, none⟩)) ∧ (l.getD 1 false = true → t 1 = v) ∧ (l.getD 2 false = true → t 2 = chV (x k) a0 c0) ∧ (l.getD 3 false = true → l.getD 4 false = false → Cp3 W (x k) (t 3) X) ∧ (l.getD 4 false = true → l.getD 5 false = false → Cp4 W (x k) (t 4) X) ∧
    (l.getD 5 false = true → l.getD 7 false = false → Cp5 W Bn base Pk x L k cd fr v (t 5) X) ∧ (l.getD 6 false = true → t 6 = .pointer (some ⟨Bn, 1, none⟩)) ∧ (l.getD 7 false = true → Cp5 W Bn base Pk x L k cd fr (t 5) (t 5) X)
set_option maxRecDepth 100000 in
set_option maxHeartbeats 4000000 in
theorem nextReg11 (F : Fence) (l0 n : Nat) (h1 : 1 ≤ n) (p0 p1 p2 p3 p4 p5 p6 p7 p10 p11 p12 p13 p14 p15 p16 p17 p18 p19 p20 p21 p22 p23 p24 p25 p26 p27 p28 p29 p30 p31 p32 p33 p34 p35 p36 p37 p38 p39 p40 p41 p42 p43 p44 p45 p46 p47 p48 p49 p50 p51 p52 p53 p54 p55 p56 p57 p58 p59 p67 : Value) (Bn Bx base : Nat) (Pk : Nat → Prop) (x : Nat → Ch) (L : List Nat) (k : Nat) (ad : Option Addr) (nl cap : Nat) (a0 : Option Addr) (c0 : Nat) (cd fr : Value) (A : Nat → Option Addr) (C hb : Nat → Nat) (W : World) (h76 : F.fn 76)
    (hcp : ∀ w : World, Below W.heap.size W w → CallsIn (F.inRound l0) (n - 1) Tryz.prog 76 #[.agg #[.int .i64 (x k).ver, .bool (x k).gone, .string (x k).ob.kind, .string (x k).ob.name, .int .i64 (x k).ob.ver, .int .i64 (x k).ob.born, .string (x k).ob.text, .bool (x k).ob.ending, .slice a0 (x k).ob.hn c0]] w fun e w' => ∃ ad' cap' b', e = .returned (.agg #[.int .i64 (x k).ver, .bool (x k).gone, .string (x k).ob.kind, .string (x k).ob.name, .int .i64 (x k).ob.ver, .int .i64 (x k).ob.born, .string (x k).ob.text, .bool (x k).ob.ending, .slice ad' (x k).ob.hn cap']) ∧ w.heap.size ≤ b' ∧ ((x k).ob.hn ≠ 0 → b' < w'.heap.size) ∧ StrsOwn w' b' (b' + 1) ad' (x k).ob.hn (x k).ob.hs ∧ Below w.heap.size w w')
    (hN : W.heap[Bn]? = some (.cells #[cd, .slice ad nl cap, fr] 46 (0, 0))) (hX : Holds W Bx #[.int .i64 (x k).ver, .bool (x k).gone, .string (x k).ob.kind, .string (x k).ob.name, .int .i64 (x k).ob.ver, .int .i64 (x k).ob.born, .string (x k).ob.text, .bool (x k).ob.ending, .slice a0 (x k).ob.hn c0]) (zX : Bx < W.heap.size) (hL : L.length < 1048576) (bd : BdCh W base (.slice ad nl cap) L.length (pick x L) A C hb) (hbase : base ≤ W.heap.size) (hPn : Pk Bn) (hPb : ∀ q, base ≤ q → Pk q) (hBb : Bn < base) (Q : Exit → Act → World → Prop)
    (hQ : ∀ u0 u1 u2 u3 u4 u5 u6 v' X, Cp5 W Bn base Pk x L k cd fr v' v' X → Q .normal ⟨#[p0, p1, p2, p3, p4, p5, p6, p7, .pointer (some ⟨Bn, 0, none⟩), .pointer (some ⟨Bx, 0, none⟩), p10, p11, p12, p13, p14, p15, p16, p17, p18, p19, p20, p21, p22, p23, p24, p25, p26, p27, p28, p29, p30, p31, p32, p33, p34, p35, p36, p37, p38, p39, p40, p41, p42, p43, p44, p45, p46, p47, p48, p49, p50, p51, p52, p53, p54, p55, p56, p57, p58, p59, u0, u1, u2, u3, u4, u5, u6, p67], []⟩ X) :
    Code.wpIn (F.inRound l0) n Tryz.prog (Code.region 11 #[{ dst := some 60, op := Op.fieldAddr 46 (Operand.tmp 8) 1, type := 0, pos := "l6_book_watch.go:40", after := #[], guard := none }, { dst := some 61, op := Op.load 29 (Operand.tmp 60), type := 29, pos := "l6_book_watch.go:40", after := #[{ on := 0, ground := Ground.data }], guard := none }, { dst := some 62, op := Op.load 75 (Operand.tmp 9), type := 75, pos := "l6_book_watch.go:40", after := #[], guard := none }, { dst := some 63, op := Op.call { callee := Callee.value (Operand.func 76), args := #[Operand.tmp 62], argTypes := #[75] }, type := 75, pos := "l6_book_watch.go:40", after := #[{ on := 2, ground := Ground.data }], guard := none }, { dst := some 64, op := Op.buildSlice 29 1 #[(0, Operand.tmp 63)], type := 29, pos := "l6_book_watch.go:40", after := #[{ on := 3, ground := Ground.data }], guard := none }, { dst := some 65, op := Op.call { callee := Callee.builtin Builtin.append, args := #[Operand.tmp 61, Operand.tmp 64], argTypes := #[29, 29] }, type := 29, pos := "l6_book_watch.go:40", after := #[{ on := 1, ground := Ground.data }, { on := 4, ground := Ground.data }, { on := 3, ground := Ground.chain }], guard := none }, { dst := some 66, op := Op.fieldAddr 46 (Operand.tmp 8) 1, type := 0, pos := "l6_book_watch.go:40", after := #[{ on := 0, ground := Ground.phase }, { on := 1, ground := Ground.phase }, { on := 2, ground := Ground.phase }, { on := 3, ground := Ground.phase }, { on := 4, ground := Ground.phase }, { on := 5, ground := Ground.phase }], guard := none }, { dst := none, op := Op.store 29 (Operand.tmp 66) (Operand.tmp 65), type := 0, pos := "l6_book_watch.go:40", after := #[{ on := 6, ground := Ground.data }, { on := 5, ground := Ground.data }, { on := 5, ground := Ground.chain }, { on := 0, ground := Ground.phase }, { on := 1, ground := Ground.phase }, { on := 2, ground := Ground.phase }, { on := 3, ground := Ground.phase }, { on := 4, ground := Ground.phase }, { on := 5, ground := Ground.phase }], guard := none }] true) Q ⟨#[p0, p1, p2, p3, p4, p5, p6, p7, .pointer (some ⟨Bn, 0, none⟩), .pointer (some ⟨Bx, 0, none⟩), p10, p11, p12, p13, p14, p15, p16, p17, p18, p19, p20, p21, p22, p23, p24, p25, p26, p27, p28, p29, p30, p31, p32, p33, p34, p35, p36, p37, p38, p39, p40, p41, p42, p43, p44, p45, p46, p47, p48, p49, p50, p51, p52, p53, p54, p55, p56, p57, p58, p59, undef, undef, undef, undef, undef, undef, undef, p67], []⟩ W := by
  obtain ⟨v, hv⟩ : ∃ v : Value, v = .slice ad nl cap := ⟨_, rfl⟩
  have zN : Bn < W.heap.size := (Array.getElem?_eq_some_iff.1 hN).1
  obtain ⟨i0, hi0, hz0, hz1, hz2⟩ := info_parts Tryz.info75
  refine wpIn_region_inv (by kernel_rfl) (Nx11 (fun t : Nat → Value => #[p0, p1, p2, p3, p4, p5, p6, p7, .pointer (some ⟨Bn, 0, none⟩), .pointer (some ⟨Bx, 0, none⟩), p10, p11, p12, p13, p14, p15, p16, p17, p18, p19, p20, p21, p22, p23, p24, p25, p26, p27, p28, p29, p30, p31, p32, p33, p34, p35, p36, p37, p38, p39, p40, p41, p42, p43, p44, p45, p46, p47, p48, p49, p50, p51, p52, p53, p54, p55, p56, p57, p58, p59, t 0, t 1, t 2, t 3, t 4, t 5, t 6, p67]) W Bn base Pk x L k (.slice ad nl cap) a0 c0 cd fr) ?_ ?_ ?_ ?_
  · refine ⟨fun _ => undef, rfl, by simp, fun h => ?_, fun h => ?_, fun h => ?_, fun h => ?_, fun h => ?_, fun _ => (Below.refl _ W).drew, fun h => ?_, fun h => ?_, fun h => ?_, fun h => ?_, fun h => ?_, fun h => ?_, fun h => ?_, fun h => ?_⟩ <;> simp at h
  · rintro l a X ⟨t, _, hs, _⟩
    exact hs
  · rintro l a X ⟨t, rfl, hs, _, _, _, _, _, _, _, _, _, _, _, _, _, g7⟩ hr
    have AL := all_listed (by kernel_rfl) (by rw [hs]; rfl) hr
    exact hQ (t 0) (t 1) (t 2) (t 3) (t 4) (t 5) (t 6) (t 5) X (g7 (AL 7 (by decide)))
  · rintro l a X i ⟨t, rfl, hs, i43, i54, i51, i32, i7, hB, g0, g1, g2, g3, g4, g5, g6, g7⟩ hr
    obtain ⟨hu, o', ho, hdep⟩ := mem_ready.1 hr
    have hi8 : i < 8 := by
      rcases Nat.lt_or_ge i 8 with h | h
      · exact h
      · rw [Array.getElem?_eq_none (by simpa using h)] at ho
        cases ho
    have hui : l.getD i false = false := by
      have : l.getD i true = false := hu
      simpa [Array.getD, hs, hi8] using this
    have l7 : l.getD 7 false = false := by
      cases h : l.getD 7 false with
      | false => rfl
      | true => rw [i7 h i hi8] at hui; cases hui
    have kp : ∀ j, ¬ j = i → (l.setIfInBounds i true).getD j false = l.getD j false := fun j hj => by rw [getD_set (by omega), if_neg hj]
    have ki : (l.setIfInBounds i true).getD i false = true := by rw [getD_set (by omega), if_pos rfl]
    have hs' : (l.setIfInBounds i true).size = 8 := by simp [hs]
    have no : ∀ {b : Bool}, ∀ (P : b = true → False), b = false := fun {b} P => by cases b <;> simp_all
    clear hr hu
    rcases (show i = 0 ∨ i = 1 ∨ i = 2 ∨ i = 3 ∨ i = 4 ∨ i = 5 ∨ i = 6 ∨ i = 7 by omega) with rfl | rfl | rfl | rfl | rfl | rfl | rfl | rfl
    · simp only [List.getElem?_toArray, List.getElem?_cons_zero, Option.some.injEq] at ho
      subst ho
      clear hdep
      refine wpOpIn_of rfl rfl ?_
      generalize hK : Nx11 (fun t : Nat → Value => #[p0, p1, p2, p3, p4, p5, p6, p7, .pointer (some ⟨Bn, 0, none⟩), .pointer (some ⟨Bx, 0, none⟩), p10, p11, p12, p13, p14, p15, p16, p17, p18, p19, p20, p21, p22, p23, p24, p25, p26, p27, p28, p29, p30, p31, p32, p33, p34, p35, p36, p37, p38, p39, p40, p41, p42, p43, p44, p45, p46, p47, p48, p49, p50, p51, p52, p53, p54, p55, p56, p57, p58, p59, t 0, t 1, t 2, t 3, t 4, t 5, t 6, p67]) W Bn base Pk x L k (.slice ad nl cap) a0 c0 cd fr (l.setIfInBounds 0 true) = K
      go_simp
      rw [← hK]
      refine ⟨upC t 0 (.pointer (some ⟨Bn, 1, none⟩)), ?_, hs', (by rw [kp 4 (by decide), kp 3 (by decide)]; exact i43), (by rw [kp 5 (by decide), kp 4 (by decide)]; exact i54), (by rw [kp 5 (by decide), kp 1 (by decide)]; exact i51), (by rw [kp 3 (by decide), kp 2 (by decide)]; exact i32), (fun h => by rw [kp 7 (by decide), l7] at h; cases h), (fun h => by rw [kp 5 (by decide)] at h; exact hB h), (fun _ => rfl), (fun h => by rw [kp 1 (by decide)] at h; exact g1 h), (fun h => by rw [kp 2 (by decide)] at h; exact g2 h), (fun h h' => by rw [kp 3 (by decide)] at h; rw [kp 4 (by decide)] at h'; exact g3 h h'), (fun h h' => by rw [kp 4 (by decide)] at h; rw [kp 5 (by decide)] at h'; exact g4 h h'), (fun h h' => by rw [kp 5 (by decide)] at h; exact g5 h l7), (fun h => by rw [kp 6 (by decide)] at h; exact g6 h), (fun h => by rw [kp 7 (by decide), l7] at h; cases h)⟩
      simp [upC]
    · simp only [List.getElem?_toArray, List.getElem?_cons_succ, List.getElem?_cons_zero, Option.some.injEq] at ho
      subst ho
      have e0 := g0 (hdep ⟨0, .data⟩ (by simp) rfl)
      have l5 : l.getD 5 false = false := no (fun h => by rw [i51 h] at hui; cases hui)
      have c1 : X.cell? ⟨Bn, 1, none⟩ = some (.slice ad nl cap) := by simp [World.cell?, (hB l5).block Bn zN, hN]
      clear hdep
      refine wpOpIn_of rfl rfl ?_
      generalize hK : Nx11 (fun t : Nat → Value => #[p0, p1, p2, p3, p4, p5, p6, p7, .pointer (some ⟨Bn, 0, none⟩), .pointer (some ⟨Bx, 0, none⟩), p10, p11, p12, p13, p14, p15, p16, p17, p18, p19, p20, p21, p22, p23, p24, p25, p26, p27, p28, p29, p30, p31, p32, p33, p34, p35, p36, p37, p38, p39, p40, p41, p42, p43, p44, p45, p46, p47, p48, p49, p50, p51, p52, p53, p54, p55, p56, p57, p58, p59, t 0, t 1, t 2, t 3, t 4, t 5, t 6, p67]) W Bn base Pk x L k (.slice ad nl cap) a0 c0 cd fr (l.setIfInBounds 1 true) = K
      go_simp
      rw [← hK]
      refine ⟨upC t 1 (.slice ad nl cap), ?_, hs', (by rw [kp 4 (by decide), kp 3 (by decide)]; exact i43), (by rw [kp 5 (by decide), kp 4 (by decide)]; exact i54), (fun _ => ki), (by rw [kp 3 (by decide), kp 2 (by decide)]; exact i32), (fun h => by rw [kp 7 (by decide), l7] at h; cases h), (fun h => by rw [kp 5 (by decide)] at h; exact hB h), (fun h => by rw [kp 0 (by decide)] at h; exact g0 h), (fun _ => rfl), (fun h => by rw [kp 2 (by decide)] at h; exact g2 h), (fun h h' => by rw [kp 3 (by decide)] at h; rw [kp 4 (by decide)] at h'; exact g3 h h'), (fun h h' => by rw [kp 4 (by decide)] at h; rw [kp 5 (by decide)] at h'; exact g4 h h'), (fun h h' => by rw [kp 5 (by decide)] at h; exact g5 h l7), (fun h => by rw [kp 6 (by decide)] at h; exact g6 h), (fun h => by rw [kp 7 (by decide), l7] at h; cases h)⟩
      simp [upC, e0]
    · simp only [List.getElem?_toArray, List.getElem?_cons_succ, List.getElem?_cons_zero, Option.some.injEq] at ho
      subst ho
      have l5 : l.getD 5 false = false := no (fun h => by rw [i32 (i43 (i54 h))] at hui; cases hui)
      have hX2 := hX.below (hB l5) zX
      have x0 := hX2 0; have x1 := hX2 1; have x2 := hX2 2; have x3 := hX2 3; have x4 := hX2 4; have x5 := hX2 5; have x6 := hX2 6; have x7 := hX2 7; have x8 := hX2 8
      simp only [List.getElem?_toArray, List.getElem?_cons_succ, List.getElem?_cons_zero] at x0 x1 x2 x3 x4 x5 x6 x7 x8
      clear hdep
      refine wpOpIn_of rfl rfl ?_
      generalize hK : Nx11 (fun t : Nat → Value => #[p0, p1, p2, p3, p4, p5, p6, p7, .pointer (some ⟨Bn, 0, none⟩), .pointer (some ⟨Bx, 0, none⟩), p10, p11, p12, p13, p14, p15, p16, p17, p18, p19, p20, p21, p22, p23, p24, p25, p26, p27, p28, p29, p30, p31, p32, p33, p34, p35, p36, p37, p38, p39, p40, p41, p42, p43, p44, p45, p46, p47, p48, p49, p50, p51, p52, p53, p54, p55, p56, p57, p58, p59, t 0, t 1, t 2, t 3, t 4, t 5, t 6, p67]) W Bn base Pk x L k (.slice ad nl cap) a0 c0 cd fr (l.setIfInBounds 2 true) = K
      go_simp
      rw [← hK]
      refine ⟨upC t 2 (chV (x k) a0 c0), ?_, hs', (by rw [kp 4 (by decide), kp 3 (by decide)]; exact i43), (by rw [kp 5 (by decide), kp 4 (by decide)]; exact i54), (by rw [kp 5 (by decide), kp 1 (by decide)]; exact i51), (fun _ => ki), (fun h => by rw [kp 7 (by decide), l7] at h; cases h), (fun h => by rw [kp 5 (by decide)] at h; exact hB h), (fun h => by rw [kp 0 (by decide)] at h; exact g0 h), (fun h => by rw [kp 1 (by decide)] at h; exact g1 h), (fun _ => rfl), (fun h h' => by rw [kp 3 (by decide)] at h; rw [kp 4 (by decide)] at h'; exact g3 h h'), (fun h h' => by rw [kp 4 (by decide)] at h; rw [kp 5 (by decide)] at h'; exact g4 h h'), (fun h h' => by rw [kp 5 (by decide)] at h; exact g5 h l7), (fun h => by rw [kp 6 (by decide)] at h; exact g6 h), (fun h => by rw [kp 7 (by decide), l7] at h; cases h)⟩
      simp [upC, chV]
    · simp only [List.getElem?_toArray, List.getElem?_cons_succ, List.getElem?_cons_zero, Option.some.injEq] at ho
      subst ho
      have q2 := hdep ⟨2, .data⟩ (by simp) rfl
      have e2 := g2 q2
      clear hdep
      have l4 : l.getD 4 false = false := no (fun h => by rw [i43 h] at hui; cases hui)
      have l5 : l.getD 5 false = false := no (fun h => by rw [i54 h] at l4; cases l4)
      have hBX := hB l5
      unfold chV at e2
      refine wpOpIn_of rfl rfl ?_
      generalize hK : Nx11 (fun t : Nat → Value => #[p0, p1, p2, p3, p4, p5, p6, p7, .pointer (some ⟨Bn, 0, none⟩), .pointer (some ⟨Bx, 0, none⟩), p10, p11, p12, p13, p14, p15, p16, p17, p18, p19, p20, p21, p22, p23, p24, p25, p26, p27, p28, p29, p30, p31, p32, p33, p34, p35, p36, p37, p38, p39, p40, p41, p42, p43, p44, p45, p46, p47, p48, p49, p50, p51, p52, p53, p54, p55, p56, p57, p58, p59, t 0, t 1, t 2, t 3, t 4, t 5, t 6, p67]) W Bn base Pk x L k (.slice ad nl cap) a0 c0 cd fr (l.setIfInBounds 3 true) = K
      go_simp
      refine (hcp X hBX).mono ?_
      rintro e Y ⟨ad', cap', b', rfl, j1, j2, j3, hY⟩
      rw [← hK]
      refine ⟨upC t 3 _, ?_, hs', (fun _ => ki), (by rw [kp 5 (by decide), kp 4 (by decide)]; exact i54), (by rw [kp 5 (by decide), kp 1 (by decide)]; exact i51), (fun _ => by rw [kp 2 (by decide)]; exact q2), (fun h => by rw [kp 7 (by decide), l7] at h; cases h), (fun _ => hBX.trans (hY.mono hBX.size)), (fun h => by rw [kp 0 (by decide)] at h; exact g0 h), (fun h => by rw [kp 1 (by decide)] at h; exact g1 h), (fun h => by rw [kp 2 (by decide)] at h; exact g2 h), (fun _ _ => ⟨ad', cap', b', rfl, Nat.le_trans hBX.size j1, j2, j3⟩), (fun h => by rw [kp 4 (by decide), l4] at h; cases h), (fun h => by rw [kp 5 (by decide), l5] at h; cases h), (fun h => by rw [kp 6 (by decide)] at h; exact g6 h), (fun h => by rw [kp 7 (by decide), l7] at h; cases h)⟩
      simp [upC, chV, e2]
    · simp only [List.getElem?_toArray, List.getElem?_cons_succ, List.getElem?_cons_zero, Option.some.injEq] at ho
      subst ho
      have q3 := hdep ⟨3, .data⟩ (by simp) rfl
      clear hdep
      have l5 : l.getD 5 false = false := no (fun h => by rw [i54 h] at hui; cases hui)
      have hBX := hB l5
      obtain ⟨ad2, cap2, b2, e3, j1, j2, j3⟩ := g3 q3 hui
      have e2 := g2 (i32 q3)
      have hY := below_alloc X (.cells #[.int .i64 (x k).ver, .bool (x k).gone, .string (x k).ob.kind, .string (x k).ob.name, .int .i64 (x k).ob.ver, .int .i64 (x k).ob.born, .string (x k).ob.text, .bool (x k).ob.ending, .slice ad2 (x k).ob.hn cap2] 75)
      have HJ3 := hid j3
      clear j3
      refine wpOpIn_of rfl rfl ?_
      generalize hK : Nx11 (fun t : Nat → Value => #[p0, p1, p2, p3, p4, p5, p6, p7, .pointer (some ⟨Bn, 0, none⟩), .pointer (some ⟨Bx, 0, none⟩), p10, p11, p12, p13, p14, p15, p16, p17, p18, p19, p20, p21, p22, p23, p24, p25, p26, p27, p28, p29, p30, p31, p32, p33, p34, p35, p36, p37, p38, p39, p40, p41, p42, p43, p44, p45, p46, p47, p48, p49, p50, p51, p52, p53, p54, p55, p56, p57, p58, p59, t 0, t 1, t 2, t 3, t 4, t 5, t 6, p67]) W Bn base Pk x L k (.slice ad nl cap) a0 c0 cd fr (l.setIfInBounds 4 true) = K
      go_simp
      rw [← hK]
      refine ⟨upC t 4 (.slice (some ⟨X.heap.size, 0, none⟩) 1 1), ?_, hs', (fun _ => by rw [kp 3 (by decide)]; exact q3), (fun _ => ki), (by rw [kp 5 (by decide), kp 1 (by decide)]; exact i51), (by rw [kp 3 (by decide), kp 2 (by decide)]; exact i32), (fun h => by rw [kp 7 (by decide), l7] at h; cases h), (fun _ => hBX.trans (hY.mono hBX.size)), (fun h => by rw [kp 0 (by decide)] at h; exact g0 h), (fun h => by rw [kp 1 (by decide)] at h; exact g1 h), (fun h => by rw [kp 2 (by decide)] at h; exact g2 h), (fun _ h => by rw [ki] at h; cases h), (fun _ _ => ⟨ad2, cap2, b2, X.heap.size, rfl, j1, fun h0 => Nat.lt_of_lt_of_le (j2 h0) hY.size, strsOwn_below1 HJ3.out j2 hY, by simp, alloc_news X _ 75⟩), (fun h => by rw [kp 5 (by decide), l5] at h; cases h), (fun h => by rw [kp 6 (by decide)] at h; exact g6 h), (fun h => by rw [kp 7 (by decide), l7] at h; cases h)⟩
      simp [upC, e2, e3]
    · simp only [List.getElem?_toArray, List.getElem?_cons_succ, List.getElem?_cons_zero, Option.some.injEq] at ho
      subst ho
      have q1 := hdep ⟨1, .data⟩ (by simp) rfl
      have q4 := hdep ⟨4, .data⟩ (by simp) rfl
      clear hdep
      have hBX := hB hui
      have e1 := g1 q1
      obtain ⟨ad2, cap2, b2, q, e4, j1, j2, j3, zq, jn⟩ := g4 q4 hui
      have zX5 := hBX.size
      have BD1 := bd.grow hBX
      obtain ⟨c, hown, hat⟩ := BD1.row
      refine wpOpIn_of rfl rfl ?_
      generalize hK : Nx11 (fun t : Nat → Value => #[p0, p1, p2, p3, p4, p5, p6, p7, .pointer (some ⟨Bn, 0, none⟩), .pointer (some ⟨Bx, 0, none⟩), p10, p11, p12, p13, p14, p15, p16, p17, p18, p19, p20, p21, p22, p23, p24, p25, p26, p27, p28, p29, p30, p31, p32, p33, p34, p35, p36, p37, p38, p39, p40, p41, p42, p43, p44, p45, p46, p47, p48, p49, p50, p51, p52, p53, p54, p55, p56, p57, p58, p59, t 0, t 1, t 2, t 3, t 4, t 5, t 6, p67]) W Bn base Pk x L k (.slice ad nl cap) a0 c0 cd fr (l.setIfInBounds 5 true) = K
      refine operIn_append_own _ _ 29 rfl base 75 i0 _ 9 112 Tryz.underlying29 hi0 hz0 hz1 hz2 rfl (by decide) (.slice ad nl cap) L.length (rowCells (L.length * 9) c) e1 hown ⟨q, 0, none⟩ 1 1 [.int .i64 (x k).ver, .bool (x k).gone, .string (x k).ob.kind, .string (x k).ob.name, .int .i64 (x k).ob.ver, .int .i64 (x k).ob.born, .string (x k).ob.text, .bool (x k).ob.ending, .slice ad2 (x k).ob.hn cap2] e4 rfl jn (by simp [Value.oneCell']) (by unfold maxLen; omega) (by omega) (by omega) ?_
      intro v' Y hown2 hgrow2 hat2
      have BD2 := BD1.push (cap' := cap2) hat hown2 hgrow2 hat2 j3 (fun h0 => ⟨by omega, j2 h0⟩)
        (fun h0 e => by
          obtain ⟨c9, r9, _⟩ := bd.row
          have h2 := (r9.lt _ e).2
          omega)
        (fun i hi' h0 h2 e => by
          have h3 := (bd.hlt i hi' h0).2
          omega)
      have hrow : ∀ g, (Value.slice ad nl cap).ownBlock = some g → base ≤ g := fun g hg => by obtain ⟨c9, r9, _⟩ := bd.row; exact (r9.lt _ hg).1
      have hcl : ∀ g, (Value.slice ad nl cap).ownBlock = some g → ∃ cur f9, X.heap[g]? = some (.cells cur 75 f9) := fun g hg => by
        rcases hown.2 with ⟨h2, _⟩ | ⟨g', cap', cur, h2, _, h3, _⟩
        · rw [h2] at hg; cases hg
        · rw [h2] at hg
          cases hg
          exact ⟨_, _, h3⟩
      have hNX : X.heap[Bn]? = some (.cells #[cd, .slice ad nl cap, fr] 46 (0, 0)) := (hBX.block Bn zN).trans hN
      have hNY : Y.heap[Bn]? = some (.cells #[cd, .slice ad nl cap, fr] 46 (0, 0)) := (hgrow2.block Bn (by omega) (fun e => by have := hrow _ e.symm; omega)).trans hNX
      have kw : KeepsOthers W Y := (keepsO_of_below hBX).trans (KeepsOthers.of_grownBy hgrow2 (fun j o e hj => by
        obtain ⟨cur, f9, h2⟩ := hcl j e
        rw [h2] at hj
        cases hj
        rfl))
      have fw : FrP Pk W Y := (FrP.of_below hBX).trans ((FrP.of_grown hgrow2).mono (fun q hq => hPb q (hrow q hq)))
      have kk : Keep92 W Y := (keep92_below hBX).trans (fun q9 c9 f9 e9 => (hgrow2.block q9 (Array.getElem?_eq_some_iff.1 e9).1 (fun e => by
        obtain ⟨cur, f8, h2⟩ := hcl q9 e.symm
        rw [h2] at e9
        cases e9)).trans e9)
      rw [← hK]
      refine ⟨upC t 5 v', by simp [upC, Act.put], hs', (by rw [kp 4 (by decide), kp 3 (by decide)]; exact i43), (fun _ => by rw [kp 4 (by decide)]; exact q4), (fun _ => by rw [kp 1 (by decide)]; exact q1), (by rw [kp 3 (by decide), kp 2 (by decide)]; exact i32), (fun h => by rw [kp 7 (by decide), l7] at h; cases h), (fun h => by rw [ki] at h; cases h), (fun h => by rw [kp 0 (by decide)] at h; exact g0 h), (fun h => by rw [kp 1 (by decide)] at h; exact g1 h), (fun h => by rw [kp 2 (by decide)] at h; exact g2 h), (fun h h' => by rw [kp 4 (by decide), q4] at h'; cases h'), (fun _ h => by rw [ki] at h; cases h), (fun _ _ => ⟨⟨_, _, _, BD2⟩, hNY, kw, fw, kk⟩), (fun h => by rw [kp 6 (by decide)] at h; exact g6 h), (fun h => by rw [kp 7 (by decide), l7] at h; cases h)⟩
    · simp only [List.getElem?_toArray, List.getElem?_cons_succ, List.getElem?_cons_zero, Option.some.injEq] at ho
      subst ho
      clear hdep
      refine wpOpIn_of rfl rfl ?_
      generalize hK : Nx11 (fun t : Nat → Value => #[p0, p1, p2, p3, p4, p5, p6, p7, .pointer (some ⟨Bn, 0, none⟩), .pointer (some ⟨Bx, 0, none⟩), p10, p11, p12, p13, p14, p15, p16, p17, p18, p19, p20, p21, p22, p23, p24, p25, p26, p27, p28, p29, p30, p31, p32, p33, p34, p35, p36, p37, p38, p39, p40, p41, p42, p43, p44, p45, p46, p47, p48, p49, p50, p51, p52, p53, p54, p55, p56, p57, p58, p59, t 0, t 1, t 2, t 3, t 4, t 5, t 6, p67]) W Bn base Pk x L k (.slice ad nl cap) a0 c0 cd fr (l.setIfInBounds 6 true) = K
      go_simp
      rw [← hK]
      refine ⟨upC t 6 (.pointer (some ⟨Bn, 1, none⟩)), ?_, hs', (by rw [kp 4 (by decide), kp 3 (by decide)]; exact i43), (by rw [kp 5 (by decide), kp 4 (by decide)]; exact i54), (by rw [kp 5 (by decide), kp 1 (by decide)]; exact i51), (by rw [kp 3 (by decide), kp 2 (by decide)]; exact i32), (fun h => by rw [kp 7 (by decide), l7] at h; cases h), (fun h => by rw [kp 5 (by decide)] at h; exact hB h), (fun h => by rw [kp 0 (by decide)] at h; exact g0 h), (fun h => by rw [kp 1 (by decide)] at h; exact g1 h), (fun h => by rw [kp 2 (by decide)] at h; exact g2 h), (fun h h' => by rw [kp 3 (by decide)] at h; rw [kp 4 (by decide)] at h'; exact g3 h h'), (fun h h' => by rw [kp 4 (by decide)] at h; rw [kp 5 (by decide)] at h'; exact g4 h h'), (fun h h' => by rw [kp 5 (by decide)] at h; exact g5 h l7), (fun _ => rfl), (fun h => by rw [kp 7 (by decide), l7] at h; cases h)⟩
      simp [upC]
    · simp only [List.getElem?_toArray, List.getElem?_cons_succ, List.getElem?_cons_zero, Option.some.injEq] at ho
      subst ho
      have e6 := g6 (hdep ⟨6, .data⟩ (by simp) rfl)
      have ALL : ∀ j, j < 7 → l.getD j false = true := fun j hj => by
        rcases (show j = 0 ∨ j = 1 ∨ j = 2 ∨ j = 3 ∨ j = 4 ∨ j = 5 ∨ j = 6 by omega) with rfl | rfl | rfl | rfl | rfl | rfl | rfl
        · exact hdep ⟨0, .phase⟩ (by simp) rfl
        · exact hdep ⟨1, .phase⟩ (by simp) rfl
        · exact hdep ⟨2, .phase⟩ (by simp) rfl
        · exact hdep ⟨3, .phase⟩ (by simp) rfl
        · exact hdep ⟨4, .phase⟩ (by simp) rfl
        · exact hdep ⟨5, .phase⟩ (by simp) rfl
        · exact hdep ⟨6, .data⟩ (by simp) rfl
      clear hdep
      obtain ⟨⟨A5, C5, h5, bd5⟩, n5, k5, f5, m5⟩ := g5 (ALL 5 (by decide)) hui
      obtain ⟨ad5, cap5, g9, ev, _, _⟩ := bd5.done
      have c1 : X.cell? ⟨Bn, 1, none⟩ = some (.slice ad nl cap) := by simp [World.cell?, n5]
      have cf : X.frozen? ⟨Bn, 1, none⟩ = false := by simp [World.frozen?, n5]
      obtain ⟨nn, hnn⟩ : ∃ nn, (L ++ [k]).length = nn := ⟨_, rfl⟩
      rw [hnn] at ev
      have HB := hid bd5
      clear bd5
      refine wpOpIn_of rfl rfl ?_
      generalize hK : Nx11 (fun t : Nat → Value => #[p0, p1, p2, p3, p4, p5, p6, p7, .pointer (some ⟨Bn, 0, none⟩), .pointer (some ⟨Bx, 0, none⟩), p10, p11, p12, p13, p14, p15, p16, p17, p18, p19, p20, p21, p22, p23, p24, p25, p26, p27, p28, p29, p30, p31, p32, p33, p34, p35, p36, p37, p38, p39, p40, p41, p42, p43, p44, p45, p46, p47, p48, p49, p50, p51, p52, p53, p54, p55, p56, p57, p58, p59, t 0, t 1, t 2, t 3, t 4, t 5, t 6, p67]) W Bn base Pk x L k (.slice ad nl cap) a0 c0 cd fr (l.setIfInBounds 7 true) = K
      go_simp
      rw [← hK]
      have zn5 : Bn < X.heap.size := (Array.getElem?_eq_some_iff.1 n5).1
      have ns : (X.setCell ⟨Bn, 1, none⟩ (.slice ad5 nn cap5)).heap[Bn]? = some (.cells #[cd, .slice ad5 nn cap5, fr] 46 (0, 0)) := by
        rw [Go.Sort.setCell_eq]
        show (X.heap.modify Bn _)[Bn]? = _
        rw [Array.getElem?_modify, if_pos rfl, n5]
        rfl
      have FS : FrP (fun q => q = Bn) X (X.setCell ⟨Bn, 1, none⟩ (.slice ad5 nn cap5)) := FrP.setCell (P := fun q => q = Bn) (FrP.refl _ _) (p := ⟨Bn, 1, none⟩) (by rfl) _
      have kk : Keep92 X (X.setCell ⟨Bn, 1, none⟩ (.slice ad5 nn cap5)) := fun q9 c9 f9 e9 => (FS.block q9 (Array.getElem?_eq_some_iff.1 e9).1 (fun e => by subst e; rw [n5] at e9; cases e9)).trans e9
      have fin5 : Cp5 W Bn base Pk x L k cd fr (t 5) (t 5) (X.setCell ⟨Bn, 1, none⟩ (.slice ad5 nn cap5)) :=
        ⟨⟨A5, C5, h5, HB.out.fr FS (fun q hq _ e => by omega)⟩, by rw [ev]; exact ns, k5.trans (KeepsOthers.setCell _ _ _), f5.trans ((FrP.refl _ _).setCell (p := ⟨Bn, 1, none⟩) hPn _), m5.trans kk⟩
      have allk : ∀ j, j < 8 → (l.setIfInBounds 7 true).getD j false = true := fun j hj => by
        by_cases e : j = 7
        · subst e; exact ki
        · rw [kp j e]; exact ALL j (by omega)
      have e0 := g0 (ALL 0 (by decide))
      have e1 := g1 (ALL 1 (by decide))
      have e2 := g2 (ALL 2 (by decide))
      refine ⟨t, by simp [ev, e6, e0, e1, e2], hs', (by rw [kp 4 (by decide), kp 3 (by decide)]; exact i43), (by rw [kp 5 (by decide), kp 4 (by decide)]; exact i54), (by rw [kp 5 (by decide), kp 1 (by decide)]; exact i51), (by rw [kp 3 (by decide), kp 2 (by decide)]; exact i32), (fun _ => allk), (fun h => by rw [kp 5 (by decide), ALL 5 (by decide)] at h; cases h), (fun h => by rw [kp 0 (by decide)] at h; exact g0 h), (fun h => by rw [kp 1 (by decide)] at h; exact g1 h), (fun h => by rw [kp 2 (by decide)] at h; exact g2 h), (fun h h' => by rw [kp 3 (by decide)] at h; rw [kp 4 (by decide), ALL 4 (by decide)] at h'; cases h'), (fun h h' => by rw [kp 5 (by decide), ALL 5 (by decide)] at h'; cases h'), (fun _ h => by rw [ki] at h; cases h), (fun h => by rw [kp 6 (by decide)] at h; exact g6 h), (fun _ => fin5)⟩
end Go.Proofs.YtkecnaaacbckoaaGreat
