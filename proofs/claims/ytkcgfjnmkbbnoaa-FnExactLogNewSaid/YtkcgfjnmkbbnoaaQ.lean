import Derived.Test.YtkcgfjnmkbbnoaaL
import Derived.Deep.MidRow
import Derived.Laws.Rows
namespace Go.Proofs.Ytkcgfjnmkbbnoaa
open Go.RowKit
/-- a list of the call's own, in blocks lo .. hi -/
def MssOwnIn (w : World) (lo hi : Nat) (ad : Option Addr) (n : Nat) (x : Nat → Ms) : Prop := ∃ g h r, ad = some ⟨g, 0, none⟩ ∧ lo ≤ g ∧ h ≤ hi ∧ MssOwn w g h n n x r
theorem MssOwnIn.fr {w w' : World} {lo hi lo2 hi2 : Nat} {ad : Option Addr} {n : Nat} {x : Nat → Ms} (k : MssOwnIn w lo hi ad n x) (hb : Fr lo2 hi2 w w') (ho : hi ≤ lo2 ∨ hi2 ≤ lo) : MssOwnIn w' lo hi ad n x := by
  obtain ⟨g, h, r, e1, e2, e3, e4⟩ := k
  exact ⟨g, h, r, e1, e2, e3, e4.fr hb (by omega)⟩
theorem MssOwnIn.isIn {w : World} {lo hi : Nat} {ad : Option Addr} {n : Nat} {x : Nat → Ms} (k : MssOwnIn w lo hi ad n x) : MssIn w lo hi ad n x := by
  obtain ⟨g, h, r, rfl, e2, e3, e4⟩ := k
  exact e4.isIn e2 e3
/-- a list of the call's own, in blocks lo .. hi -/
def AksOwnIn (w : World) (lo hi : Nat) (ad : Option Addr) (n : Nat) (x : Nat → Ak) : Prop := ∃ g h r, ad = some ⟨g, 0, none⟩ ∧ lo ≤ g ∧ h ≤ hi ∧ AksOwn w g h n n x r
theorem AksOwnIn.fr {w w' : World} {lo hi lo2 hi2 : Nat} {ad : Option Addr} {n : Nat} {x : Nat → Ak} (k : AksOwnIn w lo hi ad n x) (hb : Fr lo2 hi2 w w') (ho : hi ≤ lo2 ∨ hi2 ≤ lo) : AksOwnIn w' lo hi ad n x := by
  obtain ⟨g, h, r, e1, e2, e3, e4⟩ := k
  exact ⟨g, h, r, e1, e2, e3, e4.fr hb (by omega)⟩
theorem AksOwnIn.isIn {w : World} {lo hi : Nat} {ad : Option Addr} {n : Nat} {x : Nat → Ak} (k : AksOwnIn w lo hi ad n x) : AksIn w lo hi ad n x := by
  obtain ⟨g, h, r, rfl, e2, e3, e4⟩ := k
  exact e4.isIn e2 e3
/-- a recorder of the call's own: its lists one behind the other, in blocks lo .. hi -/
structure RcOwnAt (w : World) (r : Rc) (A : RcA) (lo m1 m2 m3 m4 m5 m6 hi : Nat) : Prop where
  o0 : SlsOwn w lo m1 A.sa r.sf.n r.sf.s
  o1 : SlsOwn w m1 m2 A.da r.dk.n r.dk.s
  o2 : MssOwnIn w m2 m3 A.ha r.hn r.hs
  o3 : StrsOwn w m3 m4 A.wa r.wn r.ws
  o4 : IntsOwn w m4 m5 A.ya r.yn r.ys
  o5 : SlsOwn w m5 m6 A.ba r.bn r.bs
  o6 : AksOwnIn w m6 hi A.aa r.an r.as_
  l0 : lo ≤ m1
  l1 : m1 ≤ m2
  l2 : m2 ≤ m3
  l3 : m3 ≤ m4
  l4 : m4 ≤ m5
  l5 : m5 ≤ m6
  l6 : m6 ≤ hi
  top : hi ≤ w.heap.size
theorem RcOwnAt.fr {w w' : World} {r : Rc} {A : RcA} {lo m1 m2 m3 m4 m5 m6 hi lo2 hi2 : Nat} (h : RcOwnAt w r A lo m1 m2 m3 m4 m5 m6 hi) (hb : Fr lo2 hi2 w w') (ho : hi ≤ lo2 ∨ hi2 ≤ lo) : RcOwnAt w' r A lo m1 m2 m3 m4 m5 m6 hi := by
  obtain ⟨o0, o1, o2, o3, o4, o5, o6, l0, l1, l2, l3, l4, l5, l6, top⟩ := h
  exact ⟨o0.fr hb (by omega), o1.fr hb (by omega), o2.fr hb (by omega), o3.fr hb (by omega) (by omega), o4.fr hb (by omega) (by omega), o5.fr hb (by omega), o6.fr hb (by omega), l0, l1, l2, l3, l4, l5, l6, Nat.le_trans top hb.size⟩
theorem RcOwnAt.isIn {w : World} {r : Rc} {A : RcA} {lo m1 m2 m3 m4 m5 m6 hi : Nat} (h : RcOwnAt w r A lo m1 m2 m3 m4 m5 m6 hi) : RcIn w lo hi r A := by
  obtain ⟨o0, o1, o2, o3, o4, o5, o6, l0, l1, l2, l3, l4, l5, l6, top⟩ := h
  exact ⟨o0.isIn.mono (by omega) (by omega), o1.isIn.mono (by omega) (by omega), o2.isIn.mono (by omega) (by omega), o3.isIn.mono (by omega) (by omega), o4.isIn.mono (by omega) (by omega), o5.isIn.mono (by omega) (by omega), o6.isIn.mono (by omega) (by omega)⟩
/-- where toRecorder puts the lists: at the beginning of blocks, with no room behind -/
structure RcNew (r : Rc) (A : RcA) : Prop where
  sa : ∃ g, A.sa = some ⟨g, 0, none⟩
  da : ∃ g, A.da = some ⟨g, 0, none⟩
  wa : ∃ g, A.wa = some ⟨g, 0, none⟩
  sc : A.sc = r.sf.n
  dc : A.dc = r.dk.n
  wc : A.wc = r.wn
structure RcSmall (r : Rc) : Prop where
  sf : (r.sf.n : Int) ≤ 1048576
  dk : (r.dk.n : Int) ≤ 1048576
  hn : (r.hn : Int) ≤ 1048576
  hs : ∀ i, i < r.hn → ((r.hs i).n : Int) ≤ 1048576
  wn : (r.wn : Int) ≤ 1048576
  yn : (r.yn : Int) ≤ 1048576
  bn : (r.bn : Int) ≤ 1048576
  an : (r.an : Int) ≤ 1048576
  as_ : ∀ i, i < r.an → ((r.as_ i).n : Int) ≤ 1048576
theorem results_cell_mid {P : Program} {fn : Func} {p : Tmp} {ty : TypeId} (h : fn.results = #[.cell p ty]) (tmps : Array Value) (w : World) (g : Nat) (cs : List Value) (d : TypeDesc)
    (hp : tmps.getD p undef = .pointer (some ⟨g, 0, none⟩)) (hc : w.rangeAt g 0 cs)
    (hu : P.underlying ty = some d) (hd : d.isRow = true) (hi : (P.info? ty).map (·.size) = some cs.length) :
    (results fn tmps).run P w = .ok (.agg cs.toArray) w := by
  have hp' : tmps[p]?.getD undef = .pointer (some ⟨g, 0, none⟩) := by simpa using hp
  simp [results, h, hp', asAddr, run_loadVar_mid w g 0 ty cs d hc hu hd hi]
theorem wpList_store_new {P : Program} {ops : Array Oper} {rest : List Oper} {op : Oper} {a : Act} {w : World} {Q : Exit → Act → World → Prop} (hgd : op.guard = none) (ty : TypeId) (x y : Operand) (ho : op.op = .store ty x y)
    (b : Nat) (cs : List Value) (hx : a.eval x = .pointer (some ⟨b, 0, none⟩)) (hy : a.eval y = .agg cs.toArray)
    (ht : w.there b 0 cs.length) (hi : (P.info? ty).map (·.size) = some cs.length) (h1 : ∀ v ∈ cs, v.oneCell' = true)
    (h : ∀ W2 : World, W2.rangeAt b 0 cs → Fr b (b + 1) w W2 → W2.heap.size = w.heap.size → wpList P ops Q rest (a.put op.dst undef) W2) : wpList P ops Q (op :: rest) a w :=
  wpList_store_mid hgd ty x y ho b 0 cs.toArray hx hy (by simpa using ht) (by simpa using hi) (all_oneCell_toArray h1) (h _ (World.rangeAt_setCells_same _ _ _ _ ht) (fr_setCells _ _ _ _) (size_setCells _ _ _ _))
theorem Try.sz47 : (Try.prog.info? 47).map (·.size) = some 18 := by kernel_rfl
theorem Fr.widen {lo hi lo2 hi2 : Nat} {w w' : World} (h : Fr lo hi w w') (h1 : lo2 ≤ lo) (h2 : hi ≤ hi2) : Fr lo2 hi2 w w' := ⟨h.os, h.tape, h.output, h.size, fun k hk ho => h.block k hk (by omega)⟩
theorem Holds.range {W : World} {B : Nat} {cs : List Value} (h : Holds W B cs.toArray) : W.rangeAt B 0 cs := fun j v hv => by
  rw [Nat.zero_add, h j]
  simpa using hv
theorem Holds.there {W : World} {B : Nat} {c : Array Value} (h : Holds W B c) (hf : ∀ i, W.frozen? ⟨B, i, none⟩ = false) : W.there B 0 c.size := fun j hj => by
  rw [Nat.zero_add, h j]
  exact ⟨by simp [hj], hf j⟩
theorem hset3 {W : World} {B : Nat} {v0 v1 v2 v3 v4 v5 v6 v7 v8 v9 v10 v11 v12 v13 v14 v15 v16 v17 : Value} (h : Holds W B #[v0, v1, v2, v3, v4, v5, v6, v7, v8, v9, v10, v11, v12, v13, v14, v15, v16, v17]) (v : Value) : Holds (W.setCell ⟨B, 3, none⟩ v) B #[v0, v1, v2, v, v4, v5, v6, v7, v8, v9, v10, v11, v12, v13, v14, v15, v16, v17] := h.set (i := 3) (by simp) v
theorem hset4 {W : World} {B : Nat} {v0 v1 v2 v3 v4 v5 v6 v7 v8 v9 v10 v11 v12 v13 v14 v15 v16 v17 : Value} (h : Holds W B #[v0, v1, v2, v3, v4, v5, v6, v7, v8, v9, v10, v11, v12, v13, v14, v15, v16, v17]) (v : Value) : Holds (W.setCell ⟨B, 4, none⟩ v) B #[v0, v1, v2, v3, v, v5, v6, v7, v8, v9, v10, v11, v12, v13, v14, v15, v16, v17] := h.set (i := 4) (by simp) v
theorem hset5 {W : World} {B : Nat} {v0 v1 v2 v3 v4 v5 v6 v7 v8 v9 v10 v11 v12 v13 v14 v15 v16 v17 : Value} (h : Holds W B #[v0, v1, v2, v3, v4, v5, v6, v7, v8, v9, v10, v11, v12, v13, v14, v15, v16, v17]) (v : Value) : Holds (W.setCell ⟨B, 5, none⟩ v) B #[v0, v1, v2, v3, v4, v, v6, v7, v8, v9, v10, v11, v12, v13, v14, v15, v16, v17] := h.set (i := 5) (by simp) v
theorem hset6 {W : World} {B : Nat} {v0 v1 v2 v3 v4 v5 v6 v7 v8 v9 v10 v11 v12 v13 v14 v15 v16 v17 : Value} (h : Holds W B #[v0, v1, v2, v3, v4, v5, v6, v7, v8, v9, v10, v11, v12, v13, v14, v15, v16, v17]) (v : Value) : Holds (W.setCell ⟨B, 6, none⟩ v) B #[v0, v1, v2, v3, v4, v5, v, v7, v8, v9, v10, v11, v12, v13, v14, v15, v16, v17] := h.set (i := 6) (by simp) v
theorem hset7 {W : World} {B : Nat} {v0 v1 v2 v3 v4 v5 v6 v7 v8 v9 v10 v11 v12 v13 v14 v15 v16 v17 : Value} (h : Holds W B #[v0, v1, v2, v3, v4, v5, v6, v7, v8, v9, v10, v11, v12, v13, v14, v15, v16, v17]) (v : Value) : Holds (W.setCell ⟨B, 7, none⟩ v) B #[v0, v1, v2, v3, v4, v5, v6, v, v8, v9, v10, v11, v12, v13, v14, v15, v16, v17] := h.set (i := 7) (by simp) v
theorem hset8 {W : World} {B : Nat} {v0 v1 v2 v3 v4 v5 v6 v7 v8 v9 v10 v11 v12 v13 v14 v15 v16 v17 : Value} (h : Holds W B #[v0, v1, v2, v3, v4, v5, v6, v7, v8, v9, v10, v11, v12, v13, v14, v15, v16, v17]) (v : Value) : Holds (W.setCell ⟨B, 8, none⟩ v) B #[v0, v1, v2, v3, v4, v5, v6, v7, v, v9, v10, v11, v12, v13, v14, v15, v16, v17] := h.set (i := 8) (by simp) v
theorem hset9 {W : World} {B : Nat} {v0 v1 v2 v3 v4 v5 v6 v7 v8 v9 v10 v11 v12 v13 v14 v15 v16 v17 : Value} (h : Holds W B #[v0, v1, v2, v3, v4, v5, v6, v7, v8, v9, v10, v11, v12, v13, v14, v15, v16, v17]) (v : Value) : Holds (W.setCell ⟨B, 9, none⟩ v) B #[v0, v1, v2, v3, v4, v5, v6, v7, v8, v, v10, v11, v12, v13, v14, v15, v16, v17] := h.set (i := 9) (by simp) v
theorem hset10 {W : World} {B : Nat} {v0 v1 v2 v3 v4 v5 v6 v7 v8 v9 v10 v11 v12 v13 v14 v15 v16 v17 : Value} (h : Holds W B #[v0, v1, v2, v3, v4, v5, v6, v7, v8, v9, v10, v11, v12, v13, v14, v15, v16, v17]) (v : Value) : Holds (W.setCell ⟨B, 10, none⟩ v) B #[v0, v1, v2, v3, v4, v5, v6, v7, v8, v9, v, v11, v12, v13, v14, v15, v16, v17] := h.set (i := 10) (by simp) v
theorem hset11 {W : World} {B : Nat} {v0 v1 v2 v3 v4 v5 v6 v7 v8 v9 v10 v11 v12 v13 v14 v15 v16 v17 : Value} (h : Holds W B #[v0, v1, v2, v3, v4, v5, v6, v7, v8, v9, v10, v11, v12, v13, v14, v15, v16, v17]) (v : Value) : Holds (W.setCell ⟨B, 11, none⟩ v) B #[v0, v1, v2, v3, v4, v5, v6, v7, v8, v9, v10, v, v12, v13, v14, v15, v16, v17] := h.set (i := 11) (by simp) v
theorem hset12 {W : World} {B : Nat} {v0 v1 v2 v3 v4 v5 v6 v7 v8 v9 v10 v11 v12 v13 v14 v15 v16 v17 : Value} (h : Holds W B #[v0, v1, v2, v3, v4, v5, v6, v7, v8, v9, v10, v11, v12, v13, v14, v15, v16, v17]) (v : Value) : Holds (W.setCell ⟨B, 12, none⟩ v) B #[v0, v1, v2, v3, v4, v5, v6, v7, v8, v9, v10, v11, v, v13, v14, v15, v16, v17] := h.set (i := 12) (by simp) v
theorem hset13 {W : World} {B : Nat} {v0 v1 v2 v3 v4 v5 v6 v7 v8 v9 v10 v11 v12 v13 v14 v15 v16 v17 : Value} (h : Holds W B #[v0, v1, v2, v3, v4, v5, v6, v7, v8, v9, v10, v11, v12, v13, v14, v15, v16, v17]) (v : Value) : Holds (W.setCell ⟨B, 13, none⟩ v) B #[v0, v1, v2, v3, v4, v5, v6, v7, v8, v9, v10, v11, v12, v, v14, v15, v16, v17] := h.set (i := 13) (by simp) v
theorem hset14 {W : World} {B : Nat} {v0 v1 v2 v3 v4 v5 v6 v7 v8 v9 v10 v11 v12 v13 v14 v15 v16 v17 : Value} (h : Holds W B #[v0, v1, v2, v3, v4, v5, v6, v7, v8, v9, v10, v11, v12, v13, v14, v15, v16, v17]) (v : Value) : Holds (W.setCell ⟨B, 14, none⟩ v) B #[v0, v1, v2, v3, v4, v5, v6, v7, v8, v9, v10, v11, v12, v13, v, v15, v16, v17] := h.set (i := 14) (by simp) v
theorem hset15 {W : World} {B : Nat} {v0 v1 v2 v3 v4 v5 v6 v7 v8 v9 v10 v11 v12 v13 v14 v15 v16 v17 : Value} (h : Holds W B #[v0, v1, v2, v3, v4, v5, v6, v7, v8, v9, v10, v11, v12, v13, v14, v15, v16, v17]) (v : Value) : Holds (W.setCell ⟨B, 15, none⟩ v) B #[v0, v1, v2, v3, v4, v5, v6, v7, v8, v9, v10, v11, v12, v13, v14, v, v16, v17] := h.set (i := 15) (by simp) v
theorem hset16 {W : World} {B : Nat} {v0 v1 v2 v3 v4 v5 v6 v7 v8 v9 v10 v11 v12 v13 v14 v15 v16 v17 : Value} (h : Holds W B #[v0, v1, v2, v3, v4, v5, v6, v7, v8, v9, v10, v11, v12, v13, v14, v15, v16, v17]) (v : Value) : Holds (W.setCell ⟨B, 16, none⟩ v) B #[v0, v1, v2, v3, v4, v5, v6, v7, v8, v9, v10, v11, v12, v13, v14, v15, v, v17] := h.set (i := 16) (by simp) v
theorem hset17 {W : World} {B : Nat} {v0 v1 v2 v3 v4 v5 v6 v7 v8 v9 v10 v11 v12 v13 v14 v15 v16 v17 : Value} (h : Holds W B #[v0, v1, v2, v3, v4, v5, v6, v7, v8, v9, v10, v11, v12, v13, v14, v15, v16, v17]) (v : Value) : Holds (W.setCell ⟨B, 17, none⟩ v) B #[v0, v1, v2, v3, v4, v5, v6, v7, v8, v9, v10, v11, v12, v13, v14, v15, v16, v] := h.set (i := 17) (by simp) v
end Go.Proofs.Ytkcgfjnmkbbnoaa
