import Derived.Test.YtkcgfjnmkbbnoaaJ
import Derived.Test.YtkcgfjnmkbbnoaaK
namespace Go.Proofs.Ytkcgfjnmkbbnoaa
open Go.RowKit
/-- a recorder -/
structure Rc where
  num : Int
  of : Int
  up : Bool
  sf : Dk
  dk : Dk
  hn : Nat
  hs : Nat → Ms
  wn : Nat
  ws : Nat → ByteArray
  ld : Bool
  tr : Bool
  bal : Int
  yn : Nat
  ys : Nat → Int
  bn : Nat
  bs : Nat → Sl
  an : Nat
  as_ : Nat → Ak
  hd : Int
/-- where a recorder's lists lie -/
structure RcA where
  sa : Option Addr
  da : Option Addr
  ha : Option Addr
  wa : Option Addr
  ya : Option Addr
  ba : Option Addr
  aa : Option Addr
  sc : Nat
  dc : Nat
  hc : Nat
  wc : Nat
  yc : Nat
  bc : Nat
  ac : Nat
abbrev rcC (r : Rc) (A : RcA) : Array Value := #[.int .i64 r.num, .int .i64 r.of, .bool r.up, .int .i64 r.sf.pr, .int .i64 r.sf.kn, .slice A.sa r.sf.n A.sc, .int .i64 r.dk.pr, .int .i64 r.dk.kn, .slice A.da r.dk.n A.dc, .slice A.ha r.hn A.hc, .slice A.wa r.wn A.wc, .bool r.ld, .bool r.tr, .int .i64 r.bal, .slice A.ya r.yn A.yc, .slice A.ba r.bn A.bc, .slice A.aa r.an A.ac, .int .i64 r.hd]
abbrev rcV (r : Rc) (A : RcA) : Value := .agg #[.int .i64 r.num, .int .i64 r.of, .bool r.up, .int .i64 r.sf.pr, .int .i64 r.sf.kn, .slice A.sa r.sf.n A.sc, .int .i64 r.dk.pr, .int .i64 r.dk.kn, .slice A.da r.dk.n A.dc, .slice A.ha r.hn A.hc, .slice A.wa r.wn A.wc, .bool r.ld, .bool r.tr, .int .i64 r.bal, .slice A.ya r.yn A.yc, .slice A.ba r.bn A.bc, .slice A.aa r.an A.ac, .int .i64 r.hd]
structure RcFit (r : Rc) : Prop where
  sf : DkFit r.sf
  dk : DkFit r.dk
  hn : (r.hn : Int) ≤ 8796093022208
  hs : ∀ i, i < r.hn → MsFit (r.hs i)
  wn : (r.wn : Int) ≤ 8796093022208
  ws : ∀ i, i < r.wn → ((r.ws i).size : Int) ≤ 140737488355328
  yn : (r.yn : Int) ≤ 17592186044416
  bn : (r.bn : Int) ≤ 8796093022208
  bs : ∀ i, i < r.bn → SlFit (r.bs i)
  an : (r.an : Int) ≤ 8796093022208
  as_ : ∀ i, i < r.an → AkFit (r.as_ i)
structure RcIn (w : World) (lo hi : Nat) (r : Rc) (A : RcA) : Prop where
  sf : SlsIn w lo hi A.sa r.sf.n r.sf.s
  dk : SlsIn w lo hi A.da r.dk.n r.dk.s
  hs : MssIn w lo hi A.ha r.hn r.hs
  ws : StrsIn w lo hi A.wa r.wn r.ws
  ys : IntsIn w lo hi A.ya r.yn r.ys
  bs : SlsIn w lo hi A.ba r.bn r.bs
  as_ : AksIn w lo hi A.aa r.an r.as_
theorem RcIn.below {w w' : World} {B lo hi : Nat} {r : Rc} {A : RcA} (h : RcIn w lo hi r A) (hb : Below B w w') (hB : hi ≤ B) : RcIn w' lo hi r A :=
  ⟨h.sf.below hb hB, h.dk.below hb hB, h.hs.below hb hB, h.ws.below hb hB, h.ys.below hb hB, h.bs.below hb hB, h.as_.below hb hB⟩
def szRc (r : Rc) : Nat := szDk r.sf + szDk r.dk + szMss r.hn r.hs + szStrs r.wn r.ws + r.yn + szSls r.bn r.bs + szAks r.an r.as_
theorem holds18 {W : World} {B : Nat} {v0 v1 v2 v3 v4 v5 v6 v7 v8 v9 v10 v11 v12 v13 v14 v15 v16 v17 : Value} (h : Holds W B #[v0, v1, v2, v3, v4, v5, v6, v7, v8, v9, v10, v11, v12, v13, v14, v15, v16, v17]) :
    W.cell? ⟨B, 0, none⟩ = some v0 ∧ W.cell? ⟨B, 1, none⟩ = some v1 ∧ W.cell? ⟨B, 2, none⟩ = some v2 ∧ W.cell? ⟨B, 3, none⟩ = some v3 ∧ W.cell? ⟨B, 4, none⟩ = some v4 ∧ W.cell? ⟨B, 5, none⟩ = some v5 ∧ W.cell? ⟨B, 6, none⟩ = some v6 ∧ W.cell? ⟨B, 7, none⟩ = some v7 ∧ W.cell? ⟨B, 8, none⟩ = some v8 ∧ W.cell? ⟨B, 9, none⟩ = some v9 ∧ W.cell? ⟨B, 10, none⟩ = some v10 ∧ W.cell? ⟨B, 11, none⟩ = some v11 ∧ W.cell? ⟨B, 12, none⟩ = some v12 ∧ W.cell? ⟨B, 13, none⟩ = some v13 ∧ W.cell? ⟨B, 14, none⟩ = some v14 ∧ W.cell? ⟨B, 15, none⟩ = some v15 ∧ W.cell? ⟨B, 16, none⟩ = some v16 ∧ W.cell? ⟨B, 17, none⟩ = some v17 := ⟨h 0, h 1, h 2, h 3, h 4, h 5, h 6, h 7, h 8, h 9, h 10, h 11, h 12, h 13, h 14, h 15, h 16, h 17⟩
theorem Holds.set {W : World} {B i : Nat} {c : Array Value} (h : Holds W B c) (hi : i < c.size) (v : Value) : Holds (W.setCell ⟨B, i, none⟩ v) B (c.set i v hi) := fun j => by
  by_cases e : j = i
  · subst e
    rw [World.cell?_setCell_same _ _ _ (h j |>.trans (Array.getElem?_eq_getElem hi)), Array.getElem?_set_self]
  · rw [World.cell?_setCell_other _ _ _ _ (fun hh => e (by cases hh; rfl)), h j, Array.getElem?_set_ne _ (fun hh => e hh.symm)]
end Go.Proofs.Ytkcgfjnmkbbnoaa
