import Derived.Test.YtllmmkchokkaaaaGreatDoorPk38
import Derived.Test.YtllmmkchokkaaaaGreatDoorPk13
import Derived.Test.YtllmmkchokkaaaaGreatDoorPk39
set_option maxRecDepth 100000
namespace Go.Proofs.YtllmmkchokkaaaaGreatDoor
open Go.RowKit Go.Maps
theorem BkIn.upTo {w:World} {lo hi hi':Nat} {x:Bk} {a1 a2 a3:Option Addr} (h:BkIn w lo hi x a1 a2 a3) (hh:hi≤hi'):BkIn w lo hi' x a1 a2 a3:=
 ⟨fun i h'=>by
  obtain ⟨b,off,ah,ch,e1,e2,e3,e4,e5⟩:=h.o i h'
  refine ⟨b,off,ah,ch,e1,e2,Za,e4,fun j hj=>?_⟩
  obtain ⟨b',off',g1,g2,g3,g4⟩:=e5 j hj
  exact ⟨b',off',g1,g2,Za,g4⟩,fun i h'=>by
  obtain ⟨b,off,ah,ch,e1,e2,e3,e4,e5⟩:=h.h i h'
  refine ⟨b,off,ah,ch,e1,e2,Za,e4,fun j hj=>?_⟩
  obtain ⟨b',off',g1,g2,g3,g4⟩:=e5 j hj
  exact ⟨b',off',g1,g2,Za,g4⟩,fun i h'=>by
  obtain ⟨b,off,e1,e2,e3,e4⟩:=h.t i h'
  exact ⟨b,off,e1,e2,Za,e4⟩⟩
theorem lim_of_sz {x:Bk} (h:szBk x≤1048576):(x.on:Int)≤1048576∧(x.hn:Int)≤1048576∧(x.tn:Int)≤1048576:=by
 unfold szBk szObs szChs szTis at h
 omega
theorem fit_bk0:BkFit bk0:=⟨Zb,Zb,Zb,fun i hi=>absurd hi (Nat.not_lt_zero _),fun i hi=>absurd hi (Nat.not_lt_zero _),fun i hi=>absurd hi (Nat.not_lt_zero _)⟩
structure DidFit (y:Bk):Prop where
 fit:BkFit y
 o:(y.on:Int)≤1048576
 h:(y.hn:Int)≤1048576
 t:(y.tn:Int)≤1048576
 m:(mkBk 1 y:Int)≤1073741824
theorem didFit0:DidFit bk0:=⟨fit_bk0,Zb,Zb,Zb,Zb⟩
def HoldN (W:World) (B:Nat) (c:List Value):Prop:=∀ j,j<c.length→W.cell? ⟨B,j,none⟩=some (vec c j)
theorem HoldN.below {W W':World} {B n:Nat} {c:List Value} (h:HoldN W B c) (hb:Below n W W') (hB:B<n):HoldN W' B c:=fun j hj=>(hb.cell (p:=⟨B,j,none⟩) hB).trans (h j hj)
theorem HoldN.frP {W W':World} {B:Nat} {c:List Value} {P:Nat→Prop} (h:HoldN W B c) (hf:FrP P W W') (hB:B<W.1.size) (hp:¬P B):HoldN W' B c:=fun j hj=>(hf.cell (p:=⟨B,j,none⟩) hB hp).trans (h j hj)
def ddCells (co:Int) (x:Bk) (ve:Int) (a1 a2 a3:Option Addr) (c1 c2 c3:Nat):List Value:=[.int .i64 co,.int .i64 x.now,.int .i64 x.floor,.slice a1 x.on c1,.slice a2 x.hn c2,.slice a3 x.tn c3,.int .i64 ve]
theorem holds_dd {W:World} {B:Nat} {co ve:Int} {x:Bk} {a1 a2 a3:Option Addr} {c1 c2 c3:Nat} (h:HoldN W B (ddCells co x ve a1 a2 a3 c1 c2 c3)) :
  W.cell? ⟨B,0,none⟩=some (.int .i64 co)∧W.cell? ⟨B,1,none⟩=some (.int .i64 x.now)∧W.cell? ⟨B,2,none⟩=some (.int .i64 x.floor)∧W.cell? ⟨B,3,none⟩=some (.slice a1 x.on c1)∧W.cell? ⟨B,4,none⟩=some (.slice a2 x.hn c2)∧W.cell? ⟨B,5,none⟩=some (.slice a3 x.tn c3)∧W.cell? ⟨B,6,none⟩=some (.int .i64 ve):=
 ⟨h 0 (by simp [ddCells]),h 1 (by simp [ddCells]),h 2 (by simp [ddCells]),h 3 (by simp [ddCells]),h 4 (by simp [ddCells]),h 5 (by simp [ddCells]),h 6 (by simp [ddCells])⟩
theorem BkOwn.isIn {w:World} {lo hi:Nat} {x:Bk} {g1 g2 g3:Nat} (h:BkOwn w lo hi x g1 g2 g3):BkIn w lo w.1.size x (some ⟨g1,0,none⟩) (some ⟨g2,0,none⟩) (some ⟨g3,0,none⟩):=by
 obtain ⟨p,h1,h2,h3,h4,h5⟩:=h.at
 have:=h4.isIn (lo:=lo) (fun q hq=>(h5 q hq).1)
 rw [h1,h2,h3] at this
 exact this
section
variable {W W':World} {s0:Nat} {x:Bk} {v:Wr} {a1 a2 a3:Option Addr} {c1 c2 c3:Nat} {co:Int} {y:Bk} {ve:Int} {n1 n2 zw zx zg:Nat} {b1 b2 b3:Option Addr} {e1 e2 e3:Nat} {p:Pl} {d1 d2 d3:Nat} {g:Pl} {f1 f2 f3:Nat} {xm ym:Bk}
end
end Go.Proofs.YtllmmkchokkaaaaGreatDoor
