import Derived.Test.YtnnjcenacidceaaGreatPk22
import Derived.Test.YtnnjcenacidceaaGreatPk23
import Derived.Test.YtnnjcenacidceaaGreatPk12
import Derived.Test.YtnnjcenacidceaaGreatPk03
import Derived.ProofKit
import Derived.SizedLaws
import Derived.Deep.Slices
import Derived.Deep.Strs
import Derived.Test.YtnnjcenacidceaaGreatPk21
import Derived.Test.YtnnjcenacidceaaGreatPk11
import Derived.Test.YtnnjcenacidceaaGreatPk16
set_option maxRecDepth 100000
namespace Go.Proofs.YtnnjcenacidceaaGreat
open Go.RowKit Go.Maps Go.Proofs.Tryz
theorem BF.dn{w:World}{lo lo' hi:Nat}{x:Bk}{a1 a2 a3:OA}(h:BF w lo hi x a1 a2 a3)(hl:lo'<=lo):BF w lo' hi x a1 a2 a3:=⟨λi h'=>by obtain⟨b,off,ah,ch,e1,e2,e3,e4,e5⟩:=h.o i h';refine⟨b,off,ah,ch,e1,Za,e3,e4,λj hj=>?_⟩;obtain⟨b',off',g1,g2,g3,g4⟩:=e5 j hj;exact⟨b',off',g1,Za,g3,g4⟩,λi h'=>by obtain⟨b,off,ah,ch,e1,e2,e3,e4,e5⟩:=h.h i h';refine⟨b,off,ah,ch,e1,Za,e3,e4,λj hj=>?_⟩;obtain⟨b',off',g1,g2,g3,g4⟩:=e5 j hj;exact⟨b',off',g1,Za,g3,g4⟩,λi h'=>by obtain⟨b,off,e1,e2,e3,e4⟩:=h.t i h';exact⟨b,off,e1,Za,e3,e4⟩⟩
end Go.Proofs.YtnnjcenacidceaaGreat
namespace Go.Proofs.YtnnjcenacidceaaGreat
open Go.ChangeShapes Go.WideShapes Go.ChangeAt Go.RowKit Go.Deep Go.Proofs.Tryz
theorem Tryz.c3:prog.cellsOf 3=1:=Ze
theorem Tryz.c4:prog.cellsOf 4=1:=Ze
end Go.Proofs.YtnnjcenacidceaaGreat
namespace Go.Proofs.YtnnjcenacidceaaGreat
open Go.RowKit Go.Maps Go.Proofs.Tryz
theorem BF.upTo{w:World}{lo hi hi':Nat}{x:Bk}{a1 a2 a3:OA}(h:BF w lo hi x a1 a2 a3)(hh:hi<=hi'):BF w lo hi' x a1 a2 a3:=⟨λi h'=>by obtain⟨b,off,ah,ch,e1,e2,e3,e4,e5⟩:=h.o i h';refine⟨b,off,ah,ch,e1,e2,Za,e4,λj hj=>?_⟩;obtain⟨b',off',g1,g2,g3,g4⟩:=e5 j hj;exact⟨b',off',g1,g2,Za,g4⟩,λi h'=>by obtain⟨b,off,ah,ch,e1,e2,e3,e4,e5⟩:=h.h i h';refine⟨b,off,ah,ch,e1,e2,Za,e4,λj hj=>?_⟩;obtain⟨b',off',g1,g2,g3,g4⟩:=e5 j hj;exact⟨b',off',g1,g2,Za,g4⟩,λi h'=>by obtain⟨b,off,e1,e2,e3,e4⟩:=h.t i h';exact⟨b,off,e1,e2,Za,e4⟩⟩
def lQ (v:Wr):Array Value:=(vW v)
def Fl (W:World)(B:Nat)(c:List Value):Prop:=∀j,j<c.length->W.cell? ⟨B,j,none⟩=some (AW c j)
theorem jX{W:World}{B:Nat}{v0 v1:Value}{l:List Value}(h:Fl W B (v0::v1::l)):W.cell? ⟨B,0,none⟩=some v0/\W.cell? ⟨B,1,none⟩=some v1:=⟨h 0 Zc,h 1 Zc⟩
theorem yP{W:World}{B:Nat}{v0 v1 v2:Value}{l:List Value}(h:Fl W B (v0::v1::v2::l)):W.cell? ⟨B,0,none⟩=some v0/\W.cell? ⟨B,1,none⟩=some v1/\W.cell? ⟨B,2,none⟩=some v2:=⟨h 0 Zc,h 1 Zc,h 2 Zc⟩
theorem uR{W:World}{B:Nat}{v0 v1 v2 v3:Value}{l:List Value}(h:Fl W B (v0::v1::v2::v3::l)):W.cell? ⟨B,0,none⟩=some v0/\W.cell? ⟨B,1,none⟩=some v1/\W.cell? ⟨B,2,none⟩=some v2/\W.cell? ⟨B,3,none⟩=some v3:=⟨h 0 Zc,h 1 Zc,h 2 Zc,h 3 Zc⟩
theorem Vh{W:World}{B:Nat}{v0 v1 v2 v3 v4:Value}{l:List Value}(h:Fl W B (v0::v1::v2::v3::v4::l)):W.cell? ⟨B,0,none⟩=some v0/\W.cell? ⟨B,1,none⟩=some v1/\W.cell? ⟨B,2,none⟩=some v2/\W.cell? ⟨B,3,none⟩=some v3/\W.cell? ⟨B,4,none⟩=some v4:=⟨h 0 Zc,h 1 Zc,h 2 Zc,h 3 Zc,h 4 Zc⟩
theorem da{W:World}{B:Nat}{v0 v1 v2 v3 v4 v5:Value}{l:List Value}(h:Fl W B (v0::v1::v2::v3::v4::v5::l)):W.cell? ⟨B,0,none⟩=some v0/\W.cell? ⟨B,1,none⟩=some v1/\W.cell? ⟨B,2,none⟩=some v2/\W.cell? ⟨B,3,none⟩=some v3/\W.cell? ⟨B,4,none⟩=some v4/\W.cell? ⟨B,5,none⟩=some v5:=⟨h 0 Zc,h 1 Zc,h 2 Zc,h 3 Zc,h 4 Zc,h 5 Zc⟩
theorem xI{W:World}{B:Nat}{v0 v1 v2 v3 v4 v5 v6:Value}{l:List Value}(h:Fl W B (v0::v1::v2::v3::v4::v5::v6::l)):W.cell? ⟨B,0,none⟩=some v0/\W.cell? ⟨B,1,none⟩=some v1/\W.cell? ⟨B,2,none⟩=some v2/\W.cell? ⟨B,3,none⟩=some v3/\W.cell? ⟨B,4,none⟩=some v4/\W.cell? ⟨B,5,none⟩=some v5/\W.cell? ⟨B,6,none⟩=some v6:=⟨h 0 Zc,h 1 Zc,h 2 Zc,h 3 Zc,h 4 Zc,h 5 Zc,h 6 Zc⟩
theorem Fl.below{W W':World}{B n:Nat}{c:List Value}(h:Fl W B c)(hb:Below n W W')(hB:B<n):Fl W' B c:=λj hj=>(hb.cell (p:=⟨B,j,none⟩) hB).trans (h j hj)
theorem Fl.frP{W W':World}{B:Nat}{c:List Value}{P:Nat->Prop}(h:Fl W B c)(hf:Ay P W W')(hB:B<W.1.size)(hp:¬P B):Fl W' B c:=λj hj=>(hf.cell (p:=⟨B,j,none⟩) hB hp).trans (h j hj)
def Lp (co:Int)(x:Bk)(ve:Int)(a1 a2 a3:OA)(c1 c2 c3:Nat):List Value:=[.i co,.i x.now,.i x.floor,.l a1 x.on c1,.l a2 x.hn c2,.l a3 x.tn c3,.i ve]
theorem dZ{W:World}{B:Nat}{co ve:Int}{x:Bk}{a1 a2 a3:OA}{c1 c2 c3:Nat}(h:Fl W B (Lp co x ve a1 a2 a3 c1 c2 c3)):W.cell? ⟨B,0,none⟩=some (.i co)/\W.cell? ⟨B,1,none⟩=some (.i x.now)/\W.cell? ⟨B,2,none⟩=some (.i x.floor)/\W.cell? ⟨B,3,none⟩=some (.slice a1 x.on c1)/\W.cell? ⟨B,4,none⟩=some (.slice a2 x.hn c2)/\W.cell? ⟨B,5,none⟩=some (.slice a3 x.tn c3)/\W.cell? ⟨B,6,none⟩=some (.i ve):=⟨h 0 (by simp[Lp]),h 1 (by simp[Lp]),h 2 (by simp[Lp]),h 3 (by simp[Lp]),h 4 (by simp[Lp]),h 5 (by simp[Lp]),h 6 (by simp[Lp])⟩
theorem LK.frP{W W':World}{B:Nat}{c:Array Value}{P:Nat->Prop}(h:LK W B c)(hf:Ay P W W')(hB:B<W.1.size)(hp:¬P B):LK W' B c:=λi=>(hf.cell (p:=⟨B,i,none⟩) hB hp).trans (h i)
structure DL (W:World)(s0:Nat)(x:Bk)(v:Wr)(a1 a2 a3:OA)(c1 c2 c3:Nat)(co:Int)(y:Bk)(ve:Int)(n1 n2 zw zx zg:Nat)(b1 b2 b3:OA)(e1 e2 e3:Nat)(p:Pl)(d1 d2 d3:Nat)(g:Pl)(f1 f2 f3:Nat)(xm ym:Bk):Prop where
 bx:LK W s0 (Pf x a1 a2 a3 c1 c2 c3)bv:LK W (s0+1) (lQ v)arg:BF W 0 s0 x a1 a2 a3
 vw:Fl W zw (Lp co y ve b1 b2 b3 e1 e2 e3)ww:BF W 0 n1 y b1 b2 b3
 vx:LK W zx (Pf x p.a1 p.a2 p.a3 d1 d2 d3)xx:KF W xm p
 xb:∀q,Ff p xm q->n1<=q/\q<zx
 vg:Fl W zg (Lp co y ve g.a1 g.a2 g.a3 f1 f2 f3)gg:KF W ym g
 gb:∀q,Ff g ym q->n2<=q/\¬q=zg
 o0:s0+1<n1
 o1:zw<n1
 o2:n1<=zx
 o3:zx<n2
 o5:n2<=zg
 o4:zg<W.1.size
section
variable {W W':World} {s0:Nat} {x:Bk} {v:Wr} {a1 a2 a3:OA} {c1 c2 c3:Nat} {co:Int} {y:Bk} {ve:Int} {n1 n2 zw zx zg:Nat} {b1 b2 b3:OA} {e1 e2 e3:Nat} {p:Pl} {d1 d2 d3:Nat} {g:Pl} {f1 f2 f3:Nat} {xm ym:Bk}
theorem DL.below (h:DL W s0 x v a1 a2 a3 c1 c2 c3 co y ve n1 n2 zw zx zg b1 b2 b3 e1 e2 e3 p d1 d2 d3 g f1 f2 f3 xm ym)(hb:Below W.1.size W W'):DL W' s0 x v a1 a2 a3 c1 c2 c3 co y ve n1 n2 zw zx zg b1 b2 b3 e1 e2 e3 p d1 d2 d3 g f1 f2 f3 xm ym:=by have h0:=h.o0;have h1:=h.o1;have h5:=h.o5;have h2:=h.o2;have h3:=h.o3;have h4:=h.o4;exact⟨h.bx.below hb Za,h.bv.below hb Za,h.arg.below hb Za,h.vw.below hb Za,h.ww.below hb Za,h.vx.below hb Za,h.xx.grow hb,h.xb,h.vg.below hb Za,h.gg.grow hb,h.gb,h0,h1,h2,h3,h5,Ad h4 hb.size⟩
end
end Go.Proofs.YtnnjcenacidceaaGreat
namespace Go.Proofs.YtnnjcenacidceaaGreat
open Go.RowKit Go.Maps Go.Proofs.Tryz
theorem BF.grow{w w':World}{lo:Nat}{x:Bk}{a1 a2 a3:OA}(h:BF w lo w.1.size x a1 a2 a3)(hb:Below w.1.size w w'):BF w' lo w'.1.size x a1 a2 a3:=(h.below hb AQ).upTo hb.size
theorem OZ{w:World}{z b j:Nat}{s:ByteArray}(hn:∀j s,¬w.cell? ⟨z,j,none⟩=some (.s s))(h:w.cell? ⟨b,j,none⟩=some (.s s)):¬b=z:=λe=>by subst e;exact hn _ _ h
theorem BF.box{w w':World}{lo hi z:Nat}{x:Bk}{a1 a2 a3:OA}(h:BF w lo hi x a1 a2 a3)(hf:Ay (λq=>q=z) w w')(hn:∀j s,¬w.cell? ⟨z,j,none⟩=some (.s s))(hz:hi<=w.1.size):BF w' lo hi x a1 a2 a3:=by
 have cc:∀{b j u},¬b=z->b<w.1.size->w.cell? ⟨b,j,none⟩=some u->w'.cell? ⟨b,j,none⟩=some u:=λ{b j u}h1 h2 h3=>(hf.cell (p:=⟨b,j,none⟩) h2 h1).trans h3;have ss:∀{ad n s},AD w lo hi ad n s->AD w' lo hi ad n s:=λ{ad n s}h i hi=>by obtain⟨b,off,e1,e2,e3,e4⟩:=h i hi;exact⟨b,off,e1,e2,e3,cc (OZ hn e4) Za e4⟩
 exact⟨λi h'=>by obtain⟨b,off,ah,ch,e1,e2,e3,e4,e5⟩:=h.o i h';have c:∀{j u},w.cell? ⟨b,j,none⟩=some u->w'.cell? ⟨b,j,none⟩=some u:=λq=>cc (OZ hn e4.c0) Za q;exact⟨b,off,ah,ch,e1,e2,e3,⟨c e4.c0,c e4.c1,c e4.c2,c e4.c3,c e4.c4,c e4.c5,c e4.c6⟩,ss e5⟩,λi h'=>by obtain⟨b,off,ah,ch,e1,e2,e3,e4,e5⟩:=h.h i h';have c:∀{j u},w.cell? ⟨b,j,none⟩=some u->w'.cell? ⟨b,j,none⟩=some u:=λq=>cc (OZ hn e4.c2) Za q;exact⟨b,off,ah,ch,e1,e2,e3,⟨c e4.c0,c e4.c1,c e4.c2,c e4.c3,c e4.c4,c e4.c5,c e4.c6,c e4.c7,c e4.c8⟩,ss e5⟩,λi h'=>by obtain⟨b,off,e1,e2,e3,e4⟩:=h.t i h';have c:∀{j u},w.cell? ⟨b,j,none⟩=some u->w'.cell? ⟨b,j,none⟩=some u:=λq=>cc (OZ hn e4.c0) Za q;exact⟨b,off,e1,e2,e3,⟨c e4.c0,c e4.c1,c e4.c2,c e4.c3,c e4.c4⟩⟩⟩
def iY:List Value:=[.i 0,.i 0,.i 0,.l none 0 0,.l none 0 0,.l none 0 0,.i 0]
structure Bx (w:World)(z:Nat):Prop where row:AN w z 7 (AW iY)no:∀j s,¬w.cell? ⟨z,j,none⟩=some (.s s)
theorem Bx.grow{w w':World}{z:Nat}(h:Bx w z)(hb:Below w.1.size w w'):Bx w' z:=⟨h.row.below hb h.row.lt,λj s e=>h.no j s (by rw[<-hb.cell (p:=⟨z,j,none⟩) h.row.lt];exact e)⟩
theorem cN (w:World):Bx (w.alloc (.cells #[.i 0,.i 0,.i 0,.l none 0 0,.l none 0 0,.l none 0 0,.i 0] 115)) w.1.size:=⟨AN.new (l:=iY) (t:=115) Ci,λj s e=>by rw[Al]at e;match j,e with
  |0,e=>cases e
  |1,e=>cases e
  |2,e=>cases e
  |3,e=>cases e
  |4,e=>cases e
  |5,e=>cases e
  |6,e=>cases e
  |n+7,e=>simp at e⟩
theorem ZB{w:World}{z:Nat}(v0 v1 v2 v3 v4 v5 v6:Value):Ay (λq=>q=z) w (((((((w.setCell ⟨z,0,none⟩ v0).setCell ⟨z,1,none⟩ v1).setCell ⟨z,2,none⟩ v2).setCell ⟨z,3,none⟩ v3).setCell ⟨z,4,none⟩ v4).setCell ⟨z,5,none⟩ v5).setCell ⟨z,6,none⟩ v6):=(((((((Ay.refl (λq=>q=z) w).setCell (p:=⟨z,0,none⟩) rfl v0).setCell (p:=⟨z,1,none⟩) rfl v1).setCell (p:=⟨z,2,none⟩) rfl v2).setCell (p:=⟨z,3,none⟩) rfl v3).setCell (p:=⟨z,4,none⟩) rfl v4).setCell (p:=⟨z,5,none⟩) rfl v5).setCell (p:=⟨z,6,none⟩) rfl v6
end Go.Proofs.YtnnjcenacidceaaGreat
