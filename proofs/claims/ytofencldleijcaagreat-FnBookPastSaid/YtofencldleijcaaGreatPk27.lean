import Derived.Test.YtofencldleijcaaGreatPk25
import Derived.Test.YtofencldleijcaaGreatPk26
import Derived.Test.YtofencldleijcaaGreatPk11
import Derived.Test.YtofencldleijcaaGreatPk03
import Derived.ProofKit
import Derived.SizedLaws
import Derived.Deep.Slices
import Derived.Deep.Strs
import Derived.Test.YtofencldleijcaaGreatPk22
import Derived.Test.YtofencldleijcaaGreatPk10
import Derived.Test.YtofencldleijcaaGreatPk17
set_option maxRecDepth 100000
namespace Go.Proofs.YtofencldleijcaaGreat
open Go.RowKit Go.Maps Go.Proofs.Tryz
theorem B7.dn{w:World}{lo lo' hi:Nat}{x:Bk}{a1 a2 a3:OA}(h:B7 w lo hi x a1 a2 a3)(hl:lo'<=lo):B7 w lo' hi x a1 a2 a3:=⟨λi h'=>by obtain⟨b,off,ah,ch,e1,e2,e3,e4,e5⟩:=h.o i h';refine⟨b,off,ah,ch,e1,Zb,e3,e4,λj hj=>?_⟩;obtain⟨b',off',g1,g2,g3,g4⟩:=e5 j hj;exact⟨b',off',g1,Zb,g3,g4⟩,λi h'=>by obtain⟨b,off,ah,ch,e1,e2,e3,e4,e5⟩:=h.h i h';refine⟨b,off,ah,ch,e1,Zb,e3,e4,λj hj=>?_⟩;obtain⟨b',off',g1,g2,g3,g4⟩:=e5 j hj;exact⟨b',off',g1,Zb,g3,g4⟩,λi h'=>by obtain⟨b,off,e1,e2,e3,e4⟩:=h.t i h';exact⟨b,off,e1,Zb,e3,e4⟩⟩
end Go.Proofs.YtofencldleijcaaGreat
namespace Go.Proofs.YtofencldleijcaaGreat
open Go.ChangeShapes Go.WideShapes Go.ChangeAt Go.RowKit Go.Deep Go.Proofs.Tryz
theorem Tryz.c3:prog.cellsOf 3=1:=Ze
theorem Tryz.c4:prog.cellsOf 4=1:=Ze
end Go.Proofs.YtofencldleijcaaGreat
namespace Go.Proofs.YtofencldleijcaaGreat
open Go.RowKit Go.Maps Go.Proofs.Tryz
theorem B7.upTo{w:World}{lo hi hi':Nat}{x:Bk}{a1 a2 a3:OA}(h:B7 w lo hi x a1 a2 a3)(hh:hi<=hi'):B7 w lo hi' x a1 a2 a3:=⟨λi h'=>by obtain⟨b,off,ah,ch,e1,e2,e3,e4,e5⟩:=h.o i h';refine⟨b,off,ah,ch,e1,e2,Zb,e4,λj hj=>?_⟩;obtain⟨b',off',g1,g2,g3,g4⟩:=e5 j hj;exact⟨b',off',g1,g2,Zb,g4⟩,λi h'=>by obtain⟨b,off,ah,ch,e1,e2,e3,e4,e5⟩:=h.h i h';refine⟨b,off,ah,ch,e1,e2,Zb,e4,λj hj=>?_⟩;obtain⟨b',off',g1,g2,g3,g4⟩:=e5 j hj;exact⟨b',off',g1,g2,Zb,g4⟩,λi h'=>by obtain⟨b,off,e1,e2,e3,e4⟩:=h.t i h';exact⟨b,off,e1,e2,Zb,e4⟩⟩
def cO (v:Wr):Array Value:=(vW v)
def D4 (W:World)(B:Nat)(c:List Value):Prop:=∀j,j<c.length->W.cell? ⟨B,j,none⟩=some (A7 c j)
theorem ZJ{W:World}{B:Nat}{v0 v1:Value}{l:List Value}(h:D4 W B (v0::v1::l)):W.cell? ⟨B,0,none⟩=some v0/\W.cell? ⟨B,1,none⟩=some v1:=⟨h 0 Zc,h 1 Zc⟩
theorem rV{W:World}{B:Nat}{v0 v1 v2:Value}{l:List Value}(h:D4 W B (v0::v1::v2::l)):W.cell? ⟨B,0,none⟩=some v0/\W.cell? ⟨B,1,none⟩=some v1/\W.cell? ⟨B,2,none⟩=some v2:=⟨h 0 Zc,h 1 Zc,h 2 Zc⟩
theorem mI{W:World}{B:Nat}{v0 v1 v2 v3:Value}{l:List Value}(h:D4 W B (v0::v1::v2::v3::l)):W.cell? ⟨B,0,none⟩=some v0/\W.cell? ⟨B,1,none⟩=some v1/\W.cell? ⟨B,2,none⟩=some v2/\W.cell? ⟨B,3,none⟩=some v3:=⟨h 0 Zc,h 1 Zc,h 2 Zc,h 3 Zc⟩
theorem ZI{W:World}{B:Nat}{v0 v1 v2 v3 v4:Value}{l:List Value}(h:D4 W B (v0::v1::v2::v3::v4::l)):W.cell? ⟨B,0,none⟩=some v0/\W.cell? ⟨B,1,none⟩=some v1/\W.cell? ⟨B,2,none⟩=some v2/\W.cell? ⟨B,3,none⟩=some v3/\W.cell? ⟨B,4,none⟩=some v4:=⟨h 0 Zc,h 1 Zc,h 2 Zc,h 3 Zc,h 4 Zc⟩
theorem rZ{W:World}{B:Nat}{v0 v1 v2 v3 v4 v5:Value}{l:List Value}(h:D4 W B (v0::v1::v2::v3::v4::v5::l)):W.cell? ⟨B,0,none⟩=some v0/\W.cell? ⟨B,1,none⟩=some v1/\W.cell? ⟨B,2,none⟩=some v2/\W.cell? ⟨B,3,none⟩=some v3/\W.cell? ⟨B,4,none⟩=some v4/\W.cell? ⟨B,5,none⟩=some v5:=⟨h 0 Zc,h 1 Zc,h 2 Zc,h 3 Zc,h 4 Zc,h 5 Zc⟩
theorem oB{W:World}{B:Nat}{v0 v1 v2 v3 v4 v5 v6:Value}{l:List Value}(h:D4 W B (v0::v1::v2::v3::v4::v5::v6::l)):W.cell? ⟨B,0,none⟩=some v0/\W.cell? ⟨B,1,none⟩=some v1/\W.cell? ⟨B,2,none⟩=some v2/\W.cell? ⟨B,3,none⟩=some v3/\W.cell? ⟨B,4,none⟩=some v4/\W.cell? ⟨B,5,none⟩=some v5/\W.cell? ⟨B,6,none⟩=some v6:=⟨h 0 Zc,h 1 Zc,h 2 Zc,h 3 Zc,h 4 Zc,h 5 Zc,h 6 Zc⟩
theorem D4.below{W W':World}{B n:Nat}{c:List Value}(h:D4 W B c)(hb:Below n W W')(hB:B<n):D4 W' B c:=λj hj=>(hb.cell (p:=⟨B,j,none⟩) hB).trans (h j hj)
theorem D4.frP{W W':World}{B:Nat}{c:List Value}{P:Nat->Prop}(h:D4 W B c)(hf:AB P W W')(hB:B<W.1.size)(hp:¬P B):D4 W' B c:=λj hj=>(hf.cell (p:=⟨B,j,none⟩) hB hp).trans (h j hj)
def E9 (co:Int)(x:Bk)(ve:Int)(a1 a2 a3:OA)(c1 c2 c3:Nat):List Value:=[.i co,.i x.now,.i x.floor,.l a1 x.on c1,.l a2 x.hn c2,.l a3 x.tn c3,.i ve]
theorem YS{W:World}{B:Nat}{co ve:Int}{x:Bk}{a1 a2 a3:OA}{c1 c2 c3:Nat}(h:D4 W B (E9 co x ve a1 a2 a3 c1 c2 c3)):W.cell? ⟨B,0,none⟩=some (.i co)/\W.cell? ⟨B,1,none⟩=some (.i x.now)/\W.cell? ⟨B,2,none⟩=some (.i x.floor)/\W.cell? ⟨B,3,none⟩=some (.slice a1 x.on c1)/\W.cell? ⟨B,4,none⟩=some (.slice a2 x.hn c2)/\W.cell? ⟨B,5,none⟩=some (.slice a3 x.tn c3)/\W.cell? ⟨B,6,none⟩=some (.i ve):=⟨h 0 (by simp[E9]),h 1 (by simp[E9]),h 2 (by simp[E9]),h 3 (by simp[E9]),h 4 (by simp[E9]),h 5 (by simp[E9]),h 6 (by simp[E9])⟩
theorem DS.frP{W W':World}{B:Nat}{c:Array Value}{P:Nat->Prop}(h:DS W B c)(hf:AB P W W')(hB:B<W.1.size)(hp:¬P B):DS W' B c:=λi=>(hf.cell (p:=⟨B,i,none⟩) hB hp).trans (h i)
structure DL (W:World)(s0:Nat)(x:Bk)(v:Wr)(a1 a2 a3:OA)(c1 c2 c3:Nat)(co:Int)(y:Bk)(ve:Int)(n1 n2 zw zx zg:Nat)(b1 b2 b3:OA)(e1 e2 e3:Nat)(p:Pl)(d1 d2 d3:Nat)(g:Pl)(f1 f2 f3:Nat)(xm ym:Bk):Prop where
 bx:DS W s0 (Er x a1 a2 a3 c1 c2 c3)bv:DS W (s0+1) (cO v)arg:B7 W 0 s0 x a1 a2 a3
 vw:D4 W zw (E9 co y ve b1 b2 b3 e1 e2 e3)ww:B7 W 0 n1 y b1 b2 b3
 vx:DS W zx (Er x p.a1 p.a2 p.a3 d1 d2 d3)xx:Kr W xm p
 xb:∀q,Ot p xm q->n1<=q/\q<zx
 vg:D4 W zg (E9 co y ve g.a1 g.a2 g.a3 f1 f2 f3)gg:Kr W ym g
 gb:∀q,Ot g ym q->n2<=q/\¬q=zg
 o0:s0+1<n1
 o1:zw<n1
 o2:n1<=zx
 o3:zx<n2
 o5:n2<=zg
 o4:zg<W.1.size
section
variable {W W':World} {s0:Nat} {x:Bk} {v:Wr} {a1 a2 a3:OA} {c1 c2 c3:Nat} {co:Int} {y:Bk} {ve:Int} {n1 n2 zw zx zg:Nat} {b1 b2 b3:OA} {e1 e2 e3:Nat} {p:Pl} {d1 d2 d3:Nat} {g:Pl} {f1 f2 f3:Nat} {xm ym:Bk}
theorem DL.below (h:DL W s0 x v a1 a2 a3 c1 c2 c3 co y ve n1 n2 zw zx zg b1 b2 b3 e1 e2 e3 p d1 d2 d3 g f1 f2 f3 xm ym)(hb:Below W.1.size W W'):DL W' s0 x v a1 a2 a3 c1 c2 c3 co y ve n1 n2 zw zx zg b1 b2 b3 e1 e2 e3 p d1 d2 d3 g f1 f2 f3 xm ym:=by have h0:=h.o0;have h1:=h.o1;have h5:=h.o5;have h2:=h.o2;have h3:=h.o3;have h4:=h.o4;exact⟨h.bx.below hb Zb,h.bv.below hb Zb,h.arg.below hb Zb,h.vw.below hb Zb,h.ww.below hb Zb,h.vx.below hb Zb,h.xx.grow hb,h.xb,h.vg.below hb Zb,h.gg.grow hb,h.gb,h0,h1,h2,h3,h5,Ad h4 hb.size⟩
end
end Go.Proofs.YtofencldleijcaaGreat
namespace Go.Proofs.YtofencldleijcaaGreat
open Go.RowKit Go.Maps Go.Proofs.Tryz
theorem B7.grow{w w':World}{lo:Nat}{x:Bk}{a1 a2 a3:OA}(h:B7 w lo w.1.size x a1 a2 a3)(hb:Below w.1.size w w'):B7 w' lo w'.1.size x a1 a2 a3:=(h.below hb Bg).upTo hb.size
theorem KR{w:World}{z b j:Nat}{s:ByteArray}(hn:∀j s,¬w.cell? ⟨z,j,none⟩=some (.s s))(h:w.cell? ⟨b,j,none⟩=some (.s s)):¬b=z:=λe=>by subst e;exact hn _ _ h
theorem B7.box{w w':World}{lo hi z:Nat}{x:Bk}{a1 a2 a3:OA}(h:B7 w lo hi x a1 a2 a3)(hf:AB (λq=>q=z) w w')(hn:∀j s,¬w.cell? ⟨z,j,none⟩=some (.s s))(hz:hi<=w.1.size):B7 w' lo hi x a1 a2 a3:=by
 have cc:∀{b j u},¬b=z->b<w.1.size->w.cell? ⟨b,j,none⟩=some u->w'.cell? ⟨b,j,none⟩=some u:=λ{b j u}h1 h2 h3=>(hf.cell (p:=⟨b,j,none⟩) h2 h1).trans h3;have ss:∀{ad n s},Ax w lo hi ad n s->Ax w' lo hi ad n s:=λ{ad n s}h i hi=>by obtain⟨b,off,e1,e2,e3,e4⟩:=h i hi;exact⟨b,off,e1,e2,e3,cc (KR hn e4) Zb e4⟩
 exact⟨λi h'=>by obtain⟨b,off,ah,ch,e1,e2,e3,e4,e5⟩:=h.o i h';have c:∀{j u},w.cell? ⟨b,j,none⟩=some u->w'.cell? ⟨b,j,none⟩=some u:=λq=>cc (KR hn e4.c0) Zb q;exact⟨b,off,ah,ch,e1,e2,e3,⟨c e4.c0,c e4.c1,c e4.c2,c e4.c3,c e4.c4,c e4.c5,c e4.c6⟩,ss e5⟩,λi h'=>by obtain⟨b,off,ah,ch,e1,e2,e3,e4,e5⟩:=h.h i h';have c:∀{j u},w.cell? ⟨b,j,none⟩=some u->w'.cell? ⟨b,j,none⟩=some u:=λq=>cc (KR hn e4.c2) Zb q;exact⟨b,off,ah,ch,e1,e2,e3,⟨c e4.c0,c e4.c1,c e4.c2,c e4.c3,c e4.c4,c e4.c5,c e4.c6,c e4.c7,c e4.c8⟩,ss e5⟩,λi h'=>by obtain⟨b,off,e1,e2,e3,e4⟩:=h.t i h';have c:∀{j u},w.cell? ⟨b,j,none⟩=some u->w'.cell? ⟨b,j,none⟩=some u:=λq=>cc (KR hn e4.c0) Zb q;exact⟨b,off,e1,e2,e3,⟨c e4.c0,c e4.c1,c e4.c2,c e4.c3,c e4.c4⟩⟩⟩
def XG:List Value:=[.i 0,.i 0,.i 0,.l none 0 0,.l none 0 0,.l none 0 0,.i 0]
structure Bx (w:World)(z:Nat):Prop where row:AM w z 7 (A7 XG)no:∀j s,¬w.cell? ⟨z,j,none⟩=some (.s s)
theorem Bx.grow{w w':World}{z:Nat}(h:Bx w z)(hb:Below w.1.size w w'):Bx w' z:=⟨h.row.below hb h.row.lt,λj s e=>h.no j s (by rw[<-hb.cell (p:=⟨z,j,none⟩) h.row.lt];exact e)⟩
theorem YG (w:World):Bx (w.alloc (.cells #[.i 0,.i 0,.i 0,.l none 0 0,.l none 0 0,.l none 0 0,.i 0] 33)) w.1.size:=⟨AM.new (l:=XG) (t:=33) Ck,λj s e=>by rw[Ao]at e;match j,e with
  |0,e=>cases e
  |1,e=>cases e
  |2,e=>cases e
  |3,e=>cases e
  |4,e=>cases e
  |5,e=>cases e
  |6,e=>cases e
  |n+7,e=>simp at e⟩
theorem UB{w:World}{z:Nat}(v0 v1 v2 v3 v4 v5 v6:Value):AB (λq=>q=z) w (((((((w.setCell ⟨z,0,none⟩ v0).setCell ⟨z,1,none⟩ v1).setCell ⟨z,2,none⟩ v2).setCell ⟨z,3,none⟩ v3).setCell ⟨z,4,none⟩ v4).setCell ⟨z,5,none⟩ v5).setCell ⟨z,6,none⟩ v6):=(((((((AB.refl (λq=>q=z) w).setCell (p:=⟨z,0,none⟩) rfl v0).setCell (p:=⟨z,1,none⟩) rfl v1).setCell (p:=⟨z,2,none⟩) rfl v2).setCell (p:=⟨z,3,none⟩) rfl v3).setCell (p:=⟨z,4,none⟩) rfl v4).setCell (p:=⟨z,5,none⟩) rfl v5).setCell (p:=⟨z,6,none⟩) rfl v6
end Go.Proofs.YtofencldleijcaaGreat
