import Derived.Test.YtdknjmgdgnmhjaaGreatPk13
import Derived.Test.YtdknjmgdgnmhjaaGreatPk14
import Derived.SizedLaws
import Derived.Deep.Slices
import Derived.Deep.Strs
set_option maxRecDepth 100000
namespace Go.Proofs.YtdknjmgdgnmhjaaGreat
open Go.RowKit Go.Maps Go.ChangeShapes Go.WideShapes Go.ChangeAt Go.Deep Go.Proofs.Tryz
variable {w w':World}{lo hi B z:Nat}{v0 v1 v2 v3 v4 v5:Value}{l c:List Value}
theorem BL.dn{lo':Nat}{x:Bk}{a1 a2 a3:OA}(h:BL w lo hi x a1 a2 a3)(hl:lo'<=lo):BL w lo' hi x a1 a2 a3:=⟨λi h'=>by obtain⟨b,off,ah,ch,e1,e2,e3,e4,e5⟩:=h.o i h';refine⟨b,off,ah,ch,e1,Za,e3,e4,λj hj=>?_⟩;obtain⟨b',off',g1,g2,g3,g4⟩:=e5 j hj;exact⟨b',off',g1,Za,g3,g4⟩,λi h'=>by obtain⟨b,off,ah,ch,e1,e2,e3,e4,e5⟩:=h.h i h';refine⟨b,off,ah,ch,e1,Za,e3,e4,λj hj=>?_⟩;obtain⟨b',off',g1,g2,g3,g4⟩:=e5 j hj;exact⟨b',off',g1,Za,g3,g4⟩,λi h'=>by obtain⟨b,off,e1,e2,e3,e4⟩:=h.t i h';exact⟨b,off,e1,Za,e3,e4⟩⟩
theorem BL.upTo{hi':Nat}{x:Bk}{a1 a2 a3:OA}(h:BL w lo hi x a1 a2 a3)(hh:hi<=hi'):BL w lo hi' x a1 a2 a3:=⟨λi h'=>by obtain⟨b,off,ah,ch,e1,e2,e3,e4,e5⟩:=h.o i h';refine⟨b,off,ah,ch,e1,e2,Za,e4,λj hj=>?_⟩;obtain⟨b',off',g1,g2,g3,g4⟩:=e5 j hj;exact⟨b',off',g1,g2,Za,g4⟩,λi h'=>by obtain⟨b,off,ah,ch,e1,e2,e3,e4,e5⟩:=h.h i h';refine⟨b,off,ah,ch,e1,e2,Za,e4,λj hj=>?_⟩;obtain⟨b',off',g1,g2,g3,g4⟩:=e5 j hj;exact⟨b',off',g1,g2,Za,g4⟩,λi h'=>by obtain⟨b,off,e1,e2,e3,e4⟩:=h.t i h';exact⟨b,off,e1,e2,Za,e4⟩⟩
def GB (W:World)(B:Nat)(c:List Value):Prop:=∀j,j<c.length->W.cell? ⟨B,j,none⟩=some (AV c j)
theorem jg{W:World}(h:GB W B (v0::v1::l)):W.cell? ⟨B,0,none⟩=some v0/\W.cell? ⟨B,1,none⟩=some v1:=⟨h 0 Ze,h 1 Ze⟩
theorem CH3{W:World}(h:GB W B (v0::v1::v2::l)):W.cell? ⟨B,0,none⟩=some v0/\W.cell? ⟨B,1,none⟩=some v1/\W.cell? ⟨B,2,none⟩=some v2:=⟨h 0 Ze,h 1 Ze,h 2 Ze⟩
theorem CH4{W:World}(h:GB W B (v0::v1::v2::v3::l)):W.cell? ⟨B,0,none⟩=some v0/\W.cell? ⟨B,1,none⟩=some v1/\W.cell? ⟨B,2,none⟩=some v2/\W.cell? ⟨B,3,none⟩=some v3:=⟨h 0 Ze,h 1 Ze,h 2 Ze,h 3 Ze⟩
theorem zI{W:World}(h:GB W B (v0::v1::v2::v3::v4::l)):W.cell? ⟨B,0,none⟩=some v0/\W.cell? ⟨B,1,none⟩=some v1/\W.cell? ⟨B,2,none⟩=some v2/\W.cell? ⟨B,3,none⟩=some v3/\W.cell? ⟨B,4,none⟩=some v4:=⟨h 0 Ze,h 1 Ze,h 2 Ze,h 3 Ze,h 4 Ze⟩
theorem CH6{W:World}(h:GB W B (v0::v1::v2::v3::v4::v5::l)):W.cell? ⟨B,0,none⟩=some v0/\W.cell? ⟨B,1,none⟩=some v1/\W.cell? ⟨B,2,none⟩=some v2/\W.cell? ⟨B,3,none⟩=some v3/\W.cell? ⟨B,4,none⟩=some v4/\W.cell? ⟨B,5,none⟩=some v5:=⟨h 0 Ze,h 1 Ze,h 2 Ze,h 3 Ze,h 4 Ze,h 5 Ze⟩
theorem CH7{W:World}{v6:Value}(h:GB W B (v0::v1::v2::v3::v4::v5::v6::l)):W.cell? ⟨B,0,none⟩=some v0/\W.cell? ⟨B,1,none⟩=some v1/\W.cell? ⟨B,2,none⟩=some v2/\W.cell? ⟨B,3,none⟩=some v3/\W.cell? ⟨B,4,none⟩=some v4/\W.cell? ⟨B,5,none⟩=some v5/\W.cell? ⟨B,6,none⟩=some v6:=⟨h 0 Ze,h 1 Ze,h 2 Ze,h 3 Ze,h 4 Ze,h 5 Ze,h 6 Ze⟩
theorem GB.below{W W':World}{n:Nat}(h:GB W B c)(hb:Below n W W')(hB:B<n):GB W' B c:=λj hj=>(hb.cell (p:=⟨B,j,none⟩) hB).trans (h j hj)
def QH (co:Int)(x:Bk)(ve:Int)(a1 a2 a3:OA)(c1 c2 c3:Nat):List Value:=[.i co,.i x.v,.i x.f,.l a1 x.on c1,.l a2 x.hn c2,.l a3 x.tn c3,.i ve]
theorem xE{W:World}{co ve:Int}{x:Bk}{a1 a2 a3:OA}{c1 c2 c3:Nat}(h:GB W B (QH co x ve a1 a2 a3 c1 c2 c3)):W.cell? ⟨B,0,none⟩=some (.i co)/\W.cell? ⟨B,1,none⟩=some (.i x.v)/\W.cell? ⟨B,2,none⟩=some (.i x.f)/\W.cell? ⟨B,3,none⟩=some (.slice a1 x.on c1)/\W.cell? ⟨B,4,none⟩=some (.slice a2 x.hn c2)/\W.cell? ⟨B,5,none⟩=some (.slice a3 x.tn c3)/\W.cell? ⟨B,6,none⟩=some (.i ve):=⟨h 0 Zbw,h 1 Zbw,h 2 Zbw,h 3 Zbw,h 4 Zbw,h 5 Zbw,h 6 Zbw⟩
section
variable {W W':World} {s0:Nat} {x:Bk} {v:Wr} {a1 a2 a3:OA} {c1 c2 c3:Nat} {co:Int} {y:Bk} {ve:Int} {n1 n2 zw zx zg:Nat} {b1 b2 b3:OA} {e1 e2 e3:Nat} {p:Pl} {d1 d2 d3:Nat} {g:Pl} {f1 f2 f3:Nat} {xm ym:Bk}
end
theorem BL.grow{x:Bk}{a1 a2 a3:OA}(h:BL w lo w.1.size x a1 a2 a3)(hb:Below w.1.size w w'):BL w' lo w'.1.size x a1 a2 a3:=(h.below hb A9).upTo hb.size
theorem OJ{b j:Nat}{s:ByteArray}(hn:∀j s,¬w.cell? ⟨z,j,none⟩=some (.s s))(h:w.cell? ⟨b,j,none⟩=some (.s s)):¬b=z:=λe=>by subst e;exact hn _ _ h
theorem BL.box{x:Bk}{a1 a2 a3:OA}(h:BL w lo hi x a1 a2 a3)(hf:AB (λq=>q=z) w w')(hn:∀j s,¬w.cell? ⟨z,j,none⟩=some (.s s))(hz:hi<=w.1.size):BL w' lo hi x a1 a2 a3:=by
 have cc:∀{b j u},¬b=z->b<w.1.size->w.cell? ⟨b,j,none⟩=some u->w'.cell? ⟨b,j,none⟩=some u:=λ{b j u}h1 h2 h3=>(hf.cell (p:=⟨b,j,none⟩) h2 h1).trans h3;have ss:∀{ad n s},AK w lo hi ad n s->AK w' lo hi ad n s:=λ{ad n s}h i hi=>by obtain⟨b,off,e1,e2,e3,e4⟩:=h i hi;exact⟨b,off,e1,e2,e3,cc (OJ hn e4) Za e4⟩
 exact⟨λi h'=>by obtain⟨b,off,ah,ch,e1,e2,e3,e4,e5⟩:=h.o i h';have c:∀{j u},w.cell? ⟨b,j,none⟩=some u->w'.cell? ⟨b,j,none⟩=some u:=λq=>cc (OJ hn e4.c0) Za q;exact⟨b,off,ah,ch,e1,e2,e3,⟨c e4.c0,c e4.c1,c e4.c2,c e4.c3,c e4.c4,c e4.c5,c e4.c6⟩,ss e5⟩,λi h'=>by obtain⟨b,off,ah,ch,e1,e2,e3,e4,e5⟩:=h.h i h';have c:∀{j u},w.cell? ⟨b,j,none⟩=some u->w'.cell? ⟨b,j,none⟩=some u:=λq=>cc (OJ hn e4.c2) Za q;exact⟨b,off,ah,ch,e1,e2,e3,⟨c e4.c0,c e4.c1,c e4.c2,c e4.c3,c e4.c4,c e4.c5,c e4.c6,c e4.c7,c e4.c8⟩,ss e5⟩,λi h'=>by obtain⟨b,off,e1,e2,e3,e4⟩:=h.t i h';have c:∀{j u},w.cell? ⟨b,j,none⟩=some u->w'.cell? ⟨b,j,none⟩=some u:=λq=>cc (OJ hn e4.c0) Za q;exact⟨b,off,e1,e2,e3,⟨c e4.c0,c e4.c1,c e4.c2,c e4.c3,c e4.c4⟩⟩⟩
def jc:List Value:=[.i 0,.i 0,.i 0,.l none 0 0,.l none 0 0,.l none 0 0,.i 0]
structure Bx (w:World)(z:Nat):Prop where row:AE w z 7 (AV jc)no:∀j s,¬w.cell? ⟨z,j,none⟩=some (.s s)
theorem Bx.grow (h:Bx w z)(hb:Below w.1.size w w'):Bx w' z:=⟨h.row.below hb h.row.lt,λj s e=>h.no j s (by rw[<-hb.cell (p:=⟨z,j,none⟩) h.row.lt];exact e)⟩
theorem aq (w:World):Bx (w.alloc (.cells #[.i 0,.i 0,.i 0,.l none 0 0,.l none 0 0,.l none 0 0,.i 0] 73)) w.1.size:=⟨AE.new (l:=jc) (t:=73) Dx,λj s e=>by rw[Al]at e;match j,e with
  |0,e=>cases e
  |1,e=>cases e
  |2,e=>cases e
  |3,e=>cases e
  |4,e=>cases e
  |5,e=>cases e
  |6,e=>cases e
  |n+7,e=>simp at e⟩
theorem dq (v0 v1 v2 v3 v4 v5 v6:Value):AB (λq=>q=z) w (((((((w.setCell ⟨z,0,none⟩ v0).setCell ⟨z,1,none⟩ v1).setCell ⟨z,2,none⟩ v2).setCell ⟨z,3,none⟩ v3).setCell ⟨z,4,none⟩ v4).setCell ⟨z,5,none⟩ v5).setCell ⟨z,6,none⟩ v6):=(((((((AB.refl (λq=>q=z) w).setCell (p:=⟨z,0,none⟩) rfl v0).setCell (p:=⟨z,1,none⟩) rfl v1).setCell (p:=⟨z,2,none⟩) rfl v2).setCell (p:=⟨z,3,none⟩) rfl v3).setCell (p:=⟨z,4,none⟩) rfl v4).setCell (p:=⟨z,5,none⟩) rfl v5).setCell (p:=⟨z,6,none⟩) rfl v6
end Go.Proofs.YtdknjmgdgnmhjaaGreat
