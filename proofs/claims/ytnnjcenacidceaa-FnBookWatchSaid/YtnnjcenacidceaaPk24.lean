import Derived.Test.YtnnjcenacidceaaPk22
import Derived.Test.YtnnjcenacidceaaPk23
import Derived.Test.YtnnjcenacidceaaPk12
import Derived.Test.YtnnjcenacidceaaPk03
import Derived.ProofKit
import Derived.SizedLaws
import Derived.Deep.Slices
import Derived.Deep.Strs
import Derived.Test.YtnnjcenacidceaaPk21
import Derived.Test.YtnnjcenacidceaaPk11
import Derived.Test.YtnnjcenacidceaaPk16
set_option maxRecDepth 100000
namespace Go.Proofs.Ytnnjcenacidceaa
open Go.RowKit Go.Maps Go.Proofs.Try
end Go.Proofs.Ytnnjcenacidceaa
namespace Go.Proofs.Ytnnjcenacidceaa
open Go.ChangeShapes Go.WideShapes Go.ChangeAt Go.RowKit Go.Deep Go.Proofs.Try
end Go.Proofs.Ytnnjcenacidceaa
namespace Go.Proofs.Ytnnjcenacidceaa
open Go.RowKit Go.Maps Go.Proofs.Try
theorem BF.upTo{w:World}{lo hi hi':Nat}{x:Bk}{a1 a2 a3:OA}(h:BF w lo hi x a1 a2 a3)(hh:hi<=hi'):BF w lo hi' x a1 a2 a3:=⟨λi h'=>by obtain⟨b,off,ah,ch,e1,e2,e3,e4,e5⟩:=h.o i h';refine⟨b,off,ah,ch,e1,e2,Za,e4,λj hj=>?_⟩;obtain⟨b',off',g1,g2,g3,g4⟩:=e5 j hj;exact⟨b',off',g1,g2,Za,g4⟩,λi h'=>by obtain⟨b,off,ah,ch,e1,e2,e3,e4,e5⟩:=h.h i h';refine⟨b,off,ah,ch,e1,e2,Za,e4,λj hj=>?_⟩;obtain⟨b',off',g1,g2,g3,g4⟩:=e5 j hj;exact⟨b',off',g1,g2,Za,g4⟩,λi h'=>by obtain⟨b,off,e1,e2,e3,e4⟩:=h.t i h';exact⟨b,off,e1,e2,Za,e4⟩⟩
def K3 (W:World)(B:Nat)(c:List Value):Prop:=∀j,j<c.length->W.cell? ⟨B,j,none⟩=some (AR c j)
theorem jI{W:World}{B:Nat}{v0 v1:Value}{l:List Value}(h:K3 W B (v0::v1::l)):W.cell? ⟨B,0,none⟩=some v0/\W.cell? ⟨B,1,none⟩=some v1:=⟨h 0 Zc,h 1 Zc⟩
theorem Up{W:World}{B:Nat}{v0 v1 v2:Value}{l:List Value}(h:K3 W B (v0::v1::v2::l)):W.cell? ⟨B,0,none⟩=some v0/\W.cell? ⟨B,1,none⟩=some v1/\W.cell? ⟨B,2,none⟩=some v2:=⟨h 0 Zc,h 1 Zc,h 2 Zc⟩
theorem uI{W:World}{B:Nat}{v0 v1 v2 v3:Value}{l:List Value}(h:K3 W B (v0::v1::v2::v3::l)):W.cell? ⟨B,0,none⟩=some v0/\W.cell? ⟨B,1,none⟩=some v1/\W.cell? ⟨B,2,none⟩=some v2/\W.cell? ⟨B,3,none⟩=some v3:=⟨h 0 Zc,h 1 Zc,h 2 Zc,h 3 Zc⟩
theorem S4{W:World}{B:Nat}{v0 v1 v2 v3 v4:Value}{l:List Value}(h:K3 W B (v0::v1::v2::v3::v4::l)):W.cell? ⟨B,0,none⟩=some v0/\W.cell? ⟨B,1,none⟩=some v1/\W.cell? ⟨B,2,none⟩=some v2/\W.cell? ⟨B,3,none⟩=some v3/\W.cell? ⟨B,4,none⟩=some v4:=⟨h 0 Zc,h 1 Zc,h 2 Zc,h 3 Zc,h 4 Zc⟩
theorem de{W:World}{B:Nat}{v0 v1 v2 v3 v4 v5:Value}{l:List Value}(h:K3 W B (v0::v1::v2::v3::v4::v5::l)):W.cell? ⟨B,0,none⟩=some v0/\W.cell? ⟨B,1,none⟩=some v1/\W.cell? ⟨B,2,none⟩=some v2/\W.cell? ⟨B,3,none⟩=some v3/\W.cell? ⟨B,4,none⟩=some v4/\W.cell? ⟨B,5,none⟩=some v5:=⟨h 0 Zc,h 1 Zc,h 2 Zc,h 3 Zc,h 4 Zc,h 5 Zc⟩
theorem wT{W:World}{B:Nat}{v0 v1 v2 v3 v4 v5 v6:Value}{l:List Value}(h:K3 W B (v0::v1::v2::v3::v4::v5::v6::l)):W.cell? ⟨B,0,none⟩=some v0/\W.cell? ⟨B,1,none⟩=some v1/\W.cell? ⟨B,2,none⟩=some v2/\W.cell? ⟨B,3,none⟩=some v3/\W.cell? ⟨B,4,none⟩=some v4/\W.cell? ⟨B,5,none⟩=some v5/\W.cell? ⟨B,6,none⟩=some v6:=⟨h 0 Zc,h 1 Zc,h 2 Zc,h 3 Zc,h 4 Zc,h 5 Zc,h 6 Zc⟩
theorem K3.below{W W':World}{B n:Nat}{c:List Value}(h:K3 W B c)(hb:Below n W W')(hB:B<n):K3 W' B c:=λj hj=>(hb.cell (p:=⟨B,j,none⟩) hB).trans (h j hj)
def LJ (co:Int)(x:Bk)(ve:Int)(a1 a2 a3:OA)(c1 c2 c3:Nat):List Value:=[.i co,.i x.now,.i x.floor,.l a1 x.on c1,.l a2 x.hn c2,.l a3 x.tn c3,.i ve]
theorem iS{W:World}{B:Nat}{co ve:Int}{x:Bk}{a1 a2 a3:OA}{c1 c2 c3:Nat}(h:K3 W B (LJ co x ve a1 a2 a3 c1 c2 c3)):W.cell? ⟨B,0,none⟩=some (.i co)/\W.cell? ⟨B,1,none⟩=some (.i x.now)/\W.cell? ⟨B,2,none⟩=some (.i x.floor)/\W.cell? ⟨B,3,none⟩=some (.slice a1 x.on c1)/\W.cell? ⟨B,4,none⟩=some (.slice a2 x.hn c2)/\W.cell? ⟨B,5,none⟩=some (.slice a3 x.tn c3)/\W.cell? ⟨B,6,none⟩=some (.i ve):=⟨h 0 (by simp[LJ]),h 1 (by simp[LJ]),h 2 (by simp[LJ]),h 3 (by simp[LJ]),h 4 (by simp[LJ]),h 5 (by simp[LJ]),h 6 (by simp[LJ])⟩
section
variable {W W':World} {s0:Nat} {x:Bk} {v:Wr} {a1 a2 a3:OA} {c1 c2 c3:Nat} {co:Int} {y:Bk} {ve:Int} {n1 n2 zw zx zg:Nat} {b1 b2 b3:OA} {e1 e2 e3:Nat} {p:Pl} {d1 d2 d3:Nat} {g:Pl} {f1 f2 f3:Nat} {xm ym:Bk}
end
end Go.Proofs.Ytnnjcenacidceaa
namespace Go.Proofs.Ytnnjcenacidceaa
open Go.RowKit Go.Maps Go.Proofs.Try
theorem BF.grow{w w':World}{lo:Nat}{x:Bk}{a1 a2 a3:OA}(h:BF w lo w.1.size x a1 a2 a3)(hb:Below w.1.size w w'):BF w' lo w'.1.size x a1 a2 a3:=(h.below hb uK).upTo hb.size
theorem Oi{w:World}{z b j:Nat}{s:ByteArray}(hn:∀j s,¬w.cell? ⟨z,j,none⟩=some (.s s))(h:w.cell? ⟨b,j,none⟩=some (.s s)):¬b=z:=λe=>by subst e;exact hn _ _ h
theorem BF.box{w w':World}{lo hi z:Nat}{x:Bk}{a1 a2 a3:OA}(h:BF w lo hi x a1 a2 a3)(hf:Az (λq=>q=z) w w')(hn:∀j s,¬w.cell? ⟨z,j,none⟩=some (.s s))(hz:hi<=w.1.size):BF w' lo hi x a1 a2 a3:=by
 have cc:∀{b j u},¬b=z->b<w.1.size->w.cell? ⟨b,j,none⟩=some u->w'.cell? ⟨b,j,none⟩=some u:=λ{b j u}h1 h2 h3=>(hf.cell (p:=⟨b,j,none⟩) h2 h1).trans h3;have ss:∀{ad n s},AB w lo hi ad n s->AB w' lo hi ad n s:=λ{ad n s}h i hi=>by obtain⟨b,off,e1,e2,e3,e4⟩:=h i hi;exact⟨b,off,e1,e2,e3,cc (Oi hn e4) Za e4⟩
 exact⟨λi h'=>by obtain⟨b,off,ah,ch,e1,e2,e3,e4,e5⟩:=h.o i h';have c:∀{j u},w.cell? ⟨b,j,none⟩=some u->w'.cell? ⟨b,j,none⟩=some u:=λq=>cc (Oi hn e4.c0) Za q;exact⟨b,off,ah,ch,e1,e2,e3,⟨c e4.c0,c e4.c1,c e4.c2,c e4.c3,c e4.c4,c e4.c5,c e4.c6⟩,ss e5⟩,λi h'=>by obtain⟨b,off,ah,ch,e1,e2,e3,e4,e5⟩:=h.h i h';have c:∀{j u},w.cell? ⟨b,j,none⟩=some u->w'.cell? ⟨b,j,none⟩=some u:=λq=>cc (Oi hn e4.c2) Za q;exact⟨b,off,ah,ch,e1,e2,e3,⟨c e4.c0,c e4.c1,c e4.c2,c e4.c3,c e4.c4,c e4.c5,c e4.c6,c e4.c7,c e4.c8⟩,ss e5⟩,λi h'=>by obtain⟨b,off,e1,e2,e3,e4⟩:=h.t i h';have c:∀{j u},w.cell? ⟨b,j,none⟩=some u->w'.cell? ⟨b,j,none⟩=some u:=λq=>cc (Oi hn e4.c0) Za q;exact⟨b,off,e1,e2,e3,⟨c e4.c0,c e4.c1,c e4.c2,c e4.c3,c e4.c4⟩⟩⟩
def jA:List Value:=[.i 0,.i 0,.i 0,.l none 0 0,.l none 0 0,.l none 0 0,.i 0]
structure Bx (w:World)(z:Nat):Prop where row:AN w z 7 (AR jA)no:∀j s,¬w.cell? ⟨z,j,none⟩=some (.s s)
theorem Bx.grow{w w':World}{z:Nat}(h:Bx w z)(hb:Below w.1.size w w'):Bx w' z:=⟨h.row.below hb h.row.lt,λj s e=>h.no j s (by rw[<-hb.cell (p:=⟨z,j,none⟩) h.row.lt];exact e)⟩
theorem eY (w:World):Bx (w.alloc (.cells #[.i 0,.i 0,.i 0,.l none 0 0,.l none 0 0,.l none 0 0,.i 0] 111)) w.1.size:=⟨AN.new (l:=jA) (t:=111) EF,λj s e=>by rw[Ak]at e;match j,e with
  |0,e=>cases e
  |1,e=>cases e
  |2,e=>cases e
  |3,e=>cases e
  |4,e=>cases e
  |5,e=>cases e
  |6,e=>cases e
  |n+7,e=>simp at e⟩
theorem Yv{w:World}{z:Nat}(v0 v1 v2 v3 v4 v5 v6:Value):Az (λq=>q=z) w (((((((w.setCell ⟨z,0,none⟩ v0).setCell ⟨z,1,none⟩ v1).setCell ⟨z,2,none⟩ v2).setCell ⟨z,3,none⟩ v3).setCell ⟨z,4,none⟩ v4).setCell ⟨z,5,none⟩ v5).setCell ⟨z,6,none⟩ v6):=(((((((Az.refl (λq=>q=z) w).setCell (p:=⟨z,0,none⟩) rfl v0).setCell (p:=⟨z,1,none⟩) rfl v1).setCell (p:=⟨z,2,none⟩) rfl v2).setCell (p:=⟨z,3,none⟩) rfl v3).setCell (p:=⟨z,4,none⟩) rfl v4).setCell (p:=⟨z,5,none⟩) rfl v5).setCell (p:=⟨z,6,none⟩) rfl v6
end Go.Proofs.Ytnnjcenacidceaa
