import Derived.Test.YtnnjcenacidceaaGreatPk03
set_option maxRecDepth 100000
namespace Go.Proofs.YtnnjcenacidceaaGreat
open Go.RowKit Go.Proofs.Tryz
theorem Mh:(prog.info? 51).map (λi=>(i.zero,i.size,i.bytes))=some (some (.agg #[.s ByteArray.empty,.s ByteArray.empty,.i 0,.i 0,.s ByteArray.empty,.bool false,.l none 0 0]),7,96):=Ze
structure Lu (w:World)(g m:Nat):Prop where
 has:∀j,j<m->∃u,w.cell? ⟨g,j,none⟩=some u
 free:∀j,w.frozen? ⟨g,j,none⟩=false
 lt:g<w.1.size
theorem Lu.below{w w':World}{g m B:Nat}(h:Lu w g m)(hb:Below B w w')(hg:g<B):Lu w' g m:=by refine⟨λj hj=>?_,λj=>(hb.frozen (p:=⟨g,j,none⟩) hg).trans (h.free j),Ad h.lt hb.size⟩;obtain⟨u,hu⟩:=h.has j hj;exact⟨u,(hb.cell (p:=⟨g,j,none⟩) hg).trans hu⟩
theorem Hh (b:Nat):∀(vs:List Value)(o:Nat)(w:World),(w.setCells b o vs).1.size=w.1.size
 |[],_,_=>rfl
 |v::r,o,w=>by rw[World.setCells,Hh b r,Bv]
theorem Lu.setCells{w:World}{g m o:Nat}(h:Lu w g m)(vs:List Value)(ho:o+vs.length<=m):Lu (w.setCells g o vs) g m:=by
 refine⟨λj hj=>?_,λj=>by rw[Ly];exact h.free j,by rw[Hh];exact h.lt⟩;by_cases hj2:j<o\/o+vs.length<=j;.rw[K2 g vs o w _ (λ_ _=>hj2)];exact h.has j hj
 .obtain⟨i,rfl⟩:∃i,j=o+i:=⟨j-o,Za⟩;have hi:i<vs.length:=Za;exact⟨vs[i],E0 g vs o w (λj hj=>by obtain⟨u,hu⟩:=h.has (o+j) Za;rw[hu];rfl) i hi⟩
theorem EW (b:Nat):∀(vs:List Value)(o:Nat)(w:World),Fr b (b+1) w (w.setCells b o vs)
 |[],_,w=>Fr.refl _ _ w
 |v::r,o,w=>((Fr.refl b (b+1) w).setCell (p:=⟨b,o,none⟩) AQ (BE _) v).trans (EW b r (o+1) _)
structure Mq (w:World)(g hi n m:Nat)(x:Nat->Ob)(r:Nat->Nat):Prop where
 room:Lu w g (m*7)r0:g<r 0
 mono:∀i,i<n->r i<=r (i+1)rn:r n<=hi
 hi:hi<=w.1.size
 at_:∀i,i<n->∃ah ch,Eo w g (i*7) (x i) ah ch/\Bp w (r i) (r (i+1)) ah (x i).hn (x i).hs/\Lh w (x i).hn ah ch
theorem LJ{r:Nat->Nat}{n:Nat}(h:∀i,i<n->r i<=r (i+1)):∀{i j:Nat},i<=j->j<=n->r i<=r j:=by intro i j hij hj;induction j with
 |zero=>have:i=0:=Za;subst this;exact AG _
 |succ j ih=>
   rcases Aw j i with h1|h1;.have:i=j+1:=Za;subst this;exact AG _
   .exact AS (ih h1 Za) (h j Za)
theorem Eo.fr{w w':World}{b o:Nat}{x:Ob}{ad:OA}{cap:Nat}(h:Eo w b o x ad cap)(e:∀j,j<7->w'.cell? ⟨b,o+j,none⟩=w.cell? ⟨b,o+j,none⟩):Eo w' b o x ad cap:=⟨(e 0 Za).trans h.c0,(e 1 Za).trans h.c1,(e 2 Za).trans h.c2,(e 3 Za).trans h.c3,(e 4 Za).trans h.c4,(e 5 Za).trans h.c5,(e 6 Za).trans h.c6⟩
theorem KZ:(prog.info? 53).map (λi=>(i.zero,i.size,i.bytes))=some (some (.agg #[.i 0,.bool false,.s ByteArray.empty,.s ByteArray.empty,.i 0,.i 0,.s ByteArray.empty,.bool false,.l none 0 0]),9,112):=Ze
structure Mn (w:World)(g hi n m:Nat)(x:Nat->Ch)(r:Nat->Nat):Prop where
 room:Lu w g (m*9)r0:g<r 0
 mono:∀i,i<n->r i<=r (i+1)rn:r n<=hi
 hi:hi<=w.1.size
 at_:∀i,i<n->∃ah ch,C4 w g (i*9) (x i) ah ch/\Bp w (r i) (r (i+1)) ah (x i).ob.hn (x i).ob.hs
theorem C4.fr{w w':World}{b o:Nat}{x:Ch}{ad:OA}{cap:Nat}(h:C4 w b o x ad cap)(e:∀j,j<9->w'.cell? ⟨b,o+j,none⟩=w.cell? ⟨b,o+j,none⟩):C4 w' b o x ad cap:=⟨(e 0 Za).trans h.c0,(e 1 Za).trans h.c1,(e 2 Za).trans h.c2,(e 3 Za).trans h.c3,(e 4 Za).trans h.c4,(e 5 Za).trans h.c5,(e 6 Za).trans h.c6,(e 7 Za).trans h.c7,(e 8 Za).trans h.c8⟩
theorem KY:(prog.info? 58).map (λi=>(i.zero,i.size,i.bytes))=some (some (.agg #[.s ByteArray.empty,.i 0,.s ByteArray.empty,.i 0,.i 0]),5,56):=Ze
structure Mo (w:World)(g n m:Nat)(x:Nat->Ti):Prop where
 room:Lu w g (m*5)at_:∀i,i<n->MS w g (i*5) (x i)
theorem BO{w w1:World}{c0 c1 c2:Array Value}{t0 t1 t2:TypeId}(hb:Below (((w.alloc (.cells c0 t0)).alloc (.cells c1 t1)).alloc (.cells c2 t2)).1.size (((w.alloc (.cells c0 t0)).alloc (.cells c1 t1)).alloc (.cells c2 t2)) w1):(∀i,w1.cell? ⟨w.1.size,i,none⟩=c0[i]?)/\(∀i,w1.cell? ⟨w.1.size+1,i,none⟩=c1[i]?)/\(∀i,w1.cell? ⟨w.1.size+1+1,i,none⟩=c2[i]?)/\(∀i,w1.frozen? ⟨w.1.size+1,i,none⟩=false)/\(∀i,w1.frozen? ⟨w.1.size+1+1,i,none⟩=false):=by
 refine⟨λi=>?_,λi=>?_,λi=>?_,λi=>?_,λi=>?_⟩;.rw[hb.cell (p:=⟨w.1.size,i,none⟩) Zd];rw[As _ _ _ V8,As _ _ _ V8,CJ _ _ _ _ rfl]
 .rw[hb.cell (p:=⟨w.1.size+1,i,none⟩) Zc];rw[As _ _ _ Zc,CJ _ _ _ _ Zc]
 .rw[hb.cell (p:=⟨w.1.size+1+1,i,none⟩) Zc];rw[CJ _ _ _ _ Zc]
 .rw[hb.frozen (p:=⟨w.1.size+1,i,none⟩) Zc];rw[World.frozen?_alloc_past _ _ _ Zc,Lz _ _ _ _ Zc]
 .rw[hb.frozen (p:=⟨w.1.size+1+1,i,none⟩) Zc];rw[Lz _ _ _ _ Zc]
theorem Mq.fr{w w':World}{g hi n m lo2 hi2:Nat}{x:Nat->Ob}{r:Nat->Nat}(h:Mq w g hi n m x r)(hb:Fr lo2 hi2 w w')(ho:hi<=lo2\/hi2<=g):Mq w' g hi n m x r:=by
 have hg:g<hi:=Ad h.r0 (AS (LJ h.mono To AQ) h.rn);have hc:∀j,w'.cell? ⟨g,j,none⟩=w.cell? ⟨g,j,none⟩:=λj=>hb.cell (p:=⟨g,j,none⟩) (Ad hg h.hi) (by show g<_\/_<=g;omega);refine⟨⟨λj hj=>?_,λj=>(hb.frozen (p:=⟨g,j,none⟩) (Ad hg h.hi) (by show g<_\/_<=g;omega)).trans (h.room.free j),Ad h.room.lt hb.size⟩,h.r0,h.mono,h.rn,AS h.hi hb.size,λi hi'=>?_⟩;.obtain⟨u,hu⟩:=h.room.has j hj;exact⟨u,(hc j).trans hu⟩
 .obtain⟨ah,ch,c,s,cg⟩:=h.at_ i hi';have h1:r (i+1)<=hi:=AS (LJ h.mono Za AQ) h.rn;have h2:g<r i:=Ad h.r0 (LJ h.mono To Za);exact⟨ah,ch,c.fr (λj _=>hc _),s.fr hb (AS h1 h.hi) Za,cg.grow hb.size⟩
theorem Mn.fr{w w':World}{g hi n m lo2 hi2:Nat}{x:Nat->Ch}{r:Nat->Nat}(h:Mn w g hi n m x r)(hb:Fr lo2 hi2 w w')(ho:hi<=lo2\/hi2<=g):Mn w' g hi n m x r:=by
 have hg:g<hi:=Ad h.r0 (AS (LJ h.mono To AQ) h.rn);have hc:∀j,w'.cell? ⟨g,j,none⟩=w.cell? ⟨g,j,none⟩:=λj=>hb.cell (p:=⟨g,j,none⟩) (Ad hg h.hi) (by show g<_\/_<=g;omega);refine⟨⟨λj hj=>?_,λj=>(hb.frozen (p:=⟨g,j,none⟩) (Ad hg h.hi) (by show g<_\/_<=g;omega)).trans (h.room.free j),Ad h.room.lt hb.size⟩,h.r0,h.mono,h.rn,AS h.hi hb.size,λi hi'=>?_⟩;.obtain⟨u,hu⟩:=h.room.has j hj;exact⟨u,(hc j).trans hu⟩
 .obtain⟨ah,ch,c,s⟩:=h.at_ i hi';have h1:r (i+1)<=hi:=AS (LJ h.mono Za AQ) h.rn;have h2:g<r i:=Ad h.r0 (LJ h.mono To Za);exact⟨ah,ch,c.fr (λj _=>hc _),s.fr hb (AS h1 h.hi) Za⟩
theorem Mo.fr{w w':World}{g n m lo2 hi2:Nat}{x:Nat->Ti}(h:Mo w g n m x)(hb:Fr lo2 hi2 w w')(ho:g<lo2\/hi2<=g):Mo w' g n m x:=by
 have hc:∀j,w'.cell? ⟨g,j,none⟩=w.cell? ⟨g,j,none⟩:=λj=>hb.cell (p:=⟨g,j,none⟩) h.room.lt ho;refine⟨⟨λj hj=>?_,λj=>(hb.frozen (p:=⟨g,j,none⟩) h.room.lt ho).trans (h.room.free j),Ad h.room.lt hb.size⟩,λi hi'=>?_⟩;.obtain⟨u,hu⟩:=h.room.has j hj;exact⟨u,(hc j).trans hu⟩
 .have c:=h.at_ i hi';exact⟨(hc _).trans c.c0,(hc _).trans c.c1,(hc _).trans c.c2,(hc _).trans c.c3,(hc _).trans c.c4⟩
structure XY (w:World)(lo hi:Nat)(x:Bk)(g1 g2 g3:Nat):Prop where
 ob:∃h1 r1,Mq w g1 h1 x.on x.on x.os r1/\h1<=g2
 ch:∃h2 r2,Mn w g2 h2 x.hn x.hn x.hs r2/\h2<=g3
 ti:Mo w g3 x.tn x.tn x.ts
 glo:lo<=g1
 ghi:g3<hi
 gtop:hi<=w.1.size
end Go.Proofs.YtnnjcenacidceaaGreat
