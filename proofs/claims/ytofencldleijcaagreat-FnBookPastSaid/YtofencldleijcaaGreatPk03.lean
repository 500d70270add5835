import Derived.Test.YtofencldleijcaaGreatPk01
set_option maxRecDepth 100000
namespace Go.Proofs.YtofencldleijcaaGreat
open Go.RowKit Go.Proofs.Tryz
structure DT (w:World)(b o:Nat)(x:Ob)(ad:OA)(cap:Nat):Prop where c0:w.cell? ⟨b,o,none⟩=some (.s x.kind)c1:w.cell? ⟨b,o+1,none⟩=some (.s x.name)c2:w.cell? ⟨b,o+2,none⟩=some (.i x.ver)c3:w.cell? ⟨b,o+3,none⟩=some (.i x.born)c4:w.cell? ⟨b,o+4,none⟩=some (.s x.text)c5:w.cell? ⟨b,o+5,none⟩=some (.bool x.ending)c6:w.cell? ⟨b,o+6,none⟩=some (.slice ad x.hn cap)
def Bs (w:World)(lo hi:Nat)(ad:OA)(n:Nat)(x:Nat->Ob):Prop:=∀i,i<n->∃b off ah ch,ad=some ⟨b,off,none⟩/\lo<=b/\b<hi/\DT w b (off+i*7) (x i) ah ch/\Ax w lo hi ah (x i).hn (x i).hs
structure DD (x:Ob):Prop where
 k:(x.kind.size:Int)<=140737488355328
 n:(x.name.size:Int)<=140737488355328
 t:(x.text.size:Int)<=140737488355328
 h:(x.hn:Int)<=8796093022208
 s:∀i,i<x.hn->((x.hs i).size:Int)<=140737488355328
 v:(Lit.int .i64 x.ver).wf=true
structure Ch where
 ver:Int
 gone:Bool
 ob:Ob
structure Ti where
 client:ByteArray
 num:Int
 print:ByteArray
 code:Int
 ver:Int
abbrev vT (x:Ti):Array Value:=#[.s x.client,.i x.num,.s x.print,.i x.code,.i x.ver]
abbrev rX (x:Ti):List Value:=[.s x.client,.i x.num,.s x.print,.i x.code,.i x.ver]
structure Do (w:World)(b o:Nat)(x:Ch)(ad:OA)(cap:Nat):Prop where c0:w.cell? ⟨b,o,none⟩=some (.i x.ver)c1:w.cell? ⟨b,o+1,none⟩=some (.bool x.gone)c2:w.cell? ⟨b,o+2,none⟩=some (.s x.ob.kind)c3:w.cell? ⟨b,o+3,none⟩=some (.s x.ob.name)c4:w.cell? ⟨b,o+4,none⟩=some (.i x.ob.ver)c5:w.cell? ⟨b,o+5,none⟩=some (.i x.ob.born)c6:w.cell? ⟨b,o+6,none⟩=some (.s x.ob.text)c7:w.cell? ⟨b,o+7,none⟩=some (.bool x.ob.ending)c8:w.cell? ⟨b,o+8,none⟩=some (.slice ad x.ob.hn cap)
structure Jw (w:World)(b o:Nat)(x:Ti):Prop where c0:w.cell? ⟨b,o,none⟩=some (.s x.client)c1:w.cell? ⟨b,o+1,none⟩=some (.i x.num)c2:w.cell? ⟨b,o+2,none⟩=some (.s x.print)c3:w.cell? ⟨b,o+3,none⟩=some (.i x.code)c4:w.cell? ⟨b,o+4,none⟩=some (.i x.ver)
def Dr (w:World)(lo hi:Nat)(ad:OA)(n:Nat)(x:Nat->Ch):Prop:=∀i,i<n->∃b off ah ch,ad=some ⟨b,off,none⟩/\lo<=b/\b<hi/\Do w b (off+i*9) (x i) ah ch/\Ax w lo hi ah (x i).ob.hn (x i).ob.hs
def C5 (w:World)(lo hi:Nat)(ad:OA)(n:Nat)(x:Nat->Ti):Prop:=∀i,i<n->∃b off,ad=some ⟨b,off,none⟩/\lo<=b/\b<hi/\Jw w b (off+i*5) (x i)
structure T7 (x:Ti):Prop where
 c:(x.client.size:Int)<=140737488355328
 p:(x.print.size:Int)<=140737488355328
structure Bk where
 now:Int
 floor:Int
 on:Nat
 os:Nat->Ob
 hn:Nat
 hs:Nat->Ch
 tn:Nat
 ts:Nat->Ti
abbrev vB (x:Bk)(a b c:OA)(d e f:Nat):Array Value:=#[.i x.now,.i x.floor,.l a x.on d,.l b x.hn e,.l c x.tn f]
abbrev Mu (x:Bk)(a b c:OA)(d e f:Nat):List Value:=[.i x.now,.i x.floor,.l a x.on d,.l b x.hn e,.l c x.tn f]
structure Dm (x:Bk):Prop where
 o:(x.on:Int)<=1099511627776
 h:(x.hn:Int)<=1099511627776
 t:(x.tn:Int)<=1099511627776
 os:∀i,i<x.on->DD (x.os i)hs:∀i,i<x.hn->DD (x.hs i).ob
 ts:∀i,i<x.tn->T7 (x.ts i)
structure B7 (w:World)(lo hi:Nat)(x:Bk)(a1 a2 a3:OA):Prop where
 o:Bs w lo hi a1 x.on x.os
 h:Dr w lo hi a2 x.hn x.hs
 t:C5 w lo hi a3 x.tn x.ts
theorem DT.below{w w':World}{B b o:Nat}{x:Ob}{ad:OA}{cap:Nat}(h:DT w b o x ad cap)(hb:Below B w w')(hB:b<B):DT w' b o x ad cap:=have e:∀j,w'.cell? ⟨b,j,none⟩=w.cell? ⟨b,j,none⟩:=λj=>hb.cell (p:=⟨b,j,none⟩) hB
 ⟨(e _).trans h.c0,(e _).trans h.c1,(e _).trans h.c2,(e _).trans h.c3,(e _).trans h.c4,(e _).trans h.c5,(e _).trans h.c6⟩
theorem Do.below{w w':World}{B b o:Nat}{x:Ch}{ad:OA}{cap:Nat}(h:Do w b o x ad cap)(hb:Below B w w')(hB:b<B):Do w' b o x ad cap:=have e:∀j,w'.cell? ⟨b,j,none⟩=w.cell? ⟨b,j,none⟩:=λj=>hb.cell (p:=⟨b,j,none⟩) hB
 ⟨(e _).trans h.c0,(e _).trans h.c1,(e _).trans h.c2,(e _).trans h.c3,(e _).trans h.c4,(e _).trans h.c5,(e _).trans h.c6,(e _).trans h.c7,(e _).trans h.c8⟩
theorem Jw.below{w w':World}{B b o:Nat}{x:Ti}(h:Jw w b o x)(hb:Below B w w')(hB:b<B):Jw w' b o x:=have e:∀j,w'.cell? ⟨b,j,none⟩=w.cell? ⟨b,j,none⟩:=λj=>hb.cell (p:=⟨b,j,none⟩) hB
 ⟨(e _).trans h.c0,(e _).trans h.c1,(e _).trans h.c2,(e _).trans h.c3,(e _).trans h.c4⟩
theorem Bs.below{w w':World}{B lo hi:Nat}{ad:OA}{n:Nat}{x:Nat->Ob}(h:Bs w lo hi ad n x)(hb:Below B w w')(hB:hi<=B):Bs w' lo hi ad n x:=λi hi'=>by obtain⟨b,off,ah,ch,e1,e2,e3,e4,e5⟩:=h i hi';exact⟨b,off,ah,ch,e1,e2,e3,e4.below hb Zb,e5.below hb hB⟩
theorem Dr.below{w w':World}{B lo hi:Nat}{ad:OA}{n:Nat}{x:Nat->Ch}(h:Dr w lo hi ad n x)(hb:Below B w w')(hB:hi<=B):Dr w' lo hi ad n x:=λi hi'=>by obtain⟨b,off,ah,ch,e1,e2,e3,e4,e5⟩:=h i hi';exact⟨b,off,ah,ch,e1,e2,e3,e4.below hb Zb,e5.below hb hB⟩
theorem C5.below{w w':World}{B lo hi:Nat}{ad:OA}{n:Nat}{x:Nat->Ti}(h:C5 w lo hi ad n x)(hb:Below B w w')(hB:hi<=B):C5 w' lo hi ad n x:=λi hi'=>by obtain⟨b,off,e1,e2,e3,e4⟩:=h i hi';exact⟨b,off,e1,e2,e3,e4.below hb Zb⟩
theorem B7.below{w w':World}{B lo hi:Nat}{x:Bk}{a1 a2 a3:OA}(h:B7 w lo hi x a1 a2 a3)(hb:Below B w w')(hB:hi<=B):B7 w' lo hi x a1 a2 a3:=⟨h.o.below hb hB,h.h.below hb hB,h.t.below hb hB⟩
theorem An (w:World)(o:Obj):Below w.1.size w (w.alloc o):=(Al _ _).alloc Bg o
theorem As{w w1:World}{c:Array Value}{t:TypeId}(hb:Below (w.alloc (.cells c t)).1.size (w.alloc (.cells c t)) w1)(i:Nat):w1.cell? ⟨w.1.size,i,none⟩=c[i]?:=(hb.cell (p:=⟨w.1.size,i,none⟩) Zc).trans (Ao w c t i)
theorem Bd.fr{w w':World}{lo hi lo2 hi2:Nat}{ad:OA}{n:Nat}{s:Nat->ByteArray}(h:Bd w lo hi ad n s)(hb:Fr lo2 hi2 w w')(hw:hi<=w.1.size)(ho:hi<=lo2\/hi2<=lo):Bd w' lo hi ad n s:=λi hi'=>by obtain⟨b,off,e1,e2,e3,e4,e5⟩:=h i hi';exact⟨b,off,e1,e2,e3,(hb.cell (p:=⟨b,off+i,none⟩) (Ad e3 hw) (by show b<_\/_<=b;omega)).trans e4,(hb.frozen (p:=⟨b,off+i,none⟩) (Ad e3 hw) (by show b<_\/_<=b;omega)).trans e5⟩
theorem Bd.mono{w:World}{lo hi lo2 hi2:Nat}{ad:OA}{n:Nat}{s:Nat->ByteArray}(h:Bd w lo hi ad n s)(h1:lo2<=lo)(h2:hi<=hi2):Bd w lo2 hi2 ad n s:=λi hi'=>by obtain⟨b,off,e1,e2,e3,e4,e5⟩:=h i hi';exact⟨b,off,e1,Zb,Zb,e4,e5⟩
theorem Bi (w:World)(a:Addr)(v:Value):(w.setCell a v).1.size=w.1.size:=by simp[World.setCell]
theorem GB:(prog.info? 61).map (λi=>(i.zero,i.size,i.bytes))=some (some (.agg #[.s ByteArray.empty,.s ByteArray.empty,.i 0,.i 0,.s ByteArray.empty,.bool false,.l none 0 0]),7,96):=Ze
structure Fk (w:World)(g m:Nat):Prop where
 has:∀j,j<m->∃u,w.cell? ⟨g,j,none⟩=some u
 free:∀j,w.frozen? ⟨g,j,none⟩=false
 lt:g<w.1.size
theorem Fk.below{w w':World}{g m B:Nat}(h:Fk w g m)(hb:Below B w w')(hg:g<B):Fk w' g m:=by refine⟨λj hj=>?_,λj=>(hb.frozen (p:=⟨g,j,none⟩) hg).trans (h.free j),Ad h.lt hb.size⟩;obtain⟨u,hu⟩:=h.has j hj;exact⟨u,(hb.cell (p:=⟨g,j,none⟩) hg).trans hu⟩
theorem Ey (b:Nat):∀(vs:List Value)(o:Nat)(w:World),(w.setCells b o vs).1.size=w.1.size
 |[],_,_=>rfl
 |v::r,o,w=>by rw[World.setCells,Ey b r,Bi]
theorem Fk.setCells{w:World}{g m o:Nat}(h:Fk w g m)(vs:List Value)(ho:o+vs.length<=m):Fk (w.setCells g o vs) g m:=by
 refine⟨λj hj=>?_,λj=>by rw[Fq];exact h.free j,by rw[Ey];exact h.lt⟩;by_cases hj2:j<o\/o+vs.length<=j;.rw[ET g vs o w _ (λ_ _=>hj2)];exact h.has j hj
 .obtain⟨i,rfl⟩:∃i,j=o+i:=⟨j-o,Zb⟩;have hi:i<vs.length:=Zb;exact⟨vs[i],DX g vs o w (λj hj=>by obtain⟨u,hu⟩:=h.has (o+j) Zb;rw[hu];rfl) i hi⟩
theorem Fv (b:Nat):∀(vs:List Value)(o:Nat)(w:World),Fr b (b+1) w (w.setCells b o vs)
 |[],_,w=>Fr.refl _ _ w
 |v::r,o,w=>((Fr.refl b (b+1) w).setCell (p:=⟨b,o,none⟩) Bg (Bj _) v).trans (Fv b r (o+1) _)
structure Hh (w:World)(g hi n m:Nat)(x:Nat->Ob)(r:Nat->Nat):Prop where
 room:Fk w g (m*7)r0:g<r 0
 mono:∀i,i<n->r i<=r (i+1)rn:r n<=hi
 hi:hi<=w.1.size
 at_:∀i,i<n->∃ah ch,DT w g (i*7) (x i) ah ch/\Bd w (r i) (r (i+1)) ah (x i).hn (x i).hs/\E4 w (x i).hn ah ch
theorem FN{r:Nat->Nat}{n:Nat}(h:∀i,i<n->r i<=r (i+1)):∀{i j:Nat},i<=j->j<=n->r i<=r j:=by intro i j hij hj;induction j with
 |zero=>have:i=0:=Zb;subst this;exact Az _
 |succ j ih=>
   rcases At j i with h1|h1;.have:i=j+1:=Zb;subst this;exact Az _
   .exact AG (ih h1 Zb) (h j Zb)
theorem DT.fr{w w':World}{b o:Nat}{x:Ob}{ad:OA}{cap:Nat}(h:DT w b o x ad cap)(e:∀j,j<7->w'.cell? ⟨b,o+j,none⟩=w.cell? ⟨b,o+j,none⟩):DT w' b o x ad cap:=⟨(e 0 Zb).trans h.c0,(e 1 Zb).trans h.c1,(e 2 Zb).trans h.c2,(e 3 Zb).trans h.c3,(e 4 Zb).trans h.c4,(e 5 Zb).trans h.c5,(e 6 Zb).trans h.c6⟩
theorem IK:(prog.info? 63).map (λi=>(i.zero,i.size,i.bytes))=some (some (.agg #[.i 0,.bool false,.s ByteArray.empty,.s ByteArray.empty,.i 0,.i 0,.s ByteArray.empty,.bool false,.l none 0 0]),9,112):=Ze
structure Hg (w:World)(g hi n m:Nat)(x:Nat->Ch)(r:Nat->Nat):Prop where
 room:Fk w g (m*9)r0:g<r 0
 mono:∀i,i<n->r i<=r (i+1)rn:r n<=hi
 hi:hi<=w.1.size
 at_:∀i,i<n->∃ah ch,Do w g (i*9) (x i) ah ch/\Bd w (r i) (r (i+1)) ah (x i).ob.hn (x i).ob.hs
theorem Do.fr{w w':World}{b o:Nat}{x:Ch}{ad:OA}{cap:Nat}(h:Do w b o x ad cap)(e:∀j,j<9->w'.cell? ⟨b,o+j,none⟩=w.cell? ⟨b,o+j,none⟩):Do w' b o x ad cap:=⟨(e 0 Zb).trans h.c0,(e 1 Zb).trans h.c1,(e 2 Zb).trans h.c2,(e 3 Zb).trans h.c3,(e 4 Zb).trans h.c4,(e 5 Zb).trans h.c5,(e 6 Zb).trans h.c6,(e 7 Zb).trans h.c7,(e 8 Zb).trans h.c8⟩
theorem G9:(prog.info? 117).map (λi=>(i.zero,i.size,i.bytes))=some (some (.agg #[.s ByteArray.empty,.i 0,.s ByteArray.empty,.i 0,.i 0]),5,56):=Ze
structure Hc (w:World)(g n m:Nat)(x:Nat->Ti):Prop where
 room:Fk w g (m*5)at_:∀i,i<n->Jw w g (i*5) (x i)
theorem BQ{w w1:World}{c0 c1 c2:Array Value}{t0 t1 t2:TypeId}(hb:Below (((w.alloc (.cells c0 t0)).alloc (.cells c1 t1)).alloc (.cells c2 t2)).1.size (((w.alloc (.cells c0 t0)).alloc (.cells c1 t1)).alloc (.cells c2 t2)) w1):(∀i,w1.cell? ⟨w.1.size,i,none⟩=c0[i]?)/\(∀i,w1.cell? ⟨w.1.size+1,i,none⟩=c1[i]?)/\(∀i,w1.cell? ⟨w.1.size+1+1,i,none⟩=c2[i]?)/\(∀i,w1.frozen? ⟨w.1.size+1,i,none⟩=false)/\(∀i,w1.frozen? ⟨w.1.size+1+1,i,none⟩=false):=by
 refine⟨λi=>?_,λi=>?_,λi=>?_,λi=>?_,λi=>?_⟩;.rw[hb.cell (p:=⟨w.1.size,i,none⟩) Zd];rw[Aq _ _ _ (by simp;try omega),Aq _ _ _ (by simp;try omega),Gk _ _ _ _ rfl]
 .rw[hb.cell (p:=⟨w.1.size+1,i,none⟩) Zc];rw[Aq _ _ _ Zc,Gk _ _ _ _ Zc]
 .rw[hb.cell (p:=⟨w.1.size+1+1,i,none⟩) Zc];rw[Gk _ _ _ _ Zc]
 .rw[hb.frozen (p:=⟨w.1.size+1,i,none⟩) Zc];rw[World.frozen?_alloc_past _ _ _ Zc,IX _ _ _ _ Zc]
 .rw[hb.frozen (p:=⟨w.1.size+1+1,i,none⟩) Zc];rw[IX _ _ _ _ Zc]
theorem Hh.fr{w w':World}{g hi n m lo2 hi2:Nat}{x:Nat->Ob}{r:Nat->Nat}(h:Hh w g hi n m x r)(hb:Fr lo2 hi2 w w')(ho:hi<=lo2\/hi2<=g):Hh w' g hi n m x r:=by
 have hg:g<hi:=Ad h.r0 (AG (FN h.mono OM Bg) h.rn);have hc:∀j,w'.cell? ⟨g,j,none⟩=w.cell? ⟨g,j,none⟩:=λj=>hb.cell (p:=⟨g,j,none⟩) (Ad hg h.hi) (by show g<_\/_<=g;omega);refine⟨⟨λj hj=>?_,λj=>(hb.frozen (p:=⟨g,j,none⟩) (Ad hg h.hi) (by show g<_\/_<=g;omega)).trans (h.room.free j),Ad h.room.lt hb.size⟩,h.r0,h.mono,h.rn,AG h.hi hb.size,λi hi'=>?_⟩;.obtain⟨u,hu⟩:=h.room.has j hj;exact⟨u,(hc j).trans hu⟩
 .obtain⟨ah,ch,c,s,cg⟩:=h.at_ i hi';have h1:r (i+1)<=hi:=AG (FN h.mono Zb Bg) h.rn;have h2:g<r i:=Ad h.r0 (FN h.mono OM Zb);exact⟨ah,ch,c.fr (λj _=>hc _),s.fr hb (AG h1 h.hi) Zb,cg.grow hb.size⟩
theorem Hg.fr{w w':World}{g hi n m lo2 hi2:Nat}{x:Nat->Ch}{r:Nat->Nat}(h:Hg w g hi n m x r)(hb:Fr lo2 hi2 w w')(ho:hi<=lo2\/hi2<=g):Hg w' g hi n m x r:=by
 have hg:g<hi:=Ad h.r0 (AG (FN h.mono OM Bg) h.rn);have hc:∀j,w'.cell? ⟨g,j,none⟩=w.cell? ⟨g,j,none⟩:=λj=>hb.cell (p:=⟨g,j,none⟩) (Ad hg h.hi) (by show g<_\/_<=g;omega);refine⟨⟨λj hj=>?_,λj=>(hb.frozen (p:=⟨g,j,none⟩) (Ad hg h.hi) (by show g<_\/_<=g;omega)).trans (h.room.free j),Ad h.room.lt hb.size⟩,h.r0,h.mono,h.rn,AG h.hi hb.size,λi hi'=>?_⟩;.obtain⟨u,hu⟩:=h.room.has j hj;exact⟨u,(hc j).trans hu⟩
 .obtain⟨ah,ch,c,s⟩:=h.at_ i hi';have h1:r (i+1)<=hi:=AG (FN h.mono Zb Bg) h.rn;have h2:g<r i:=Ad h.r0 (FN h.mono OM Zb);exact⟨ah,ch,c.fr (λj _=>hc _),s.fr hb (AG h1 h.hi) Zb⟩
theorem Hc.fr{w w':World}{g n m lo2 hi2:Nat}{x:Nat->Ti}(h:Hc w g n m x)(hb:Fr lo2 hi2 w w')(ho:g<lo2\/hi2<=g):Hc w' g n m x:=by
 have hc:∀j,w'.cell? ⟨g,j,none⟩=w.cell? ⟨g,j,none⟩:=λj=>hb.cell (p:=⟨g,j,none⟩) h.room.lt ho;refine⟨⟨λj hj=>?_,λj=>(hb.frozen (p:=⟨g,j,none⟩) h.room.lt ho).trans (h.room.free j),Ad h.room.lt hb.size⟩,λi hi'=>?_⟩;.obtain⟨u,hu⟩:=h.room.has j hj;exact⟨u,(hc j).trans hu⟩
 .have c:=h.at_ i hi';exact⟨(hc _).trans c.c0,(hc _).trans c.c1,(hc _).trans c.c2,(hc _).trans c.c3,(hc _).trans c.c4⟩
structure Tv (w:World)(lo hi:Nat)(x:Bk)(g1 g2 g3:Nat):Prop where
 ob:∃h1 r1,Hh w g1 h1 x.on x.on x.os r1/\h1<=g2
 ch:∃h2 r2,Hg w g2 h2 x.hn x.hn x.hs r2/\h2<=g3
 ti:Hc w g3 x.tn x.tn x.ts
 glo:lo<=g1
 ghi:g3<hi
 gtop:hi<=w.1.size
end Go.Proofs.YtofencldleijcaaGreat
