import Derived.Test.YtdknjmgdgnmhjaaGreatPk01
set_option maxRecDepth 100000
namespace Go.Proofs.YtdknjmgdgnmhjaaGreat
open Go.RowKit Go.Proofs.Tryz
variable {w w' w1 a:World}{B b o cap lo hi n lo2 hi2 g m:Nat}{ad:OA}{c:Nat→Value}{s:Nat→ByteArray}{c0 c1 c2:Array Value}{P Q:Nat→Prop}{p:Addr}{N N' hb:Nat→Nat}
structure DF (w:World)(b o:Nat)(x:Ob)(ad:OA)(cap:Nat):Prop where c0:w.cell? ⟨b,o,none⟩=some (.s x.k)c1:w.cell? ⟨b,o+1,none⟩=some (.s x.n)c2:w.cell? ⟨b,o+2,none⟩=some (.i x.t)c3:w.cell? ⟨b,o+3,none⟩=some (.i x.b)c4:w.cell? ⟨b,o+4,none⟩=some (.s x.m)c5:w.cell? ⟨b,o+5,none⟩=some (.bool x.e)c6:w.cell? ⟨b,o+6,none⟩=some (.slice ad x.hn cap)
def Bh (w:World)(lo hi:Nat)(ad:OA)(n:Nat)(x:Nat->Ob):Prop:=∀i,i<n->∃b off ah ch,ad=some ⟨b,off,none⟩/\lo<=b/\b<hi/\DF w b (off+i*7) (x i) ah ch/\AK w lo hi ah (x i).hn (x i).hs
structure Cu (x:Ob):Prop where
 k:(x.k.size:Int)<=140737488355328
 n:(x.n.size:Int)<=140737488355328
 t:(x.m.size:Int)<=140737488355328
 h:(x.hn:Int)<=8796093022208
 s:∀i,i<x.hn->((x.hs i).size:Int)<=140737488355328
 v:(Lit.int .i64 x.t).wf=true
structure Ch where
 t:Int
 g:Bool
 ob:Ob
abbrev vH (x:Ch)(A:OA)(C:Nat):Array Value:=#[.i x.t,.bool x.g,.s x.ob.k,.s x.ob.n,.i x.ob.t,.i x.ob.b,.s x.ob.m,.bool x.ob.e,.l A x.ob.hn C]
abbrev PE (x:Ch)(A:OA)(C:Nat):List Value:=[.i x.t,.bool x.g,.s x.ob.k,.s x.ob.n,.i x.ob.t,.i x.ob.b,.s x.ob.m,.bool x.ob.e,.l A x.ob.hn C]
structure Ti where
 c:ByteArray
 num:Int
 print:ByteArray
 code:Int
 t:Int
abbrev vT (x:Ti):Array Value:=#[.s x.c,.i x.num,.s x.print,.i x.code,.i x.t]
abbrev vTl (x:Ti):List Value:=[.s x.c,.i x.num,.s x.print,.i x.code,.i x.t]
structure Dz (w:World)(b o:Nat)(x:Ch)(ad:OA)(cap:Nat):Prop where c0:w.cell? ⟨b,o,none⟩=some (.i x.t)c1:w.cell? ⟨b,o+1,none⟩=some (.bool x.g)c2:w.cell? ⟨b,o+2,none⟩=some (.s x.ob.k)c3:w.cell? ⟨b,o+3,none⟩=some (.s x.ob.n)c4:w.cell? ⟨b,o+4,none⟩=some (.i x.ob.t)c5:w.cell? ⟨b,o+5,none⟩=some (.i x.ob.b)c6:w.cell? ⟨b,o+6,none⟩=some (.s x.ob.m)c7:w.cell? ⟨b,o+7,none⟩=some (.bool x.ob.e)c8:w.cell? ⟨b,o+8,none⟩=some (.slice ad x.ob.hn cap)
structure Ji (w:World)(b o:Nat)(x:Ti):Prop where c0:w.cell? ⟨b,o,none⟩=some (.s x.c)c1:w.cell? ⟨b,o+1,none⟩=some (.i x.num)c2:w.cell? ⟨b,o+2,none⟩=some (.s x.print)c3:w.cell? ⟨b,o+3,none⟩=some (.i x.code)c4:w.cell? ⟨b,o+4,none⟩=some (.i x.t)
def Dv (w:World)(lo hi:Nat)(ad:OA)(n:Nat)(x:Nat->Ch):Prop:=∀i,i<n->∃b off ah ch,ad=some ⟨b,off,none⟩/\lo<=b/\b<hi/\Dz w b (off+i*9) (x i) ah ch/\AK w lo hi ah (x i).ob.hn (x i).ob.hs
def DD (w:World)(lo hi:Nat)(ad:OA)(n:Nat)(x:Nat->Ti):Prop:=∀i,i<n->∃b off,ad=some ⟨b,off,none⟩/\lo<=b/\b<hi/\Ji w b (off+i*5) (x i)
structure XB (x:Ti):Prop where
 c:(x.c.size:Int)<=140737488355328
 p:(x.print.size:Int)<=140737488355328
structure Bk where
 v:Int
 f:Int
 on:Nat
 os:Nat->Ob
 hn:Nat
 hs:Nat->Ch
 tn:Nat
 ts:Nat->Ti
abbrev vB (x:Bk)(a b c:OA)(d e f:Nat):Array Value:=#[.i x.v,.i x.f,.l a x.on d,.l b x.hn e,.l c x.tn f]
abbrev JR (x:Bk)(a b c:OA)(d e f:Nat):List Value:=[.i x.v,.i x.f,.l a x.on d,.l b x.hn e,.l c x.tn f]
structure BS (x:Bk):Prop where
 o:(x.on:Int)<=1099511627776
 h:(x.hn:Int)<=1099511627776
 t:(x.tn:Int)<=1099511627776
 os:∀i,i<x.on->Cu (x.os i)hs:∀i,i<x.hn->Cu (x.hs i).ob
 ts:∀i,i<x.tn->XB (x.ts i)
structure BL (w:World)(lo hi:Nat)(x:Bk)(a1 a2 a3:OA):Prop where
 o:Bh w lo hi a1 x.on x.os
 h:Dv w lo hi a2 x.hn x.hs
 t:DD w lo hi a3 x.tn x.ts
theorem DF.below{x:Ob}(h:DF w b o x ad cap)(hb:Below B w w')(hB:b<B):DF w' b o x ad cap:=have e:∀j,w'.cell? ⟨b,j,none⟩=w.cell? ⟨b,j,none⟩:=λj=>hb.cell (p:=⟨b,j,none⟩) hB
 ⟨(e _).trans h.c0,(e _).trans h.c1,(e _).trans h.c2,(e _).trans h.c3,(e _).trans h.c4,(e _).trans h.c5,(e _).trans h.c6⟩
theorem Dz.below{x:Ch}(h:Dz w b o x ad cap)(hb:Below B w w')(hB:b<B):Dz w' b o x ad cap:=have e:∀j,w'.cell? ⟨b,j,none⟩=w.cell? ⟨b,j,none⟩:=λj=>hb.cell (p:=⟨b,j,none⟩) hB
 ⟨(e _).trans h.c0,(e _).trans h.c1,(e _).trans h.c2,(e _).trans h.c3,(e _).trans h.c4,(e _).trans h.c5,(e _).trans h.c6,(e _).trans h.c7,(e _).trans h.c8⟩
theorem Ji.below{x:Ti}(h:Ji w b o x)(hb:Below B w w')(hB:b<B):Ji w' b o x:=have e:∀j,w'.cell? ⟨b,j,none⟩=w.cell? ⟨b,j,none⟩:=λj=>hb.cell (p:=⟨b,j,none⟩) hB
 ⟨(e _).trans h.c0,(e _).trans h.c1,(e _).trans h.c2,(e _).trans h.c3,(e _).trans h.c4⟩
theorem Bh.below{x:Nat->Ob}(h:Bh w lo hi ad n x)(hb:Below B w w')(hB:hi<=B):Bh w' lo hi ad n x:=λi hi'=>by exact xh
theorem Dv.below{x:Nat->Ch}(h:Dv w lo hi ad n x)(hb:Below B w w')(hB:hi<=B):Dv w' lo hi ad n x:=λi hi'=>by exact xh
theorem DD.below{x:Nat->Ti}(h:DD w lo hi ad n x)(hb:Below B w w')(hB:hi<=B):DD w' lo hi ad n x:=λi hi'=>by exact zK
theorem BL.below{x:Bk}{a1 a2 a3:OA}(h:BL w lo hi x a1 a2 a3)(hb:Below B w w')(hB:hi<=B):BL w' lo hi x a1 a2 a3:=⟨h.o.below hb hB,h.h.below hb hB,h.t.below hb hB⟩
theorem Ak (w:World)(o:Obj):Below w.1.size w (w.alloc o):=(Ap _ _).alloc A9 o
theorem Ay{c:Array Value}{t:TypeId}(hb:Below (w.alloc (.cells c t)).1.size (w.alloc (.cells c t)) w1)(i:Nat):w1.cell? ⟨w.1.size,i,none⟩=c[i]?:=(hb.cell (p:=⟨w.1.size,i,none⟩) Ze).trans (Al w c t i)
theorem BA.fr (h:BA w lo hi ad n s)(hb:Fr lo2 hi2 w w')(hw:hi<=w.1.size)(ho:hi<=lo2\/hi2<=lo):BA w' lo hi ad n s:=λi hi'=>by obtain⟨b,off,e1,e2,e3,e4,e5⟩:=h i hi';exact⟨b,off,e1,e2,e3,(hb.cell (p:=⟨b,off+i,none⟩) (Aa e3 hw) (by show b<_\/_<=b;omega)).trans e4,(hb.frozen (p:=⟨b,off+i,none⟩) (Aa e3 hw) (by show b<_\/_<=b;omega)).trans e5⟩
theorem BA.mono (h:BA w lo hi ad n s)(h1:lo2<=lo)(h2:hi<=hi2):BA w lo2 hi2 ad n s:=λi hi'=>by obtain⟨b,off,e1,e2,e3,e4,e5⟩:=h i hi';exact⟨b,off,e1,Za,Za,e4,e5⟩
theorem Be (w:World)(a:Addr)(v:Value):(w.setCell a v).1.size=w.1.size:=by simp[World.setCell]
theorem Eu:(prog.info? 52).map (λi=>(i.zero,i.size,i.bytes))=some (some (.agg #[.s ByteArray.empty,.s ByteArray.empty,.i 0,.i 0,.s ByteArray.empty,.bool false,.l none 0 0]),7,96):=Zc
structure IR (w:World)(g m:Nat):Prop where
 has:∀j,j<m->∃u,w.cell? ⟨g,j,none⟩=some u
 free:∀j,w.frozen? ⟨g,j,none⟩=false
 lt:g<w.1.size
theorem IR.below (h:IR w g m)(hb:Below B w w')(hg:g<B):IR w' g m:=by refine⟨λj hj=>?_,λj=>(hb.frozen (p:=⟨g,j,none⟩) hg).trans (h.free j),Aa h.lt hb.size⟩;obtain⟨u,hu⟩:=h.has j hj;exact⟨u,(hb.cell (p:=⟨g,j,none⟩) hg).trans hu⟩
theorem FC (b:Nat):∀(vs:List Value)(o:Nat)(w:World),(w.setCells b o vs).1.size=w.1.size
 |[],_,_=>rfl
 |v::r,o,w=>by rw[World.setCells,FC b r,Be]
theorem IR.setCells (h:IR w g m)(vs:List Value)(ho:o+vs.length<=m):IR (w.setCells g o vs) g m:=by
 refine⟨λj hj=>?_,λj=>by rw[DL];exact h.free j,by rw[FC];exact h.lt⟩;by_cases hj2:j<o\/o+vs.length<=j;.rw[CQ g vs o w _ (λ_ _=>hj2)];exact h.has j hj
 .obtain⟨i,rfl⟩:∃i,j=o+i:=⟨j-o,Za⟩;have hi:i<vs.length:=Za;exact⟨vs[i],DA g vs o w (λj hj=>by obtain⟨u,hu⟩:=h.has (o+j) Za;rw[hu];rfl) i hi⟩
theorem Gf (b:Nat):∀(vs:List Value)(o:Nat)(w:World),Fr b (b+1) w (w.setCells b o vs)
 |[],_,w=>Fr.refl _ _ w
 |v::r,o,w=>((Fr.refl b (b+1) w).setCell (p:=⟨b,o,none⟩) A9 (BE _) v).trans (Gf b r (o+1) _)
theorem Gg:(prog.info? 54).map (λi=>(i.zero,i.size,i.bytes))=some (some (.agg #[.i 0,.bool false,.s ByteArray.empty,.s ByteArray.empty,.i 0,.i 0,.s ByteArray.empty,.bool false,.l none 0 0]),9,112):=Zc
theorem Dz.fr{x:Ch}(h:Dz w b o x ad cap)(e:∀j,j<9->w'.cell? ⟨b,o+j,none⟩=w.cell? ⟨b,o+j,none⟩):Dz w' b o x ad cap:=⟨(e 0 Za).trans h.c0,(e 1 Za).trans h.c1,(e 2 Za).trans h.c2,(e 3 Za).trans h.c3,(e 4 Za).trans h.c4,(e 5 Za).trans h.c5,(e 6 Za).trans h.c6,(e 7 Za).trans h.c7,(e 8 Za).trans h.c8⟩
theorem Gn:(prog.info? 132).map (λi=>(i.zero,i.size,i.bytes))=some (some (.agg #[.s ByteArray.empty,.i 0,.s ByteArray.empty,.i 0,.i 0]),5,56):=Zc
theorem BI{t0 t1 t2:TypeId}(hb:Below (((w.alloc (.cells c0 t0)).alloc (.cells c1 t1)).alloc (.cells c2 t2)).1.size (((w.alloc (.cells c0 t0)).alloc (.cells c1 t1)).alloc (.cells c2 t2)) w1):(∀i,w1.cell? ⟨w.1.size,i,none⟩=c0[i]?)/\(∀i,w1.cell? ⟨w.1.size+1,i,none⟩=c1[i]?)/\(∀i,w1.cell? ⟨w.1.size+1+1,i,none⟩=c2[i]?)/\(∀i,w1.frozen? ⟨w.1.size+1,i,none⟩=false)/\(∀i,w1.frozen? ⟨w.1.size+1+1,i,none⟩=false):=by
 refine⟨λi=>?_,λi=>?_,λi=>?_,λi=>?_,λi=>?_⟩;.rw[hb.cell (p:=⟨w.1.size,i,none⟩) Zd];rw[At _ _ _ XP,At _ _ _ XP,Da _ _ _ _ rfl]
 .rw[hb.cell (p:=⟨w.1.size+1,i,none⟩) Ze];rw[At _ _ _ Ze,Da _ _ _ _ Ze]
 .rw[hb.cell (p:=⟨w.1.size+1+1,i,none⟩) Ze];rw[Da _ _ _ _ Ze]
 .rw[hb.frozen (p:=⟨w.1.size+1,i,none⟩) Ze];rw[O7 _ _ _ Ze,De _ _ _ _ Ze]
 .rw[hb.frozen (p:=⟨w.1.size+1+1,i,none⟩) Ze];rw[De _ _ _ _ Ze]
structure AB (P:Nat->Prop)(w w':World):Prop where
 os:w'.os=w.os
 tape:w'.tape=w.tape
 output:w'.output=w.output
 size:w.1.size<=w'.1.size
 block:∀k,k<w.1.size->¬P k->w'.heap[k]?=w.heap[k]?
theorem AB.refl (P:Nat->Prop)(w:World):AB P w w:=⟨rfl,rfl,rfl,AG _,λ_ _ _=>rfl⟩
theorem AB.trans{b c:World}(h:AB P a b)(k:AB P b c):AB P a c:=⟨k.os.trans h.os,k.tape.trans h.tape,k.output.trans h.output,AJ h.size k.size,λi hi ho=>(k.block i (Aa hi h.size) ho).trans (h.block i hi ho)⟩
theorem Aj (h:Below w.1.size w w'):AB P w w':=⟨h.os,h.tape,h.output,h.size,λi hi _=>h.block i hi⟩
theorem AB.mono (h:AB P w w')(e:∀k,P k->Q k):AB Q w w':=⟨h.os,h.tape,h.output,h.size,λi hi hq=>h.block i hi (λhp=>hq (e i hp))⟩
theorem AB.setCell (h:AB P a w)(hp:P p.block)(u:Value):AB P a (w.setCell p u):=h.trans ⟨rfl,rfl,rfl,by simp[World.setCell],λk _ ho=>Below.heap_setCell _ _ _ _ (λe=>ho (e▸hp))⟩
theorem AB.cell (h:AB P w w')(hp:p.block<w.1.size)(ho:¬P p.block):w'.cell? p=w.cell? p:=World.cell?_of_block (w:=w) (h.block p.block hp ho)
theorem AB.frozen (h:AB P w w')(hp:p.block<w.1.size)(ho:¬P p.block):w'.frozen? p=w.frozen? p:=World.frozen?_of_block (w:=w) (h.block p.block hp ho)
theorem AB.below (h:AB P w w')(hB:∀k,k<B->¬P k)(hs:B<=w.1.size):Below B w w':=⟨h.os,h.tape,h.output,h.size,λk hk=>h.block k Za (hB k hk)⟩
theorem O6 (h:Fr lo hi w w')(e:∀k,lo<=k->k<hi->P k):AB P w w':=⟨h.os,h.tape,h.output,h.size,λk hk ho=>h.block k hk (by
 rcases AD k lo with h1|h1;.exact AA h1
 .rcases AD k hi with h2|h2;.exact absurd (e k h1 h2) ho
  .exact Az h2)⟩
structure AE (w:World)(g m:Nat)(c:Nat->Value):Prop where
 lt:g<w.1.size
 free:∀j,w.frozen? ⟨g,j,none⟩=false
 cell:∀j,j<m->w.cell? ⟨g,j,none⟩=some (c j)
def GR (c:Nat->Value)(o:Nat)(v:Value):Nat->Value:=λj=>if j=o then v else c j
theorem AE.set (h:AE w g m c)(ho:o<m)(v:Value):AE (w.setCell ⟨g,o,none⟩ v) g m (GR c o v):=⟨by rw[Be];exact h.lt,λj=>by rw[Fs];exact h.free j,λj hj=>by
  unfold GR;by_cases e:j=o;.subst e;rw[if_pos rfl];exact Cd _ _ _ (h.cell j hj)
  .rw[if_neg e,AI _ _ _ _ (λq=>e (by injection q with _ q2;exact q2.symm))];exact h.cell j hj⟩
theorem AE.below (h:AE w g m c)(hb:Below B w w')(hB:g<B):AE w' g m c:=⟨Aa h.lt hb.size,λj=>(hb.frozen (p:=⟨g,j,none⟩) hB).trans (h.free j),λj hj=>(hb.cell (p:=⟨g,j,none⟩) hB).trans (h.cell j hj)⟩
theorem AE.fr (h:AE w g m c)(hb:AB P w w')(hg:¬P g):AE w' g m c:=⟨Aa h.lt hb.size,λj=>(hb.frozen (p:=⟨g,j,none⟩) h.lt hg).trans (h.free j),λj hj=>(hb.cell (p:=⟨g,j,none⟩) h.lt hg).trans (h.cell j hj)⟩
theorem BA.frP (h:BA w b (b+1) ad n s)(hb:AB P w w')(hn:n≠0->¬P b/\b<w.1.size):BA w' b (b+1) ad n s:=λi hi=>by obtain⟨q,off,e1,e2,e3,e4,e5⟩:=h i hi;have:q=b:=Za;subst this;obtain⟨h1,h2⟩:=hn Za;exact⟨q,off,e1,e2,e3,(hb.cell (p:=⟨q,off+i,none⟩) h2 h1).trans e4,(hb.frozen (p:=⟨q,off+i,none⟩) h2 h1).trans e5⟩
structure RZ (g n:Nat)(N:Nat->Nat)(hb:Nat->Nat):Prop where
 ne:∀i,i<n->N i≠0->hb i≠g
 inj:∀i j,i<n->j<n->N i≠0->N j≠0->hb i=hb j->i=j
theorem RZ.congr (h:RZ g n N hb)(e:∀i,N i=N' i):RZ g n N' hb:=by have:N=N':=funext e;subst this;exact h
def Fm (g n:Nat)(N:Nat->Nat)(hb:Nat->Nat)(k:Nat):Prop:=(0<n/\k=g)\/∃i,i<n/\N i≠0/\k=hb i
end Go.Proofs.YtdknjmgdgnmhjaaGreat
