import Derived.Test.YtnnjcenacidceaaPk07
import Derived.Test.YtnnjcenacidceaaPk11
import Derived.Test.YtnnjcenacidceaaPk04
import Derived.Test.YtnnjcenacidceaaPk12
import Derived.Test.YtnnjcenacidceaaPk16
set_option maxRecDepth 100000
namespace Go.Proofs.Ytnnjcenacidceaa
open Go.RowKit Go.Proofs.Try
structure Wt where
 kind:ByteArray
 name:ByteArray
 ver:Int
structure nP (x:Wt):Prop where
 z0:(x.kind.size:Int)<=140737488355328
 z1:(x.name.size:Int)<=140737488355328
structure QF (w:World)(b o:Nat)(x:Wt):Prop where c0:w.cell? ⟨b,o,none⟩=some (.s x.kind)c1:w.cell? ⟨b,o+1,none⟩=some (.s x.name)c2:w.cell? ⟨b,o+2,none⟩=some (.i x.ver)
theorem QF.below{w w':World}{B b o:Nat}{x:Wt}(h:QF w b o x)(hb:Below B w w')(hB:b<B):QF w' b o x:=have e:∀j,w'.cell? ⟨b,j,none⟩=w.cell? ⟨b,j,none⟩:=λj=>hb.cell (p:=⟨b,j,none⟩) hB
 ⟨(e _).trans h.c0,(e _).trans h.c1,(e _).trans h.c2⟩
def P4 (w:World)(lo hi:Nat)(ad:OA)(n:Nat)(x:Nat->Wt):Prop:=∀i,i<n->∃b off,ad=some ⟨b,off,none⟩/\lo<=b/\b<hi/\QF w b (off+i*3) (x i)
theorem P4.below{w w':World}{B lo hi:Nat}{ad:OA}{n:Nat}{x:Nat->Wt}(h:P4 w lo hi ad n x)(hb:Below B w w')(hB:hi<=B):P4 w' lo hi ad n x:=λi hi'=>by obtain⟨b,off,e1,e2,e3,e4⟩:=h i hi';exact⟨b,off,e1,e2,e3,e4.below hb Za⟩
theorem P4.mono{w:World}{lo lo' hi hi':Nat}{ad:OA}{n:Nat}{x:Nat->Wt}(h:P4 w lo hi ad n x)(hl:lo'<=lo)(hh:hi<=hi'):P4 w lo' hi' ad n x:=λi hi'=>by obtain⟨b,off,e1,e2,e3,e4⟩:=h i hi';exact⟨b,off,e1,Za,Za,e4⟩
end Go.Proofs.Ytnnjcenacidceaa
namespace Go.Proofs.Ytnnjcenacidceaa
open Go.RowKit Go.Proofs.Try
structure QD (w:World)(b o:Nat)(x:Wr):Prop where c0:w.cell? ⟨b,o,none⟩=some (.i x.op)c1:w.cell? ⟨b,o+1,none⟩=some (.s x.kind)c2:w.cell? ⟨b,o+2,none⟩=some (.s x.name)c3:w.cell? ⟨b,o+3,none⟩=some (.i x.seen)c4:w.cell? ⟨b,o+4,none⟩=some (.s x.text)c5:w.cell? ⟨b,o+5,none⟩=some (.s x.hold)
theorem QD.below{w w':World}{B b o:Nat}{x:Wr}(h:QD w b o x)(hb:Below B w w')(hB:b<B):QD w' b o x:=have e:∀j,w'.cell? ⟨b,j,none⟩=w.cell? ⟨b,j,none⟩:=λj=>hb.cell (p:=⟨b,j,none⟩) hB
 ⟨(e _).trans h.c0,(e _).trans h.c1,(e _).trans h.c2,(e _).trans h.c3,(e _).trans h.c4,(e _).trans h.c5⟩
def PR (w:World)(lo hi:Nat)(ad:OA)(n:Nat)(x:Nat->Wr):Prop:=∀i,i<n->∃b off,ad=some ⟨b,off,none⟩/\lo<=b/\b<hi/\QD w b (off+i*6) (x i)
theorem PR.below{w w':World}{B lo hi:Nat}{ad:OA}{n:Nat}{x:Nat->Wr}(h:PR w lo hi ad n x)(hb:Below B w w')(hB:hi<=B):PR w' lo hi ad n x:=λi hi'=>by obtain⟨b,off,e1,e2,e3,e4⟩:=h i hi';exact⟨b,off,e1,e2,e3,e4.below hb Za⟩
theorem PR.mono{w:World}{lo lo' hi hi':Nat}{ad:OA}{n:Nat}{x:Nat->Wr}(h:PR w lo hi ad n x)(hl:lo'<=lo)(hh:hi<=hi'):PR w lo' hi' ad n x:=λi hi'=>by obtain⟨b,off,e1,e2,e3,e4⟩:=h i hi';exact⟨b,off,e1,Za,Za,e4⟩
end Go.Proofs.Ytnnjcenacidceaa
namespace Go.Proofs.Ytnnjcenacidceaa
open Go.RowKit Go.Proofs.Try
structure Bu where
 wn:Nat
 ws:Nat->Wt
 rn:Nat
 rs:Nat->Wr
abbrev vU (x:Bu)(a b:OA)(d e:Nat):Array Value:=#[.l a x.wn d,.l b x.rn e]
abbrev sM (x:Bu)(a b:OA)(d e:Nat):List Value:=[.l a x.wn d,.l b x.rn e]
structure Oe (x:Bu):Prop where
 w:(x.wn:Int)<=1048576
 r:(x.rn:Int)<=1048576
 ws:∀i,i<x.wn->nP (x.ws i)rs:∀i,i<x.rn->RU (x.rs i)
structure Lt (w:World)(lo hi:Nat)(x:Bu)(a1 a2:OA):Prop where
 wt:P4 w lo hi a1 x.wn x.ws
 wr:PR w lo hi a2 x.rn x.rs
theorem Lt.below{w w':World}{B lo hi:Nat}{x:Bu}{a1 a2:OA}(h:Lt w lo hi x a1 a2)(hb:Below B w w')(hB:hi<=B):Lt w' lo hi x a1 a2:=⟨h.wt.below hb hB,h.wr.below hb hB⟩
theorem Lt.mono{w:World}{lo lo' hi hi':Nat}{x:Bu}{a1 a2:OA}(h:Lt w lo hi x a1 a2)(hl:lo'<=lo)(hh:hi<=hi'):Lt w lo' hi' x a1 a2:=⟨h.wt.mono hl hh,h.wr.mono hl hh⟩
end Go.Proofs.Ytnnjcenacidceaa
namespace Go.Proofs.Ytnnjcenacidceaa
open Go.RowKit Go.Maps Go.Proofs.Try
structure VB (B:Bk):Prop where
 n0:0<=B.floor
 n1:B.floor<=B.now
 n2:B.now<=1000000
 on:B.on<=100
 asc:K8 B.on B.os=true
 fit:∀i,i<B.on->Bg (B.os i) B.now=true/\CW (B.os i)=true
 vd:EX B.on B.os=true
 hn:B.hn<=200
 hnow:(B.hn:Int)=B.now-B.floor
 ver:∀i,i<B.hn->(B.hs i).ver=B.floor+1+i
 chg:∀i,i<B.hn->K9 (B.hs i) B.now=true
 liv:∀j,j<B.hn->LO B.floor B.hs j=true
 agO:∀i,i<B.on->agO B.floor B.os B.hn B.hs i=true
 agH:∀i,i<B.hn->agH B.on B.os B.hn B.hs i=true
 ti:Ly B.tn B.ts B.now=true
theorem tB{B:Bk}(h:Bc (LU B) 7=true):VB B:=by have c:=AP.1 h;have c0:=O3 (c 0 Zb);have c1:=c 1 Zb;have c2:=c 2 Zb;have c3:=c 3 Zb;have c4:=c 4 Zb;have c5:=c 5 Zb;have c6:=c 6 Zb;simp only[LU,E6,KI,Qs,Ml,Al,decide_eq_true_eq,AP]at c1 c2 c3 c4 c5 c6;exact⟨c0.1,c0.2.1,c0.2.2,c1.1,c1.2.1,c1.2.2,c2,c3.1,c3.2.1,λi hi=>(c3.2.2 i hi).1,λi hi=>(c3.2.2 i hi).2,c4,c5.1,c5.2,c6⟩
theorem PX{B:Bk}(h:VB B):Bc (LU B) 7=true:=by
 refine AP.2 λi hi=>?_;have hn0:=h.n0;have hn1:=h.n1;have hn2:=h.n2;rcases(show i=0\/i=1\/i=2\/i=3\/i=4\/i=5\/i=6 by omega)with rfl|rfl|rfl|rfl|rfl|rfl|rfl;.show M3 B.now B.floor=true;unfold M3;rw[K6 ⟨Za,Za⟩,K6 ⟨Za,Za⟩];rfl
 .simp only[LU,E6,Ml,Al,decide_eq_true_eq,AP];exact⟨h.on,h.asc,h.fit⟩
 .exact h.vd
 .simp only[LU,KI,Al,decide_eq_true_eq,AP];exact⟨h.hn,h.hnow,λi hi=>⟨h.ver i hi,h.chg i hi⟩⟩
 .exact AP.2 h.liv
 .simp only[LU,Qs,Al,AP];exact⟨h.agO,h.agH⟩
 .exact h.ti
theorem S8 (h:Nat->Ch)(a b:ByteArray):∀n,L6 (λi=>h (i+1)) a b n=match L6 h a b (n+1)with|some (j+1)=>some j|_=>none
 |0=>by
  show none=_;unfold L6;split
  .rename_i e;split at e;.cases e
   .cases e
  .rfl
 |n+1=>by
  have ih:=S8 h a b n;show(if(h (n+1)).ob.kind=a/\(h (n+1)).ob.name=b then some n else L6 (λi=>h (i+1)) a b n)=_;rw[show L6 h a b (n+1+1)=(if(h (n+1)).ob.kind=a/\(h (n+1)).ob.name=b then some (n+1)else L6 h a b (n+1))from rfl];by_cases e:(h (n+1)).ob.kind=a/\(h (n+1)).ob.name=b;.rw[if_pos e,if_pos e]
  .rw[if_neg e,if_neg e];exact ih
def Mc (B:Bk):Bk:={B with floor:=(B.hs 0).ver,hn:=B.hn-1,hs:=λi=>B.hs (i+1)}
theorem Mo{x:Ob}{now:Int}(h:Bg x now=true):1<=x.born/\x.born<=x.ver/\1<=x.ver/\x.ver<=now:=by unfold Bg at h;simp only[Al]at h;have a:=MJ h.2.2.1;have b:=MJ h.2.2.2.1;exact⟨b.1,b.2,a.1,a.2⟩
theorem Yd{c:Ch}{now:Int}(h:K9 c now=true):c.ob.ver=c.ver/\Bg c.ob now=true:=by unfold K9 at h;simp only[Al,beq_iff_eq]at h;exact⟨h.1,h.2.1⟩
theorem fQ{x z:Ob}(h:BR x z=true):x.ver=z.ver:=by unfold BR at h;simp only[Al,decide_eq_true_eq]at h;exact h.2.2.1
theorem XJ{B:Bk}(h:VB B)(h0:0<B.hn):VB (Mc B):=by
 have hv0:(B.hs 0).ver=B.floor+1:=by have:=h.ver 0 h0;omega
 have hnow:=h.hnow;have hl:∀a b m,L6 (Mc B).hs a b m=match L6 B.hs a b (m+1)with|some (j+1)=>some j|_=>none:=λa b m=>S8 B.hs a b m;obtain⟨q1,q2⟩:=Yd (h.chg 0 h0);have q3:=Mo q2;refine⟨?_,?_,h.n2,h.on,h.asc,h.fit,h.vd,?_,?_,λi hi=>?_,λi hi=>?_,λj hj=>?_,λi hi=>?_,λi hi=>?_,h.ti⟩;.show 0<=(B.hs 0).ver;have:=h.n0;omega
 .show(B.hs 0).ver<=B.now;omega
 .show B.hn-1<=200;have:=h.hn;omega
 .show((B.hn-1:Nat):Int)=B.now-(B.hs 0).ver;omega
 .show(B.hs (i+1)).ver=(B.hs 0).ver+1+i;have hi:i<B.hn-1:=hi;have:=h.ver (i+1) Za;omega
 .have hi:i<B.hn-1:=hi;exact h.chg (i+1) Za
 .have hj:j<B.hn-1:=hj;have o:=h.liv (j+1) Za;unfold LO at o⊢;show(match L6 (Mc B).hs (B.hs (j+1)).ob.kind (B.hs (j+1)).ob.name j with|none=>Mh (B.hs (j+1)) (B.hs 0).ver|some i=>LN (B.hs (i+1)) (B.hs (j+1)))=true;rw[hl];cases e:L6 B.hs (B.hs (j+1)).ob.kind (B.hs (j+1)).ob.name (j+1)with
  |none=>
   rw[e]at o;show Mh _ _=true;unfold Mh at o⊢;simp only[L9,decide_eq_true_eq]at o⊢;rcases o with o|o;.exact AA o
   .exact AC Za
  |some k=>rw[e]at o;cases k with
   |zero=>show Mh _ _=true;have o:LN (B.hs 0) (B.hs (j+1))=true:=o;unfold Mh;unfold LN at o;cases hc:Og (B.hs (j+1))with
    |true=>rfl
    |false=>rw[hc]at o;cases hg:(B.hs 0).gone with
     |true=>rw[hg]at o;simp at o
     |false=>rw[hg]at o;simp only[Bool.or_self,GP,if_false,beq_iff_eq]at o;simp only[Bool.false_or,decide_eq_true_eq];omega
   |succ k=>exact o
 .have o:=h.agO i hi;unfold Go.Proofs.Ytnnjcenacidceaa.agO at o⊢;show(match L6 (Mc B).hs (B.os i).kind (B.os i).name (B.hn-1)with|none=>decide ((B.os i).ver<=(B.hs 0).ver)|some j=>!(B.hs (j+1)).gone&&BR (B.os i) (B.hs (j+1)).ob)=true;rw[hl,show B.hn-1+1=B.hn by omega];cases e:L6 B.hs (B.os i).kind (B.os i).name B.hn with
  |none=>rw[e]at o;have o:=of_decide_eq_true o;exact decide_eq_true Za
  |some k=>rw[e]at o;cases k with
   |zero=>have o:(!(B.hs 0).gone&&BR (B.os i) (B.hs 0).ob)=true:=o;simp only[Al]at o;have:=fQ o.2;exact decide_eq_true Za
   |succ k=>exact o
 .have hi:i<B.hn-1:=hi;have o:=h.agH (i+1) Za;unfold Go.Proofs.Ytnnjcenacidceaa.agH at o⊢;show(!decide (L6 (Mc B).hs (B.hs (i+1)).ob.kind (B.hs (i+1)).ob.name (B.hn-1)=some i)||((B.hs (i+1)).gone||(Nq B.os (B.hs (i+1)).ob.kind (B.hs (i+1)).ob.name B.on).isSome))=true;rw[hl,show B.hn-1+1=B.hn by omega];cases e:L6 B.hs (B.hs (i+1)).ob.kind (B.hs (i+1)).ob.name B.hn with
  |none=>rfl
  |some k=>rw[e]at o;cases k with
   |zero=>rfl
   |succ k=>simpa using o
end Go.Proofs.Ytnnjcenacidceaa
namespace Go.Proofs.Ytnnjcenacidceaa
open Go.RowKit Go.Maps Go.Proofs.Try
def MI (B:Bk)(c:Ch)(m:Nat)(y:Nat->Ob):Bk:={B with now:=B.now+1,on:=m,os:=y,hn:=B.hn+1,hs:=λi=>if i<B.hn then B.hs i else c}
def bK (x z:Ob):Prop:=x.kind=z.kind/\x.name=z.name
theorem Ru{x:Ob}{n m:Int}(h:Bg x n=true)(hn:n<=m):Bg x m=true:=by unfold Bg at h⊢;simp only[Al]at h⊢;have:=MJ h.2.2.1;exact⟨h.1,h.2.1,K6 ⟨Za,Za⟩,h.2.2.2⟩
theorem iG{c:Ch}{n m:Int}(h:K9 c n=true)(hn:n<=m):K9 c m=true:=by unfold K9 at h⊢;simp only[Al]at h⊢;exact⟨h.1,Ru h.2.1 hn,h.2.2⟩
theorem iT{k:Nat}{x:Nat->Ti}{n m:Int}(h:Ly k x n=true)(hn:n<=m):Ly k x m=true:=by unfold Ly at h⊢;simp only[Al,AP]at h⊢;refine⟨h.1,h.2.1,λi hi=>?_⟩;have:=h.2.2 i hi;unfold Nu at this⊢;simp only[Al]at this⊢;have q:=MJ this.2.2.2.2;exact⟨this.1,this.2.1,this.2.2.1,this.2.2.2.1,K6 ⟨q.1,Za⟩⟩
theorem U7{h h':Nat->Ch}{a b:ByteArray}:∀{n:Nat},(∀i,i<n->h' i=h i)->L6 h' a b n=L6 h a b n
 |0,_=>rfl
 |n+1,e=>by unfold L6;rw[e n Za,U7 λi hi=>e i Za]
theorem On{x:Nat->Ob}{a b:ByteArray}:∀{n i:Nat},i<n->(x i).kind=a/\(x i).name=b->(Nq x a b n).isSome=true
 |0,_,h,_=>absurd h (Aj _)
 |n+1,i,h,e=>by unfold Nq;cases q:Nq x a b n with
  |some k=>rfl
  |none=>
   by_cases hi:i=n;.subst hi;rw[if_pos e];rfl
   .have:=On (n:=n) Za e;rw[q]at this;cases this
structure nC (B:Bk)(c:Ch)(m:Nat)(y:Nat->Ob):Prop where
 hn:B.hn<200
 now:B.now<1000000
 le:m<=100
 asc:K8 m y=true
 vd:EX m y=true
 from_:∀i,i<m->(y i=c.ob/\c.gone=false)\/∃j,j<B.on/\y i=B.os j/\¬bK (B.os j) c.ob
 keep:∀j,j<B.on->¬bK (B.os j) c.ob->∃i,i<m/\y i=B.os j
 new:c.gone=false->∃i,i<m/\y i=c.ob
 ver:c.ver=B.now+1
 over:c.ob.ver=B.now+1
 parts:Bg c.ob (B.now+1)=true
 st:(if c.gone then NA c.ob else CW c.ob)=true
 fol:(match L6 B.hs c.ob.kind c.ob.name B.hn with|none=>Mh c B.floor|some i=>LN (B.hs i) c)=true
theorem XS (x:Ob):BR x x=true:=by unfold BR VD;simp[AP]
theorem eD{B:Bk}{c:Ch}{m:Nat}{y:Nat->Ob}(h:VB B)(a:nC B c m y):VB (MI B c m y):=by
 have hl:∀p q k,k<=B.hn->L6 (MI B c m y).hs p q k=L6 B.hs p q k:=λp q k hk=>U7 λi hi=>if_pos Za;have hl1:∀p q,L6 (MI B c m y).hs p q (B.hn+1)=if c.ob.kind=p/\c.ob.name=q then some B.hn else L6 B.hs p q B.hn:=λp q=>by show(if((MI B c m y).hs B.hn).ob.kind=p/\((MI B c m y).hs B.hn).ob.name=q then some B.hn else L6 (MI B c m y).hs p q B.hn)=_;rw[hl _ _ _ uK,show(MI B c m y).hs B.hn=c from if_neg (AY _)]
 have hh:∀i,i<B.hn->(MI B c m y).hs i=B.hs i:=λi hi=>if_pos hi;have hc:(MI B c m y).hs B.hn=c:=if_neg (AY _);have hnow:=h.hnow;have hnw:=a.now;refine⟨h.n0,?_,?_,a.le,a.asc,λi hi=>?_,a.vd,?_,?_,λi hi=>?_,λi hi=>?_,λj hj=>?_,λi hi=>?_,λi hi=>?_,iT h.ti (by show B.now<=B.now+1;omega)⟩;.show B.floor<=B.now+1;have:=h.n1;omega
 .show B.now+1<=1000000;omega
 .show Bg (y i) (B.now+1)=true/\CW (y i)=true;rcases a.from_ i hi with⟨e,g⟩|⟨j,hj,e,_⟩;.rw[e];have s:=a.st;rw[g]at s;exact⟨a.parts,s⟩
  .rw[e];exact⟨Ru (h.fit j hj).1 Za,(h.fit j hj).2⟩
 .show B.hn+1<=200;have:=a.hn;omega
 .show((B.hn+1:Nat):Int)=B.now+1-B.floor;omega
 .by_cases e:i<B.hn;.rw[hh i e];exact h.ver i e
  .have hi:i<B.hn+1:=hi;obtain rfl:i=B.hn:=Za;rw[hc,a.ver];show B.now+1=B.floor+1+(B.hn:Int);omega
 .by_cases e:i<B.hn;.rw[hh i e];exact iG (h.chg i e) (by show B.now<=B.now+1;omega)
  .have hi:i<B.hn+1:=hi;obtain rfl:i=B.hn:=Za;rw[hc];unfold K9;simp only[Al,beq_iff_eq];exact⟨by rw[a.over,a.ver],a.parts,a.st⟩
 .by_cases e:j<B.hn;.have o:=h.liv j e;unfold LO at o⊢;rw[hh j e,hl _ _ _ Za];cases q:L6 B.hs (B.hs j).ob.kind (B.hs j).ob.name j with
   |none=>rw[q]at o;exact o
   |some k=>rw[q]at o;show LN ((MI B c m y).hs k) (B.hs j)=true;rw[hh k (by have:=(Mn q).1;omega)];exact o
  .have hj:j<B.hn+1:=hj;obtain rfl:j=B.hn:=Za;have o:=a.fol;unfold LO;rw[hc,hl _ _ _ uK];cases q:L6 B.hs c.ob.kind c.ob.name B.hn with
   |none=>rw[q]at o;exact o
   |some k=>rw[q]at o;show LN ((MI B c m y).hs k) c=true;rw[hh k (Mn q).1];exact o
 .show agO B.floor y (B.hn+1) (MI B c m y).hs i=true;unfold Go.Proofs.Ytnnjcenacidceaa.agO;rw[hl1];rcases a.from_ i hi with⟨e,g⟩|⟨j,hj,e,hk⟩;.rw[e,if_pos ⟨rfl,rfl⟩];show(!((MI B c m y).hs B.hn).gone&&BR c.ob ((MI B c m y).hs B.hn).ob)=true;rw[hc,g,XS];rfl
  .rw[e,if_neg (λq=>hk ⟨q.1.symm,q.2.symm⟩)];have o:=h.agO j hj;unfold Go.Proofs.Ytnnjcenacidceaa.agO at o;cases q:L6 B.hs (B.os j).kind (B.os j).name B.hn with
   |none=>rw[q]at o;exact o
   |some k=>rw[q]at o;show(!((MI B c m y).hs k).gone&&BR (B.os j) ((MI B c m y).hs k).ob)=true;rw[hh k (Mn q).1];exact o
 .show agH m y (B.hn+1) (MI B c m y).hs i=true;unfold Go.Proofs.Ytnnjcenacidceaa.agH;rw[hl1];by_cases e:i<B.hn
  .rw[hh i e];by_cases k:c.ob.kind=(B.hs i).ob.kind/\c.ob.name=(B.hs i).ob.name
   .rw[if_pos k];have:¬(some B.hn=some i):=Zd;simp[this]
   .rw[if_neg k];have o:=h.agH i e;unfold Go.Proofs.Ytnnjcenacidceaa.agH at o;simp only[L9]at o⊢;rcases o with o|o|o;.exact AA o
    .exact AC (AA o)
    .refine AC (AC ?_);obtain⟨j,hj⟩:=Option.isSome_iff_exists.1 o;obtain⟨j1,j2,j3⟩:=Oh hj;obtain⟨l,l1,l2⟩:=a.keep j j1 (λq=>k ⟨by rw[<-q.1];exact j2,by rw[<-q.2];exact j3⟩);exact On l1 (by rw[l2];exact⟨j2,j3⟩)
  .have hi:i<B.hn+1:=hi;obtain rfl:i=B.hn:=Za;rw[hc,if_pos ⟨rfl,rfl⟩];cases g:c.gone with
   |true=>simp
   |false=>obtain⟨l,l1,l2⟩:=a.new g;have:=On (x:=y) (a:=c.ob.kind) (b:=c.ob.name) l1 (by rw[l2];exact⟨rfl,rfl⟩);simp[this]
end Go.Proofs.Ytnnjcenacidceaa
namespace Go.Proofs.Ytnnjcenacidceaa
open Go.RowKit Go.Maps Go.Proofs.Try
theorem gF (B:Bk)(v:Wr)(ve:Int):(MY B v ve).ver=ve:=by
 unfold MY;split;.rfl
 .split;.rfl
  .split;.rfl
   .split<;>rfl
theorem R4{B:Bk}{v:Wr}(h:D9 B v=0):¬(Ce B.os v.kind v.name B.on=decide (v.op=1)):=by intro e;unfold D9 at h;rw[if_pos e]at h;cases h
theorem iB{v:Wr}(h:Li v=true):Bv v.kind=true/\Bv v.name=true/\v.text.size<=300/\(PE v.hold=true\/Bv v.hold=true)/\Lz v=true:=by unfold Li Ky at h;simp only[Al,L9,decide_eq_true_eq]at h;exact⟨h.1.1,h.1.2.1,h.1.2.2.2.1,h.1.2.2.2.2,h.2⟩
theorem dQ{v:Wr}(h:Lz v=true)(ho:v.op=4\/v.op=5):PE v.hold=false:=by unfold Lz at h;rcases ho with ho|ho<;>(rw[ho]at h;simp at h;simpa using h.2)
theorem V6{n:Nat}{s:Nat->ByteArray}(h:MC n s)(hn:∀i,i<n->Bv (s i)=true):Sw n s=true:=by unfold Sw;refine AP.2 λi hi=>?_;rw[hn i hi,Bool.true_and];cases i with
 |zero=>rfl
 |succ k=>simpa using h k (k+1) Za hi
theorem Pd{n:Nat}{s:Nat->ByteArray}(h:Sw n s=true):∀i,i<n->Bv (s i)=true:=λi hi=>by have:=AP.1 h i hi;simp only[Al]at this;exact this.1
theorem eM{n:Nat}{x:Nat->Ob}(h:Vm n x):K8 n x=true:=by unfold K8;refine AP.2 λi hi=>?_;cases i with
 |zero=>rfl
 |succ k=>simpa using h k (k+1) Za hi
theorem lU (x:Ob):Fd x x=false:=by have h:=(NQ x x).2 ⟨rfl,rfl⟩;cases e:Fd x x with
 |false=>rfl
 |true=>have:=(PI x x).2 e;omega
theorem Vj (x z:Ob):Fs x z=0↔bK x z:=by
 unfold bK;have h:=Pb x z;constructor;.intro e;rw[e]at h;exact of_decide_eq_true h.symm
 .intro e;rw[decide_eq_true e]at h;exact eq_of_beq h
theorem S7 (o:Ob):∀(l:List Ob)(z:Ob),z∈MP o l->z=o\/(z∈l/\¬Fs z o=0)
 |[],z,h=>AA (by simpa[MP]using h)
 |y::r,z,h=>by
  unfold MP at h;by_cases hb:Fd y o=true
  .rw[if_pos hb]at h;rcases Eb.1 h with e|e
   .subst e;exact AC ⟨Mw,by have:=(PI z o).2 hb;omega⟩
   .rcases S7 o r z e with q|q;.exact AA q
    .exact AC ⟨LG _ q.1,q.2⟩
  .rw[if_neg hb]at h;rcases Eb.1 h with e|e;.exact AA e
   .have:=Dv.1 e;exact AC ⟨this.1,of_decide_eq_true this.2⟩
theorem UO (o:Ob):∀l:List Ob,o∈MP o l
 |[]=>by simp[MP]
 |y::r=>by
  unfold MP;split;.exact LG _ (UO o r)
  .exact Mw
theorem Tb (o:Ob):∀(l:List Ob)(z:Ob),z∈l->¬Fs z o=0->z∈MP o l
 |y::r,z,h,hk=>by
  unfold MP;split
  .rcases Eb.1 h with e|e;.subst e;exact Mw
   .exact LG _ (Tb o r z e hk)
  .exact LG _ (Dv.2 ⟨h,decide_eq_true hk⟩)
theorem Yl{o:Ob}{g:Bool}{l:List Ob}{z:Ob}(h:z∈QT o g l):(z=o/\g=false)\/(z∈l/\¬Fs z o=0):=by unfold QT at h;cases g with
 |true=>have:=Dv.1 h;exact AC ⟨this.1,of_decide_eq_true this.2⟩
 |false=>
  rcases S7 o l z h with q|q;.exact AA ⟨q,rfl⟩
  .exact AC q
theorem XN{o:Ob}{g:Bool}{l:List Ob}{z:Ob}(h:z∈l)(hk:¬Fs z o=0):z∈QT o g l:=by unfold QT;cases g with
 |true=>exact Dv.2 ⟨h,decide_eq_true hk⟩
 |false=>exact Tb o l z h hk
theorem OG{m:Nat}{y:Nat->Ob}{z:Ob}:z∈NH m y↔∃i,i<m/\y i=z:=by unfold NH;simp[MR]
end Go.Proofs.Ytnnjcenacidceaa
