import Derived.Test.YtdknjmgdgnmhjaaGreatPk10
set_option maxRecDepth 100000
namespace Go.Proofs.YtdknjmgdgnmhjaaGreat
open Go.RowKit Go.Maps Go.Proofs.Tryz
variable {w w':World}{B b o lo hi n lo' hi':Nat}{ad a1 a2:OA}{x z:Ob}{now m:Int}{c:Ch}{y:Nat→Ob}{v:Wr}{s:Nat→ByteArray}{g:Bool}{l:List Ob}
structure Wt where
 k:ByteArray
 n:ByteArray
 t:Int
structure s_ (x:Wt):Prop where
 z0:(x.k.size:Int)<=140737488355328
 z1:(x.n.size:Int)<=140737488355328
structure Qy (w:World)(b o:Nat)(x:Wt):Prop where c0:w.cell? ⟨b,o,none⟩=some (.s x.k)c1:w.cell? ⟨b,o+1,none⟩=some (.s x.n)c2:w.cell? ⟨b,o+2,none⟩=some (.i x.t)
theorem Qy.below{x:Wt}(h:Qy w b o x)(hb:Below B w w')(hB:b<B):Qy w' b o x:=have e:∀j,w'.cell? ⟨b,j,none⟩=w.cell? ⟨b,j,none⟩:=λj=>hb.cell (p:=⟨b,j,none⟩) hB
 ⟨(e _).trans h.c0,(e _).trans h.c1,(e _).trans h.c2⟩
def PF (w:World)(lo hi:Nat)(ad:OA)(n:Nat)(x:Nat->Wt):Prop:=∀i,i<n->∃b off,ad=some ⟨b,off,none⟩/\lo<=b/\b<hi/\Qy w b (off+i*3) (x i)
theorem PF.below{x:Nat->Wt}(h:PF w lo hi ad n x)(hb:Below B w w')(hB:hi<=B):PF w' lo hi ad n x:=λi hi'=>by exact zK
theorem PF.mono{x:Nat->Wt}(h:PF w lo hi ad n x)(hl:lo'<=lo)(hh:hi<=hi'):PF w lo' hi' ad n x:=λi hi'=>by obtain⟨b,off,e1,e2,e3,e4⟩:=h i hi';exact dJ
structure QD (w:World)(b o:Nat)(x:Wr):Prop where c0:w.cell? ⟨b,o,none⟩=some (.i x.op)c1:w.cell? ⟨b,o+1,none⟩=some (.s x.k)c2:w.cell? ⟨b,o+2,none⟩=some (.s x.n)c3:w.cell? ⟨b,o+3,none⟩=some (.i x.s)c4:w.cell? ⟨b,o+4,none⟩=some (.s x.m)c5:w.cell? ⟨b,o+5,none⟩=some (.s x.hold)
theorem QD.below{x:Wr}(h:QD w b o x)(hb:Below B w w')(hB:b<B):QD w' b o x:=have e:∀j,w'.cell? ⟨b,j,none⟩=w.cell? ⟨b,j,none⟩:=λj=>hb.cell (p:=⟨b,j,none⟩) hB
 ⟨(e _).trans h.c0,(e _).trans h.c1,(e _).trans h.c2,(e _).trans h.c3,(e _).trans h.c4,(e _).trans h.c5⟩
def Pu (w:World)(lo hi:Nat)(ad:OA)(n:Nat)(x:Nat->Wr):Prop:=∀i,i<n->∃b off,ad=some ⟨b,off,none⟩/\lo<=b/\b<hi/\QD w b (off+i*6) (x i)
theorem Pu.below{x:Nat->Wr}(h:Pu w lo hi ad n x)(hb:Below B w w')(hB:hi<=B):Pu w' lo hi ad n x:=λi hi'=>by exact zK
theorem Pu.mono{x:Nat->Wr}(h:Pu w lo hi ad n x)(hl:lo'<=lo)(hh:hi<=hi'):Pu w lo' hi' ad n x:=λi hi'=>by obtain⟨b,off,e1,e2,e3,e4⟩:=h i hi';exact dJ
structure Bu where
 wn:Nat
 ws:Nat->Wt
 rn:Nat
 rs:Nat->Wr
abbrev vU (x:Bu)(a b:OA)(d e:Nat):Array Value:=#[.l a x.wn d,.l b x.rn e]
abbrev vUl (x:Bu)(a b:OA)(d e:Nat):List Value:=[.l a x.wn d,.l b x.rn e]
structure MM (x:Bu):Prop where
 w:(x.wn:Int)<=1048576
 r:(x.rn:Int)<=1048576
 ws:∀i,i<x.wn->s_ (x.ws i)rs:∀i,i<x.rn->Q7 (x.rs i)
structure IX (w:World)(lo hi:Nat)(x:Bu)(a1 a2:OA):Prop where
 wt:PF w lo hi a1 x.wn x.ws
 wr:Pu w lo hi a2 x.rn x.rs
theorem IX.below{x:Bu}(h:IX w lo hi x a1 a2)(hb:Below B w w')(hB:hi<=B):IX w' lo hi x a1 a2:=⟨h.wt.below hb hB,h.wr.below hb hB⟩
theorem IX.mono{x:Bu}(h:IX w lo hi x a1 a2)(hl:lo'<=lo)(hh:hi<=hi'):IX w lo' hi' x a1 a2:=⟨h.wt.mono hl hh,h.wr.mono hl hh⟩
structure VB (B:Bk):Prop where
 n0:0<=B.f
 n1:B.f<=B.v
 n2:B.v<=1000000
 on:B.on<=100
 asc:GT B.on B.os=true
 fit:∀i,i<B.on->Bv (B.os i) B.v=true/\Dp (B.os i)=true
 vd:Es B.on B.os=true
 hn:B.hn<=200
 hnow:(B.hn:Int)=B.v-B.f
 t:∀i,i<B.hn->(B.hs i).t=B.f+1+i
 chg:∀i,i<B.hn->GS (B.hs i) B.v=true
 liv:∀j,j<B.hn->IU B.f B.hs j=true
 agO:∀i,i<B.on->agO B.f B.os B.hn B.hs i=true
 agH:∀i,i<B.hn->agH B.on B.os B.hn B.hs i=true
 ti:Iz B.tn B.ts B.v=true
theorem Agp{B:Bk}(h:Bj (ID B) 7=true):VB B:=by have c:=AS.1 h;have c0:=NW (c 0 Zb);have c1:=c 1 Zb;have c2:=c 2 Zb;have c3:=c 3 Zb;have c4:=c 4 Zb;have c5:=c 5 Zb;have c6:=c 6 Zb;simp only[ID,EF,Ge,Qg,JG,As,decide_eq_true_eq,AS]at c1 c2 c3 c4 c5 c6;exact⟨c0.1,c0.2.1,c0.2.2,c1.1,c1.2.1,c1.2.2,c2,c3.1,c3.2.1,λi hi=>(c3.2.2 i hi).1,λi hi=>(c3.2.2 i hi).2,c4,c5.1,c5.2,c6⟩
theorem PD{B:Bk}(h:VB B):Bj (ID B) 7=true:=by
 refine AS.2 λi hi=>?_;have LU:=h.n0;have Mz:=h.n1;have fT:=h.n2;rcases(YP i Za)with rfl|rfl|rfl|rfl|rfl|rfl|rfl;.show K8 B.v B.f=true;unfold K8;rw[H7 ⟨Za,Za⟩,H7 ⟨Za,Za⟩];rfl
 .simp only[ID,EF,JG,As,decide_eq_true_eq,AS];exact⟨h.on,h.asc,h.fit⟩
 .exact h.vd
 .simp only[ID,Ge,As,decide_eq_true_eq,AS];exact⟨h.hn,h.hnow,λi hi=>⟨h.t i hi,h.chg i hi⟩⟩
 .exact AS.2 h.liv
 .simp only[ID,Qg,As,AS];exact⟨h.agO,h.agH⟩
 .exact h.ti
theorem TC (h:Nat->Ch)(a b:ByteArray):∀n,Jj (λi=>h (i+1)) a b n=match Jj h a b (n+1)with|some (j+1)=>some j|_=>none
 |0=>by
  show none=_;unfold Jj;split
  .rename_i e;split at e;.cases e
   .cases e
  .rfl
 |n+1=>by
  have ih:=TC h a b n;show(if(h (n+1)).ob.k=a/\(h (n+1)).ob.n=b then some n else Jj (λi=>h (i+1)) a b n)=_;rw[show Jj h a b (n+1+1)=(if(h (n+1)).ob.k=a/\(h (n+1)).ob.n=b then some (n+1)else Jj h a b (n+1))from rfl];by_cases e:(h (n+1)).ob.k=a/\(h (n+1)).ob.n=b;.rw[if_pos e,if_pos e]
  .rw[if_neg e,if_neg e];exact ih
def JA (B:Bk):Bk:={B with f:=(B.hs 0).t,hn:=B.hn-1,hs:=λi=>B.hs (i+1)}
theorem Js (h:Bv x now=true):1<=x.b/\x.b<=x.t/\1<=x.t/\x.t<=now:=by unfold Bv at h;simp only[As]at h;have a:=Lo h.2.2.1;have b:=Lo h.2.2.2.1;exact⟨b.1,b.2,a.1,a.2⟩
theorem iO (h:GS c now=true):c.ob.t=c.t/\Bv c.ob now=true:=by unfold GS at h;simp only[As,beq_iff_eq]at h;exact⟨h.1,h.2.1⟩
theorem er (h:Cv x z=true):x.t=z.t:=by unfold Cv at h;simp only[As,decide_eq_true_eq]at h;exact h.2.2.1
theorem fA{B:Bk}(h:VB B)(h0:0<B.hn):VB (JA B):=by
 have ju:(B.hs 0).t=B.f+1:=by have:=h.t 0 h0;omega
 have hnow:=h.hnow;have hl:∀a b m,Jj (JA B).hs a b m=match Jj B.hs a b (m+1)with|some (j+1)=>some j|_=>none:=λa b m=>TC B.hs a b m;obtain⟨q1,q2⟩:=iO (h.chg 0 h0);have q3:=Js q2;refine⟨?_,?_,h.n2,h.on,h.asc,h.fit,h.vd,?_,?_,λi hi=>?_,λi hi=>?_,λj hj=>?_,λi hi=>?_,λi hi=>?_,h.ti⟩;.show 0<=(B.hs 0).t;have:=h.n0;omega
 .show(B.hs 0).t<=B.v;omega
 .show B.hn-1<=200;have:=h.hn;omega
 .show((B.hn-1:Nat):Int)=B.v-(B.hs 0).t;omega
 .show(B.hs (i+1)).t=(B.hs 0).t+1+i;have hi:i<B.hn-1:=hi;have:=h.t (i+1) Za;omega
 .have hi:i<B.hn-1:=hi;exact h.chg (i+1) Za
 .have hj:j<B.hn-1:=hj;have o:=h.liv (j+1) Za;unfold IU at o⊢;show(match Jj (JA B).hs (B.hs (j+1)).ob.k (B.hs (j+1)).ob.n j with|none=>Ju (B.hs (j+1)) (B.hs 0).t|some i=>IY (B.hs (i+1)) (B.hs (j+1)))=true;rw[hl];cases e:Jj B.hs (B.hs (j+1)).ob.k (B.hs (j+1)).ob.n (j+1)with
  |none=>
   rw[e]at o;show Ju _ _=true;unfold Ju at o⊢;simp only[Jo,decide_eq_true_eq]at o⊢;rcases o with o|o;.exact AA o
   .exact Az Za
  |some k=>rw[e]at o;cases k with
   |zero=>show Ju _ _=true;have o:IY (B.hs 0) (B.hs (j+1))=true:=o;unfold Ju;unfold IY at o;cases hc:Nf (B.hs (j+1))with
    |true=>rfl
    |false=>rw[hc]at o;cases hg:(B.hs 0).g with
     |true=>rw[hg]at o;simp at o
     |false=>rw[hg]at o;simp only[Bool.or_self,Fo,if_false,beq_iff_eq]at o;simp only[Bool.false_or,decide_eq_true_eq];omega
   |succ k=>exact o
 .have o:=h.agO i hi;unfold Go.Proofs.YtdknjmgdgnmhjaaGreat.agO at o⊢;show(match Jj (JA B).hs (B.os i).k (B.os i).n (B.hn-1)with|none=>decide ((B.os i).t<=(B.hs 0).t)|some j=>!(B.hs (j+1)).g&&Cv (B.os i) (B.hs (j+1)).ob)=true;rw[hl,show B.hn-1+1=B.hn by omega];cases e:Jj B.hs (B.os i).k (B.os i).n B.hn with
  |none=>rw[e]at o;have o:=of_decide_eq_true o;exact decide_eq_true Za
  |some k=>rw[e]at o;cases k with
   |zero=>have o:(!(B.hs 0).g&&Cv (B.os i) (B.hs 0).ob)=true:=o;simp only[As]at o;have:=er o.2;exact decide_eq_true Za
   |succ k=>exact o
 .have hi:i<B.hn-1:=hi;have o:=h.agH (i+1) Za;unfold Go.Proofs.YtdknjmgdgnmhjaaGreat.agH at o⊢;show(!decide (Jj (JA B).hs (B.hs (i+1)).ob.k (B.hs (i+1)).ob.n (B.hn-1)=some i)||((B.hs (i+1)).g||(LP B.os (B.hs (i+1)).ob.k (B.hs (i+1)).ob.n B.on).isSome))=true;rw[hl,show B.hn-1+1=B.hn by omega];cases e:Jj B.hs (B.hs (i+1)).ob.k (B.hs (i+1)).ob.n B.hn with
  |none=>rfl
  |some k=>rw[e]at o;cases k with
   |zero=>rfl
   |succ k=>simpa using o
def Kv (B:Bk)(c:Ch)(m:Nat)(y:Nat->Ob):Bk:={B with v:=B.v+1,on:=m,os:=y,hn:=B.hn+1,hs:=λi=>if i<B.hn then B.hs i else c}
def el (x z:Ob):Prop:=x.k=z.k/\x.n=z.n
theorem QX{n:Int}(h:Bv x n=true)(hn:n<=m):Bv x m=true:=by unfold Bv at h⊢;simp only[As]at h⊢;have:=Lo h.2.2.1;exact⟨h.1,h.2.1,H7 ⟨Za,Za⟩,h.2.2.2⟩
theorem da{n:Int}(h:GS c n=true)(hn:n<=m):GS c m=true:=by unfold GS at h⊢;simp only[As]at h⊢;exact⟨h.1,QX h.2.1 hn,h.2.2⟩
theorem vI{k:Nat}{x:Nat->Ti}{n:Int}(h:Iz k x n=true)(hn:n<=m):Iz k x m=true:=by unfold Iz at h⊢;simp only[As,AS]at h⊢;refine⟨h.1,h.2.1,λi hi=>?_⟩;have:=h.2.2 i hi;exact wj
theorem WP{h h':Nat->Ch}{a b:ByteArray}:∀{n:Nat},(∀i,i<n->h' i=h i)->Jj h' a b n=Jj h a b n
 |0,_=>rfl
 |n+1,e=>by unfold Jj;rw[e n Za,WP λi hi=>e i Za]
theorem MW{x:Nat->Ob}{a b:ByteArray}:∀{n i:Nat},i<n->(x i).k=a/\(x i).n=b->(LP x a b n).isSome=true
 |0,_,h,_=>absurd h (Ae _)
 |n+1,i,h,e=>by unfold LP;cases q:LP x a b n with
  |some k=>rfl
  |none=>
   by_cases hi:i=n;.subst hi;rw[if_pos e];rfl
   .have:=MW (n:=n) Za e;rw[q]at this;cases this
structure S' (B:Bk)(c:Ch)(m:Nat)(y:Nat->Ob):Prop where
 hn:B.hn<200
 v:B.v<1000000
 le:m<=100
 asc:GT m y=true
 vd:Es m y=true
 from_:∀i,i<m->(y i=c.ob/\c.g=false)\/∃j,j<B.on/\y i=B.os j/\¬el (B.os j) c.ob
 keep:∀j,j<B.on->¬el (B.os j) c.ob->∃i,i<m/\y i=B.os j
 new:c.g=false->∃i,i<m/\y i=c.ob
 t:c.t=B.v+1
 over:c.ob.t=B.v+1
 parts:Bv c.ob (B.v+1)=true
 st:(if c.g then L2 c.ob else Dp c.ob)=true
 fol:(match Jj B.hs c.ob.k c.ob.n B.hn with|none=>Ju c B.f|some i=>IY (B.hs i) c)=true
theorem iI (x:Ob):Cv x x=true:=by unfold Cv YQ;simp[AS]
theorem ep{B:Bk}{m:Nat}(h:VB B)(a:S' B c m y):VB (Kv B c m y):=by
 have hl:∀p q k,k<=B.hn->Jj (Kv B c m y).hs p q k=Jj B.hs p q k:=λp q k hk=>WP λi hi=>if_pos Za;have Ox:∀p q,Jj (Kv B c m y).hs p q (B.hn+1)=if c.ob.k=p/\c.ob.n=q then some B.hn else Jj B.hs p q B.hn:=λp q=>by show(if((Kv B c m y).hs B.hn).ob.k=p/\((Kv B c m y).hs B.hn).ob.n=q then some B.hn else Jj (Kv B c m y).hs p q B.hn)=_;rw[hl _ _ _ A9,show(Kv B c m y).hs B.hn=c from if_neg (Bc _)]
 have hh:∀i,i<B.hn->(Kv B c m y).hs i=B.hs i:=λi hi=>if_pos hi;have hc:(Kv B c m y).hs B.hn=c:=if_neg (Bc _);have hnow:=h.hnow;have hnw:=a.v;refine⟨h.n0,?_,?_,a.le,a.asc,λi hi=>?_,a.vd,?_,?_,λi hi=>?_,λi hi=>?_,λj hj=>?_,λi hi=>?_,λi hi=>?_,vI h.ti (by show B.v<=B.v+1;omega)⟩;.show B.f<=B.v+1;have:=h.n1;omega
 .show B.v+1<=1000000;omega
 .show Bv (y i) (B.v+1)=true/\Dp (y i)=true;rcases a.from_ i hi with⟨e,g⟩|⟨j,hj,e,_⟩;.rw[e];have s:=a.st;rw[g]at s;exact⟨a.parts,s⟩
  .rw[e];exact⟨QX (h.fit j hj).1 Za,(h.fit j hj).2⟩
 .show B.hn+1<=200;have:=a.hn;omega
 .show((B.hn+1:Nat):Int)=B.v+1-B.f;omega
 .by_cases e:i<B.hn;.rw[hh i e];exact h.t i e
  .have hi:i<B.hn+1:=hi;obtain rfl:i=B.hn:=Za;rw[hc,a.t];show B.v+1=B.f+1+(B.hn:Int);omega
 .by_cases e:i<B.hn;.rw[hh i e];exact da (h.chg i e) (by show B.v<=B.v+1;omega)
  .have hi:i<B.hn+1:=hi;obtain rfl:i=B.hn:=Za;rw[hc];unfold GS;simp only[As,beq_iff_eq];exact⟨by rw[a.over,a.t],a.parts,a.st⟩
 .by_cases e:j<B.hn;.have o:=h.liv j e;unfold IU at o⊢;rw[hh j e,hl _ _ _ Za];cases q:Jj B.hs (B.hs j).ob.k (B.hs j).ob.n j with
   |none=>rw[q]at o;exact o
   |some k=>rw[q]at o;show IY ((Kv B c m y).hs k) (B.hs j)=true;rw[hh k (by have:=(Jy q).1;omega)];exact o
  .have hj:j<B.hn+1:=hj;obtain rfl:j=B.hn:=Za;have o:=a.fol;unfold IU;rw[hc,hl _ _ _ A9];cases q:Jj B.hs c.ob.k c.ob.n B.hn with
   |none=>rw[q]at o;exact o
   |some k=>rw[q]at o;show IY ((Kv B c m y).hs k) c=true;rw[hh k (Jy q).1];exact o
 .show agO B.f y (B.hn+1) (Kv B c m y).hs i=true;unfold Go.Proofs.YtdknjmgdgnmhjaaGreat.agO;rw[Ox];rcases a.from_ i hi with⟨e,g⟩|⟨j,hj,e,hk⟩;.rw[e,if_pos ⟨rfl,rfl⟩];show(!((Kv B c m y).hs B.hn).g&&Cv c.ob ((Kv B c m y).hs B.hn).ob)=true;rw[hc,g,iI];rfl
  .rw[e,if_neg (λq=>hk ⟨q.1.symm,q.2.symm⟩)];have o:=h.agO j hj;unfold Go.Proofs.YtdknjmgdgnmhjaaGreat.agO at o;cases q:Jj B.hs (B.os j).k (B.os j).n B.hn with
   |none=>rw[q]at o;exact o
   |some k=>rw[q]at o;show(!((Kv B c m y).hs k).g&&Cv (B.os j) ((Kv B c m y).hs k).ob)=true;rw[hh k (Jy q).1];exact o
 .show agH m y (B.hn+1) (Kv B c m y).hs i=true;unfold Go.Proofs.YtdknjmgdgnmhjaaGreat.agH;rw[Ox];by_cases e:i<B.hn
  .rw[hh i e];by_cases k:c.ob.k=(B.hs i).ob.k/\c.ob.n=(B.hs i).ob.n
   .rw[if_pos k];have:¬(some B.hn=some i):=Zd;simp[this]
   .rw[if_neg k];have o:=h.agH i e;unfold Go.Proofs.YtdknjmgdgnmhjaaGreat.agH at o;simp only[Jo]at o⊢;rcases o with o|o|o;.exact AA o
    .exact Az (AA o)
    .refine Az (Az ?_);obtain⟨j,hj⟩:=Option.isSome_iff_exists.1 o;obtain⟨j1,j2,j3⟩:=MZ hj;obtain⟨l,l1,l2⟩:=a.keep j j1 (λq=>k ⟨by rw[<-q.1];exact j2,by rw[<-q.2];exact j3⟩);exact MW l1 (by rw[l2];exact⟨j2,j3⟩)
  .have hi:i<B.hn+1:=hi;obtain rfl:i=B.hn:=Za;rw[hc,if_pos ⟨rfl,rfl⟩];cases g:c.g with
   |true=>simp
   |false=>obtain⟨l,l1,l2⟩:=a.new g;have:=MW (x:=y) (a:=c.ob.k) (b:=c.ob.n) l1 (by rw[l2];exact⟨rfl,rfl⟩);simp[this]
theorem xB (B:Bk)(v:Wr)(ve:Int):(KX B v ve).t=ve:=by
 unfold KX;split;.rfl
 .split;.rfl
  .split;.rfl
   .split<;>rfl
theorem Sg{B:Bk}(h:DE B v=0):¬(CC B.os v.k v.n B.on=decide (v.op=1)):=by intro e;unfold DE at h;rw[if_pos e]at h;cases h
theorem vQ (h:N7 v=true):Cc v.k=true/\Cc v.n=true/\v.m.size<=300/\(Vp v.hold=true\/Cc v.hold=true)/\QT v=true:=by unfold N7 WY at h;simp only[As,Jo,decide_eq_true_eq]at h;exact⟨h.1.1,h.1.2.1,h.1.2.2.2.1,h.1.2.2.2.2,h.2⟩
theorem wZ (h:QT v=true)(ho:v.op=4\/v.op=5):Vp v.hold=false:=by unfold QT at h;rcases ho with ho|ho<;>(rw[ho]at h;simp at h;simpa using h.2)
theorem aV (h:Kl n s)(hn:∀i,i<n->Cc (s i)=true):S3 n s=true:=by unfold S3;refine AS.2 λi hi=>?_;rw[hn i hi,Bool.true_and];cases i with
 |zero=>rfl
 |succ k=>simpa using h k (k+1) Za hi
theorem OR (h:S3 n s=true):∀i,i<n->Cc (s i)=true:=λi hi=>by have:=AS.1 h i hi;simp only[As]at this;exact this.1
theorem eu{x:Nat->Ob}(h:WS n x):GT n x=true:=by unfold GT;refine AS.2 λi hi=>?_;cases i with
 |zero=>rfl
 |succ k=>simpa using h k (k+1) Za hi
theorem qj (x:Ob):DY x x=false:=by have h:=(K4 x x).2 ⟨rfl,rfl⟩;cases e:DY x x with
 |false=>rfl
 |true=>have:=(K7 x x).2 e;omega
theorem WT (x z:Ob):ET x z=0↔el x z:=by
 unfold el;have h:=OM x z;constructor;.intro e;rw[e]at h;exact of_decide_eq_true h.symm
 .intro e;rw[decide_eq_true e]at h;exact eq_of_beq h
theorem T7 (o:Ob):∀(l:List Ob)(z:Ob),z∈Ih o l->z=o\/(z∈l/\¬ET z o=0)
 |[],z,h=>AA (by simpa[Ih]using h)
 |y::r,z,h=>by
  unfold Ih at h;by_cases hb:DY y o=true
  .rw[if_pos hb]at h;rcases CU.1 h with e|e
   .subst e;exact Az ⟨JO,by have:=(K7 z o).2 hb;omega⟩
   .rcases T7 o r z e with q|q;.exact AA q
    .exact Az ⟨IB _ q.1,q.2⟩
  .rw[if_neg hb]at h;rcases CU.1 h with e|e;.exact AA e
   .have:=DS.1 e;exact Az ⟨this.1,of_decide_eq_true this.2⟩
theorem Yl (o:Ob):∀l:List Ob,o∈Ih o l
 |[]=>by simp[Ih]
 |y::r=>by
  unfold Ih;split;.exact IB _ (Yl o r)
  .exact JO
theorem Tu (o:Ob):∀(l:List Ob)(z:Ob),z∈l->¬ET z o=0->z∈Ih o l
 |y::r,z,h,hk=>by
  unfold Ih;split
  .rcases CU.1 h with e|e;.subst e;exact JO
   .exact IB _ (Tu o r z e hk)
  .exact IB _ (DS.2 ⟨h,decide_eq_true hk⟩)
theorem TW{o:Ob}(h:z∈K3 o g l):(z=o/\g=false)\/(z∈l/\¬ET z o=0):=by unfold K3 at h;cases g with
 |true=>have:=DS.1 h;exact Az ⟨this.1,of_decide_eq_true this.2⟩
 |false=>
  rcases T7 o l z h with q|q;.exact AA ⟨q,rfl⟩
  .exact Az q
theorem iU{o:Ob}(h:z∈l)(hk:¬ET z o=0):z∈K3 o g l:=by unfold K3;cases g with
 |true=>exact DS.2 ⟨h,decide_eq_true hk⟩
 |false=>exact Tu o l z h hk
theorem NN{m:Nat}:z∈Fb m y↔∃i,i<m/\y i=z:=by unfold Fb;simp[Ec]
end Go.Proofs.YtdknjmgdgnmhjaaGreat
