import Derived.Test.YtdknjmgdgnmhjaaGreatPk05
import Derived.Laws.IdiomCopy
import Derived.Laws.CopyOwn
import Derived.Sort.Row
set_option maxRecDepth 100000
namespace Go.Proofs.YtdknjmgdgnmhjaaGreat
open Go.RowKit Go.Proofs.Tryz
variable {c:Nat→Value}{i k o g n m j lo hi B:Nat}{A A0:Nat→Option Addr}{C hb:Nat→Nat}{w w' w1 W:World}{ad:OA}{x:Nat→Ob}{P:Nat→Prop}{s:Nat→ByteArray}{α:Type}{v0 v1 v2 v3 v4 v5 v6:Value}{l:List Value}
def L0 (c:Nat->Value)(i:Nat)(y:Ob)(A:OA)(C:Nat):Prop:=c (i*7)=.s y.k/\c (i*7+1)=.s y.n/\c (i*7+2)=.i y.t/\c (i*7+3)=.i y.b/\c (i*7+4)=.s y.m/\c (i*7+5)=.bool y.e/\c (i*7+6)=.l A y.hn C
theorem IS{y:Ob}{A:OA}{C:Nat}(h:L0 c i y A C)(hik:¬i=k)(h1:k*7<=o)(h2:o<k*7+7)(v:Value):L0 (GR c o v) i y A C:=by obtain⟨a0,a1,a2,a3,a4,a5,a6⟩:=h;exact⟨(if_neg Za).trans a0,(if_neg Za).trans a1,(if_neg Za).trans a2,(if_neg Za).trans a3,(if_neg Za).trans a4,(if_neg Za).trans a5,(if_neg Za).trans a6⟩
structure D4 (w:World)(ad:OA)(g n:Nat)(x:Nat->Ob)(A:Nat->Option Addr)(C:Nat->Nat)(hb:Nat->Nat):Prop where
 addr:0<n->ad=some ⟨g,0,none⟩row:0<n->∃c,AE w g (n*7) c/\∀i,i<n->L0 c i (x i) (A i) (C i)hold:∀i,i<n->BA w (hb i) (hb i+1) (A i) (x i).hn (x i).hs
 hlt:∀i,i<n->(x i).hn≠0->hb i<w.1.size
 ap:RZ g n (λi=>(x i).hn) hb
theorem D4.fr (h:D4 w ad g n x A C hb)(hf:AB P w w')(hp:∀k,Fm g n (λi=>(x i).hn) hb k->¬P k):D4 w' ad g n x A C hb:=⟨h.addr,λh0=>by obtain⟨c,r,e⟩:=h.row h0;exact⟨c,r.fr hf (hp g (AA ⟨h0,rfl⟩)),e⟩,λi hi=>(h.hold i hi).frP hf (λh0=>⟨hp (hb i) (Az ⟨i,hi,h0,rfl⟩),h.hlt i hi h0⟩),λi hi h0=>Aa (h.hlt i hi h0) hf.size,h.ap⟩
theorem D4.grow (h:D4 w ad g n x A C hb)(hf:Below w.1.size w w'):D4 w' ad g n x A C hb:=h.fr (Aj (P:=λ_=>False) hf) (λ_ _ h=>h)
def OK (c:Nat->Value)(i:Nat)(y:Ch)(A:OA)(C:Nat):Prop:=c (i*9)=.i y.t/\c (i*9+1)=.bool y.g/\c (i*9+2)=.s y.ob.k/\c (i*9+3)=.s y.ob.n/\c (i*9+4)=.i y.ob.t/\c (i*9+5)=.i y.ob.b/\c (i*9+6)=.s y.ob.m/\c (i*9+7)=.bool y.ob.e/\c (i*9+8)=.l A y.ob.hn C
theorem wO{y:Ch}{A:OA}{C:Nat}(h:OK c i y A C)(hik:¬i=k)(h1:k*9<=o)(h2:o<k*9+9)(v:Value):OK (GR c o v) i y A C:=by obtain⟨a0,a1,a2,a3,a4,a5,a6,a7,a8⟩:=h;exact⟨(if_neg Za).trans a0,(if_neg Za).trans a1,(if_neg Za).trans a2,(if_neg Za).trans a3,(if_neg Za).trans a4,(if_neg Za).trans a5,(if_neg Za).trans a6,(if_neg Za).trans a7,(if_neg Za).trans a8⟩
structure IQ (w:World)(ad:OA)(g n:Nat)(x:Nat->Ch)(A:Nat->Option Addr)(C:Nat->Nat)(hb:Nat->Nat):Prop where
 addr:0<n->ad=some ⟨g,0,none⟩row:0<n->∃c,AE w g (n*9) c/\∀i,i<n->OK c i (x i) (A i) (C i)hold:∀i,i<n->BA w (hb i) (hb i+1) (A i) (x i).ob.hn (x i).ob.hs
 hlt:∀i,i<n->(x i).ob.hn≠0->hb i<w.1.size
 ap:RZ g n (λi=>(x i).ob.hn) hb
theorem IQ.fr{x:Nat->Ch}(h:IQ w ad g n x A C hb)(hf:AB P w w')(hp:∀k,Fm g n (λi=>(x i).ob.hn) hb k->¬P k):IQ w' ad g n x A C hb:=⟨h.addr,λh0=>by obtain⟨c,r,e⟩:=h.row h0;exact⟨c,r.fr hf (hp g (AA ⟨h0,rfl⟩)),e⟩,λi hi=>(h.hold i hi).frP hf (λh0=>⟨hp (hb i) (Az ⟨i,hi,h0,rfl⟩),h.hlt i hi h0⟩),λi hi h0=>Aa (h.hlt i hi h0) hf.size,h.ap⟩
theorem IQ.grow{x:Nat->Ch}(h:IQ w ad g n x A C hb)(hf:Below w.1.size w w'):IQ w' ad g n x A C hb:=h.fr (Aj (P:=λ_=>False) hf) (λ_ _ h=>h)
def Ae2 (c:Nat->Value)(i:Nat)(y:Ti):Prop:=c (i*5)=.s y.c/\c (i*5+1)=.i y.num/\c (i*5+2)=.s y.print/\c (i*5+3)=.i y.code/\c (i*5+4)=.i y.t
structure K6 (w:World)(ad:OA)(g n:Nat)(x:Nat->Ti):Prop where addr:0<n->ad=some ⟨g,0,none⟩row:0<n->∃c,AE w g (n*5) c/\∀i,i<n->Ae2 c i (x i)
theorem K6.fr{x:Nat->Ti}(h:K6 w ad g n x)(hf:AB P w w')(hp:∀k,(λk=>0<n/\k=g) k->¬P k):K6 w' ad g n x:=⟨h.addr,λh0=>by obtain⟨c,r,e⟩:=h.row h0;exact⟨c,r.fr hf (hp g (⟨h0,rfl⟩)),e⟩⟩
theorem K6.grow{x:Nat->Ti}(h:K6 w ad g n x)(hf:Below w.1.size w w'):K6 w' ad g n x:=h.fr (Aj (P:=λ_=>False) hf) (λ_ _ h=>h)
structure Pl where
 a1:Option Addr
 a2:Option Addr
 a3:Option Addr
 g1:Nat
 g2:Nat
 g3:Nat
 A1:Nat->Option Addr
 C1:Nat->Nat
 h1:Nat->Nat
 A2:Nat->Option Addr
 C2:Nat->Nat
 h2:Nat->Nat
def O1 (p:Pl)(x:Bk)(k:Nat):Prop:=Fm p.g1 x.on (λi=>(x.os i).hn) p.h1 k
def UI (p:Pl)(x:Bk)(k:Nat):Prop:=Fm p.g2 x.hn (λi=>(x.hs i).ob.hn) p.h2 k
def Abz (p:Pl)(x:Bk)(k:Nat):Prop:=0<x.tn/\k=p.g3
def GA (p:Pl)(x:Bk)(k:Nat):Prop:=O1 p x k\/(UI p x k\/Abz p x k)
structure Jv (w:World)(x:Bk)(p:Pl):Prop where
 o:D4 w p.a1 p.g1 x.on x.os p.A1 p.C1 p.h1
 h:IQ w p.a2 p.g2 x.hn x.hs p.A2 p.C2 p.h2
 t:K6 w p.a3 p.g3 x.tn x.ts
 d12:∀k,O1 p x k->¬UI p x k
 d13:∀k,O1 p x k->¬Abz p x k
 d23:∀k,UI p x k->¬Abz p x k
theorem Jv.fr{x:Bk}{p:Pl}(h:Jv w x p)(hf:AB P w w')(hp:∀k,GA p x k->¬P k):Jv w' x p:=⟨h.o.fr hf (λk hk=>hp k (AA hk)),h.h.fr hf (λk hk=>hp k (Az (AA hk))),h.t.fr hf (λk hk=>hp k (Az (Az hk))),h.d12,h.d13,h.d23⟩
structure Cr (w:World)(lo hi:Nat)(ad:OA)(m:Nat)(c:Nat->Value):Prop where d:∀j,j<m->∃b off,ad=some ⟨b,off,none⟩/\lo<=b/\b<hi/\w.cell? ⟨b,off+j,none⟩=some (c j)one:∀j,j<m->(c j).oneCell'=true
def AN (m:Nat)(c:Nat->Value):List Value:=(List.range m).map c
theorem Bq (m:Nat)(c:Nat->Value):(AN m c).length=m:=by simp[AN]
theorem Jn{u:Value}(h:(AN m c)[j]?=some u):j<m/\u=c j:=by
 simp only[AN,List.getElem?_map]at h;rcases AD j m with h1|h1;.rw[CR Zcj]at h;simp at h;exact⟨h1,h.symm⟩
 .rw[List.getElem?_eq_none Zcj]at h;cases h
theorem Dr (h:j<(AN m c).length):(AN m c)[j]=c j:=by simp[AN]
theorem AK.src (h:AK w lo hi ad n s):Cr w lo hi ad (n*1) (λj=>.s (s j)):=⟨λj hj=>h j Za,λ_ _=>rfl⟩
theorem BA.zero{b:Nat}:BA w b (b+1) ad 0 s:=λ_ hi=>absurd hi (Ae _)
theorem JN{a:World}(h:AB P a w){p:Addr}(hp:a.1.size<=p.block\/P p.block)(u:Value):AB P a (w.setCell p u):=⟨h.os,h.tape,h.output,by rw[Be];exact h.size,λk hk ho=>(Below.heap_setCell _ _ _ _ (λe=>by
  rcases hp with hp|hp;.rw[<-e]at hp;omega
  .exact ho (e▸hp))).trans (h.block k hk ho)⟩
def Cl{α:Type}(f:Nat->α)(k:Nat)(v:α):Nat->α:=λi=>if i=k then v else f i
theorem Bf (f:Nat->α)(k:Nat)(v:α):Cl f k v k=v:=if_pos rfl
theorem BC (f:Nat->α)(v:α)(h:¬i=k):Cl f k v i=f i:=if_neg h
structure Ve (w:World)(g n k:Nat)(x:Nat->Ob)(A0 A:Nat->Option Addr)(C hb:Nat->Nat):Prop where
 row:0<n->∃c,AE w g (n*7) c/\∀i,i<n->L0 c i (x i) (A i) (C i)src:∀i,k<=i->i<n->A i=A0 i
 hold:∀i,i<k->BA w (hb i) (hb i+1) (A i) (x i).hn (x i).hs
 hlt:∀i,i<k->(x i).hn≠0->g<hb i/\hb i<w.1.size
 inj:∀i j,i<k->j<k->(x i).hn≠0->(x j).hn≠0->hb i=hb j->i=j
theorem Ve.put (h:Ve w g n k x A0 A C hb)(hk:k<n)(AU:Below w.1.size w w1){ad':OA}{cap' b':Nat}(hb':w.1.size<=b')(MV:(x k).hn≠0->b'<w1.1.size)(ho:BA w1 b' (b'+1) ad' (x k).hn (x k).hs):Ve (((((((w1.setCell ⟨g,k*7,none⟩ (.s (x k).k)).setCell ⟨g,k*7+1,none⟩ (.s (x k).n)).setCell ⟨g,k*7+2,none⟩ (.i (x k).t)).setCell ⟨g,k*7+3,none⟩ (.i (x k).b)).setCell ⟨g,k*7+4,none⟩ (.s (x k).m)).setCell ⟨g,k*7+5,none⟩ (.bool (x k).e)).setCell ⟨g,k*7+6,none⟩ (.l ad' (x k).hn cap')) g n (k+1) x A0 (Cl A k ad') (Cl C k cap') (Cl hb k b'):=by
 obtain⟨c,r,DR⟩:=h.row Za;have uj:=r.lt;have F:AB (λq=>q=g) w1 (((((((w1.setCell ⟨g,k*7,none⟩ (.s (x k).k)).setCell ⟨g,k*7+1,none⟩ (.s (x k).n)).setCell ⟨g,k*7+2,none⟩ (.i (x k).t)).setCell ⟨g,k*7+3,none⟩ (.i (x k).b)).setCell ⟨g,k*7+4,none⟩ (.s (x k).m)).setCell ⟨g,k*7+5,none⟩ (.bool (x k).e)).setCell ⟨g,k*7+6,none⟩ (.l ad' (x k).hn cap')):=by
  iterate 7 refine AB.setCell (P:=λq=>q=g) ?_ KV _
  exact AB.refl _ _
 refine⟨λ_=>⟨_,((((((((r.below AU uj).set (o:=k*7) Za _).set (o:=k*7+1) Za _).set (o:=k*7+2) Za _).set (o:=k*7+3) Za _).set (o:=k*7+4) Za _).set (o:=k*7+5) Za _).set (o:=k*7+6) Za _),λi hi=>?_⟩,λi h1 h2=>?_,λi hi=>?_,λi hi h0=>?_,λi j hi hj h0 h1 e=>?_⟩
 .by_cases e:i=k
  .subst e;have a0:=DR i hi;rw[Bf,Bf];refine⟨?_,?_,?_,?_,?_,?_,?_⟩;all_goals simp[GR]
  .rw[BC _ _ e,BC _ _ e];exact(IS (IS (IS (IS (IS (IS (IS (DR i hi) e (k:=k) Za Za _) e (k:=k) Za Za _) e (k:=k) Za Za _) e (k:=k) Za Za _) e (k:=k) Za Za _) e (k:=k) Za Za _) e (k:=k) Za Za _)
 .rw[BC _ _ Za];exact h.src i Za h2
 .by_cases e:i=k;.subst e;rw[Bf,Bf];exact ho.frP (P:=λq=>q=g) F (λh0=>⟨Za,MV h0⟩)
  .rw[BC _ _ e,BC _ _ e];exact(h.hold i Za).frP (P:=λq=>q=g) ((Aj AU).trans F) (λh0=>⟨λe=>Bc _ (e▸(h.hlt i Za h0).1),(h.hlt i Za h0).2⟩)
 .simp only[Be];by_cases e:i=k
  .subst e;rw[Bf];exact⟨Za,MV h0⟩
  .rw[BC _ _ e];exact⟨(h.hlt i Za h0).1,Aa (h.hlt i Za h0).2 AU.size⟩
 .by_cases e1:i=k
  .by_cases e2:j=k;.rw[e1,e2]
   .subst e1;rw[Bf,BC _ _ e2]at e;have:=(h.hlt j Za h1).2;omega
  .by_cases e2:j=k;.subst e2;rw[Bf,BC _ _ e1]at e;have:=(h.hlt i Za h0).2;omega
   .rw[BC _ _ e1,BC _ _ e2]at e;exact h.inj i j Za Za h0 h1 e
theorem Ve.done (h:Ve w g n n x A0 A C hb)(ha:0<n->ad=some ⟨g,0,none⟩):D4 w ad g n x A C hb:=⟨ha,h.row,h.hold,λi hi h0=>(h.hlt i hi h0).2,⟨λi hi h0 e=>Bc _ (e▸(h.hlt i hi h0).1),h.inj⟩⟩
theorem Afz{β:Type}(d:β){p:Nat->β->Prop}(h:∀i,i<n->∃x,p i x):∃f:Nat->β,∀i,i<n->p i (f i):=by exact Af3
theorem Bh.src (h:Bh w lo hi ad n x):∃(c:Nat->Value)(A:Nat->Option Addr)(C:Nat->Nat),Cr w lo hi ad (n*7) c/\(∀i,i<n->L0 c i (x i) (A i) (C i))/\(∀i,i<n->AK w lo hi (A i) (x i).hn (x i).hs):=by
 obtain⟨F,hF⟩:=Afz (n:=n) ((none,0):(Option Addr×Nat)) (p:=λi q=>(∃b off,ad=some ⟨b,off,none⟩/\lo<=b/\b<hi/\DF w b (off+i*7) (x i) q.1 q.2)/\AK w lo hi q.1 (x i).hn (x i).hs) (λi hi'=>by obtain⟨b,off,ah,ch,e1,e2,e3,e4,e5⟩:=h i hi';exact⟨(ah,ch),⟨b,off,e1,e2,e3,e4⟩,e5⟩);have key:∀i,i<n->∃b off,ad=some ⟨b,off,none⟩/\lo<=b/\b<hi/\w.cell? ⟨b,off+i*7,none⟩=some (.s (x i).k)/\w.cell? ⟨b,off+i*7+1,none⟩=some (.s (x i).n)/\w.cell? ⟨b,off+i*7+2,none⟩=some (.i (x i).t)/\w.cell? ⟨b,off+i*7+3,none⟩=some (.i (x i).b)/\w.cell? ⟨b,off+i*7+4,none⟩=some (.s (x i).m)/\w.cell? ⟨b,off+i*7+5,none⟩=some (.bool (x i).e)/\w.cell? ⟨b,off+i*7+6,none⟩=some (.slice (F i).1 (x i).hn (F i).2):=λi hi'=>by obtain⟨⟨b,off,e1,e2,e3,e4⟩,_⟩:=hF i hi';exact⟨b,off,e1,e2,e3,e4.c0,e4.c1,e4.c2,e4.c3,e4.c4,e4.c5,e4.c6⟩
 let c:Nat->Value:=λj=>match ad with
  |some a=>(w.cell? ⟨a.block,a.off+j,none⟩).getD (.i 0)
  |none=>.i 0;refine⟨c,λi=>(F i).1,λi=>(F i).2,⟨λj hj=>?_,λj hj=>?_⟩,λi hi'=>?_,λi hi'=>(hF i hi').2⟩
 .obtain⟨b,off,e1,e2,e3,f0,f1,f2,f3,f4,f5,f6⟩:=key (j/7) Za;subst e1;rcases(show j%7=0\/j%7=1\/j%7=2\/j%7=3\/j%7=4\/j%7=5\/j%7=6 by omega)with hr|hr|hr|hr|hr|hr|hr
  .have ej:off+j=off+j/7*7:=Za;have Fl:c j=.s (x (j/7)).k:=by exact TT
   exact wJ
  .have ej:off+j=off+j/7*7+1:=Za;have Fl:c j=.s (x (j/7)).n:=by exact TN
   exact zF
  .have ej:off+j=off+j/7*7+2:=Za;have Fl:c j=.i (x (j/7)).t:=by exact Tv
   exact yU
  .have ej:off+j=off+j/7*7+3:=Za;have Fl:c j=.i (x (j/7)).b:=by exact TP
   exact ce
  .have ej:off+j=off+j/7*7+4:=Za;have Fl:c j=.s (x (j/7)).m:=by exact TO
   exact zG
  .have ej:off+j=off+j/7*7+5:=Za;have Fl:c j=.bool (x (j/7)).e:=by exact dL
   exact⟨b,off,rfl,e2,e3,by rw[Fl,ej];exact f5⟩
  .have ej:off+j=off+j/7*7+6:=Za;have Fl:c j=.l (F (j/7)).1 (x (j/7)).hn (F (j/7)).2:=by exact dQ
   exact⟨b,off,rfl,e2,e3,by rw[Fl,ej];exact f6⟩
 .obtain⟨b,off,e1,e2,e3,f0,f1,f2,f3,f4,f5,f6⟩:=key (j/7) Za;subst e1;rcases(show j%7=0\/j%7=1\/j%7=2\/j%7=3\/j%7=4\/j%7=5\/j%7=6 by omega)with hr|hr|hr|hr|hr|hr|hr
  .have ej:off+j=off+j/7*7:=Za;have Fl:c j=.s (x (j/7)).k:=by exact TT
   rw[Fl];rfl
  .have ej:off+j=off+j/7*7+1:=Za;have Fl:c j=.s (x (j/7)).n:=by exact TN
   rw[Fl];rfl
  .have ej:off+j=off+j/7*7+2:=Za;have Fl:c j=.i (x (j/7)).t:=by exact Tv
   rw[Fl];rfl
  .have ej:off+j=off+j/7*7+3:=Za;have Fl:c j=.i (x (j/7)).b:=by exact TP
   rw[Fl];rfl
  .have ej:off+j=off+j/7*7+4:=Za;have Fl:c j=.s (x (j/7)).m:=by exact TO
   rw[Fl];rfl
  .have ej:off+j=off+j/7*7+5:=Za;have Fl:c j=.bool (x (j/7)).e:=by exact dL
   rw[Fl];rfl
  .have ej:off+j=off+j/7*7+6:=Za;have Fl:c j=.l (F (j/7)).1 (x (j/7)).hn (F (j/7)).2:=by exact dQ
   rw[Fl];rfl
 .obtain⟨b,off,e1,e2,e3,f0,f1,f2,f3,f4,f5,f6⟩:=key i hi';subst e1;have hc:∀j v,w.cell? ⟨b,off+j,none⟩=some v->c j=v:=λj v h=>by exact wU
  exact⟨hc (i*7) _ (by exact f0),hc (i*7+1) _ Zcr,hc (i*7+2) _ Zcs,hc (i*7+3) _ Zct,hc (i*7+4) _ Zcu,hc (i*7+5) _ (by rw[<-BN];exact f5),hc (i*7+6) _ (by rw[<-BN];exact f6)⟩
theorem Dv.src{x:Nat->Ch}(h:Dv w lo hi ad n x):∃(c:Nat->Value)(A:Nat->Option Addr)(C:Nat->Nat),Cr w lo hi ad (n*9) c/\(∀i,i<n->OK c i (x i) (A i) (C i))/\(∀i,i<n->AK w lo hi (A i) (x i).ob.hn (x i).ob.hs):=by
 obtain⟨F,hF⟩:=Afz (n:=n) ((none,0):(Option Addr×Nat)) (p:=λi q=>(∃b off,ad=some ⟨b,off,none⟩/\lo<=b/\b<hi/\Dz w b (off+i*9) (x i) q.1 q.2)/\AK w lo hi q.1 (x i).ob.hn (x i).ob.hs) (λi hi'=>by obtain⟨b,off,ah,ch,e1,e2,e3,e4,e5⟩:=h i hi';exact⟨(ah,ch),⟨b,off,e1,e2,e3,e4⟩,e5⟩);have key:∀i,i<n->∃b off,ad=some ⟨b,off,none⟩/\lo<=b/\b<hi/\w.cell? ⟨b,off+i*9,none⟩=some (.i (x i).t)/\w.cell? ⟨b,off+i*9+1,none⟩=some (.bool (x i).g)/\w.cell? ⟨b,off+i*9+2,none⟩=some (.s (x i).ob.k)/\w.cell? ⟨b,off+i*9+3,none⟩=some (.s (x i).ob.n)/\w.cell? ⟨b,off+i*9+4,none⟩=some (.i (x i).ob.t)/\w.cell? ⟨b,off+i*9+5,none⟩=some (.i (x i).ob.b)/\w.cell? ⟨b,off+i*9+6,none⟩=some (.s (x i).ob.m)/\w.cell? ⟨b,off+i*9+7,none⟩=some (.bool (x i).ob.e)/\w.cell? ⟨b,off+i*9+8,none⟩=some (.slice (F i).1 (x i).ob.hn (F i).2):=λi hi'=>by obtain⟨⟨b,off,e1,e2,e3,e4⟩,_⟩:=hF i hi';exact⟨b,off,e1,e2,e3,e4.c0,e4.c1,e4.c2,e4.c3,e4.c4,e4.c5,e4.c6,e4.c7,e4.c8⟩
 let c:Nat->Value:=λj=>match ad with
  |some a=>(w.cell? ⟨a.block,a.off+j,none⟩).getD (.i 0)
  |none=>.i 0;refine⟨c,λi=>(F i).1,λi=>(F i).2,⟨λj hj=>?_,λj hj=>?_⟩,λi hi'=>?_,λi hi'=>(hF i hi').2⟩
 .obtain⟨b,off,e1,e2,e3,f0,f1,f2,f3,f4,f5,f6,f7,f8⟩:=key (j/9) Za;subst e1;rcases(show j%9=0\/j%9=1\/j%9=2\/j%9=3\/j%9=4\/j%9=5\/j%9=6\/j%9=7\/j%9=8 by omega)with hr|hr|hr|hr|hr|hr|hr|hr|hr
  .have ej:off+j=off+j/9*9:=Za;have Fl:c j=.i (x (j/9)).t:=by exact TT
   exact wJ
  .have ej:off+j=off+j/9*9+1:=Za;have Fl:c j=.bool (x (j/9)).g:=by exact TN
   exact zF
  .have ej:off+j=off+j/9*9+2:=Za;have Fl:c j=.s (x (j/9)).ob.k:=by exact Tv
   exact yU
  .have ej:off+j=off+j/9*9+3:=Za;have Fl:c j=.s (x (j/9)).ob.n:=by exact TP
   exact ce
  .have ej:off+j=off+j/9*9+4:=Za;have Fl:c j=.i (x (j/9)).ob.t:=by exact TO
   exact zG
  .have ej:off+j=off+j/9*9+5:=Za;have Fl:c j=.i (x (j/9)).ob.b:=by exact dL
   exact⟨b,off,rfl,e2,e3,by rw[Fl,ej];exact f5⟩
  .have ej:off+j=off+j/9*9+6:=Za;have Fl:c j=.s (x (j/9)).ob.m:=by exact dQ
   exact⟨b,off,rfl,e2,e3,by rw[Fl,ej];exact f6⟩
  .have ej:off+j=off+j/9*9+7:=Za;have Fl:c j=.bool (x (j/9)).ob.e:=by show(w.cell? ⟨b,off+j,none⟩).getD _=_;rw[ej,f7];rfl
   exact⟨b,off,rfl,e2,e3,by rw[Fl,ej];exact f7⟩
  .have ej:off+j=off+j/9*9+8:=Za;have Fl:c j=.l (F (j/9)).1 (x (j/9)).ob.hn (F (j/9)).2:=by show(w.cell? ⟨b,off+j,none⟩).getD _=_;rw[ej,f8];rfl
   exact⟨b,off,rfl,e2,e3,by rw[Fl,ej];exact f8⟩
 .obtain⟨b,off,e1,e2,e3,f0,f1,f2,f3,f4,f5,f6,f7,f8⟩:=key (j/9) Za;subst e1;rcases(show j%9=0\/j%9=1\/j%9=2\/j%9=3\/j%9=4\/j%9=5\/j%9=6\/j%9=7\/j%9=8 by omega)with hr|hr|hr|hr|hr|hr|hr|hr|hr
  .have ej:off+j=off+j/9*9:=Za;have Fl:c j=.i (x (j/9)).t:=by exact TT
   rw[Fl];rfl
  .have ej:off+j=off+j/9*9+1:=Za;have Fl:c j=.bool (x (j/9)).g:=by exact TN
   rw[Fl];rfl
  .have ej:off+j=off+j/9*9+2:=Za;have Fl:c j=.s (x (j/9)).ob.k:=by exact Tv
   rw[Fl];rfl
  .have ej:off+j=off+j/9*9+3:=Za;have Fl:c j=.s (x (j/9)).ob.n:=by exact TP
   rw[Fl];rfl
  .have ej:off+j=off+j/9*9+4:=Za;have Fl:c j=.i (x (j/9)).ob.t:=by exact TO
   rw[Fl];rfl
  .have ej:off+j=off+j/9*9+5:=Za;have Fl:c j=.i (x (j/9)).ob.b:=by exact dL
   rw[Fl];rfl
  .have ej:off+j=off+j/9*9+6:=Za;have Fl:c j=.s (x (j/9)).ob.m:=by exact dQ
   rw[Fl];rfl
  .have ej:off+j=off+j/9*9+7:=Za;have Fl:c j=.bool (x (j/9)).ob.e:=by show(w.cell? ⟨b,off+j,none⟩).getD _=_;rw[ej,f7];rfl
   rw[Fl];rfl
  .have ej:off+j=off+j/9*9+8:=Za;have Fl:c j=.l (F (j/9)).1 (x (j/9)).ob.hn (F (j/9)).2:=by show(w.cell? ⟨b,off+j,none⟩).getD _=_;rw[ej,f8];rfl
   rw[Fl];rfl
 .obtain⟨b,off,e1,e2,e3,f0,f1,f2,f3,f4,f5,f6,f7,f8⟩:=key i hi';subst e1;have hc:∀j v,w.cell? ⟨b,off+j,none⟩=some v->c j=v:=λj v h=>by exact wU
  exact⟨hc (i*9) _ (by exact f0),hc (i*9+1) _ Zcr,hc (i*9+2) _ Zcs,hc (i*9+3) _ Zct,hc (i*9+4) _ Zcu,hc (i*9+5) _ (by rw[<-BN];exact f5),hc (i*9+6) _ (by rw[<-BN];exact f6),hc (i*9+7) _ (by rw[<-BN];exact f7),hc (i*9+8) _ (by rw[<-BN];exact f8)⟩
theorem DD.src{x:Nat->Ti}(h:DD w lo hi ad n x):∃(c:Nat->Value),Cr w lo hi ad (n*5) c/\(∀i,i<n->Ae2 c i (x i)):=by
 have hF:∀i,i<n->(∃b off,ad=some ⟨b,off,none⟩/\lo<=b/\b<hi/\Ji w b (off+i*5) (x i)):=h;have key:∀i,i<n->∃b off,ad=some ⟨b,off,none⟩/\lo<=b/\b<hi/\w.cell? ⟨b,off+i*5,none⟩=some (.s (x i).c)/\w.cell? ⟨b,off+i*5+1,none⟩=some (.i (x i).num)/\w.cell? ⟨b,off+i*5+2,none⟩=some (.s (x i).print)/\w.cell? ⟨b,off+i*5+3,none⟩=some (.i (x i).code)/\w.cell? ⟨b,off+i*5+4,none⟩=some (.i (x i).t):=λi hi'=>by obtain⟨b,off,e1,e2,e3,e4⟩:=hF i hi';exact⟨b,off,e1,e2,e3,e4.c0,e4.c1,e4.c2,e4.c3,e4.c4⟩
 let c:Nat->Value:=λj=>match ad with
  |some a=>(w.cell? ⟨a.block,a.off+j,none⟩).getD (.i 0)
  |none=>.i 0;refine⟨c,⟨λj hj=>?_,λj hj=>?_⟩,λi hi'=>?_⟩
 .obtain⟨b,off,e1,e2,e3,f0,f1,f2,f3,f4⟩:=key (j/5) Za;subst e1;rcases(show j%5=0\/j%5=1\/j%5=2\/j%5=3\/j%5=4 by omega)with hr|hr|hr|hr|hr
  .have ej:off+j=off+j/5*5:=Za;have Fl:c j=.s (x (j/5)).c:=by exact TT
   exact wJ
  .have ej:off+j=off+j/5*5+1:=Za;have Fl:c j=.i (x (j/5)).num:=by exact TN
   exact zF
  .have ej:off+j=off+j/5*5+2:=Za;have Fl:c j=.s (x (j/5)).print:=by exact Tv
   exact yU
  .have ej:off+j=off+j/5*5+3:=Za;have Fl:c j=.i (x (j/5)).code:=by exact TP
   exact ce
  .have ej:off+j=off+j/5*5+4:=Za;have Fl:c j=.i (x (j/5)).t:=by exact TO
   exact zG
 .obtain⟨b,off,e1,e2,e3,f0,f1,f2,f3,f4⟩:=key (j/5) Za;subst e1;rcases(show j%5=0\/j%5=1\/j%5=2\/j%5=3\/j%5=4 by omega)with hr|hr|hr|hr|hr
  .have ej:off+j=off+j/5*5:=Za;have Fl:c j=.s (x (j/5)).c:=by exact TT
   rw[Fl];rfl
  .have ej:off+j=off+j/5*5+1:=Za;have Fl:c j=.i (x (j/5)).num:=by exact TN
   rw[Fl];rfl
  .have ej:off+j=off+j/5*5+2:=Za;have Fl:c j=.s (x (j/5)).print:=by exact Tv
   rw[Fl];rfl
  .have ej:off+j=off+j/5*5+3:=Za;have Fl:c j=.i (x (j/5)).code:=by exact TP
   rw[Fl];rfl
  .have ej:off+j=off+j/5*5+4:=Za;have Fl:c j=.i (x (j/5)).t:=by exact TO
   rw[Fl];rfl
 .obtain⟨b,off,e1,e2,e3,f0,f1,f2,f3,f4⟩:=key i hi';subst e1;have hc:∀j v,w.cell? ⟨b,off+j,none⟩=some v->c j=v:=λj v h=>by exact wU
  exact⟨hc (i*5) _ (by exact f0),hc (i*5+1) _ Zcr,hc (i*5+2) _ Zcs,hc (i*5+3) _ Zct,hc (i*5+4) _ Zcu⟩
def AV (l:List Value):Nat->Value:=λj=>l.getD j (.i 0)
theorem CR3 (h:AE W B 3 (AV [v0,v1,v2])):W.cell? ⟨B,0,none⟩=some v0/\W.cell? ⟨B,1,none⟩=some v1/\W.cell? ⟨B,2,none⟩=some v2:=⟨h.cell 0 Za,h.cell 1 Za,h.cell 2 Za⟩
theorem CR4 (h:AE W B 4 (AV [v0,v1,v2,v3])):W.cell? ⟨B,0,none⟩=some v0/\W.cell? ⟨B,1,none⟩=some v1/\W.cell? ⟨B,2,none⟩=some v2/\W.cell? ⟨B,3,none⟩=some v3:=⟨h.cell 0 Za,h.cell 1 Za,h.cell 2 Za,h.cell 3 Za⟩
theorem CR5 (h:AE W B 5 (AV [v0,v1,v2,v3,v4])):W.cell? ⟨B,0,none⟩=some v0/\W.cell? ⟨B,1,none⟩=some v1/\W.cell? ⟨B,2,none⟩=some v2/\W.cell? ⟨B,3,none⟩=some v3/\W.cell? ⟨B,4,none⟩=some v4:=⟨h.cell 0 Za,h.cell 1 Za,h.cell 2 Za,h.cell 3 Za,h.cell 4 Za⟩
theorem CR7 (h:AE W B 7 (AV [v0,v1,v2,v3,v4,v5,v6])):W.cell? ⟨B,0,none⟩=some v0/\W.cell? ⟨B,1,none⟩=some v1/\W.cell? ⟨B,2,none⟩=some v2/\W.cell? ⟨B,3,none⟩=some v3/\W.cell? ⟨B,4,none⟩=some v4/\W.cell? ⟨B,5,none⟩=some v5/\W.cell? ⟨B,6,none⟩=some v6:=⟨h.cell 0 Za,h.cell 1 Za,h.cell 2 Za,h.cell 3 Za,h.cell 4 Za,h.cell 5 Za,h.cell 6 Za⟩
theorem AE.new{t:TypeId}(hb:Below (w.alloc (.cells l.toArray t)).1.size (w.alloc (.cells l.toArray t)) w1):AE w1 w.1.size l.length (AV l):=⟨by have:=hb.size;simp at this;omega,λj=>by rw[hb.frozen (p:=⟨w.1.size,j,none⟩) Ze];simp,λj hj=>by rw[Ay hb j];simp[AV,hj]⟩
theorem CT2 (h:AE W B m (AV (v0::v1::l)))(hm:2<=m:=by omega):W.cell? ⟨B,0,none⟩=some v0/\W.cell? ⟨B,1,none⟩=some v1:=⟨h.cell 0 Za,h.cell 1 Za⟩
theorem CT3 (h:AE W B m (AV (v0::v1::v2::l)))(hm:3<=m:=by omega):W.cell? ⟨B,0,none⟩=some v0/\W.cell? ⟨B,1,none⟩=some v1/\W.cell? ⟨B,2,none⟩=some v2:=⟨h.cell 0 Za,h.cell 1 Za,h.cell 2 Za⟩
theorem JQ (h:AE W B m (AV (v0::v1::v2::v3::v4::l)))(hm:5<=m:=by omega):W.cell? ⟨B,0,none⟩=some v0/\W.cell? ⟨B,1,none⟩=some v1/\W.cell? ⟨B,2,none⟩=some v2/\W.cell? ⟨B,3,none⟩=some v3/\W.cell? ⟨B,4,none⟩=some v4:=⟨h.cell 0 Za,h.cell 1 Za,h.cell 2 Za,h.cell 3 Za,h.cell 4 Za⟩
theorem CT6 (h:AE W B m (AV (v0::v1::v2::v3::v4::v5::l)))(hm:6<=m:=by omega):W.cell? ⟨B,0,none⟩=some v0/\W.cell? ⟨B,1,none⟩=some v1/\W.cell? ⟨B,2,none⟩=some v2/\W.cell? ⟨B,3,none⟩=some v3/\W.cell? ⟨B,4,none⟩=some v4/\W.cell? ⟨B,5,none⟩=some v5:=⟨h.cell 0 Za,h.cell 1 Za,h.cell 2 Za,h.cell 3 Za,h.cell 4 Za,h.cell 5 Za⟩
theorem iE (h:AE W B m (AV (v0::v1::v2::v3::v4::v5::v6::l)))(hm:7<=m:=by omega):W.cell? ⟨B,0,none⟩=some v0/\W.cell? ⟨B,1,none⟩=some v1/\W.cell? ⟨B,2,none⟩=some v2/\W.cell? ⟨B,3,none⟩=some v3/\W.cell? ⟨B,4,none⟩=some v4/\W.cell? ⟨B,5,none⟩=some v5/\W.cell? ⟨B,6,none⟩=some v6:=⟨h.cell 0 Za,h.cell 1 Za,h.cell 2 Za,h.cell 3 Za,h.cell 4 Za,h.cell 5 Za,h.cell 6 Za⟩
theorem Sc{v7 v8:Value}(h:AE W B m (AV (v0::v1::v2::v3::v4::v5::v6::v7::v8::l)))(hm:9<=m:=by omega):W.cell? ⟨B,0,none⟩=some v0/\W.cell? ⟨B,1,none⟩=some v1/\W.cell? ⟨B,2,none⟩=some v2/\W.cell? ⟨B,3,none⟩=some v3/\W.cell? ⟨B,4,none⟩=some v4/\W.cell? ⟨B,5,none⟩=some v5/\W.cell? ⟨B,6,none⟩=some v6/\W.cell? ⟨B,7,none⟩=some v7/\W.cell? ⟨B,8,none⟩=some v8:=⟨h.cell 0 Za,h.cell 1 Za,h.cell 2 Za,h.cell 3 Za,h.cell 4 Za,h.cell 5 Za,h.cell 6 Za,h.cell 7 Za,h.cell 8 Za⟩
end Go.Proofs.YtdknjmgdgnmhjaaGreat
