import Derived.Test.YtnnjcenacidceaaPk05
import Derived.Test.YtnnjcenacidceaaPk06
import Derived.Laws.IdiomCopy
import Derived.Laws.CopyOwn
import Derived.Sort.Row
import Derived.Deep.RegionWith
set_option maxRecDepth 100000
namespace Go.Proofs.Ytnnjcenacidceaa
open Go.RowKit Go.Proofs.Try
def RZ (c:Nat->Value)(i:Nat)(y:Ob)(A:OA)(C:Nat):Prop:=c (i*7)=.s y.kind/\c (i*7+1)=.s y.name/\c (i*7+2)=.i y.ver/\c (i*7+3)=.i y.born/\c (i*7+4)=.s y.text/\c (i*7+5)=.bool y.ending/\c (i*7+6)=.l A y.hn C
theorem bG{c:Nat->Value}{i:Nat}{y:Ob}{A:OA}{C:Nat}(h:RZ c i y A C){k o:Nat}(hik:¬i=k)(h1:k*7<=o)(h2:o<k*7+7)(v:Value):RZ (L1 c o v) i y A C:=by obtain⟨a0,a1,a2,a3,a4,a5,a6⟩:=h;exact⟨(if_neg Za).trans a0,(if_neg Za).trans a1,(if_neg Za).trans a2,(if_neg Za).trans a3,(if_neg Za).trans a4,(if_neg Za).trans a5,(if_neg Za).trans a6⟩
structure L0 (w:World)(ad:OA)(g n:Nat)(x:Nat->Ob)(A:Nat->Option Addr)(C:Nat->Nat)(hb:Nat->Nat):Prop where
 addr:0<n->ad=some ⟨g,0,none⟩row:0<n->∃c,AN w g (n*7) c/\∀i,i<n->RZ c i (x i) (A i) (C i)hold:∀i,i<n->Bz w (hb i) (hb i+1) (A i) (x i).hn (x i).hs
 hlt:∀i,i<n->(x i).hn≠0->hb i<w.1.size
 ap:QN g n (λi=>(x i).hn) hb
theorem L0.fr{w w':World}{ad:OA}{g n:Nat}{x:Nat->Ob}{A:Nat->Option Addr}{C:Nat->Nat}{hb:Nat->Nat}{P:Nat->Prop}(h:L0 w ad g n x A C hb)(hf:Az P w w')(hp:∀k,Md g n (λi=>(x i).hn) hb k->¬P k):L0 w' ad g n x A C hb:=⟨h.addr,λh0=>by obtain⟨c,r,e⟩:=h.row h0;exact⟨c,r.fr hf (hp g (AA ⟨h0,rfl⟩)),e⟩,λi hi=>(h.hold i hi).frP hf (λh0=>⟨hp (hb i) (AC ⟨i,hi,h0,rfl⟩),h.hlt i hi h0⟩),λi hi h0=>Ac (h.hlt i hi h0) hf.size,h.ap⟩
theorem L0.grow{w w':World}{ad:OA}{g n:Nat}{x:Nat->Ob}{A:Nat->Option Addr}{C:Nat->Nat}{hb:Nat->Nat}(h:L0 w ad g n x A C hb)(hf:Below w.1.size w w'):L0 w' ad g n x A C hb:=h.fr (Aq (P:=λ_=>False) hf) (λ_ _ h=>h)
def Qr (c:Nat->Value)(i:Nat)(y:Ch)(A:OA)(C:Nat):Prop:=c (i*9)=.i y.ver/\c (i*9+1)=.bool y.gone/\c (i*9+2)=.s y.ob.kind/\c (i*9+3)=.s y.ob.name/\c (i*9+4)=.i y.ob.ver/\c (i*9+5)=.i y.ob.born/\c (i*9+6)=.s y.ob.text/\c (i*9+7)=.bool y.ob.ending/\c (i*9+8)=.l A y.ob.hn C
theorem gE{c:Nat->Value}{i:Nat}{y:Ch}{A:OA}{C:Nat}(h:Qr c i y A C){k o:Nat}(hik:¬i=k)(h1:k*9<=o)(h2:o<k*9+9)(v:Value):Qr (L1 c o v) i y A C:=by obtain⟨a0,a1,a2,a3,a4,a5,a6,a7,a8⟩:=h;exact⟨(if_neg Za).trans a0,(if_neg Za).trans a1,(if_neg Za).trans a2,(if_neg Za).trans a3,(if_neg Za).trans a4,(if_neg Za).trans a5,(if_neg Za).trans a6,(if_neg Za).trans a7,(if_neg Za).trans a8⟩
structure Lu (w:World)(ad:OA)(g n:Nat)(x:Nat->Ch)(A:Nat->Option Addr)(C:Nat->Nat)(hb:Nat->Nat):Prop where
 addr:0<n->ad=some ⟨g,0,none⟩row:0<n->∃c,AN w g (n*9) c/\∀i,i<n->Qr c i (x i) (A i) (C i)hold:∀i,i<n->Bz w (hb i) (hb i+1) (A i) (x i).ob.hn (x i).ob.hs
 hlt:∀i,i<n->(x i).ob.hn≠0->hb i<w.1.size
 ap:QN g n (λi=>(x i).ob.hn) hb
theorem Lu.fr{w w':World}{ad:OA}{g n:Nat}{x:Nat->Ch}{A:Nat->Option Addr}{C:Nat->Nat}{hb:Nat->Nat}{P:Nat->Prop}(h:Lu w ad g n x A C hb)(hf:Az P w w')(hp:∀k,Md g n (λi=>(x i).ob.hn) hb k->¬P k):Lu w' ad g n x A C hb:=⟨h.addr,λh0=>by obtain⟨c,r,e⟩:=h.row h0;exact⟨c,r.fr hf (hp g (AA ⟨h0,rfl⟩)),e⟩,λi hi=>(h.hold i hi).frP hf (λh0=>⟨hp (hb i) (AC ⟨i,hi,h0,rfl⟩),h.hlt i hi h0⟩),λi hi h0=>Ac (h.hlt i hi h0) hf.size,h.ap⟩
theorem Lu.grow{w w':World}{ad:OA}{g n:Nat}{x:Nat->Ch}{A:Nat->Option Addr}{C:Nat->Nat}{hb:Nat->Nat}(h:Lu w ad g n x A C hb)(hf:Below w.1.size w w'):Lu w' ad g n x A C hb:=h.fr (Aq (P:=λ_=>False) hf) (λ_ _ h=>h)
def tL (c:Nat->Value)(i:Nat)(y:Ti):Prop:=c (i*5)=.s y.client/\c (i*5+1)=.i y.num/\c (i*5+2)=.s y.print/\c (i*5+3)=.i y.code/\c (i*5+4)=.i y.ver
structure M2 (w:World)(ad:OA)(g n:Nat)(x:Nat->Ti):Prop where addr:0<n->ad=some ⟨g,0,none⟩row:0<n->∃c,AN w g (n*5) c/\∀i,i<n->tL c i (x i)
theorem M2.fr{w w':World}{ad:OA}{g n:Nat}{x:Nat->Ti}{P:Nat->Prop}(h:M2 w ad g n x)(hf:Az P w w')(hp:∀k,(λk=>0<n/\k=g) k->¬P k):M2 w' ad g n x:=⟨h.addr,λh0=>by obtain⟨c,r,e⟩:=h.row h0;exact⟨c,r.fr hf (hp g (⟨h0,rfl⟩)),e⟩⟩
theorem M2.grow{w w':World}{ad:OA}{g n:Nat}{x:Nat->Ti}(h:M2 w ad g n x)(hf:Below w.1.size w w'):M2 w' ad g n x:=h.fr (Aq (P:=λ_=>False) hf) (λ_ _ h=>h)
structure Pl where
 a1:Option Addr
 a2:Option Addr
 a3:Option Addr
 g1:Nat
 g2:Nat
 g3:Nat
 A1:Nat->Option Addr
 C1:Nat->Nat
 h1:Nat->Nat
 A2:Nat->Option Addr
 C2:Nat->Nat
 h2:Nat->Nat
def PB (p:Pl)(x:Bk)(k:Nat):Prop:=Md p.g1 x.on (λi=>(x.os i).hn) p.h1 k
def T2 (p:Pl)(x:Bk)(k:Nat):Prop:=Md p.g2 x.hn (λi=>(x.hs i).ob.hn) p.h2 k
def oJ (p:Pl)(x:Bk)(k:Nat):Prop:=0<x.tn/\k=p.g3
def Lh (p:Pl)(x:Bk)(k:Nat):Prop:=PB p x k\/(T2 p x k\/oJ p x k)
structure MN (w:World)(x:Bk)(p:Pl):Prop where
 o:L0 w p.a1 p.g1 x.on x.os p.A1 p.C1 p.h1
 h:Lu w p.a2 p.g2 x.hn x.hs p.A2 p.C2 p.h2
 t:M2 w p.a3 p.g3 x.tn x.ts
 d12:∀k,PB p x k->¬T2 p x k
 d13:∀k,PB p x k->¬oJ p x k
 d23:∀k,T2 p x k->¬oJ p x k
theorem MN.fr{w w':World}{x:Bk}{p:Pl}{P:Nat->Prop}(h:MN w x p)(hf:Az P w w')(hp:∀k,Lh p x k->¬P k):MN w' x p:=⟨h.o.fr hf (λk hk=>hp k (AA hk)),h.h.fr hf (λk hk=>hp k (AC (AA hk))),h.t.fr hf (λk hk=>hp k (AC (AC hk))),h.d12,h.d13,h.d23⟩
structure BS (w:World)(lo hi:Nat)(ad:OA)(m:Nat)(c:Nat->Value):Prop where at_:∀j,j<m->∃b off,ad=some ⟨b,off,none⟩/\lo<=b/\b<hi/\w.cell? ⟨b,off+j,none⟩=some (c j)one:∀j,j<m->(c j).oneCell'=true
def AM (m:Nat)(c:Nat->Value):List Value:=(List.range m).map c
theorem AW (m:Nat)(c:Nat->Value):(AM m c).length=m:=by simp[AM]
theorem Ng{m:Nat}{c:Nat->Value}{j:Nat}{u:Value}(h:(AM m c)[j]?=some u):j<m/\u=c j:=by
 simp only[AM,MQ]at h;rcases Au j m with h1|h1;.rw[Bh (by simpa using h1)]at h;simp at h;exact⟨h1,h.symm⟩
 .rw[List.getElem?_eq_none (by simpa using h1)]at h;cases h
theorem Da{m:Nat}{c:Nat->Value}{j:Nat}(h:j<(AM m c).length):(AM m c)[j]=c j:=by simp[AM]
theorem AB.src{w:World}{lo hi:Nat}{ad:OA}{n:Nat}{s:Nat->ByteArray}(h:AB w lo hi ad n s):BS w lo hi ad (n*1) (λj=>.s (s j)):=⟨λj hj=>h j Za,λ_ _=>rfl⟩
theorem Bz.zero{w:World}{b:Nat}{ad:OA}{s:Nat->ByteArray}:Bz w b (b+1) ad 0 s:=λ_ hi=>absurd hi (Aj _)
theorem Mt{P:Nat->Prop}{a w:World}(h:Az P a w){p:Addr}(hp:a.1.size<=p.block\/P p.block)(u:Value):Az P a (w.setCell p u):=⟨h.os,h.tape,h.output,by rw[Bj];exact h.size,λk hk ho=>(Below.heap_setCell _ _ _ _ (λe=>by
  rcases hp with hp|hp;.rw[<-e]at hp;omega
  .exact ho (e▸hp))).trans (h.block k hk ho)⟩
def B8{α:Type}(f:Nat->α)(k:Nat)(v:α):Nat->α:=λi=>if i=k then v else f i
theorem Bt{α:Type}(f:Nat->α)(k:Nat)(v:α):B8 f k v k=v:=if_pos rfl
theorem BP{α:Type}(f:Nat->α){k i:Nat}(v:α)(h:¬i=k):B8 f k v i=f i:=if_neg h
theorem wY{β:Type}{n:Nat}(d:β){p:Nat->β->Prop}(h:∀i,i<n->∃x,p i x):∃f:Nat->β,∀i,i<n->p i (f i):=by
 have h':∀i,∃x,i<n->p i x:=λi=>by
  by_cases hi:i<n;.obtain⟨x,hx⟩:=h i hi;exact⟨x,λ_=>hx⟩
  .exact⟨d,λe=>absurd e hi⟩
 obtain⟨f,hf⟩:=Classical.skolem.1 h';exact⟨f,hf⟩
theorem CO.src{w:World}{lo hi:Nat}{ad:OA}{n:Nat}{x:Nat->Ch}(h:CO w lo hi ad n x):∃(c:Nat->Value)(A:Nat->Option Addr)(C:Nat->Nat),BS w lo hi ad (n*9) c/\(∀i,i<n->Qr c i (x i) (A i) (C i))/\(∀i,i<n->AB w lo hi (A i) (x i).ob.hn (x i).ob.hs):=by
 obtain⟨F,hF⟩:=wY (n:=n) ((none,0):(Option Addr×Nat)) (p:=λi q=>(∃b off,ad=some ⟨b,off,none⟩/\lo<=b/\b<hi/\Dk w b (off+i*9) (x i) q.1 q.2)/\AB w lo hi q.1 (x i).ob.hn (x i).ob.hs) (λi hi'=>by obtain⟨b,off,ah,ch,e1,e2,e3,e4,e5⟩:=h i hi';exact⟨(ah,ch),⟨b,off,e1,e2,e3,e4⟩,e5⟩);have key:∀i,i<n->∃b off,ad=some ⟨b,off,none⟩/\lo<=b/\b<hi/\w.cell? ⟨b,off+i*9,none⟩=some (.i (x i).ver)/\w.cell? ⟨b,off+i*9+1,none⟩=some (.bool (x i).gone)/\w.cell? ⟨b,off+i*9+2,none⟩=some (.s (x i).ob.kind)/\w.cell? ⟨b,off+i*9+3,none⟩=some (.s (x i).ob.name)/\w.cell? ⟨b,off+i*9+4,none⟩=some (.i (x i).ob.ver)/\w.cell? ⟨b,off+i*9+5,none⟩=some (.i (x i).ob.born)/\w.cell? ⟨b,off+i*9+6,none⟩=some (.s (x i).ob.text)/\w.cell? ⟨b,off+i*9+7,none⟩=some (.bool (x i).ob.ending)/\w.cell? ⟨b,off+i*9+8,none⟩=some (.slice (F i).1 (x i).ob.hn (F i).2):=λi hi'=>by obtain⟨⟨b,off,e1,e2,e3,e4⟩,_⟩:=hF i hi';exact⟨b,off,e1,e2,e3,e4.c0,e4.c1,e4.c2,e4.c3,e4.c4,e4.c5,e4.c6,e4.c7,e4.c8⟩
 let c:Nat->Value:=λj=>match ad with
  |some a=>(w.cell? ⟨a.block,a.off+j,none⟩).getD (.i 0)
  |none=>.i 0;refine⟨c,λi=>(F i).1,λi=>(F i).2,⟨λj hj=>?_,λj hj=>?_⟩,λi hi'=>?_,λi hi'=>(hF i hi').2⟩
 .obtain⟨b,off,e1,e2,e3,f0,f1,f2,f3,f4,f5,f6,f7,f8⟩:=key (j/9) Za;subst e1;rcases(show j%9=0\/j%9=1\/j%9=2\/j%9=3\/j%9=4\/j%9=5\/j%9=6\/j%9=7\/j%9=8 by omega)with hr|hr|hr|hr|hr|hr|hr|hr|hr
  .have ej:off+j=off+j/9*9:=Za;have hcj:c j=.i (x (j/9)).ver:=by show(w.cell? ⟨b,off+j,none⟩).getD _=_;rw[ej,f0];rfl
   exact⟨b,off,rfl,e2,e3,by rw[hcj,ej];exact f0⟩
  .have ej:off+j=off+j/9*9+1:=Za;have hcj:c j=.bool (x (j/9)).gone:=by show(w.cell? ⟨b,off+j,none⟩).getD _=_;rw[ej,f1];rfl
   exact⟨b,off,rfl,e2,e3,by rw[hcj,ej];exact f1⟩
  .have ej:off+j=off+j/9*9+2:=Za;have hcj:c j=.s (x (j/9)).ob.kind:=by show(w.cell? ⟨b,off+j,none⟩).getD _=_;rw[ej,f2];rfl
   exact⟨b,off,rfl,e2,e3,by rw[hcj,ej];exact f2⟩
  .have ej:off+j=off+j/9*9+3:=Za;have hcj:c j=.s (x (j/9)).ob.name:=by show(w.cell? ⟨b,off+j,none⟩).getD _=_;rw[ej,f3];rfl
   exact⟨b,off,rfl,e2,e3,by rw[hcj,ej];exact f3⟩
  .have ej:off+j=off+j/9*9+4:=Za;have hcj:c j=.i (x (j/9)).ob.ver:=by show(w.cell? ⟨b,off+j,none⟩).getD _=_;rw[ej,f4];rfl
   exact⟨b,off,rfl,e2,e3,by rw[hcj,ej];exact f4⟩
  .have ej:off+j=off+j/9*9+5:=Za;have hcj:c j=.i (x (j/9)).ob.born:=by show(w.cell? ⟨b,off+j,none⟩).getD _=_;rw[ej,f5];rfl
   exact⟨b,off,rfl,e2,e3,by rw[hcj,ej];exact f5⟩
  .have ej:off+j=off+j/9*9+6:=Za;have hcj:c j=.s (x (j/9)).ob.text:=by show(w.cell? ⟨b,off+j,none⟩).getD _=_;rw[ej,f6];rfl
   exact⟨b,off,rfl,e2,e3,by rw[hcj,ej];exact f6⟩
  .have ej:off+j=off+j/9*9+7:=Za;have hcj:c j=.bool (x (j/9)).ob.ending:=by show(w.cell? ⟨b,off+j,none⟩).getD _=_;rw[ej,f7];rfl
   exact⟨b,off,rfl,e2,e3,by rw[hcj,ej];exact f7⟩
  .have ej:off+j=off+j/9*9+8:=Za;have hcj:c j=.l (F (j/9)).1 (x (j/9)).ob.hn (F (j/9)).2:=by show(w.cell? ⟨b,off+j,none⟩).getD _=_;rw[ej,f8];rfl
   exact⟨b,off,rfl,e2,e3,by rw[hcj,ej];exact f8⟩
 .obtain⟨b,off,e1,e2,e3,f0,f1,f2,f3,f4,f5,f6,f7,f8⟩:=key (j/9) Za;subst e1;rcases(show j%9=0\/j%9=1\/j%9=2\/j%9=3\/j%9=4\/j%9=5\/j%9=6\/j%9=7\/j%9=8 by omega)with hr|hr|hr|hr|hr|hr|hr|hr|hr
  .have ej:off+j=off+j/9*9:=Za;have hcj:c j=.i (x (j/9)).ver:=by show(w.cell? ⟨b,off+j,none⟩).getD _=_;rw[ej,f0];rfl
   rw[hcj];rfl
  .have ej:off+j=off+j/9*9+1:=Za;have hcj:c j=.bool (x (j/9)).gone:=by show(w.cell? ⟨b,off+j,none⟩).getD _=_;rw[ej,f1];rfl
   rw[hcj];rfl
  .have ej:off+j=off+j/9*9+2:=Za;have hcj:c j=.s (x (j/9)).ob.kind:=by show(w.cell? ⟨b,off+j,none⟩).getD _=_;rw[ej,f2];rfl
   rw[hcj];rfl
  .have ej:off+j=off+j/9*9+3:=Za;have hcj:c j=.s (x (j/9)).ob.name:=by show(w.cell? ⟨b,off+j,none⟩).getD _=_;rw[ej,f3];rfl
   rw[hcj];rfl
  .have ej:off+j=off+j/9*9+4:=Za;have hcj:c j=.i (x (j/9)).ob.ver:=by show(w.cell? ⟨b,off+j,none⟩).getD _=_;rw[ej,f4];rfl
   rw[hcj];rfl
  .have ej:off+j=off+j/9*9+5:=Za;have hcj:c j=.i (x (j/9)).ob.born:=by show(w.cell? ⟨b,off+j,none⟩).getD _=_;rw[ej,f5];rfl
   rw[hcj];rfl
  .have ej:off+j=off+j/9*9+6:=Za;have hcj:c j=.s (x (j/9)).ob.text:=by show(w.cell? ⟨b,off+j,none⟩).getD _=_;rw[ej,f6];rfl
   rw[hcj];rfl
  .have ej:off+j=off+j/9*9+7:=Za;have hcj:c j=.bool (x (j/9)).ob.ending:=by show(w.cell? ⟨b,off+j,none⟩).getD _=_;rw[ej,f7];rfl
   rw[hcj];rfl
  .have ej:off+j=off+j/9*9+8:=Za;have hcj:c j=.l (F (j/9)).1 (x (j/9)).ob.hn (F (j/9)).2:=by show(w.cell? ⟨b,off+j,none⟩).getD _=_;rw[ej,f8];rfl
   rw[hcj];rfl
 .obtain⟨b,off,e1,e2,e3,f0,f1,f2,f3,f4,f5,f6,f7,f8⟩:=key i hi';subst e1;have hc:∀j v,w.cell? ⟨b,off+j,none⟩=some v->c j=v:=λj v h=>by show(w.cell? ⟨b,off+j,none⟩).getD _=_;rw[h];rfl
  exact⟨hc (i*9) _ (by exact f0),hc (i*9+1) _ (by rw[<-Bq];exact f1),hc (i*9+2) _ (by rw[<-Bq];exact f2),hc (i*9+3) _ (by rw[<-Bq];exact f3),hc (i*9+4) _ (by rw[<-Bq];exact f4),hc (i*9+5) _ (by rw[<-Bq];exact f5),hc (i*9+6) _ (by rw[<-Bq];exact f6),hc (i*9+7) _ (by rw[<-Bq];exact f7),hc (i*9+8) _ (by rw[<-Bq];exact f8)⟩
theorem DZ.src{w:World}{lo hi:Nat}{ad:OA}{n:Nat}{x:Nat->Ti}(h:DZ w lo hi ad n x):∃(c:Nat->Value),BS w lo hi ad (n*5) c/\(∀i,i<n->tL c i (x i)):=by
 have hF:∀i,i<n->(∃b off,ad=some ⟨b,off,none⟩/\lo<=b/\b<hi/\Nh w b (off+i*5) (x i)):=h;have key:∀i,i<n->∃b off,ad=some ⟨b,off,none⟩/\lo<=b/\b<hi/\w.cell? ⟨b,off+i*5,none⟩=some (.s (x i).client)/\w.cell? ⟨b,off+i*5+1,none⟩=some (.i (x i).num)/\w.cell? ⟨b,off+i*5+2,none⟩=some (.s (x i).print)/\w.cell? ⟨b,off+i*5+3,none⟩=some (.i (x i).code)/\w.cell? ⟨b,off+i*5+4,none⟩=some (.i (x i).ver):=λi hi'=>by obtain⟨b,off,e1,e2,e3,e4⟩:=hF i hi';exact⟨b,off,e1,e2,e3,e4.c0,e4.c1,e4.c2,e4.c3,e4.c4⟩
 let c:Nat->Value:=λj=>match ad with
  |some a=>(w.cell? ⟨a.block,a.off+j,none⟩).getD (.i 0)
  |none=>.i 0;refine⟨c,⟨λj hj=>?_,λj hj=>?_⟩,λi hi'=>?_⟩
 .obtain⟨b,off,e1,e2,e3,f0,f1,f2,f3,f4⟩:=key (j/5) Za;subst e1;rcases(show j%5=0\/j%5=1\/j%5=2\/j%5=3\/j%5=4 by omega)with hr|hr|hr|hr|hr
  .have ej:off+j=off+j/5*5:=Za;have hcj:c j=.s (x (j/5)).client:=by show(w.cell? ⟨b,off+j,none⟩).getD _=_;rw[ej,f0];rfl
   exact⟨b,off,rfl,e2,e3,by rw[hcj,ej];exact f0⟩
  .have ej:off+j=off+j/5*5+1:=Za;have hcj:c j=.i (x (j/5)).num:=by show(w.cell? ⟨b,off+j,none⟩).getD _=_;rw[ej,f1];rfl
   exact⟨b,off,rfl,e2,e3,by rw[hcj,ej];exact f1⟩
  .have ej:off+j=off+j/5*5+2:=Za;have hcj:c j=.s (x (j/5)).print:=by show(w.cell? ⟨b,off+j,none⟩).getD _=_;rw[ej,f2];rfl
   exact⟨b,off,rfl,e2,e3,by rw[hcj,ej];exact f2⟩
  .have ej:off+j=off+j/5*5+3:=Za;have hcj:c j=.i (x (j/5)).code:=by show(w.cell? ⟨b,off+j,none⟩).getD _=_;rw[ej,f3];rfl
   exact⟨b,off,rfl,e2,e3,by rw[hcj,ej];exact f3⟩
  .have ej:off+j=off+j/5*5+4:=Za;have hcj:c j=.i (x (j/5)).ver:=by show(w.cell? ⟨b,off+j,none⟩).getD _=_;rw[ej,f4];rfl
   exact⟨b,off,rfl,e2,e3,by rw[hcj,ej];exact f4⟩
 .obtain⟨b,off,e1,e2,e3,f0,f1,f2,f3,f4⟩:=key (j/5) Za;subst e1;rcases(show j%5=0\/j%5=1\/j%5=2\/j%5=3\/j%5=4 by omega)with hr|hr|hr|hr|hr
  .have ej:off+j=off+j/5*5:=Za;have hcj:c j=.s (x (j/5)).client:=by show(w.cell? ⟨b,off+j,none⟩).getD _=_;rw[ej,f0];rfl
   rw[hcj];rfl
  .have ej:off+j=off+j/5*5+1:=Za;have hcj:c j=.i (x (j/5)).num:=by show(w.cell? ⟨b,off+j,none⟩).getD _=_;rw[ej,f1];rfl
   rw[hcj];rfl
  .have ej:off+j=off+j/5*5+2:=Za;have hcj:c j=.s (x (j/5)).print:=by show(w.cell? ⟨b,off+j,none⟩).getD _=_;rw[ej,f2];rfl
   rw[hcj];rfl
  .have ej:off+j=off+j/5*5+3:=Za;have hcj:c j=.i (x (j/5)).code:=by show(w.cell? ⟨b,off+j,none⟩).getD _=_;rw[ej,f3];rfl
   rw[hcj];rfl
  .have ej:off+j=off+j/5*5+4:=Za;have hcj:c j=.i (x (j/5)).ver:=by show(w.cell? ⟨b,off+j,none⟩).getD _=_;rw[ej,f4];rfl
   rw[hcj];rfl
 .obtain⟨b,off,e1,e2,e3,f0,f1,f2,f3,f4⟩:=key i hi';subst e1;have hc:∀j v,w.cell? ⟨b,off+j,none⟩=some v->c j=v:=λj v h=>by show(w.cell? ⟨b,off+j,none⟩).getD _=_;rw[h];rfl
  exact⟨hc (i*5) _ (by exact f0),hc (i*5+1) _ (by rw[<-Bq];exact f1),hc (i*5+2) _ (by rw[<-Bq];exact f2),hc (i*5+3) _ (by rw[<-Bq];exact f3),hc (i*5+4) _ (by rw[<-Bq];exact f4)⟩
def AR (l:List Value):Nat->Value:=λj=>l.getD j (.i 0)
theorem bw{W:World}{B:Nat}{v0 v1 v2:Value}(h:AN W B 3 (AR [v0,v1,v2])):W.cell? ⟨B,0,none⟩=some v0/\W.cell? ⟨B,1,none⟩=some v1/\W.cell? ⟨B,2,none⟩=some v2:=⟨h.cell 0 Za,h.cell 1 Za,h.cell 2 Za⟩
theorem dg{W:World}{B:Nat}{v0 v1 v2 v3:Value}(h:AN W B 4 (AR [v0,v1,v2,v3])):W.cell? ⟨B,0,none⟩=some v0/\W.cell? ⟨B,1,none⟩=some v1/\W.cell? ⟨B,2,none⟩=some v2/\W.cell? ⟨B,3,none⟩=some v3:=⟨h.cell 0 Za,h.cell 1 Za,h.cell 2 Za,h.cell 3 Za⟩
theorem Y0{W:World}{B:Nat}{v0 v1 v2 v3 v4:Value}(h:AN W B 5 (AR [v0,v1,v2,v3,v4])):W.cell? ⟨B,0,none⟩=some v0/\W.cell? ⟨B,1,none⟩=some v1/\W.cell? ⟨B,2,none⟩=some v2/\W.cell? ⟨B,3,none⟩=some v3/\W.cell? ⟨B,4,none⟩=some v4:=⟨h.cell 0 Za,h.cell 1 Za,h.cell 2 Za,h.cell 3 Za,h.cell 4 Za⟩
theorem tR{W:World}{B:Nat}{v0 v1 v2 v3 v4 v5 v6:Value}(h:AN W B 7 (AR [v0,v1,v2,v3,v4,v5,v6])):W.cell? ⟨B,0,none⟩=some v0/\W.cell? ⟨B,1,none⟩=some v1/\W.cell? ⟨B,2,none⟩=some v2/\W.cell? ⟨B,3,none⟩=some v3/\W.cell? ⟨B,4,none⟩=some v4/\W.cell? ⟨B,5,none⟩=some v5/\W.cell? ⟨B,6,none⟩=some v6:=⟨h.cell 0 Za,h.cell 1 Za,h.cell 2 Za,h.cell 3 Za,h.cell 4 Za,h.cell 5 Za,h.cell 6 Za⟩
theorem AN.new{w w1:World}{l:List Value}{t:TypeId}(hb:Below (w.alloc (.cells l.toArray t)).1.size (w.alloc (.cells l.toArray t)) w1):AN w1 w.1.size l.length (AR l):=⟨by have:=hb.size;simp at this;omega,λj=>by rw[hb.frozen (p:=⟨w.1.size,j,none⟩) Zc];simp,λj hj=>by rw[Ar hb j];simp[AR,hj]⟩
end Go.Proofs.Ytnnjcenacidceaa
