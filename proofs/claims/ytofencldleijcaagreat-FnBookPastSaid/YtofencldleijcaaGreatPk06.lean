import Derived.Test.YtofencldleijcaaGreatPk04
import Derived.Test.YtofencldleijcaaGreatPk05
import Derived.Laws.IdiomCopy
import Derived.Laws.CopyOwn
import Derived.Sort.Row
import Derived.Deep.RegionWith
set_option maxRecDepth 100000
namespace Go.Proofs.YtofencldleijcaaGreat
open Go.RowKit Go.Proofs.Tryz
def K0 (c:Nat->Value)(i:Nat)(y:Ob)(A:OA)(C:Nat):Prop:=c (i*7)=.s y.kind/\c (i*7+1)=.s y.name/\c (i*7+2)=.i y.ver/\c (i*7+3)=.i y.born/\c (i*7+4)=.s y.text/\c (i*7+5)=.bool y.ending/\c (i*7+6)=.l A y.hn C
theorem Hp{c:Nat->Value}{i:Nat}{y:Ob}{A:OA}{C:Nat}(h:K0 c i y A C){k o:Nat}(hik:¬i=k)(h1:k*7<=o)(h2:o<k*7+7)(v:Value):K0 (Jm c o v) i y A C:=by obtain⟨a0,a1,a2,a3,a4,a5,a6⟩:=h;exact⟨(if_neg Zb).trans a0,(if_neg Zb).trans a1,(if_neg Zb).trans a2,(if_neg Zb).trans a3,(if_neg Zb).trans a4,(if_neg Zb).trans a5,(if_neg Zb).trans a6⟩
structure D5 (w:World)(ad:OA)(g n:Nat)(x:Nat->Ob)(A:Nat->Option Addr)(C:Nat->Nat)(hb:Nat->Nat):Prop where
 addr:0<n->ad=some ⟨g,0,none⟩row:0<n->∃c,AM w g (n*7) c/\∀i,i<n->K0 c i (x i) (A i) (C i)hold:∀i,i<n->Bd w (hb i) (hb i+1) (A i) (x i).hn (x i).hs
 hlt:∀i,i<n->(x i).hn≠0->hb i<w.1.size
 ap:Nl g n (λi=>(x i).hn) hb
theorem D5.fr{w w':World}{ad:OA}{g n:Nat}{x:Nat->Ob}{A:Nat->Option Addr}{C:Nat->Nat}{hb:Nat->Nat}{P:Nat->Prop}(h:D5 w ad g n x A C hb)(hf:AB P w w')(hp:∀k,Gy g n (λi=>(x i).hn) hb k->¬P k):D5 w' ad g n x A C hb:=⟨h.addr,λh0=>by obtain⟨c,r,e⟩:=h.row h0;exact⟨c,r.fr hf (hp g (AO ⟨h0,rfl⟩)),e⟩,λi hi=>(h.hold i hi).frP hf (λh0=>⟨hp (hb i) (AD ⟨i,hi,h0,rfl⟩),h.hlt i hi h0⟩),λi hi h0=>Ad (h.hlt i hi h0) hf.size,h.ap⟩
theorem D5.grow{w w':World}{ad:OA}{g n:Nat}{x:Nat->Ob}{A:Nat->Option Addr}{C:Nat->Nat}{hb:Nat->Nat}(h:D5 w ad g n x A C hb)(hf:Below w.1.size w w'):D5 w' ad g n x A C hb:=h.fr (Ap (P:=λ_=>False) hf) (λ_ _ h=>h)
def PD (c:Nat->Value)(i:Nat)(y:Ch)(A:OA)(C:Nat):Prop:=c (i*9)=.i y.ver/\c (i*9+1)=.bool y.gone/\c (i*9+2)=.s y.ob.kind/\c (i*9+3)=.s y.ob.name/\c (i*9+4)=.i y.ob.ver/\c (i*9+5)=.i y.ob.born/\c (i*9+6)=.s y.ob.text/\c (i*9+7)=.bool y.ob.ending/\c (i*9+8)=.l A y.ob.hn C
theorem H5{c:Nat->Value}{i:Nat}{y:Ch}{A:OA}{C:Nat}(h:PD c i y A C){k o:Nat}(hik:¬i=k)(h1:k*9<=o)(h2:o<k*9+9)(v:Value):PD (Jm c o v) i y A C:=by obtain⟨a0,a1,a2,a3,a4,a5,a6,a7,a8⟩:=h;exact⟨(if_neg Zb).trans a0,(if_neg Zb).trans a1,(if_neg Zb).trans a2,(if_neg Zb).trans a3,(if_neg Zb).trans a4,(if_neg Zb).trans a5,(if_neg Zb).trans a6,(if_neg Zb).trans a7,(if_neg Zb).trans a8⟩
structure Gw (w:World)(ad:OA)(g n:Nat)(x:Nat->Ch)(A:Nat->Option Addr)(C:Nat->Nat)(hb:Nat->Nat):Prop where
 addr:0<n->ad=some ⟨g,0,none⟩row:0<n->∃c,AM w g (n*9) c/\∀i,i<n->PD c i (x i) (A i) (C i)hold:∀i,i<n->Bd w (hb i) (hb i+1) (A i) (x i).ob.hn (x i).ob.hs
 hlt:∀i,i<n->(x i).ob.hn≠0->hb i<w.1.size
 ap:Nl g n (λi=>(x i).ob.hn) hb
theorem Gw.fr{w w':World}{ad:OA}{g n:Nat}{x:Nat->Ch}{A:Nat->Option Addr}{C:Nat->Nat}{hb:Nat->Nat}{P:Nat->Prop}(h:Gw w ad g n x A C hb)(hf:AB P w w')(hp:∀k,Gy g n (λi=>(x i).ob.hn) hb k->¬P k):Gw w' ad g n x A C hb:=⟨h.addr,λh0=>by obtain⟨c,r,e⟩:=h.row h0;exact⟨c,r.fr hf (hp g (AO ⟨h0,rfl⟩)),e⟩,λi hi=>(h.hold i hi).frP hf (λh0=>⟨hp (hb i) (AD ⟨i,hi,h0,rfl⟩),h.hlt i hi h0⟩),λi hi h0=>Ad (h.hlt i hi h0) hf.size,h.ap⟩
theorem Gw.grow{w w':World}{ad:OA}{g n:Nat}{x:Nat->Ch}{A:Nat->Option Addr}{C:Nat->Nat}{hb:Nat->Nat}(h:Gw w ad g n x A C hb)(hf:Below w.1.size w w'):Gw w' ad g n x A C hb:=h.fr (Ap (P:=λ_=>False) hf) (λ_ _ h=>h)
def lS (c:Nat->Value)(i:Nat)(y:Ti):Prop:=c (i*5)=.s y.client/\c (i*5+1)=.i y.num/\c (i*5+2)=.s y.print/\c (i*5+3)=.i y.code/\c (i*5+4)=.i y.ver
structure ID (w:World)(ad:OA)(g n:Nat)(x:Nat->Ti):Prop where addr:0<n->ad=some ⟨g,0,none⟩row:0<n->∃c,AM w g (n*5) c/\∀i,i<n->lS c i (x i)
theorem ID.fr{w w':World}{ad:OA}{g n:Nat}{x:Nat->Ti}{P:Nat->Prop}(h:ID w ad g n x)(hf:AB P w w')(hp:∀k,(λk=>0<n/\k=g) k->¬P k):ID w' ad g n x:=⟨h.addr,λh0=>by obtain⟨c,r,e⟩:=h.row h0;exact⟨c,r.fr hf (hp g (⟨h0,rfl⟩)),e⟩⟩
theorem ID.grow{w w':World}{ad:OA}{g n:Nat}{x:Nat->Ti}(h:ID w ad g n x)(hf:Below w.1.size w w'):ID w' ad g n x:=h.fr (Ap (P:=λ_=>False) hf) (λ_ _ h=>h)
structure Pl where
 a1:Option Addr
 a2:Option Addr
 a3:Option Addr
 g1:Nat
 g2:Nat
 g3:Nat
 A1:Nat->Option Addr
 C1:Nat->Nat
 h1:Nat->Nat
 A2:Nat->Option Addr
 C2:Nat->Nat
 h2:Nat->Nat
def fO (p:Pl)(x:Bk)(k:Nat):Prop:=Gy p.g1 x.on (λi=>(x.os i).hn) p.h1 k
def fU (p:Pl)(x:Bk)(k:Nat):Prop:=Gy p.g2 x.hn (λi=>(x.hs i).ob.hn) p.h2 k
def iE (p:Pl)(x:Bk)(k:Nat):Prop:=0<x.tn/\k=p.g3
def Ot (p:Pl)(x:Bk)(k:Nat):Prop:=fO p x k\/(fU p x k\/iE p x k)
structure Kr (w:World)(x:Bk)(p:Pl):Prop where
 o:D5 w p.a1 p.g1 x.on x.os p.A1 p.C1 p.h1
 h:Gw w p.a2 p.g2 x.hn x.hs p.A2 p.C2 p.h2
 t:ID w p.a3 p.g3 x.tn x.ts
 d12:∀k,fO p x k->¬fU p x k
 d13:∀k,fO p x k->¬iE p x k
 d23:∀k,fU p x k->¬iE p x k
theorem Kr.fr{w w':World}{x:Bk}{p:Pl}{P:Nat->Prop}(h:Kr w x p)(hf:AB P w w')(hp:∀k,Ot p x k->¬P k):Kr w' x p:=⟨h.o.fr hf (λk hk=>hp k (AO hk)),h.h.fr hf (λk hk=>hp k (AD (AO hk))),h.t.fr hf (λk hk=>hp k (AD (AD hk))),h.d12,h.d13,h.d23⟩
theorem Kr.grow{w w':World}{x:Bk}{p:Pl}(h:Kr w x p)(hf:Below w.1.size w w'):Kr w' x p:=h.fr (Ap (P:=λ_=>False) hf) (λ_ _ h=>h)
structure BR (w:World)(lo hi:Nat)(ad:OA)(m:Nat)(c:Nat->Value):Prop where at_:∀j,j<m->∃b off,ad=some ⟨b,off,none⟩/\lo<=b/\b<hi/\w.cell? ⟨b,off+j,none⟩=some (c j)one:∀j,j<m->(c j).oneCell'=true
def Ay (m:Nat)(c:Nat->Value):List Value:=(List.range m).map c
theorem AK (m:Nat)(c:Nat->Value):(Ay m c).length=m:=by simp[Ay]
theorem Jn{m:Nat}{c:Nat->Value}{j:Nat}{u:Value}(h:(Ay m c)[j]?=some u):j<m/\u=c j:=by
 simp only[Ay,List.getElem?_map]at h;rcases At j m with h1|h1;.rw[BN (by simpa using h1)]at h;simp at h;exact⟨h1,h.symm⟩
 .rw[List.getElem?_eq_none (by simpa using h1)]at h;cases h
theorem CF{m:Nat}{c:Nat->Value}{j:Nat}(h:j<(Ay m c).length):(Ay m c)[j]=c j:=by simp[Ay]
theorem Ax.src{w:World}{lo hi:Nat}{ad:OA}{n:Nat}{s:Nat->ByteArray}(h:Ax w lo hi ad n s):BR w lo hi ad (n*1) (λj=>.s (s j)):=⟨λj hj=>h j Zb,λ_ _=>rfl⟩
theorem Bd.zero{w:World}{b:Nat}{ad:OA}{s:Nat->ByteArray}:Bd w b (b+1) ad 0 s:=λ_ hi=>absurd hi (Ai _)
theorem H7{P:Nat->Prop}{a w:World}(h:AB P a w){p:Addr}(hp:a.1.size<=p.block\/P p.block)(u:Value):AB P a (w.setCell p u):=⟨h.os,h.tape,h.output,by rw[Bi];exact h.size,λk hk ho=>(Below.heap_setCell _ _ _ _ (λe=>by
  rcases hp with hp|hp;.rw[<-e]at hp;omega
  .exact ho (e▸hp))).trans (h.block k hk ho)⟩
def Eh{α:Type}(f:Nat->α)(k:Nat)(v:α):Nat->α:=λi=>if i=k then v else f i
theorem Bw{α:Type}(f:Nat->α)(k:Nat)(v:α):Eh f k v k=v:=if_pos rfl
theorem BH{α:Type}(f:Nat->α){k i:Nat}(v:α)(h:¬i=k):Eh f k v i=f i:=if_neg h
structure NJ (w:World)(g n k:Nat)(x:Nat->Ob)(A0 A:Nat->Option Addr)(C hb:Nat->Nat):Prop where
 row:0<n->∃c,AM w g (n*7) c/\∀i,i<n->K0 c i (x i) (A i) (C i)src:∀i,k<=i->i<n->A i=A0 i
 hold:∀i,i<k->Bd w (hb i) (hb i+1) (A i) (x i).hn (x i).hs
 hlt:∀i,i<k->(x i).hn≠0->g<hb i/\hb i<w.1.size
 inj:∀i j,i<k->j<k->(x i).hn≠0->(x j).hn≠0->hb i=hb j->i=j
theorem NJ.fr{w w':World}{g n k:Nat}{x:Nat->Ob}{A0 A:Nat->Option Addr}{C hb:Nat->Nat}{P:Nat->Prop}(h:NJ w g n k x A0 A C hb)(hf:AB P w w')(hp:∀q,g<=q->q<w.1.size->¬P q):NJ w' g n k x A0 A C hb:=⟨λh0=>by obtain⟨c,r,e⟩:=h.row h0;exact⟨c,r.fr hf (hp g Bg r.lt),e⟩,h.src,λi hi=>(h.hold i hi).frP hf (λh0=>⟨hp _ (Nat.le_of_lt (h.hlt i hi h0).1) (h.hlt i hi h0).2,(h.hlt i hi h0).2⟩),λi hi h0=>⟨(h.hlt i hi h0).1,Ad (h.hlt i hi h0).2 hf.size⟩,h.inj⟩
theorem NJ.grow{w w':World}{g n k:Nat}{x:Nat->Ob}{A0 A:Nat->Option Addr}{C hb:Nat->Nat}(h:NJ w g n k x A0 A C hb)(hf:Below w.1.size w w'):NJ w' g n k x A0 A C hb:=h.fr (Ap (P:=λ_=>False) hf) (λ_ _ _ h=>h)
theorem Wq{P:Prop}(h:P:=by
  by_cases e:i=k;.subst e;rw[Bw,Bw];exact ho.frP (P:=λq=>q=g) F (λh0=>⟨Zb,hlt' h0⟩)
  .rw[BH _ _ e,BH _ _ e];exact(h.hold i Zb).frP (P:=λq=>q=g) ((Ap hb1).trans F) (λh0=>⟨λe=>AJ _ (e▸(h.hlt i Zb h0).1),(h.hlt i Zb h0).2⟩)):P:=h
theorem WO{P:Prop}(h:P:=by
  by_cases e1:i=k
  .by_cases e2:j=k;.rw[e1,e2]
   .subst e1;rw[Bw,BH _ _ e2]at e;have:=(h.hlt j Zb h1).2;omega
  .by_cases e2:j=k;.subst e2;rw[Bw,BH _ _ e1]at e;have:=(h.hlt i Zb h0).2;omega
   .rw[BH _ _ e1,BH _ _ e2]at e;exact h.inj i j Zb Zb h0 h1 e):P:=h
theorem XD{P:Prop}(h:P:=by
  simp only[Bi];by_cases e:i=k;.subst e;rw[Bw];exact⟨Zb,hlt' h0⟩
  .rw[BH _ _ e];exact⟨(h.hlt i Zb h0).1,Ad (h.hlt i Zb h0).2 hb1.size⟩):P:=h
theorem NJ.put{w w1:World}{g n k:Nat}{x:Nat->Ob}{A0 A:Nat->Option Addr}{C hb:Nat->Nat}(h:NJ w g n k x A0 A C hb)(hk:k<n)(hb1:Below w.1.size w w1){ad':OA}{cap' b':Nat}(hb':w.1.size<=b')(hlt':(x k).hn≠0->b'<w1.1.size)(ho:Bd w1 b' (b'+1) ad' (x k).hn (x k).hs):NJ (((((((w1.setCell ⟨g,k*7,none⟩ (.s (x k).kind)).setCell ⟨g,k*7+1,none⟩ (.s (x k).name)).setCell ⟨g,k*7+2,none⟩ (.i (x k).ver)).setCell ⟨g,k*7+3,none⟩ (.i (x k).born)).setCell ⟨g,k*7+4,none⟩ (.s (x k).text)).setCell ⟨g,k*7+5,none⟩ (.bool (x k).ending)).setCell ⟨g,k*7+6,none⟩ (.l ad' (x k).hn cap')) g n (k+1) x A0 (Eh A k ad') (Eh C k cap') (Eh hb k b'):=by
 obtain⟨c,r,hat⟩:=h.row Zb;have hgw:=r.lt;have F:AB (λq=>q=g) w1 (((((((w1.setCell ⟨g,k*7,none⟩ (.s (x k).kind)).setCell ⟨g,k*7+1,none⟩ (.s (x k).name)).setCell ⟨g,k*7+2,none⟩ (.i (x k).ver)).setCell ⟨g,k*7+3,none⟩ (.i (x k).born)).setCell ⟨g,k*7+4,none⟩ (.s (x k).text)).setCell ⟨g,k*7+5,none⟩ (.bool (x k).ending)).setCell ⟨g,k*7+6,none⟩ (.l ad' (x k).hn cap')):=by
  iterate 7 refine AB.setCell (P:=λq=>q=g) ?_ (by rfl) _
  exact AB.refl _ _
 refine⟨λ_=>⟨_,((((((((r.below hb1 hgw).set (o:=k*7) Zb _).set (o:=k*7+1) Zb _).set (o:=k*7+2) Zb _).set (o:=k*7+3) Zb _).set (o:=k*7+4) Zb _).set (o:=k*7+5) Zb _).set (o:=k*7+6) Zb _),λi hi=>?_⟩,λi h1 h2=>?_,λi hi=>?_,λi hi h0=>?_,λi j hi hj h0 h1 e=>?_⟩
 .by_cases e:i=k
  .subst e;have a0:=hat i hi;rw[Bw,Bw];refine⟨?_,?_,?_,?_,?_,?_,?_⟩;all_goals simp[Jm]
  .rw[BH _ _ e,BH _ _ e];exact(Hp (Hp (Hp (Hp (Hp (Hp (Hp (hat i hi) e (k:=k) Zb Zb _) e (k:=k) Zb Zb _) e (k:=k) Zb Zb _) e (k:=k) Zb Zb _) e (k:=k) Zb Zb _) e (k:=k) Zb Zb _) e (k:=k) Zb Zb _)
 .rw[BH _ _ Zb];exact h.src i Zb h2
 .exact Wq
 .exact XD
 .exact WO
theorem NJ.done{w:World}{ad:OA}{g n:Nat}{x:Nat->Ob}{A0 A:Nat->Option Addr}{C hb:Nat->Nat}(h:NJ w g n n x A0 A C hb)(ha:0<n->ad=some ⟨g,0,none⟩):D5 w ad g n x A C hb:=⟨ha,h.row,h.hold,λi hi h0=>(h.hlt i hi h0).2,⟨λi hi h0 e=>AJ _ (e▸(h.hlt i hi h0).1),h.inj⟩⟩
structure N9 (w:World)(g n k:Nat)(x:Nat->Ch)(A0 A:Nat->Option Addr)(C hb:Nat->Nat):Prop where
 row:0<n->∃c,AM w g (n*9) c/\∀i,i<n->PD c i (x i) (A i) (C i)src:∀i,k<=i->i<n->A i=A0 i
 hold:∀i,i<k->Bd w (hb i) (hb i+1) (A i) (x i).ob.hn (x i).ob.hs
 hlt:∀i,i<k->(x i).ob.hn≠0->g<hb i/\hb i<w.1.size
 inj:∀i j,i<k->j<k->(x i).ob.hn≠0->(x j).ob.hn≠0->hb i=hb j->i=j
theorem N9.fr{w w':World}{g n k:Nat}{x:Nat->Ch}{A0 A:Nat->Option Addr}{C hb:Nat->Nat}{P:Nat->Prop}(h:N9 w g n k x A0 A C hb)(hf:AB P w w')(hp:∀q,g<=q->q<w.1.size->¬P q):N9 w' g n k x A0 A C hb:=⟨λh0=>by obtain⟨c,r,e⟩:=h.row h0;exact⟨c,r.fr hf (hp g Bg r.lt),e⟩,h.src,λi hi=>(h.hold i hi).frP hf (λh0=>⟨hp _ (Nat.le_of_lt (h.hlt i hi h0).1) (h.hlt i hi h0).2,(h.hlt i hi h0).2⟩),λi hi h0=>⟨(h.hlt i hi h0).1,Ad (h.hlt i hi h0).2 hf.size⟩,h.inj⟩
theorem N9.grow{w w':World}{g n k:Nat}{x:Nat->Ch}{A0 A:Nat->Option Addr}{C hb:Nat->Nat}(h:N9 w g n k x A0 A C hb)(hf:Below w.1.size w w'):N9 w' g n k x A0 A C hb:=h.fr (Ap (P:=λ_=>False) hf) (λ_ _ _ h=>h)
theorem N9.put{w w1:World}{g n k:Nat}{x:Nat->Ch}{A0 A:Nat->Option Addr}{C hb:Nat->Nat}(h:N9 w g n k x A0 A C hb)(hk:k<n)(hb1:Below w.1.size w w1){ad':OA}{cap' b':Nat}(hb':w.1.size<=b')(hlt':(x k).ob.hn≠0->b'<w1.1.size)(ho:Bd w1 b' (b'+1) ad' (x k).ob.hn (x k).ob.hs):N9 (((((((w1.setCell ⟨g,k*9+2,none⟩ (.s (x k).ob.kind)).setCell ⟨g,k*9+3,none⟩ (.s (x k).ob.name)).setCell ⟨g,k*9+4,none⟩ (.i (x k).ob.ver)).setCell ⟨g,k*9+5,none⟩ (.i (x k).ob.born)).setCell ⟨g,k*9+6,none⟩ (.s (x k).ob.text)).setCell ⟨g,k*9+7,none⟩ (.bool (x k).ob.ending)).setCell ⟨g,k*9+8,none⟩ (.l ad' (x k).ob.hn cap')) g n (k+1) x A0 (Eh A k ad') (Eh C k cap') (Eh hb k b'):=by
 obtain⟨c,r,hat⟩:=h.row Zb;have hgw:=r.lt;have F:AB (λq=>q=g) w1 (((((((w1.setCell ⟨g,k*9+2,none⟩ (.s (x k).ob.kind)).setCell ⟨g,k*9+3,none⟩ (.s (x k).ob.name)).setCell ⟨g,k*9+4,none⟩ (.i (x k).ob.ver)).setCell ⟨g,k*9+5,none⟩ (.i (x k).ob.born)).setCell ⟨g,k*9+6,none⟩ (.s (x k).ob.text)).setCell ⟨g,k*9+7,none⟩ (.bool (x k).ob.ending)).setCell ⟨g,k*9+8,none⟩ (.l ad' (x k).ob.hn cap')):=by
  iterate 7 refine AB.setCell (P:=λq=>q=g) ?_ (by rfl) _
  exact AB.refl _ _
 refine⟨λ_=>⟨_,((((((((r.below hb1 hgw).set (o:=k*9+2) Zb _).set (o:=k*9+3) Zb _).set (o:=k*9+4) Zb _).set (o:=k*9+5) Zb _).set (o:=k*9+6) Zb _).set (o:=k*9+7) Zb _).set (o:=k*9+8) Zb _),λi hi=>?_⟩,λi h1 h2=>?_,λi hi=>?_,λi hi h0=>?_,λi j hi hj h0 h1 e=>?_⟩
 .by_cases e:i=k
  .subst e;have a0:=hat i hi;rw[Bw,Bw];refine⟨?_,?_,?_,?_,?_,?_,?_,?_,?_⟩;.exact Eq.trans (by simp[Jm]) a0.1
   .exact Eq.trans (by simp[Jm]) a0.2.1
   all_goals simp[Jm]
  .rw[BH _ _ e,BH _ _ e];exact(H5 (H5 (H5 (H5 (H5 (H5 (H5 (hat i hi) e (k:=k) Zb Zb _) e (k:=k) Zb Zb _) e (k:=k) Zb Zb _) e (k:=k) Zb Zb _) e (k:=k) Zb Zb _) e (k:=k) Zb Zb _) e (k:=k) Zb Zb _)
 .rw[BH _ _ Zb];exact h.src i Zb h2
 .exact Wq
 .exact XD
 .exact WO
theorem N9.done{w:World}{ad:OA}{g n:Nat}{x:Nat->Ch}{A0 A:Nat->Option Addr}{C hb:Nat->Nat}(h:N9 w g n n x A0 A C hb)(ha:0<n->ad=some ⟨g,0,none⟩):Gw w ad g n x A C hb:=⟨ha,h.row,h.hold,λi hi h0=>(h.hlt i hi h0).2,⟨λi hi h0 e=>AJ _ (e▸(h.hlt i hi h0).1),h.inj⟩⟩
theorem lP{β:Type}{n:Nat}(d:β){p:Nat->β->Prop}(h:∀i,i<n->∃x,p i x):∃f:Nat->β,∀i,i<n->p i (f i):=by
 have h':∀i,∃x,i<n->p i x:=λi=>by
  by_cases hi:i<n;.obtain⟨x,hx⟩:=h i hi;exact⟨x,λ_=>hx⟩
  .exact⟨d,λe=>absurd e hi⟩
 obtain⟨f,hf⟩:=MF.1 h';exact⟨f,hf⟩
theorem Bs.src{w:World}{lo hi:Nat}{ad:OA}{n:Nat}{x:Nat->Ob}(h:Bs w lo hi ad n x):∃(c:Nat->Value)(A:Nat->Option Addr)(C:Nat->Nat),BR w lo hi ad (n*7) c/\(∀i,i<n->K0 c i (x i) (A i) (C i))/\(∀i,i<n->Ax w lo hi (A i) (x i).hn (x i).hs):=by
 obtain⟨F,hF⟩:=lP (n:=n) ((none,0):(Option Addr×Nat)) (p:=λi q=>(∃b off,ad=some ⟨b,off,none⟩/\lo<=b/\b<hi/\DT w b (off+i*7) (x i) q.1 q.2)/\Ax w lo hi q.1 (x i).hn (x i).hs) (λi hi'=>by obtain⟨b,off,ah,ch,e1,e2,e3,e4,e5⟩:=h i hi';exact⟨(ah,ch),⟨b,off,e1,e2,e3,e4⟩,e5⟩);have key:∀i,i<n->∃b off,ad=some ⟨b,off,none⟩/\lo<=b/\b<hi/\w.cell? ⟨b,off+i*7,none⟩=some (.s (x i).kind)/\w.cell? ⟨b,off+i*7+1,none⟩=some (.s (x i).name)/\w.cell? ⟨b,off+i*7+2,none⟩=some (.i (x i).ver)/\w.cell? ⟨b,off+i*7+3,none⟩=some (.i (x i).born)/\w.cell? ⟨b,off+i*7+4,none⟩=some (.s (x i).text)/\w.cell? ⟨b,off+i*7+5,none⟩=some (.bool (x i).ending)/\w.cell? ⟨b,off+i*7+6,none⟩=some (.slice (F i).1 (x i).hn (F i).2):=λi hi'=>by obtain⟨⟨b,off,e1,e2,e3,e4⟩,_⟩:=hF i hi';exact⟨b,off,e1,e2,e3,e4.c0,e4.c1,e4.c2,e4.c3,e4.c4,e4.c5,e4.c6⟩
 let c:Nat->Value:=λj=>match ad with
  |some a=>(w.cell? ⟨a.block,a.off+j,none⟩).getD (.i 0)
  |none=>.i 0;refine⟨c,λi=>(F i).1,λi=>(F i).2,⟨λj hj=>?_,λj hj=>?_⟩,λi hi'=>?_,λi hi'=>(hF i hi').2⟩
 .obtain⟨b,off,e1,e2,e3,f0,f1,f2,f3,f4,f5,f6⟩:=key (j/7) Zb;subst e1;rcases(show j%7=0\/j%7=1\/j%7=2\/j%7=3\/j%7=4\/j%7=5\/j%7=6 by omega)with hr|hr|hr|hr|hr|hr|hr
  .have ej:off+j=off+j/7*7:=Zb;have hcj:c j=.s (x (j/7)).kind:=by show(w.cell? ⟨b,off+j,none⟩).getD _=_;rw[ej,f0];rfl
   exact⟨b,off,rfl,e2,e3,by rw[hcj,ej];exact f0⟩
  .have ej:off+j=off+j/7*7+1:=Zb;have hcj:c j=.s (x (j/7)).name:=by show(w.cell? ⟨b,off+j,none⟩).getD _=_;rw[ej,f1];rfl
   exact⟨b,off,rfl,e2,e3,by rw[hcj,ej];exact f1⟩
  .have ej:off+j=off+j/7*7+2:=Zb;have hcj:c j=.i (x (j/7)).ver:=by show(w.cell? ⟨b,off+j,none⟩).getD _=_;rw[ej,f2];rfl
   exact⟨b,off,rfl,e2,e3,by rw[hcj,ej];exact f2⟩
  .have ej:off+j=off+j/7*7+3:=Zb;have hcj:c j=.i (x (j/7)).born:=by show(w.cell? ⟨b,off+j,none⟩).getD _=_;rw[ej,f3];rfl
   exact⟨b,off,rfl,e2,e3,by rw[hcj,ej];exact f3⟩
  .have ej:off+j=off+j/7*7+4:=Zb;have hcj:c j=.s (x (j/7)).text:=by show(w.cell? ⟨b,off+j,none⟩).getD _=_;rw[ej,f4];rfl
   exact⟨b,off,rfl,e2,e3,by rw[hcj,ej];exact f4⟩
  .have ej:off+j=off+j/7*7+5:=Zb;have hcj:c j=.bool (x (j/7)).ending:=by show(w.cell? ⟨b,off+j,none⟩).getD _=_;rw[ej,f5];rfl
   exact⟨b,off,rfl,e2,e3,by rw[hcj,ej];exact f5⟩
  .have ej:off+j=off+j/7*7+6:=Zb;have hcj:c j=.l (F (j/7)).1 (x (j/7)).hn (F (j/7)).2:=by show(w.cell? ⟨b,off+j,none⟩).getD _=_;rw[ej,f6];rfl
   exact⟨b,off,rfl,e2,e3,by rw[hcj,ej];exact f6⟩
 .obtain⟨b,off,e1,e2,e3,f0,f1,f2,f3,f4,f5,f6⟩:=key (j/7) Zb;subst e1;rcases(show j%7=0\/j%7=1\/j%7=2\/j%7=3\/j%7=4\/j%7=5\/j%7=6 by omega)with hr|hr|hr|hr|hr|hr|hr
  .have ej:off+j=off+j/7*7:=Zb;have hcj:c j=.s (x (j/7)).kind:=by show(w.cell? ⟨b,off+j,none⟩).getD _=_;rw[ej,f0];rfl
   rw[hcj];rfl
  .have ej:off+j=off+j/7*7+1:=Zb;have hcj:c j=.s (x (j/7)).name:=by show(w.cell? ⟨b,off+j,none⟩).getD _=_;rw[ej,f1];rfl
   rw[hcj];rfl
  .have ej:off+j=off+j/7*7+2:=Zb;have hcj:c j=.i (x (j/7)).ver:=by show(w.cell? ⟨b,off+j,none⟩).getD _=_;rw[ej,f2];rfl
   rw[hcj];rfl
  .have ej:off+j=off+j/7*7+3:=Zb;have hcj:c j=.i (x (j/7)).born:=by show(w.cell? ⟨b,off+j,none⟩).getD _=_;rw[ej,f3];rfl
   rw[hcj];rfl
  .have ej:off+j=off+j/7*7+4:=Zb;have hcj:c j=.s (x (j/7)).text:=by show(w.cell? ⟨b,off+j,none⟩).getD _=_;rw[ej,f4];rfl
   rw[hcj];rfl
  .have ej:off+j=off+j/7*7+5:=Zb;have hcj:c j=.bool (x (j/7)).ending:=by show(w.cell? ⟨b,off+j,none⟩).getD _=_;rw[ej,f5];rfl
   rw[hcj];rfl
  .have ej:off+j=off+j/7*7+6:=Zb;have hcj:c j=.l (F (j/7)).1 (x (j/7)).hn (F (j/7)).2:=by show(w.cell? ⟨b,off+j,none⟩).getD _=_;rw[ej,f6];rfl
   rw[hcj];rfl
 .obtain⟨b,off,e1,e2,e3,f0,f1,f2,f3,f4,f5,f6⟩:=key i hi';subst e1;have hc:∀j v,w.cell? ⟨b,off+j,none⟩=some v->c j=v:=λj v h=>by show(w.cell? ⟨b,off+j,none⟩).getD _=_;rw[h];rfl
  exact⟨hc (i*7) _ (by exact f0),hc (i*7+1) _ (by rw[<-AY];exact f1),hc (i*7+2) _ (by rw[<-AY];exact f2),hc (i*7+3) _ (by rw[<-AY];exact f3),hc (i*7+4) _ (by rw[<-AY];exact f4),hc (i*7+5) _ (by rw[<-AY];exact f5),hc (i*7+6) _ (by rw[<-AY];exact f6)⟩
theorem Dr.src{w:World}{lo hi:Nat}{ad:OA}{n:Nat}{x:Nat->Ch}(h:Dr w lo hi ad n x):∃(c:Nat->Value)(A:Nat->Option Addr)(C:Nat->Nat),BR w lo hi ad (n*9) c/\(∀i,i<n->PD c i (x i) (A i) (C i))/\(∀i,i<n->Ax w lo hi (A i) (x i).ob.hn (x i).ob.hs):=by
 obtain⟨F,hF⟩:=lP (n:=n) ((none,0):(Option Addr×Nat)) (p:=λi q=>(∃b off,ad=some ⟨b,off,none⟩/\lo<=b/\b<hi/\Do w b (off+i*9) (x i) q.1 q.2)/\Ax w lo hi q.1 (x i).ob.hn (x i).ob.hs) (λi hi'=>by obtain⟨b,off,ah,ch,e1,e2,e3,e4,e5⟩:=h i hi';exact⟨(ah,ch),⟨b,off,e1,e2,e3,e4⟩,e5⟩);have key:∀i,i<n->∃b off,ad=some ⟨b,off,none⟩/\lo<=b/\b<hi/\w.cell? ⟨b,off+i*9,none⟩=some (.i (x i).ver)/\w.cell? ⟨b,off+i*9+1,none⟩=some (.bool (x i).gone)/\w.cell? ⟨b,off+i*9+2,none⟩=some (.s (x i).ob.kind)/\w.cell? ⟨b,off+i*9+3,none⟩=some (.s (x i).ob.name)/\w.cell? ⟨b,off+i*9+4,none⟩=some (.i (x i).ob.ver)/\w.cell? ⟨b,off+i*9+5,none⟩=some (.i (x i).ob.born)/\w.cell? ⟨b,off+i*9+6,none⟩=some (.s (x i).ob.text)/\w.cell? ⟨b,off+i*9+7,none⟩=some (.bool (x i).ob.ending)/\w.cell? ⟨b,off+i*9+8,none⟩=some (.slice (F i).1 (x i).ob.hn (F i).2):=λi hi'=>by obtain⟨⟨b,off,e1,e2,e3,e4⟩,_⟩:=hF i hi';exact⟨b,off,e1,e2,e3,e4.c0,e4.c1,e4.c2,e4.c3,e4.c4,e4.c5,e4.c6,e4.c7,e4.c8⟩
 let c:Nat->Value:=λj=>match ad with
  |some a=>(w.cell? ⟨a.block,a.off+j,none⟩).getD (.i 0)
  |none=>.i 0;refine⟨c,λi=>(F i).1,λi=>(F i).2,⟨λj hj=>?_,λj hj=>?_⟩,λi hi'=>?_,λi hi'=>(hF i hi').2⟩
 .obtain⟨b,off,e1,e2,e3,f0,f1,f2,f3,f4,f5,f6,f7,f8⟩:=key (j/9) Zb;subst e1;rcases(show j%9=0\/j%9=1\/j%9=2\/j%9=3\/j%9=4\/j%9=5\/j%9=6\/j%9=7\/j%9=8 by omega)with hr|hr|hr|hr|hr|hr|hr|hr|hr
  .have ej:off+j=off+j/9*9:=Zb;have hcj:c j=.i (x (j/9)).ver:=by show(w.cell? ⟨b,off+j,none⟩).getD _=_;rw[ej,f0];rfl
   exact⟨b,off,rfl,e2,e3,by rw[hcj,ej];exact f0⟩
  .have ej:off+j=off+j/9*9+1:=Zb;have hcj:c j=.bool (x (j/9)).gone:=by show(w.cell? ⟨b,off+j,none⟩).getD _=_;rw[ej,f1];rfl
   exact⟨b,off,rfl,e2,e3,by rw[hcj,ej];exact f1⟩
  .have ej:off+j=off+j/9*9+2:=Zb;have hcj:c j=.s (x (j/9)).ob.kind:=by show(w.cell? ⟨b,off+j,none⟩).getD _=_;rw[ej,f2];rfl
   exact⟨b,off,rfl,e2,e3,by rw[hcj,ej];exact f2⟩
  .have ej:off+j=off+j/9*9+3:=Zb;have hcj:c j=.s (x (j/9)).ob.name:=by show(w.cell? ⟨b,off+j,none⟩).getD _=_;rw[ej,f3];rfl
   exact⟨b,off,rfl,e2,e3,by rw[hcj,ej];exact f3⟩
  .have ej:off+j=off+j/9*9+4:=Zb;have hcj:c j=.i (x (j/9)).ob.ver:=by show(w.cell? ⟨b,off+j,none⟩).getD _=_;rw[ej,f4];rfl
   exact⟨b,off,rfl,e2,e3,by rw[hcj,ej];exact f4⟩
  .have ej:off+j=off+j/9*9+5:=Zb;have hcj:c j=.i (x (j/9)).ob.born:=by show(w.cell? ⟨b,off+j,none⟩).getD _=_;rw[ej,f5];rfl
   exact⟨b,off,rfl,e2,e3,by rw[hcj,ej];exact f5⟩
  .have ej:off+j=off+j/9*9+6:=Zb;have hcj:c j=.s (x (j/9)).ob.text:=by show(w.cell? ⟨b,off+j,none⟩).getD _=_;rw[ej,f6];rfl
   exact⟨b,off,rfl,e2,e3,by rw[hcj,ej];exact f6⟩
  .have ej:off+j=off+j/9*9+7:=Zb;have hcj:c j=.bool (x (j/9)).ob.ending:=by show(w.cell? ⟨b,off+j,none⟩).getD _=_;rw[ej,f7];rfl
   exact⟨b,off,rfl,e2,e3,by rw[hcj,ej];exact f7⟩
  .have ej:off+j=off+j/9*9+8:=Zb;have hcj:c j=.l (F (j/9)).1 (x (j/9)).ob.hn (F (j/9)).2:=by show(w.cell? ⟨b,off+j,none⟩).getD _=_;rw[ej,f8];rfl
   exact⟨b,off,rfl,e2,e3,by rw[hcj,ej];exact f8⟩
 .obtain⟨b,off,e1,e2,e3,f0,f1,f2,f3,f4,f5,f6,f7,f8⟩:=key (j/9) Zb;subst e1;rcases(show j%9=0\/j%9=1\/j%9=2\/j%9=3\/j%9=4\/j%9=5\/j%9=6\/j%9=7\/j%9=8 by omega)with hr|hr|hr|hr|hr|hr|hr|hr|hr
  .have ej:off+j=off+j/9*9:=Zb;have hcj:c j=.i (x (j/9)).ver:=by show(w.cell? ⟨b,off+j,none⟩).getD _=_;rw[ej,f0];rfl
   rw[hcj];rfl
  .have ej:off+j=off+j/9*9+1:=Zb;have hcj:c j=.bool (x (j/9)).gone:=by show(w.cell? ⟨b,off+j,none⟩).getD _=_;rw[ej,f1];rfl
   rw[hcj];rfl
  .have ej:off+j=off+j/9*9+2:=Zb;have hcj:c j=.s (x (j/9)).ob.kind:=by show(w.cell? ⟨b,off+j,none⟩).getD _=_;rw[ej,f2];rfl
   rw[hcj];rfl
  .have ej:off+j=off+j/9*9+3:=Zb;have hcj:c j=.s (x (j/9)).ob.name:=by show(w.cell? ⟨b,off+j,none⟩).getD _=_;rw[ej,f3];rfl
   rw[hcj];rfl
  .have ej:off+j=off+j/9*9+4:=Zb;have hcj:c j=.i (x (j/9)).ob.ver:=by show(w.cell? ⟨b,off+j,none⟩).getD _=_;rw[ej,f4];rfl
   rw[hcj];rfl
  .have ej:off+j=off+j/9*9+5:=Zb;have hcj:c j=.i (x (j/9)).ob.born:=by show(w.cell? ⟨b,off+j,none⟩).getD _=_;rw[ej,f5];rfl
   rw[hcj];rfl
  .have ej:off+j=off+j/9*9+6:=Zb;have hcj:c j=.s (x (j/9)).ob.text:=by show(w.cell? ⟨b,off+j,none⟩).getD _=_;rw[ej,f6];rfl
   rw[hcj];rfl
  .have ej:off+j=off+j/9*9+7:=Zb;have hcj:c j=.bool (x (j/9)).ob.ending:=by show(w.cell? ⟨b,off+j,none⟩).getD _=_;rw[ej,f7];rfl
   rw[hcj];rfl
  .have ej:off+j=off+j/9*9+8:=Zb;have hcj:c j=.l (F (j/9)).1 (x (j/9)).ob.hn (F (j/9)).2:=by show(w.cell? ⟨b,off+j,none⟩).getD _=_;rw[ej,f8];rfl
   rw[hcj];rfl
 .obtain⟨b,off,e1,e2,e3,f0,f1,f2,f3,f4,f5,f6,f7,f8⟩:=key i hi';subst e1;have hc:∀j v,w.cell? ⟨b,off+j,none⟩=some v->c j=v:=λj v h=>by show(w.cell? ⟨b,off+j,none⟩).getD _=_;rw[h];rfl
  exact⟨hc (i*9) _ (by exact f0),hc (i*9+1) _ (by rw[<-AY];exact f1),hc (i*9+2) _ (by rw[<-AY];exact f2),hc (i*9+3) _ (by rw[<-AY];exact f3),hc (i*9+4) _ (by rw[<-AY];exact f4),hc (i*9+5) _ (by rw[<-AY];exact f5),hc (i*9+6) _ (by rw[<-AY];exact f6),hc (i*9+7) _ (by rw[<-AY];exact f7),hc (i*9+8) _ (by rw[<-AY];exact f8)⟩
theorem C5.src{w:World}{lo hi:Nat}{ad:OA}{n:Nat}{x:Nat->Ti}(h:C5 w lo hi ad n x):∃(c:Nat->Value),BR w lo hi ad (n*5) c/\(∀i,i<n->lS c i (x i)):=by
 have hF:∀i,i<n->(∃b off,ad=some ⟨b,off,none⟩/\lo<=b/\b<hi/\Jw w b (off+i*5) (x i)):=h;have key:∀i,i<n->∃b off,ad=some ⟨b,off,none⟩/\lo<=b/\b<hi/\w.cell? ⟨b,off+i*5,none⟩=some (.s (x i).client)/\w.cell? ⟨b,off+i*5+1,none⟩=some (.i (x i).num)/\w.cell? ⟨b,off+i*5+2,none⟩=some (.s (x i).print)/\w.cell? ⟨b,off+i*5+3,none⟩=some (.i (x i).code)/\w.cell? ⟨b,off+i*5+4,none⟩=some (.i (x i).ver):=λi hi'=>by obtain⟨b,off,e1,e2,e3,e4⟩:=hF i hi';exact⟨b,off,e1,e2,e3,e4.c0,e4.c1,e4.c2,e4.c3,e4.c4⟩
 let c:Nat->Value:=λj=>match ad with
  |some a=>(w.cell? ⟨a.block,a.off+j,none⟩).getD (.i 0)
  |none=>.i 0;refine⟨c,⟨λj hj=>?_,λj hj=>?_⟩,λi hi'=>?_⟩
 .obtain⟨b,off,e1,e2,e3,f0,f1,f2,f3,f4⟩:=key (j/5) Zb;subst e1;rcases(show j%5=0\/j%5=1\/j%5=2\/j%5=3\/j%5=4 by omega)with hr|hr|hr|hr|hr
  .have ej:off+j=off+j/5*5:=Zb;have hcj:c j=.s (x (j/5)).client:=by show(w.cell? ⟨b,off+j,none⟩).getD _=_;rw[ej,f0];rfl
   exact⟨b,off,rfl,e2,e3,by rw[hcj,ej];exact f0⟩
  .have ej:off+j=off+j/5*5+1:=Zb;have hcj:c j=.i (x (j/5)).num:=by show(w.cell? ⟨b,off+j,none⟩).getD _=_;rw[ej,f1];rfl
   exact⟨b,off,rfl,e2,e3,by rw[hcj,ej];exact f1⟩
  .have ej:off+j=off+j/5*5+2:=Zb;have hcj:c j=.s (x (j/5)).print:=by show(w.cell? ⟨b,off+j,none⟩).getD _=_;rw[ej,f2];rfl
   exact⟨b,off,rfl,e2,e3,by rw[hcj,ej];exact f2⟩
  .have ej:off+j=off+j/5*5+3:=Zb;have hcj:c j=.i (x (j/5)).code:=by show(w.cell? ⟨b,off+j,none⟩).getD _=_;rw[ej,f3];rfl
   exact⟨b,off,rfl,e2,e3,by rw[hcj,ej];exact f3⟩
  .have ej:off+j=off+j/5*5+4:=Zb;have hcj:c j=.i (x (j/5)).ver:=by show(w.cell? ⟨b,off+j,none⟩).getD _=_;rw[ej,f4];rfl
   exact⟨b,off,rfl,e2,e3,by rw[hcj,ej];exact f4⟩
 .obtain⟨b,off,e1,e2,e3,f0,f1,f2,f3,f4⟩:=key (j/5) Zb;subst e1;rcases(show j%5=0\/j%5=1\/j%5=2\/j%5=3\/j%5=4 by omega)with hr|hr|hr|hr|hr
  .have ej:off+j=off+j/5*5:=Zb;have hcj:c j=.s (x (j/5)).client:=by show(w.cell? ⟨b,off+j,none⟩).getD _=_;rw[ej,f0];rfl
   rw[hcj];rfl
  .have ej:off+j=off+j/5*5+1:=Zb;have hcj:c j=.i (x (j/5)).num:=by show(w.cell? ⟨b,off+j,none⟩).getD _=_;rw[ej,f1];rfl
   rw[hcj];rfl
  .have ej:off+j=off+j/5*5+2:=Zb;have hcj:c j=.s (x (j/5)).print:=by show(w.cell? ⟨b,off+j,none⟩).getD _=_;rw[ej,f2];rfl
   rw[hcj];rfl
  .have ej:off+j=off+j/5*5+3:=Zb;have hcj:c j=.i (x (j/5)).code:=by show(w.cell? ⟨b,off+j,none⟩).getD _=_;rw[ej,f3];rfl
   rw[hcj];rfl
  .have ej:off+j=off+j/5*5+4:=Zb;have hcj:c j=.i (x (j/5)).ver:=by show(w.cell? ⟨b,off+j,none⟩).getD _=_;rw[ej,f4];rfl
   rw[hcj];rfl
 .obtain⟨b,off,e1,e2,e3,f0,f1,f2,f3,f4⟩:=key i hi';subst e1;have hc:∀j v,w.cell? ⟨b,off+j,none⟩=some v->c j=v:=λj v h=>by show(w.cell? ⟨b,off+j,none⟩).getD _=_;rw[h];rfl
  exact⟨hc (i*5) _ (by exact f0),hc (i*5+1) _ (by rw[<-AY];exact f1),hc (i*5+2) _ (by rw[<-AY];exact f2),hc (i*5+3) _ (by rw[<-AY];exact f3),hc (i*5+4) _ (by rw[<-AY];exact f4)⟩
theorem BR.below{w w':World}{B lo hi:Nat}{ad:OA}{m:Nat}{c:Nat->Value}(h:BR w lo hi ad m c)(hb:Below B w w')(hB:hi<=B):BR w' lo hi ad m c:=⟨λj hj=>by obtain⟨b,off,e1,e2,e3,e4⟩:=h.at_ j hj;exact⟨b,off,e1,e2,e3,(hb.cell (p:=⟨b,off+j,none⟩) (Ad e3 hB)).trans e4⟩,h.one⟩
def A7 (l:List Value):Nat->Value:=λj=>l.getD j (.i 0)
theorem rQ{W:World}{B:Nat}{v0 v1 v2:Value}(h:AM W B 3 (A7 [v0,v1,v2])):W.cell? ⟨B,0,none⟩=some v0/\W.cell? ⟨B,1,none⟩=some v1/\W.cell? ⟨B,2,none⟩=some v2:=⟨h.cell 0 Zb,h.cell 1 Zb,h.cell 2 Zb⟩
theorem rY{W:World}{B:Nat}{v0 v1 v2 v3:Value}(h:AM W B 4 (A7 [v0,v1,v2,v3])):W.cell? ⟨B,0,none⟩=some v0/\W.cell? ⟨B,1,none⟩=some v1/\W.cell? ⟨B,2,none⟩=some v2/\W.cell? ⟨B,3,none⟩=some v3:=⟨h.cell 0 Zb,h.cell 1 Zb,h.cell 2 Zb,h.cell 3 Zb⟩
theorem VL{W:World}{B:Nat}{v0 v1 v2 v3 v4:Value}(h:AM W B 5 (A7 [v0,v1,v2,v3,v4])):W.cell? ⟨B,0,none⟩=some v0/\W.cell? ⟨B,1,none⟩=some v1/\W.cell? ⟨B,2,none⟩=some v2/\W.cell? ⟨B,3,none⟩=some v3/\W.cell? ⟨B,4,none⟩=some v4:=⟨h.cell 0 Zb,h.cell 1 Zb,h.cell 2 Zb,h.cell 3 Zb,h.cell 4 Zb⟩
theorem lN{W:World}{B:Nat}{v0 v1 v2 v3 v4 v5 v6:Value}(h:AM W B 7 (A7 [v0,v1,v2,v3,v4,v5,v6])):W.cell? ⟨B,0,none⟩=some v0/\W.cell? ⟨B,1,none⟩=some v1/\W.cell? ⟨B,2,none⟩=some v2/\W.cell? ⟨B,3,none⟩=some v3/\W.cell? ⟨B,4,none⟩=some v4/\W.cell? ⟨B,5,none⟩=some v5/\W.cell? ⟨B,6,none⟩=some v6:=⟨h.cell 0 Zb,h.cell 1 Zb,h.cell 2 Zb,h.cell 3 Zb,h.cell 4 Zb,h.cell 5 Zb,h.cell 6 Zb⟩
theorem AM.new{w w1:World}{l:List Value}{t:TypeId}(hb:Below (w.alloc (.cells l.toArray t)).1.size (w.alloc (.cells l.toArray t)) w1):AM w1 w.1.size l.length (A7 l):=⟨by have:=hb.size;simp at this;omega,λj=>by rw[hb.frozen (p:=⟨w.1.size,j,none⟩) Zc];simp,λj hj=>by rw[As hb j];simp[A7,hj]⟩
end Go.Proofs.YtofencldleijcaaGreat
