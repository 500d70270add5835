import Derived.Test.YtnnjcenacidceaaPk32
import Derived.Test.YtnnjcenacidceaaPk29
import Derived.Test.YtnnjcenacidceaaPk31
import Derived.Deep.Light
import Derived.Test.YtnnjcenacidceaaPk12
import Derived.Test.YtnnjcenacidceaaPk23
import Derived.Test.YtnnjcenacidceaaPk11
import Derived.Maps.AppendAt
import Derived.Deep.RegionLaw
set_option maxRecDepth 100000
set_option maxHeartbeats 8000000
namespace Go.Proofs.Ytnnjcenacidceaa
open Go.RowKit Go.Maps Go.Proofs.Try
theorem Yp(B:Bk)(v:Wr):0<=BJ B v/\BJ B v<=8:=by
 unfold BJ D9;repeat' split
 all_goals decide
theorem fD{B:Bk}{x:Bu}(hf:BL B)(hv:VB B)(hu:Oe x)(hb:Vl x):∀k,k<=x.rn->(∀j,j<k->TT B x j=true)->VB (DD B x.rs k)/\(DD B x.rs k).tn=B.tn/\(DD B x.rs k).ts=B.ts/\B.now<=(DD B x.rs k).now
 |0,_,_=>⟨hv,rfl,rfl,K7 _⟩
 |k+1,hk,h=>by obtain⟨a,b,c,d⟩:=fD hf hv hu hb k Za (λj hj=>h j Za);refine⟨RS a (Wa hf (PX hv) hu hb k Za (λj hj=>h j Za)) (of_decide_eq_true (h k Za)),b,c,?_⟩;show B.now<=(DD B x.rs k).now+1;omega
theorem oV{B:Bk}{x:Bu}(hf:BL B)(hv:VB B)(hu:Oe x)(hb:Vl x):VB (BG B x)/\(BG B x).tn=B.tn/\(BG B x).ts=B.ts/\B.now<=(BG B x).now/\0<=Ct B x/\Ct B x<=9/\0<=CM B x/\CM B x<=(BG B x).now:=by
 have c:0<=Ct B x/\Ct B x<=9:=by
  unfold Ct;split;.decide
  .split;.have:=Yp (DD B x.rs (VA B x)) (x.rs (VA B x));omega
   .decide
 unfold BG CM;by_cases e:bP B x<x.wn\/VA B x<x.rn;.rw[if_pos e,if_pos e];have:=hv.n0;have:=hv.n1;exact⟨hv,rfl,rfl,K7 _,c.1,c.2,K7 _,Za⟩
 .rw[if_neg e,if_neg e];obtain⟨q1,q2,_⟩:=QE (TT B x) x.rn;have hw:VA B x=x.rn:=by unfold VA at e⊢;omega
  obtain⟨a,b,cc,d⟩:=fD hf hv hu hb x.rn uK (λj hj=>q2 j (by unfold VA at hw;omega));have:=a.n0;have:=a.n1;exact⟨a,b,cc,d,c.1,c.2,Za,K7 _⟩
theorem oI{B:Bk}(h:Ly B.tn B.ts B.now=true):∀i j,i<j->j<B.tn->KW (B.ts i).client (B.ts j).client=true:=by unfold Ly PQ at h;simp only[Al,AP]at h;intro i j hij;induction j with
 |zero=>omega
 |succ j ih=>
  intro hj;have s:=h.2.1 (j+1) hj;have s:KW (B.ts j).client (B.ts (j+1)).client=true:=by simpa using s
  by_cases e:i=j;.subst e;exact s
  .exact M7 (ih Za Za) s
theorem qL{B:Bk}{c:Ca}(hf:BL B)(hv:VB B)(hu:Oe c.bu)(h1:XI c=true)(h2:Qk c.bu=true)(h3:Qo B c=true):VB (Nr B c):=by
 obtain⟨a,b,cc,d,c0,c1,v0,v1⟩:=oV hf hv hu (MH h2);have ht:=hv.ti;have hasc:=oI ht;unfold Ly at ht;simp only[Al,AP,decide_eq_true_eq]at ht;unfold XI at h1;simp only[Al]at h1;obtain⟨r1,r2,r3⟩:=MK (λi=>(B.ts i).client) c.client B.tn;have hk:EI B c.client=K1 (λi=>(B.ts i).client) c.client B.tn:=rfl;rw[<-hk]at r1 r2 r3;have hnew:Nu (OO B c) (BG B c.bu).now=true:=by unfold Nu OO;simp only[Al,decide_eq_true_eq];exact⟨h1.1,h1.2,rfl,K6 ⟨c0,c1⟩,K6 ⟨v0,v1⟩⟩
 have hold:∀i,i<B.tn->Nu (B.ts i) (BG B c.bu).now=true:=λi hi=>by have:=ht.2.2 i hi;unfold Nu at this⊢;simp only[Al]at this⊢;have q:=MJ this.2.2.2.2;exact⟨this.1,this.2.1,this.2.2.1,this.2.2.2.1,K6 ⟨q.1,Za⟩⟩
 refine⟨a.n0,a.n1,a.n2,a.on,a.asc,a.fit,a.vd,a.hn,a.hnow,a.ver,a.chg,a.liv,a.agO,a.agH,?_⟩;show Ly (if Mp B c.client then B.tn else B.tn+1) (Nf B.ts (EI B c.client) (Mp B c.client) (OO B c)) (BG B c.bu).now=true;unfold Qo at h3;unfold Ly PQ;simp only[Al,AP,decide_eq_true_eq];cases hi:Mp B c.client with
 |true=>
  unfold Mp at hi;simp only[Al,decide_eq_true_eq]at hi;simp only[if_true];refine⟨ht.1,λi h=>?_,λi h=>?_⟩;.cases i with
   |zero=>rfl
   |succ i=>
    have hA:=hasc i (i+1) Za h;show((i+1==0)||KW (Nf B.ts (EI B c.client) true (OO B c) (i+1-1)).client (Nf B.ts (EI B c.client) true (OO B c) (i+1)).client)=true;have cl:∀j,(Nf B.ts (EI B c.client) true (OO B c) j).client=(B.ts j).client:=λj=>by
     unfold Nf;split;.rfl
     .split;.rename_i e;subst e;exact hi.2.symm
      .rfl
    rw[cl,cl,OB,hA,Bool.or_true]
  .unfold Nf;split;.exact hold i h
   .split;.exact hnew
    .exact hold i h
 |false=>
  rw[hi]at h3;simp only[GP,if_false]at h3⊢;have h3:=of_decide_eq_true h3;have hne:EI B c.client<B.tn->¬(B.ts (EI B c.client)).client=c.client:=λq e=>by unfold Mp at hi;rw[decide_eq_true q,decide_eq_true e]at hi;cases hi
  refine⟨Za,λi h=>?_,λi h=>?_⟩;.cases i with
   |zero=>rfl
   |succ i=>
    show((i+1==0)||KW (Nf B.ts (EI B c.client) false (OO B c) (i+1-1)).client (Nf B.ts (EI B c.client) false (OO B c) (i+1)).client)=true;rw[OB];suffices q:KW (Nf B.ts (EI B c.client) false (OO B c) i).client (Nf B.ts (EI B c.client) false (OO B c) (i+1)).client=true by rw[q,Bool.or_true]
    unfold Nf;by_cases e1:i+1<EI B c.client;.rw[if_pos Za,if_pos e1];exact hasc i (i+1) Za Za
    .by_cases e2:i+1=EI B c.client;.rw[if_pos Za,if_neg e1,if_pos e2];exact r2 i Za
     .by_cases e3:i=EI B c.client;.rw[if_neg Za,if_pos e3,if_neg e1,if_neg e2];show KW c.client (B.ts (i+1-1)).client=true;rw[OB,e3];exact QB (r3 Za) (hne Za)
      .rw[if_neg Za,if_neg e3,if_neg e1,if_neg e2];show KW (B.ts (i-1)).client (B.ts (i+1-1)).client=true;rw[OB];exact hasc (i-1) i Za Za
  .unfold Nf;split;.exact hold i Za
   .split;.exact hnew
    .exact hold (i-1) Za
theorem pT{B:Bk}{c:Ca}(hf:BL B)(hv:VB B)(hu:Oe c.bu):VB (Ll B c):=by
 unfold Ll;split;.rename_i h;exact qL hf hv hu h.1 h.2.1 h.2.2
 .exact hv
end Go.Proofs.Ytnnjcenacidceaa
namespace Go.Proofs.Ytnnjcenacidceaa
open Go.RowKit Go.Maps Go.Proofs.Try
theorem Uz (B:Bk)(v:Wr)(a1 a2 a3:OA)(c1 c2 c3:Nat)(w:World)(hwr:Li v=false)(wf:RU v):Calls prog 71 #[.agg (vB B a1 a2 a3 c1 c2 c3),.agg (vW v)] w λe w'=>e=.returned (.agg #[.i 2,.i B.now,.i B.floor,.l a1 B.on c1,.l a2 B.hn c2,.l a3 B.tn c3,.i 0])/\Below w.1.size w w':=by
 have B3:∀o1 o2 o3,Below w.1.size w (((w.alloc o1).alloc o2).alloc o3):=λo1 o2 o3=>(((Ao _ _).alloc uK _).alloc Zc _).alloc Zd _;have Lg:=Ah B3;clear B3;have n9:=Ah hwr;have nS:=Ah wf;clear hwr wf;go_enter func71,ntmps71;go_wp2_with fail;refine(Le v nS _).mono ?_;rintro e w1⟨rfl,hb1⟩;rw[n9.out];have z1:w.1.size+1+1<w1.1.size:=by have:=hb1.size;simp at this;omega
 have Pa:=Ah hb1;have Ma:=Ah ((Lg _ _ _).trans (hb1.mono Zd));obtain⟨X0,X1,X2,Y1,Y2⟩:=BA hb1;have b0:=X0 0;have b1:=X0 1;have b2:=X0 2;have b3:=X0 3;have b4:=X0 4;have p0:=X1 0;have p1:=X1 1;have p2:=X1 2;have p3:=X1 3;have p4:=X1 4;have p5:=X1 5;have r0:=X2 0;have r1:=X2 1;have r2:=X2 2;have r3:=X2 3;have r4:=X2 4;have r5:=X2 5;have r6:=X2 6;simp only[Af,Ae,Ad]at b0 b1 b2 b3 b4 p0 p1 p2 p3 p4 p5 r0 r1 r2 r3 r4 r5 r6;clear X0 X1 X2;clear hb1;go_wp2;refine bodyPost_ret (v:=.agg #[.i 2,.i B.now,.i B.floor,.l a1 B.on c1,.l a2 B.hn c2,.l a3 B.tn c3,.i 0]) (by simp[results,results71,go_sem,r0,r1,r2,r3,r4,r5,r6]) rfl ⟨rfl,by repeat(first|with_reducible exact Ma.out|with_reducible refine Bs ?_ Zi _|with_reducible refine B7 ?_ Zi _|with_reducible refine Cd ?_)⟩
structure L4 (w:World)(B:Bk)(a1 a2 a3:OA)(c3:Nat):Prop where
 v:VB B
 f:BL B
 i:BF w 0 w.1.size B a1 a2 a3
 c:MW w B.tn a3 c3
theorem L4.below{w w':World}{B:Bk}{a1 a2 a3:OA}{c3:Nat}(h:L4 w B a1 a2 a3 c3)(hb:Below w.1.size w w'):L4 w' B a1 a2 a3 c3:=⟨h.v,h.f,h.i.grow hb,h.c.grow hb.size⟩
def cv (w:World)(e:Ending)(w':World):Prop:=Below w.1.size w w'/\∃(cd:Int)(Y:Bk)(b1 b2 b3:OA)(e1 e2 e3:Nat)(ve:Int),e=.returned (.agg #[.i cd,.i Y.now,.i Y.floor,.l b1 Y.on e1,.l b2 Y.hn e2,.l b3 Y.tn e3,.i ve])/\L4 w' Y b1 b2 b3 e3
theorem WF{P:Prop}(h:P:=by rintro e w'⟨rfl,h⟩;exact⟨h,_,B,a1,a2,a3,c1,c2,c3,_,rfl,hb.below h⟩):P:=h
theorem Ur (B:Bk)(v:Wr)(a1 a2 a3:OA)(c1 c2 c3:Nat)(w:World)(hb:L4 w B a1 a2 a3 c3)(hv:Wd v):Calls prog 71 #[.agg (vB B a1 a2 a3 c1 c2 c3),.agg (vW v)] w λe w'=>cv w e w':=by cases hw:Li v with
 |false=>refine(Uz B v a1 a2 a3 c1 c2 c3 w hw hv.fit).mono ?_;exact WF
 |true=>
  have hok:=VU hb.f (PX hb.v) hw hv.fit;by_cases h0:BJ B v=0;.refine(TY B v a1 a2 a3 c1 c2 c3 w hok hb.i h0).mono ?_;rintro e w'⟨h,x1,x2,x3,y1,y2,y3,rfl,hin,rfl,rfl⟩;exact⟨h,_,LX B v,x1,x2,x3,y1,y2,y3,_,rfl,RS hb.v hok h0,(Tu hok).1,hin,hb.c.grow h.size⟩
  .by_cases h4:BJ B v=4;.refine(Wq B v a1 a2 a3 c1 c2 c3 w hok hb.i h4).mono ?_;exact WF
   .refine(QZ B v a1 a2 a3 c1 c2 c3 w hok hb.i h0 h4).mono ?_;exact WF
end Go.Proofs.Ytnnjcenacidceaa
namespace Go.Proofs.Ytnnjcenacidceaa
open Go.RowKit Go.Proofs.Try
def av (R:Nat)(ad:OA)(nn cap p:Nat)(w:World)(e:Ending)(w':World):Prop:=∃(x:Bu)(u1 u2:OA)(d1 d2:Nat),e=.returned (.agg (vU x u1 u2 d1 d2))/\UG x/\Lt w' 0 w'.1.size x u1 u2/\Dn R ad nn cap p 400 w w'
def uP (w:World)(B:Bk)(R:Nat)(ad:OA)(nn cap p k:Nat)(a1 a2 a3:OA)(c1 c2 c3 m1 m2:Nat)(X:World):Prop:=∃x u1 u2 d1 d2 g1 g2 p',p<=p'/\p'<=p+k/\x.wn<=m1/\x.rn<=m2/\Sf w B R ad nn cap p' a1 a2 a3 c1 c2 c3 x u1 u2 d1 d2 g1 g2 X
structure pB (w:World)(B:Bk)(R:Nat)(ad:OA)(nn cap p k:Nat)(a1 a2 a3:OA)(c1 c2 c3 m1 m2:Nat)(M:Nat)(x:Bu)(u1 u2:OA)(d1 d2 g1 g2 p':Nat)(v:Wt)(X:World):Prop where
 b:p<=p'/\p'<=p+k/\x.wn<=m1/\x.rn<=m2
 l:Sf w B R ad nn cap p' a1 a2 a3 c1 c2 c3 x u1 u2 d1 d2 g1 g2 X
 m:AN X M 3 (AR (Xi v))i:rM v
 M0:w.1.size+1+1+1<=M
 n1:0<d1->¬M=g1
 n2:0<d2->¬M=g2
def uN (w:World)(B:Bk)(R:Nat)(ad:OA)(nn cap p k:Nat)(a1 a2 a3:OA)(c1 c2 c3 m1 m2:Nat)(M:Nat)(X:World):Prop:=∃x u1 u2 d1 d2 g1 g2 p' v,pB w B R ad nn cap p k a1 a2 a3 c1 c2 c3 m1 m2 M x u1 u2 d1 d2 g1 g2 p' v X
structure Uk (w:World)(B:Bk)(R:Nat)(ad:OA)(nn cap p k:Nat)(a1 a2 a3:OA)(c1 c2 c3 m1 m2:Nat)(Nb:Nat)(x:Bu)(u1 u2:OA)(d1 d2 g1 g2 p':Nat)(Y:Bk)(b1 b2 b3:OA)(e1 e2 e3:Nat)(X:World):Prop where
 b:p<=p'/\p'<=p+k/\x.wn<=m1/\x.rn<=m2
 l:Sf w B R ad nn cap p' a1 a2 a3 c1 c2 c3 x u1 u2 d1 d2 g1 g2 X
 m:AN X Nb 5 (AR (Qq Y b1 b2 b3 e1 e2 e3))i:L4 X Y b1 b2 b3 e3
 N0:w.1.size+1+1+1<=Nb
 n1:0<d1->¬Nb=g1
 n2:0<d2->¬Nb=g2
 ns:MG X Nb
def tG (w:World)(B:Bk)(R:Nat)(ad:OA)(nn cap p k:Nat)(a1 a2 a3:OA)(c1 c2 c3 m1 m2:Nat)(Nb:Nat)(X:World):Prop:=∃x u1 u2 d1 d2 g1 g2 p' Y b1 b2 b3 e1 e2 e3,Uk w B R ad nn cap p k a1 a2 a3 c1 c2 c3 m1 m2 Nb x u1 u2 d1 d2 g1 g2 p' Y b1 b2 b3 e1 e2 e3 X
theorem L4.pick{X Y:World}{B:Bk}{R:Nat}{a1 a2 a3:OA}{c3:Nat}(h:L4 X B a1 a2 a3 c3)(hf:Az (λq=>q=R) X Y)(hn:∀j s,¬X.cell? ⟨R,j,none⟩=some (.s s)):L4 Y B a1 a2 a3 c3:=⟨h.v,h.f,(h.i.box hf hn uK).upTo hf.size,h.c.grow hf.size⟩
theorem L4.app{X Y:World}{B:Bk}{g d n:Nat}{a1 a2 a3:OA}{c3:Nat}(h:L4 X B a1 a2 a3 c3)(hf:Az (λq=>0<d/\q=g) X Y)(hp:0<d->Sq X g n)(hk:0<d->∀j,j<n->Y.cell? ⟨g,j,none⟩=X.cell? ⟨g,j,none⟩):L4 Y B a1 a2 a3 c3:=by
 refine⟨h.v,h.f,BF.upTo (hi:=X.1.size) ?_ hf.size,h.c.grow hf.size⟩;rcases Bm d with h0|h0;.exact h.i.below ⟨hf.os,hf.tape,hf.output,hf.size,λi hi=>hf.block i hi (λe=>by omega)⟩ uK
 .exact lJ h.v h.i uK (hf.mono (λk e=>e.2)) (hp h0) (hk h0)
theorem Yw{w w3:World}{R y:Nat}(hf:Az (λq=>q=R) (w.alloc (.cells #[.s ⟨#[120]⟩,.s ⟨#[103,111,110,101]⟩] 9)) w3)(hR:¬w.1.size=R)(hy:(y:Int)<2):∃s:ByteArray,(s.size:Int)<=140737488355328/\w3.cell? ⟨w.1.size,y,none⟩=some (.s s):=by have e:=hf.cell (p:=⟨w.1.size,y,none⟩) Zc hR;have n:(w.alloc (.cells #[.s ⟨#[120]⟩,.s ⟨#[103,111,110,101]⟩] 9)).cell? ⟨w.1.size,y,none⟩=_:=Ak w #[.s ⟨#[120]⟩,.s ⟨#[103,111,110,101]⟩] 9 y;rw[e,n];rcases(show y=0\/y=1 by omega)with rfl|rfl;all_goals exact⟨_,Zb,rfl⟩
theorem Tx (X:World)(l:List Value)(t:TypeId)(h1:∀j,j<l.length->(AR l j).oneCell'=true):BS (X.alloc (.cells l.toArray t)) X.1.size (X.1.size+1) (some ⟨X.1.size,0,none⟩) l.length (AR l):=⟨λj hj=>⟨X.1.size,0,rfl,AD _,By _,by rw[A6];exact(AN.new (l:=l) (t:=t) EF).cell j hj⟩,h1⟩
theorem UB{B:Bk}(h:VB B):B.on<=100/\∀i,i<B.on->(B.os i).hn<=100:=⟨h.on,λi hi=>by have:=(h.fit i hi).1;simp only[Bg,EB,Al,decide_eq_true_eq]at this;omega⟩
theorem pB.pick{w:World}{B:Bk}{R:Nat}{ad:OA}{nn cap p k:Nat}{a1 a2 a3:OA}{c1 c2 c3 m1 m2:Nat}{M:Nat}{x:Bu}{u1 u2:OA}{d1 d2 g1 g2 p' q' p0 k':Nat}{v:Wt}{X Y:World}(h:pB w B R ad nn cap p k a1 a2 a3 c1 c2 c3 m1 m2 M x u1 u2 d1 d2 g1 g2 p' v X)(hw:Rd w R ad nn cap p0)(hf:Az (λq=>q=R) X Y)(hr:Rd Y R ad nn cap q')(hq:p'<=q')(hk:q'<=p+k'):pB w B R ad nn cap p k' a1 a2 a3 c1 c2 c3 m1 m2 M x u1 u2 d1 d2 g1 g2 q' v Y:=have hR:=hw.lt
 ⟨⟨AT h.b.1 hq,hk,h.b.2.2⟩,h.l.pick hw hf hr,h.m.fr2 hf (by have:=h.M0;omega),h.i,h.M0,h.n1,h.n2⟩
theorem pB.set{w:World}{B:Bk}{R:Nat}{ad:OA}{nn cap p k:Nat}{a1 a2 a3:OA}{c1 c2 c3 m1 m2:Nat}{M:Nat}{x:Bu}{u1 u2:OA}{d1 d2 g1 g2 p' p0:Nat}{v:Wt}{X:World}(h:pB w B R ad nn cap p k a1 a2 a3 c1 c2 c3 m1 m2 M x u1 u2 d1 d2 g1 g2 p' v X)(hw:Rd w R ad nn cap p0){o:Nat}(ho:o<3)(u:Value)(v':Wt)(hi:rM v')(e:∀j,j<3->L1 (AR (Xi v)) o u j=AR (Xi v') j):pB w B R ad nn cap p k a1 a2 a3 c1 c2 c3 m1 m2 M x u1 u2 d1 d2 g1 g2 p' v' (X.setCell ⟨M,o,none⟩ u):=⟨h.b,h.l.box hw ((Az.refl (λq=>q=M) X).setCell (p:=⟨M,o,none⟩) rfl u) h.M0 h.n1 h.n2,(h.m.set ho u).congr e,hi,h.M0,h.n1,h.n2⟩
theorem Uk.pick{w:World}{B:Bk}{R:Nat}{ad:OA}{nn cap p k:Nat}{a1 a2 a3:OA}{c1 c2 c3 m1 m2:Nat}{Nb:Nat}{x:Bu}{u1 u2:OA}{d1 d2 g1 g2 p' q' p0 k':Nat}{V:Bk}{b1 b2 b3:OA}{e1 e2 e3:Nat}{X Y:World}(h:Uk w B R ad nn cap p k a1 a2 a3 c1 c2 c3 m1 m2 Nb x u1 u2 d1 d2 g1 g2 p' V b1 b2 b3 e1 e2 e3 X)(hw:Rd w R ad nn cap p0)(hf:Az (λq=>q=R) X Y)(hr:Rd Y R ad nn cap q')(hq:p'<=q')(hk:q'<=p+k'):Uk w B R ad nn cap p k' a1 a2 a3 c1 c2 c3 m1 m2 Nb x u1 u2 d1 d2 g1 g2 q' V b1 b2 b3 e1 e2 e3 Y:=have hR:=hw.lt
 ⟨⟨AT h.b.1 hq,hk,h.b.2.2⟩,h.l.pick hw hf hr,h.m.fr2 hf (by have:=h.N0;omega),h.i.pick hf h.l.r.ns,h.N0,h.n1,h.n2,h.ns.fr hf h.m.lt (by have:=h.N0;omega)⟩
theorem Uk.wide{w:World}{B:Bk}{R:Nat}{ad:OA}{nn cap p k:Nat}{a1 a2 a3:OA}{c1 c2 c3 m1 m2:Nat}{Nb:Nat}{x:Bu}{u1 u2:OA}{d1 d2 g1 g2 p' k' m2':Nat}{V:Bk}{b1 b2 b3:OA}{e1 e2 e3:Nat}{X:World}(h:Uk w B R ad nn cap p k a1 a2 a3 c1 c2 c3 m1 m2 Nb x u1 u2 d1 d2 g1 g2 p' V b1 b2 b3 e1 e2 e3 X)(hk:k<=k')(hm:m2<=m2'):Uk w B R ad nn cap p k' a1 a2 a3 c1 c2 c3 m1 m2' Nb x u1 u2 d1 d2 g1 g2 p' V b1 b2 b3 e1 e2 e3 X:=⟨⟨h.b.1,by have:=h.b.2.1;omega,h.b.2.2.1,by have:=h.b.2.2.2;omega⟩,h.l,h.m,h.i,h.N0,h.n1,h.n2,h.ns⟩
theorem Uk.below{w:World}{B:Bk}{R:Nat}{ad:OA}{nn cap p k:Nat}{a1 a2 a3:OA}{c1 c2 c3 m1 m2:Nat}{Nb:Nat}{x:Bu}{u1 u2:OA}{d1 d2 g1 g2 p' p0:Nat}{V:Bk}{b1 b2 b3:OA}{e1 e2 e3:Nat}{X Y:World}(h:Uk w B R ad nn cap p k a1 a2 a3 c1 c2 c3 m1 m2 Nb x u1 u2 d1 d2 g1 g2 p' V b1 b2 b3 e1 e2 e3 X)(hw:Rd w R ad nn cap p0)(hb:Below X.1.size X Y):Uk w B R ad nn cap p k a1 a2 a3 c1 c2 c3 m1 m2 Nb x u1 u2 d1 d2 g1 g2 p' V b1 b2 b3 e1 e2 e3 Y:=⟨h.b,h.l.below hw hb,h.m.below hb h.m.lt,h.i.below hb,h.N0,h.n1,h.n2,h.ns.below hb h.m.lt⟩
def xA (w:World)(B:Bk)(R:Nat)(ad:OA)(nn cap p k:Nat)(a1 a2 a3:OA)(c1 c2 c3 m1 m2:Nat)(Nb Mv Dd:Nat)(v:Wr)(cd ve:Int)(X:World):Prop:=∃x u1 u2 d1 d2 g1 g2 p' Y b1 b2 b3 e1 e2 e3 V f1 f2 f3 h1 h2 h3,Uk w B R ad nn cap p k a1 a2 a3 c1 c2 c3 m1 m2 Nb x u1 u2 d1 d2 g1 g2 p' Y b1 b2 b3 e1 e2 e3 X/\AN X Mv 6 (AR (wv v))/\AN X Dd 7 (AR [.i cd,.i V.now,.i V.floor,.l f1 V.on h1,.l f2 V.hn h2,.l f3 V.tn h3,.i ve])/\L4 X V f1 f2 f3 h3/\(¬Nb=Mv/\¬Nb=Dd/\¬Mv=Dd/\w.1.size+1+1+1<=Mv/\w.1.size+1+1+1<=Dd)/\(0<d1->¬Mv=g1/\¬Dd=g1)/\(0<d2->¬Mv=g2/\¬Dd=g2)
theorem Uk.addR{w:World}{B:Bk}{R:Nat}{ad:OA}{nn cap p k:Nat}{a1 a2 a3:OA}{c1 c2 c3 m1 m2:Nat}{Nb:Nat}{x:Bu}{u1 u2:OA}{d1 d2 g1 g2 p' p0:Nat}{V:Bk}{b1 b2 b3:OA}{e1 e2 e3:Nat}{X Z:World}{v:Wr}{u2':OA}{d2' g2':Nat}(h:Uk w B R ad nn cap p k a1 a2 a3 c1 c2 c3 m1 m2 Nb x u1 u2 d1 d2 g1 g2 p' V b1 b2 b3 e1 e2 e3 X)(hw:Rd w R ad nn cap p0)(hf:Az (λq=>0<d2/\q=g2) X Z)(hr:Rw Z u2' g2' (x.rn+1) d2' 6 (Qp (Q5 x.rs x.rn v)))(hp:Sq Z g2' ((x.rn+1)*6))(hk:0<d2->∀j,j<x.rn*6->Z.cell? ⟨g2,j,none⟩=X.cell? ⟨g2,j,none⟩)(hg:(0<d2/\g2'=g2)\/X.1.size<=g2')(hv:Wd v)(hn:x.rn<100):Uk w B R ad nn cap p k a1 a2 a3 c1 c2 c3 m1 (m2+1) Nb (Xw x v) u1 u2' d1 d2' g1 g2' p' V b1 b2 b3 e1 e2 e3 (Z.setCell ⟨w.1.size+1+1,1,none⟩ (.l u2' (x.rn+1) d2')):=by have F:=(Az.refl (λq=>q=w.1.size+1+1) Z).setCell (p:=⟨w.1.size+1+1,1,none⟩) rfl (.l u2' (x.rn+1) d2');have hN0:=h.N0;have hml:=h.m.lt;exact⟨⟨h.b.1,h.b.2.1,h.b.2.2.1,Nat.succ_le_succ h.b.2.2.2⟩,h.l.addR hw hf hr hp hg hv hn,(h.m.fr hf (λe=>h.n2 e.1 e.2)).fr F Za,(h.i.app hf (λh0=>(h.l.h2 h0).2) hk).pick F (h.l.un.fr hf h.l.u.lt (λe=>by have:=(h.l.h2 e.1).1;omega)),h.N0,h.n1,λ_=>by
  rcases hg with⟨g0,rfl⟩|hg;.exact h.n2 g0
  .omega,(h.ns.fr hf hml (λe=>h.n2 e.1 e.2)).fr F (Ac hml hf.size) Za⟩
theorem Uk.put{w:World}{B:Bk}{R:Nat}{ad:OA}{nn cap p k:Nat}{a1 a2 a3:OA}{c1 c2 c3 m1 m2:Nat}{Nb:Nat}{x:Bu}{u1 u2:OA}{d1 d2 g1 g2 p' p0 k':Nat}{Y V:Bk}{b1 b2 b3 f1 f2 f3:OA}{e1 e2 e3 h1 h2 h3:Nat}{X:World}(h:Uk w B R ad nn cap p k a1 a2 a3 c1 c2 c3 m1 m2 Nb x u1 u2 d1 d2 g1 g2 p' Y b1 b2 b3 e1 e2 e3 X)(hw:Rd w R ad nn cap p0)(hv:L4 X V f1 f2 f3 h3)(hk:k<=k'):Uk w B R ad nn cap p k' a1 a2 a3 c1 c2 c3 m1 m2 Nb x u1 u2 d1 d2 g1 g2 p' V f1 f2 f3 h1 h2 h3 (((((X.setCell ⟨Nb,0,none⟩ (.i V.now)).setCell ⟨Nb,1,none⟩ (.i V.floor)).setCell ⟨Nb,2,none⟩ (.l f1 V.on h1)).setCell ⟨Nb,3,none⟩ (.l f2 V.hn h2)).setCell ⟨Nb,4,none⟩ (.l f3 V.tn h3)):=by have F:=((((((Az.refl (λq=>q=Nb) X).setCell (p:=⟨Nb,0,none⟩) rfl (.i V.now)).setCell (p:=⟨Nb,1,none⟩) rfl (.i V.floor)).setCell (p:=⟨Nb,2,none⟩) rfl (.l f1 V.on h1)).setCell (p:=⟨Nb,3,none⟩) rfl (.l f2 V.hn h2)).setCell (p:=⟨Nb,4,none⟩) rfl (.l f3 V.tn h3));have M:=(((((h.m.set (o:=0) Zb (.i V.now)).set (o:=1) Zb (.i V.floor)).set (o:=2) Zb (.l f1 V.on h1)).set (o:=3) Zb (.l f2 V.hn h2)).set (o:=4) Zb (.l f3 V.tn h3));refine⟨⟨h.b.1,by have:=h.b.2.1;omega,h.b.2.2⟩,h.l.box hw F h.N0 h.n1 h.n2,M.congr (λj hj=>?_),hv.pick F h.ns,h.N0,h.n1,h.n2,oT h.ns h.m V f1 f2 f3 h1 h2 h3⟩;.rcases(show j=0\/j=1\/j=2\/j=3\/j=4 by omega)with rfl|rfl|rfl|rfl|rfl<;>rfl
theorem lL{v:Wt}{o:Nat}{u:Value}{v':Wt}(h0:(if 0=o then u else .s v.kind)=.s v'.kind:=by rfl)(h1:(if 1=o then u else .s v.name)=.s v'.name:=by rfl)(h2:(if 2=o then u else .i v.ver)=.i v'.ver:=by rfl):∀j,j<3->L1 (AR (Xi v)) o u j=AR (Xi v') j:=λj hj=>by
 rcases(show j=0\/j=1\/j=2 by omega)with rfl|rfl|rfl;.exact h0
 .exact h1
 .exact h2
theorem VR (B:Bk)(R:Nat)(ad:OA)(nn cap p:Nat)(a1 a2 a3:OA)(c1 c2 c3:Nat)(w:World)(hr:Rd w R ad nn cap p)(hp:p<=700000)(hb:L4 w B a1 a2 a3 c3):Calls prog 70 #[.p R 0,.agg (vB B a1 a2 a3 c1 c2 c3)] w λe w'=>av R ad nn cap p w e w':=by
 have HS:=Ah (qM w B R ad nn cap p a1 a2 a3 c1 c2 c3 hr);have HB:=Ah hb;have HR:=Ah hr;have hRw:=hr.lt;clear hb hr;go_enter func70,ntmps70;go_upto_region 2 with fail;generalize((w.alloc (.cells (vB B a1 a2 a3 c1 c2 c3) 27)).alloc (.cells #[.l none 0 0,.l none 0 0] 106)).alloc (.cells #[.l none 0 0,.l none 0 0] 106)=X0 at HS⊢;go_upto_block 0 with(go_at_call 12;go_must(refine(A7 R ad nn cap _ 3 _ HS.r Za Zb Zb).mono ?_;rintro e w3 ⟨y,rfl,_,hy,hf3,hr3⟩;have hy3:=hy Zb;clear hy));have Qw:=Ah (HS.pick HR hf3 hr3);clear HS hf3 hr3;go_cut[](λwx=>uP w B R ad nn cap p 60 a1 a2 a3 c1 c2 c3 3 0 wx);case first=>
  --<l1
  go_wp2_with fail;go_loopw[6](λs6 wr=>∃n:Nat,s6=.i n/\n<=2/\Hid (uP w B R ad nn cap p (1+17*(2-n)) a1 a2 a3 c1 c2 c3 (2-n) 0 wr))(λs _=>(intOf s).toNat);case atStart=>exact⟨y,rfl,Za,Ah ⟨_,_,_,_,_,_,_,_,Nat.le_succ _,Za,At _,At _,Qw⟩⟩
  case round=>
   clear Qw;obtain⟨n,rfl,hn2,HL⟩:=hrel;go_upto_region 3 with fail;go_cut[22](λc wx=>∃b:Bool,c=.bool b/\(b=true->0<n)/\uP w B R ad nn cap p (2+17*(2-n)) a1 a2 a3 c1 c2 c3 (2-n) 0 wx);case first=>
    obtain⟨x,u1,u2,d1,d2,g1,g2,p',hq1,hq2,hq3,hq4,hL⟩:=HL.out;have MV:=Ah hL;clear HL hL;go_wp2_with (go_at_call 12;go_must(refine(A7 R ad nn cap _ 2 _ MV.r Za Zb Zb).mono ?_;rintro e w3 ⟨y,rfl,_,hy,hf3,hr3⟩;have hy3:=hy Zb;clear hy));all_goals go_meet
    case rel=>exact⟨_,rfl,λ_=>by omega,x,u1,u2,d1,d2,g1,g2,p'+1,Za,Za,hq3,hq4,MV.pick HR hf3 hr3⟩
    case rel=>exact⟨_,rfl,λh=>O7,x,u1,u2,d1,d2,g1,g2,p',Za,Za,hq3,hq4,MV⟩
   case rest=>obtain⟨b,rfl,hb0,hL⟩:=hcut;have MV:=Ah hL;clear HL hL;cases b with
    |false=>go_wp2_with fail;go_meet;case rel=>obtain⟨x,u1,u2,d1,d2,g1,g2,p',hq1,hq2,hq3,hq4,hL⟩:=MV.out;exact⟨x,u1,u2,d1,d2,g1,g2,p',hq1,Za,Za,hq4,hL⟩
    |true=>
     have hn0:=hb0 rfl;clear hb0;go_upto_block 1 with fail;go_cut[](λwx=>uP w B R ad nn cap p (18+17*(2-n)) a1 a2 a3 c1 c2 c3 (3-n) 0 wx);case first=>
      --<b1
      obtain⟨x,u1,u2,d1,d2,g1,g2,p',hq1,hq2,hq3,hq4,hL⟩:=MV.out;have hsz:=hL.u.lt;have HL:=Ah hL;clear MV hL;have hxb:∀o,Below wc.1.size wc (wc.alloc o):=λo=>An _ _;have rF:=Ah hxb;clear hxb;go_upto_region 6 with(go_at_call 12;go_must(refine(A7 R ad nn cap p' 2 _ (HL.r.below (rF _)) Za Zb Zb).mono ?_;rintro e w3 ⟨y,rfl,_,hy,hf3,hr3⟩;have hy2:=hy Zb;obtain⟨s,hs1,hs2⟩:=Yw hf3 Za hy2;have HLp:=Ah (HL.pick HR ((Aq (rF _)).trans hf3) hr3)));have hz3:=HLp.u.lt;have HV:=Ah (show uN w B R ad nn cap p (3+17*(2-n)) a1 a2 a3 c1 c2 c3 (2-n) 0 w3.1.size (w3.alloc (.cells #[.s ⟨#[98,101,114,116,104]⟩,.s s,.i 0] 124))from⟨x,u1,u2,d1,d2,g1,g2,p'+1,⟨⟨#[98,101,114,116,104]⟩,s,0⟩,⟨Za,Za,hq3,hq4⟩,HLp.below HR AG,AN.new (l:=[.s ⟨#[98,101,114,116,104]⟩,.s s,.i 0]) (t:=124) EF,⟨⟨by show((⟨#[98,101,114,116,104]⟩:ByteArray).size:Int)<=_;decide,hs1⟩,by show(0:Int)<=_;omega⟩,Za,λh0=>by have:=(HLp.w1.room h0).lt;omega,λh0=>by have:=(HLp.w2.room h0).lt;omega⟩);have hzM:w3.1.size<(w3.alloc (.cells #[.s ⟨#[98,101,114,116,104]⟩,.s s,.i 0] 124)).1.size:=Zc;generalize w3.alloc (.cells #[.s ⟨#[98,101,114,116,104]⟩,.s s,.i 0] 124)=X5 at HV hzM⊢;generalize w3.1.size=M at HV hzM hz3⊢;clear hf3 hr3 HLp HL rF hs1 hs2 hy hy2 hq1 hq2 hq3 hq4;go_cut[39](λc wx=>∃b:Bool,c=.bool b/\(b=true->0<B.on)/\uN w B R ad nn cap p (4+17*(2-n)) a1 a2 a3 c1 c2 c3 (2-n) 0 M wx);case first=>
       --<r6
       obtain⟨x,u1,u2,d1,d2,g1,g2,p',v,hV⟩:=HV.out;have hS2:=hV.l.s.cell 2 Zb;simp only[AR,Aa,Ab]at hS2;have hq:=hV.b;have HW:=Ah hV;clear hV HV;go_wp2_with (go_at_call 12;go_must(refine(A7 R ad nn cap _ 3 _ HW.l.r Za Zb Zb).mono ?_;rintro e w3 ⟨y,rfl,_,hy,hf3,hr3⟩;have hy3:=hy Zb;clear hy));all_goals go_meet
       case rel=>exact⟨_,rfl,λ_=>by omega,x,u1,u2,d1,d2,g1,g2,p'+1,v,HW.pick HR hf3 hr3 Za Za⟩
       case rel=>exact⟨_,rfl,λh=>O7,x,u1,u2,d1,d2,g1,g2,p',v,⟨⟨hq.1,Za,hq.2.2⟩,HW.l,HW.m,HW.i,HW.M0,HW.n1,HW.n2⟩⟩
       --r6>
      case rest=>
       obtain⟨b,rfl,hb0,hV⟩:=hcut;have wC:=Ah hV;clear hV HV;go_upto_if 39 with fail;go_cut[](λwx=>uN w B R ad nn cap p (14+17*(2-n)) a1 a2 a3 c1 c2 c3 (2-n) 0 M wx);case first=>obtain⟨x,u1,u2,d1,d2,g1,g2,p',v,hV⟩:=wC.out;have hq:=hV.b;have HW:=Ah hV;clear hV wC;cases b with
        |false=>go_wp2_with fail;go_meet;case rel=>exact⟨x,u1,u2,d1,d2,g1,g2,p',v,⟨⟨hq.1,Za,hq.2.2⟩,HW.l,HW.m,HW.i,HW.M0,HW.n1,HW.n2⟩⟩
        |true=>have hb1:=hb0 rfl;clear hb0;go_wp2_with fail;have hcS:=HW.l.s.cell 2 Zb;simp only[AR,Aa,Ab]at hcS;have hSl:=HW.l.s.lt;have hzX:=HW.l.f.size;have hM0:=HW.M0;have hMl:=HW.m.lt;refine pD (AR [_,_,_,_,_,_,_,_,_,_]) R ad nn cap p' w.1.size w.1.size B a1 c1 _ HW.l.r Za hSl Za hcS (HB.i.box HW.l.f HR.ns uK).o hzX hb1 (UB HB.v).1 rfl _ ?_;intro t O k ah ch q2 X2 ht hO hk hs hrow hfr hp3 hp4 hrd;rw[ht];have QK:=Ah (HW.pick (k':=14+17*(2-n)) HR hfr hrd Za Za);have o0:=hrow.cell 0 Zb;have o1:=hrow.cell 1 Zb;have o2:=hrow.cell 2 Zb;have ol:=hrow.lt;simp only[AR,Aa,Ab]at o0 o1 o2;have r0:=QK.m.cell 0 Zb;have r1:=QK.m.cell 1 Zb;have r2:=QK.m.cell 2 Zb;have rf:=QK.m.free;have rl:=QK.m.lt;simp only[Xi,AR,Aa,Ab]at r0 r1 r2;have hne:¬O=M:=Za;have MA:=Ah (HB.f.os k hk);clear hrow hfr hrd hs ht hcS HW;go_wp2_with fail;go_meet;case rel=>exact⟨x,u1,u2,d1,d2,g1,g2,q2,⟨(B.os k).kind,(B.os k).name,(B.os k).ver⟩,((QK.set HR (o:=0) Zb (.s (B.os k).kind) ⟨(B.os k).kind,v.name,v.ver⟩ ⟨⟨MA.k,QK.i.fit.z1⟩,QK.i.v1⟩ lL).set HR (o:=1) Zb (.s (B.os k).name) ⟨(B.os k).kind,(B.os k).name,v.ver⟩ ⟨⟨MA.k,MA.n⟩,QK.i.v1⟩ lL).set HR (o:=2) Zb (.i (B.os k).ver) ⟨(B.os k).kind,(B.os k).name,(B.os k).ver⟩ ⟨⟨MA.k,MA.n⟩,nO MA.v⟩ lL⟩
        --r7>
       case rest=>
        have yB:=Ah hcut;clear hcut wC;obtain⟨x,u1,u2,d1,d2,g1,g2,p',v,hV⟩:=yB.out;have hq:=hV.b;have HW:=Ah hV;clear hV yB;go_upto_if 58 with(go_at_call 12;go_must(refine(A7 R ad nn cap _ 5 _ HW.l.r Za Zb Zb).mono ?_;rintro e w3 ⟨y,rfl,_,hy,hf3,hr3⟩;have hy3:=hy Zb;clear hy));have QK:=Ah (HW.pick (k':=15+17*(2-n)) HR hf3 hr3 Za Za);clear HW hf3 hr3;go_cut[](λwx=>uN w B R ad nn cap p (16+17*(2-n)) a1 a2 a3 c1 c2 c3 (2-n) 0 M wx);case first=>
         go_wp2_with (go_at_call 12;go_must(refine(A7 R ad nn cap _ 9 _ QK.l.r Za Zb Zb).mono ?_;rintro e w4 ⟨y4,rfl,_,hy4,hf4,hr4⟩;have hy4':=hy4 Zb;have qU:=Ah (QK.pick (k':=16+17*(2-n)) HR hf4 hr4 Za Za);have r2:=qU.m.cell 2 Zb;have rf2:=qU.m.free 2;have rl2:=qU.m.lt));all_goals go_meet
         case rel=>exact⟨x,u1,u2,d1,d2,g1,g2,_,_,qU.set HR (o:=2) Zb _ ⟨v.kind,v.name,(y4:Int)⟩ ⟨⟨qU.i.fit.z0,qU.i.fit.z1⟩,by show(y4:Int)<=_;omega⟩ lL⟩
         case rel=>exact⟨x,u1,u2,d1,d2,g1,g2,p'+1,v,⟨⟨Za,Za,hq.2.2⟩,QK.l,QK.m,QK.i,QK.M0,QK.n1,QK.n2⟩⟩
        case rest=>have tW:=Ah hcut;clear hcut QK;obtain⟨x,u1,u2,d1,d2,g1,g2,p',v,hV⟩:=tW.out;have hq:=hV.b;have HW:=Ah hV;clear hV tW;have q0:=HW.l.u.cell 0 Zb;have r0:=HW.m.cell 0 Zb;have r1:=HW.m.cell 1 Zb;have r2:=HW.m.cell 2 Zb;have rl:=HW.m.lt;have ul:=HW.l.u.lt;simp only[Xi,AR,Aa,Ab]at q0 r0 r1 r2;go_wp2_with ((with_reducible show wpList _ _ _ (⟨some 66,_,_,_,_,_⟩::_) _ _);obtain⟨ad',cap',g',Y,hrun,hrw,hfY,hg⟩:=LA (P:=prog) (wc.alloc (.cells #[.s v.kind,.s v.name,.i v.ver] 124)) 103 103 124 3 40 _ Ud WP Za Ze u1 g1 x.wn d1 (kF x.ws) (HW.out.l.w1.grow AG) (λj _=>XE _ _ (LD _ Za)) wc.1.size (wc.1.size+1) (some ⟨wc.1.size,0,none⟩) 1 1 (AR (Xi v)) (Tx wc (Xi v) 124 (λj hj=>XE v j hj)) Za Za Za;refine KA rfl _ _ _ _ rfl _ _ _ _ rfl rfl hrun ?_;have HA:=Ah (HW.out.l.below HR.out (An wc (.cells #[.s v.kind,.s v.name,.i v.ver] 124)));have U:=HA.out.u.fr hfY (λe=>by have:=HA.out.h1 e.1;omega);have U0:=U.cell 0 Zb;have U1:=U.free 0;have U2:=U.lt);go_meet;case rel=>exact⟨dS x v,ad',u2,cap',d2,g',g2,p',Za,Za,by show x.wn+1<=_;omega,hq.2.2.2,HA.addT HR hfY hrw hg HW.i Za⟩
        --r9>
      --b1>
     case rest=>
      have N7:=Ah hcut;clear hcut MV;have hw1:IntKind.i64.wrap ((n:Int)-1)=((n-1:Nat):Int):=by rw[AJ _ ⟨Za,Za⟩];omega
      go_wp2;refine⟨⟨n-1,rfl,Za,Ah ?_⟩,?_⟩;.obtain⟨x,u1,u2,d1,d2,g1,g2,p',hq1,hq2,hq3,hq4,hL⟩:=N7.out;exact⟨x,u1,u2,d1,d2,g1,g2,p',hq1,Za,Za,hq4,hL⟩
      .show(((n-1:Nat):Int)).toNat<((n:Int)).toNat;omega
  --l1>
 case rest=>
  have HL:=Ah hcut;clear hcut Qw;obtain⟨x,u1,u2,d1,d2,g1,g2,p',hq1,hq2,hq3,hq4,hL⟩:=HL.out;have KQ:=Ah hL;clear HL hL;have s0:=KQ.s.cell 0 Zb;have s1:=KQ.s.cell 1 Zb;have s2:=KQ.s.cell 2 Zb;have s3:=KQ.s.cell 3 Zb;have s4:=KQ.s.cell 4 Zb;have sl:=KQ.s.lt;have ul:=KQ.u.lt;simp only[AR,Aa,Ab]at s0 s1 s2 s3 s4;go_upto_region 13 with fail;have HN:=Ah (show tG w B R ad nn cap p 60 a1 a2 a3 c1 c2 c3 3 0 wc.1.size (wc.alloc (.cells (vB B a1 a2 a3 c1 c2 c3) 27))from⟨x,u1,u2,d1,d2,g1,g2,p',B,a1,a2,a3,c1,c2,c3,⟨hq1,hq2,hq3,hq4⟩,KQ.below HR AG,AN.new (l:=(Qq B a1 a2 a3 c1 c2 c3)) (t:=27) EF,(HB.pick KQ.f HR.ns).below AG,Za,λh0=>by have:=(KQ.w1.room h0).lt;omega,λh0=>by have:=(KQ.w2.room h0).lt;omega,TB _ _ _ _ _ _ _ _⟩);have hzN:wc.1.size<(wc.alloc (.cells (vB B a1 a2 a3 c1 c2 c3) 27)).1.size:=Zc;generalize wc.alloc (.cells (vB B a1 a2 a3 c1 c2 c3) 27)=X1 at HN hzN⊢;generalize wc.1.size=Nb at HN hzN ul⊢;clear s0 s1 s2 s3 s4 sl KQ hq1 hq2 hq3 hq4;obtain⟨x,u1,u2,d1,d2,g1,g2,p',Y,b1,b2,b3,e1,e2,e3,hN⟩:=HN.out;have hq:=hN.b;go_upto_block 2 with(go_at_call 12;go_must(refine(A7 R ad nn cap _ 4 _ hN.l.r Za Zb Zb).mono ?_;rintro e w3 ⟨y,rfl,_,hy,hf3,hr3⟩;have hy3:=hy Zb;clear hy));have PP:=Ah (show tG w B R ad nn cap p 61 a1 a2 a3 c1 c2 c3 3 0 Nb w3 from⟨x,u1,u2,d1,d2,g1,g2,p'+1,Y,b1,b2,b3,e1,e2,e3,hN.pick HR hf3 hr3 Za Za⟩);clear HN hN hf3 hr3 hq;go_cut[](λwx=>tG w B R ad nn cap p 350 a1 a2 a3 c1 c2 c3 3 4 Nb wx);case first=>
   go_wp2_with fail;go_loopw[10](λs wr=>∃n:Int,s=.i n/\-1<=n/\n<=3/\Hid (tG w B R ad nn cap p (61+62*(3-n).toNat) a1 a2 a3 c1 c2 c3 3 (3-n).toNat Nb wr))(λs _=>(intOf s+1).toNat);case atStart=>obtain⟨x,u1,u2,d1,d2,g1,g2,p',Y,b1,b2,b3,e1,e2,e3,hN⟩:=PP.out;exact⟨y,rfl,Za,Za,Ah ⟨x,u1,u2,d1,d2,g1,g2,p',Y,b1,b2,b3,e1,e2,e3,hN.wide Za Za⟩⟩
   case round=>
    clear PP;obtain⟨n,rfl,hn1,hn3,HN⟩:=hrel;by_cases hn0:0<=n
    .go_upto_block 3 with fail;go_cut[](λwx=>tG w B R ad nn cap p (123+62*(3-n).toNat) a1 a2 a3 c1 c2 c3 3 ((3-n).toNat+1) Nb wx);case first=>
      --<b3
      obtain⟨x,u1,u2,d1,d2,g1,g2,p',Y,b1,b2,b3,e1,e2,e3,hN⟩:=HN.out;have hq:=hN.b;have HM:=Ah hN;have m0:=hN.m.cell 0 Zb;have m1:=hN.m.cell 1 Zb;have m2:=hN.m.cell 2 Zb;have m3:=hN.m.cell 3 Zb;have m4:=hN.m.cell 4 Zb;have ml:=hN.m.lt;simp only[AR,Aa,Ab]at m0 m1 m2 m3 m4;clear HN hN;go_upto_region 17 with(go_at_call 72;go_must(refine(Rg Y R ad nn cap p' b1 b2 b3 e1 e2 e3 _ HM.l.r Za HM.i.f (UB HM.i.v).1 (UB HM.i.v).2 HM.i.i).mono ?_;rintro e w3 ⟨v,rfl,hv,hf3,q3,hq31,hq32,hr3⟩));have Tj:=Ah ((HM.pick (k':=121+62*(3-n).toNat) HR hf3 hr3 hq31 Za).below HR (An w3 (.cells (vW v) 114)));have HV:=Ah (show AN (w3.alloc (.cells (vW v) 114)) w3.1.size 6 (AR (wv v))from AN.new (w:=w3) (l:=wv v) (t:=114) EF);have hlv:w3.1.size<(w3.alloc (.cells (vW v) 114)).1.size:=Zc;have hvU0:w.1.size+1+1+1<=w3.1.size:=by have:=(HM.l.pick HR hf3 hr3).u.lt;omega
      have hvn:¬Nb=w3.1.size/\(0<d1->¬w3.1.size=g1)/\(0<d2->¬w3.1.size=g2):=by have h:=HM.pick (k':=121+62*(3-n).toNat) HR hf3 hr3 hq31 Za;have h1:=h.m.lt;exact⟨Za,λh0=>by have:=(h.l.w1.room h0).lt;omega,λh0=>by have:=(h.l.w2.room h0).lt;omega⟩
      clear HM m0 m1 m2 m3 m4 ml hf3 hr3;generalize w3.alloc (.cells (vW v) 114)=X3 at Tj HV hlv⊢;generalize w3.1.size=Mv at HV hlv hvn hvU0⊢;have m0:=Tj.m.cell 0 Zb;have m1:=Tj.m.cell 1 Zb;have m2:=Tj.m.cell 2 Zb;have m3:=Tj.m.cell 3 Zb;have m4:=Tj.m.cell 4 Zb;have ml:=Tj.m.lt;have v0:=HV.cell 0 Zb;have v1:=HV.cell 1 Zb;have v2:=HV.cell 2 Zb;have v3:=HV.cell 3 Zb;have v4:=HV.cell 4 Zb;have v5:=HV.cell 5 Zb;simp only[wv,AR,Aa,Ab]at m0 m1 m2 m3 m4 v0 v1 v2 v3 v4 v5;go_upto_region 18 with(go_at_call 71;go_must(refine(Ur Y v b1 b2 b3 e1 e2 e3 _ Tj.i hv).mono ?_;rintro e w4 ⟨hb4,cd,V,f1,f2,f3,h1,h2,h3,ve,rfl,hV⟩));have HD:=Ah (show xA w B R ad nn cap p (121+62*(3-n).toNat) a1 a2 a3 c1 c2 c3 3 (3-n).toNat Nb Mv w4.1.size v cd ve (w4.alloc (.cells #[.i cd,.i V.now,.i V.floor,.l f1 V.on h1,.l f2 V.hn h2,.l f3 V.tn h3,.i ve] 111))from⟨x,u1,u2,d1,d2,g1,g2,q3,Y,b1,b2,b3,e1,e2,e3,V,f1,f2,f3,h1,h2,h3,(Tj.below HR hb4).below HR AG,(HV.below hb4 hlv).below AG (Ac hlv hb4.size),AN.new (l:=[.i cd,.i V.now,.i V.floor,.l f1 V.on h1,.l f2 V.hn h2,.l f3 V.tn h3,.i ve]) (t:=111) EF,hV.below AG,⟨hvn.1,by have:=hb4.size;omega,by have:=hb4.size;omega,hvU0,by have:=hb4.size;omega⟩,λh0=>⟨hvn.2.1 h0,by have:=((Tj.l.below HR hb4).w1.room h0).lt;omega⟩,λh0=>⟨hvn.2.2 h0,by have:=((Tj.l.below HR hb4).w2.room h0).lt;omega⟩⟩);generalize w4.alloc (.cells #[.i cd,.i V.now,.i V.floor,.l f1 V.on h1,.l f2 V.hn h2,.l f3 V.tn h3,.i ve] 111)=X4 at HD⊢;generalize w4.1.size=Dd at HD⊢;clear Tj HV m0 m1 m2 m3 m4 ml v0 v1 v2 v3 v4 v5 hb4 hV hvn hlv;go_cut[88](λc wx=>∃b:Bool,c=.bool b/\xA w B R ad nn cap p (122+62*(3-n).toNat) a1 a2 a3 c1 c2 c3 3 (3-n).toNat Nb Mv Dd v cd ve wx);case first=>
       --<r18
       obtain⟨x,u1,u2,d1,d2,g1,g2,q3,Y,b1,b2,b3,e1,e2,e3,V,f1,f2,f3,h1,h2,h3,hN,hrv,hrd,hbv,hne,hn1',hn2'⟩:=HD.out;have hq:=hN.b;have HNn:=Ah hN;have r0:=hrd.cell 0 Zb;have rl:=hrd.lt;have iZ:=Ah hrd;simp only[AR,Aa]at r0;clear HD hN hrd;have YS:=Ah hrv;clear hrv;go_wp2_with (go_at_call 12;go_must(refine(A7 R ad nn cap _ 3 _ HNn.l.r Za Zb Zb).mono ?_;rintro e w3 ⟨y,rfl,_,hy,hf3,hr3⟩;have hy3:=hy Zb;clear hy));all_goals go_meet
       case rel=>exact⟨_,rfl,x,u1,u2,d1,d2,g1,g2,q3,Y,b1,b2,b3,e1,e2,e3,V,f1,f2,f3,h1,h2,h3,HNn.wide Za uK,YS,iZ,hbv,hne,hn1',hn2'⟩
       case rel=>exact⟨_,rfl,x,u1,u2,d1,d2,g1,g2,q3+1,Y,b1,b2,b3,e1,e2,e3,V,f1,f2,f3,h1,h2,h3,HNn.pick HR hf3 hr3 Za Za,YS.fr2 hf3 Za,iZ.fr2 hf3 Za,hbv.pick hf3 HNn.l.r.ns,hne,hn1',hn2'⟩
       --r18>
      case rest=>
       obtain⟨b,rfl,hD⟩:=hcut;have vN:=Ah hD;clear hD HD;go_upto_if 88 with fail;go_cut[](λwx=>xA w B R ad nn cap p (122+62*(3-n).toNat) a1 a2 a3 c1 c2 c3 3 ((3-n).toNat+1) Nb Mv Dd v cd ve wx);case first=>obtain⟨x,u1,u2,d1,d2,g1,g2,q3,Y,b1,b2,b3,e1,e2,e3,V,f1,f2,f3,h1,h2,h3,hN,hrv,hrd,hbv,hne,hn1',hn2'⟩:=vN.out;have hq:=hN.b;have HNn:=Ah hN;have iZ:=Ah hrd;have YS:=Ah hrv;clear vN hN hrd hrv;cases b with
        |false=>go_wp2_with fail;go_meet;case rel=>exact⟨x,u1,u2,d1,d2,g1,g2,q3,Y,b1,b2,b3,e1,e2,e3,V,f1,f2,f3,h1,h2,h3,HNn.wide uK Za,YS,iZ,hbv,hne,hn1',hn2'⟩
        |true=>have q1:=HNn.l.u.cell 1 Zb;have v0:=YS.cell 0 Zb;have v1:=YS.cell 1 Zb;have v2:=YS.cell 2 Zb;have v3:=YS.cell 3 Zb;have v4:=YS.cell 4 Zb;have v5:=YS.cell 5 Zb;have vl:=YS.lt;have ul:=HNn.l.u.lt;have hrw3:x.rn<=4:=Za;have hvU:¬Mv=w.1.size+1+1:=Za;have hdU:¬Dd=w.1.size+1+1:=Za;simp only[wv,AR,Aa,Ab]at q1 v0 v1 v2 v3 v4 v5;go_wp2_with ((with_reducible show wpList _ _ _ (⟨some 93,_,_,_,_,_⟩::_) _ _);obtain⟨ad',cap',g',Z,hrun,hrw,hpt,hfZ,hkZ,hg⟩:=XO (wc.alloc (.cells (vW v) 114)) 104 u2 g2 x.rn d2 x.rs v (HNn.out.l.w2.grow AG) (λh0=>(HNn.out.l.below HR.out AG).h2 h0|>.2) wc.1.size (wc.1.size+1) (some ⟨wc.1.size,0,none⟩) 1 (Tx wc (wv v) 114 (λj hj=>aA v j hj)) Za;refine KA rfl _ _ _ _ rfl _ _ _ _ rfl rfl hrun ?_;have HA:=Ah (HNn.out.below HR.out (An wc (.cells (vW v) 114)));have U:=HA.out.l.u.fr hfZ (λe=>by have:=(HA.out.l.h2 e.1).1;omega);have U0:=U.cell 1 Zb;have U1:=U.free 1;have U2:=U.lt);go_meet;case rel=>exact⟨Xw x v,u1,ad',d1,cap',g1,g',q3,Y,b1,b2,b3,e1,e2,e3,V,f1,f2,f3,h1,h2,h3,HA.addR HR hfZ hrw hpt hkZ hg hv Za,(((YS.below AG vl).fr hfZ (λe=>(hn2' e.1).1 e.2)).fr ((Az.refl (λq=>q=w.1.size+1+1) Z).setCell (p:=⟨w.1.size+1+1,1,none⟩) rfl _) hvU),(((iZ.below AG iZ.lt).fr hfZ (λe=>(hn2' e.1).2 e.2)).fr ((Az.refl (λq=>q=w.1.size+1+1) Z).setCell (p:=⟨w.1.size+1+1,1,none⟩) rfl _) hdU),((hbv.below AG).app hfZ (λh0=>(HA.l.h2 h0).2) hkZ).pick ((Az.refl (λq=>q=w.1.size+1+1) Z).setCell (p:=⟨w.1.size+1+1,1,none⟩) rfl _) (HA.l.un.fr hfZ HA.l.u.lt (λe=>by have:=(HA.l.h2 e.1).1;omega)),hne,hn1',λh0=>by
          rcases hg with⟨g0,rfl⟩|hg;.exact hn2' g0
          .have:=iZ.lt;have hz:(wc.alloc (.cells (vW v) 114)).1.size=wc.1.size+1:=Zc;omega⟩
        --r19>
       case rest=>
        have x9:=Ah hcut;clear hcut vN;obtain⟨x,u1,u2,d1,d2,g1,g2,q3,Y,b1,b2,b3,e1,e2,e3,V,f1,f2,f3,h1,h2,h3,hN,hrv,hrd,hbv,hne,hn1',hn2'⟩:=x9.out;have hq:=hN.b;have HNn:=Ah hN;have iZ:=Ah hrd;have zK:=Ah hbv;clear x9 hN hrv hbv;have r0:=hrd.cell 0 Zb;have r1:=hrd.cell 1 Zb;have r2:=hrd.cell 2 Zb;have r3:=hrd.cell 3 Zb;have r4:=hrd.cell 4 Zb;have r5:=hrd.cell 5 Zb;have rl:=hrd.lt;have m0:=HNn.m.cell 0 Zb;have m1:=HNn.m.cell 1 Zb;have m2:=HNn.m.cell 2 Zb;have m3:=HNn.m.cell 3 Zb;have m4:=HNn.m.cell 4 Zb;have ml:=HNn.m.lt;have mf:=HNn.m.free;simp only[AR,Aa,Ab]at r0 r1 r2 r3 r4 r5 m0 m1 m2 m3 m4;clear hrd;go_wp2_with fail;all_goals go_meet
        case rel=>exact⟨x,u1,u2,d1,d2,g1,g2,q3,V,f1,f2,f3,h1,h2,h3,HNn.put HR zK Za⟩
        case rel=>exact⟨x,u1,u2,d1,d2,g1,g2,q3,Y,b1,b2,b3,e1,e2,e3,HNn.wide Za uK⟩
        --r20>
      --b3>
     case rest=>have Ue:=Ah hcut;clear hcut HN;have hw1:IntKind.i64.wrap (n-1)=n-1:=AJ _ ⟨Za,Za⟩;go_wp2;obtain⟨x,u1,u2,d1,d2,g1,g2,p',Y,b1,b2,b3,e1,e2,e3,hN⟩:=Ue.out;refine⟨⟨n-1,rfl,Za,Za,Ah ⟨x,u1,u2,d1,d2,g1,g2,p',Y,b1,b2,b3,e1,e2,e3,hN.wide Za Za⟩⟩,?_⟩;show(n-1+1).toNat<(n+1).toNat;omega
    .go_wp2_with fail;go_meet;case rel=>obtain⟨x,u1,u2,d1,d2,g1,g2,p',Y,b1,b2,b3,e1,e2,e3,hN⟩:=HN.out;exact⟨x,u1,u2,d1,d2,g1,g2,p',Y,b1,b2,b3,e1,e2,e3,hN.wide Za Za⟩
  case rest=>have HN:=Ah hcut;clear hcut PP;obtain⟨x,u1,u2,d1,d2,g1,g2,p',Y,b1,b2,b3,e1,e2,e3,hN⟩:=HN.out;have HM:=Ah hN;clear HN hN;have q0:=HM.l.u.cell 0 Zb;have q1:=HM.l.u.cell 1 Zb;have ul':=HM.l.u.lt;have A0:=HM.l.a.cell 0 Zb;have A1:=HM.l.a.cell 1 Zb;have AF:=HM.l.a.free;have AL:=HM.l.a.lt;simp only[AR,Aa,Ab]at q0 q1 A0 A1;have hq:=HM.b;go_wp2_with fail;have Z:=(HM.l.a.set (o:=0) Zb (.l u1 x.wn d1)).set (o:=1) Zb (.l u2 x.rn d2);have z0:=Z.cell 0 Zb;have z1:=Z.cell 1 Zb;simp[L1]at z0 z1;have FF:=((Az.refl (λq=>q=w.1.size+1) wc).setCell (p:=⟨w.1.size+1,0,none⟩) rfl (.l u1 x.wn d1)).setCell (p:=⟨w.1.size+1,1,none⟩) rfl (.l u2 x.rn d2);have G1:=HM.l.w1.fr FF (λh0 e=>by have:=HM.l.h1 h0;omega);have G2:=HM.l.w2.fr FF (λh0 e=>by have:=(HM.l.h2 h0).1;omega);refine bodyPost_ret (v:=.agg (vU x u1 u2 d1 d2)) (by simp[results,results70,go_sem,z0,z1]) rfl ⟨x,u1,u2,d1,d2,rfl,HM.l.i,⟨G1.wts,G2.wrs⟩,(HM.l.f.far Za _ _).far Za _ _,p',Za,Za,HR.far (HR.far HM.l.r Za _ _) Za _ _⟩
  --l2>
end Go.Proofs.Ytnnjcenacidceaa
namespace Go.Proofs.Ytnnjcenacidceaa
open Go.RowKit Go.Proofs.Try
theorem Mj{ops:Array Oper}{l:Array Bool}(hord:((List.range ops.size).all λi=>match ops[i]? with|some o=>o.after.all (λe=>!(Region.binds .any e)||decide (e.on<i))|none=>true)=true)(hs:l.size=ops.size)(hr:Region.ready .any ops l=[]):∀i,i<ops.size->l.getD i false=true:=by
 have conv:∀i,i<ops.size->l.getD i true=l.getD i false:=λi hi=>by simp[Array.getD,hs,hi]
 intro i;induction i using Nat.strongRecOn with
 |_ i ih=>intro hi;cases hg:l.getD i false with
  |true=>rfl
  |false=>
   have hm:i∈Region.ready .any ops l:=by
    rw[mem_ready];refine⟨(conv i hi).trans hg,ops[i],by simp[hi],λe he hb=>?_⟩;have h1:=AZ.1 hord i (by simpa using hi);simp only[Kz hi]at h1;have h2:=(AU.1 h1) e he;have h3:e.on<i:=by rw[hb]at h2;simpa using h2
    exact ih e.on h3 Za
   rw[hr]at hm;cases hm
def RK (n m Kk:Nat)(mk:(Nat->Value)->Array Value)(W:World)(R:Nat)(ad:OA)(nn cap p:Nat)(G:Nat->Value->World->Prop)(Fin:Act->World->Prop)(l:Array Bool)(a:Act)(X:World):Prop:=l.size=n+1/\((l.getD n false=true->(∀i,i<n->¬i=m->l.getD i false=true)/\Fin a X)/\(l.getD n false=false->∃t:Nat->Value,a=⟨mk t,[]⟩/\Az (λq=>q=R) W X/\(∃p',p<=p'/\p'<=p+Kk*l.toList.count true/\Rd X R ad nn cap p')/\∀i,i<n->l.getD i false=true->G i (t i) X))
theorem RI{P:Program}{id:Nat}{ops:Array Oper}{Q:Exit->Act->World->Prop}{a0:Act}{W:World}(hm:P.follows .mixedOrders=true)(n m Kk:Nat)(mk:(Nat->Value)->Array Value)(t0:Nat->Value)(R:Nat)(ad:OA)(nn cap p:Nat)(G:Nat->Value->World->Prop)(Fin:Act->World->Prop)(hn:ops.size=n+1)(hord:((List.range ops.size).all λi=>match ops[i]? with|some o=>o.after.all (λe=>!(Region.binds .any e)||decide (e.on<i))|none=>true)=true)(hlast:((List.range n).all λj=>(j==m)||match ops[n]? with|some o=>o.after.any (λe=>Region.binds .any e&&e.on==j)|none=>false)=true)(st:∀i v X Y p',i<n->G i v X->Az (λq=>q=R) X Y->Rd X R ad nn cap p'->R<W.1.size->W.1.size<=X.1.size->G i v Y)(h0:a0=⟨mk t0,[]⟩)(hr:Rd W R ad nn cap p)(sg:∀i,i<n->∀(t:Nat->Value) X K p',Az (λq=>q=R) W X->p<=p'->p'<=p+Kk*n->Rd X R ad nn cap p'->(∀j,BE ops i j->G j (t j) X)->(∀v Y p2,p'<=p2->p2<=p'+Kk->G i v Y->Az (λq=>q=R) X Y->Rd Y R ad nn cap p2->K ⟨mk (Av t i v),[]⟩ Y)->wpOp P ops Q i K ⟨mk t,[]⟩ X)(sl:∀(t:Nat->Value) X K p',Az (λq=>q=R) W X->p<=p'->p'<=p+Kk*n->Rd X R ad nn cap p'->(∀j,j<n->¬j=m->G j (t j) X)->(∀a Y,Fin a Y->K a Y)->wpOp P ops Q n K ⟨mk t,[]⟩ X)(sf:m<n->∀a X K,Fin a X->(∀a',Fin a' X->K a' X)->wpOp P ops Q m K a X)(hfin:∀a X,Fin a X->Q .normal a X):(Code.region id ops true).wp P Q a0 W:=by
 have hdep:∀i j,i<n+1->BE ops i j->j<n:=by
  rintro i j hi ⟨o,ho,e,he,hb,rfl⟩;have h1:=AZ.1 hord i (Bd.2 Za);rw[ho]at h1;have h2:=AU.1 h1 e he;rw[hb]at h2;have:e.on<i:=by simpa using h2
  omega
 refine Cs hm (RK n m Kk mk W R ad nn cap p G Fin) ?_ ?_ ?_ ?_
 .have hz:∀i,(Array.replicate ops.size false).getD i false=false:=λi=>by simp[Array.getD]
  refine⟨by simp[hn],λh=>?_,λ_=>⟨t0,h0,Aq (Ao _ _).drew,⟨p,AD _,Za,hr.below (Ao _ _).drew⟩,λi _ h=>?_⟩⟩<;>(rw[hz]at h;cases h)
 .rintro l a X ⟨hs,_⟩;rw[hs,hn]
 .rintro l a X ⟨hs,h6,_⟩ hr;have AL:=Mj hord (by rw[hs,hn]) hr;exact hfin a X (h6 (AL n Za)).2
 .rintro l a X i ⟨hs,h6,hg⟩ hr';obtain⟨hu,o,ho,hall⟩:=mem_ready.1 hr';have di:∀j,BE ops i j->l.getD j false=true:=by
   rintro j ⟨o',ho',e,he,hb,rfl⟩;rw[ho]at ho';obtain rfl:o=o':=by simpa using ho'
   exact hall e he hb
  have hi7:i<n+1:=by
   rcases Au i (n+1)with h|h;.exact h
   .rw[A9 Za]at ho;cases ho
  have hui:l.getD i false=false:=by have:l.getD i true=false:=hu;simpa[Array.getD,hs,hi7]using this
  have kp:∀j,¬j=i->(l.setIfInBounds i true).getD j false=l.getD j false:=λj hj=>by rw[BT Za,if_neg hj]
  have ki:(l.setIfInBounds i true).getD i false=true:=by rw[BT Za,if_pos rfl]
  have hs':(l.setIfInBounds i true).size=n+1:=by simp[hs]
  have ku:∀j,l.getD j false=true->(l.setIfInBounds i true).getD j false=true:=λj h=>by
   by_cases e:j=i;.subst e;exact ki
   .rw[kp j e];exact h
  cases l6:l.getD n false with
  |true=>
   have hne:¬i=n:=λe=>by rw[e,l6]at hui;cases hui
   have him:i=m:=by
    rcases Nat.decEq i m with h|h;.rw[(h6 l6).1 i Za h]at hui;cases hui
    .exact h
   subst him;have h6':=h6 l6;clear hr' hu ho hg h6;refine sf Za a X _ h6'.2 (λa' hF=>⟨hs',λ_=>⟨λj hj hjm=>ku j (h6'.1 j hj hjm),hF⟩,λh=>?_⟩);rw[ku n l6]at h;cases h
  |false=>
  obtain⟨t,rfl,hb,⟨p',q1,q2,hrd⟩,gg⟩:=hg l6;have hc:=NN Za hui;have hc2:(l.setIfInBounds i true).toList.count true<=n+1:=by have:=LF (a:=true) (l:=(l.setIfInBounds i true).toList);simpa[hs]using this
  have hcn:Kk*l.toList.count true<=Kk*n:=N6 _ Za;have hck:Kk*(l.setIfInBounds i true).toList.count true=Kk*l.toList.count true+Kk:=by rw[hc,Nat.mul_add,My]
  by_cases hin:i=n
  .subst hin;have al:∀j,j<i->¬j=m->l.getD j false=true:=λj hj hjm=>by have h1:=AZ.1 hlast j (Bd.2 hj);rw[ho,show(j==m)=false from by simpa using hjm,Bool.false_or]at h1;obtain⟨k,hk,h2⟩:=EY.1 h1;simp only[Al,beq_iff_eq]at h2;exact di j ⟨o,ho,o.after[k],EZ hk,h2.1,h2.2⟩
   clear hr' hu ho h6 hg;refine sl t X _ p' hb q1 Za hrd (λj hj hjm=>gg j hj (al j hj hjm)) (λa Y hY=>⟨hs',λ_=>⟨λj hj hjm=>?_,hY⟩,λh=>?_⟩);.exact ku j (al j hj hjm)
   .rw[ki]at h;cases h
  .clear hr' hu ho h6 hg;have hno:(l.setIfInBounds i true).getD n false=false:=by rw[kp n (λe=>hin e.symm)];exact l6
   refine sg i Za t X _ p' hb q1 Za hrd (λj hj=>gg j (hdep i j hi7 hj) (di j hj)) (λv Y p2 r1 r2 hv hY hrY=>⟨hs',λh=>?_,λ_=>⟨Av t i v,rfl,hb.trans hY,⟨p2,Za,Za,hrY⟩,λj j1 h=>?_⟩⟩);.rw[hno]at h;cases h
   .by_cases e:j=i;.subst e;rw[Bp];exact hv
    .rw[kp j e]at h;rw[BB e];exact st _ _ _ _ _ j1 (gg j j1 h) hY hrd hr.lt hb.size
end Go.Proofs.Ytnnjcenacidceaa
namespace Go.Proofs.Ytnnjcenacidceaa
open Go.RowKit Go.Maps Go.Proofs.Try
theorem L0.blt{w:World}{ad:OA}{g n:Nat}{x:Nat->Ob}{A:Nat->Option Addr}{C hb:Nat->Nat}(h:L0 w ad g n x A C hb){k:Nat}(hk:Md g n (λi=>(x i).hn) hb k):k<w.1.size:=by
 rcases hk with⟨h0,rfl⟩|⟨i,hi,h0,rfl⟩;.obtain⟨c,r,_⟩:=h.row h0;exact r.lt
 .exact h.hlt i hi h0
theorem Lu.blt{w:World}{ad:OA}{g n:Nat}{x:Nat->Ch}{A:Nat->Option Addr}{C hb:Nat->Nat}(h:Lu w ad g n x A C hb){k:Nat}(hk:Md g n (λi=>(x i).ob.hn) hb k):k<w.1.size:=by
 rcases hk with⟨h0,rfl⟩|⟨i,hi,h0,rfl⟩;.obtain⟨c,r,_⟩:=h.row h0;exact r.lt
 .exact h.hlt i hi h0
theorem M2.blt{w:World}{ad:OA}{g n:Nat}{x:Nat->Ti}(h:M2 w ad g n x){k:Nat}(hk:0<n/\k=g):k<w.1.size:=by obtain⟨h0,rfl⟩:=hk;obtain⟨c,r,_⟩:=h.row h0;exact r.lt
theorem MN.blt{w:World}{x:Bk}{p:Pl}(h:MN w x p){k:Nat}(hk:Lh p x k):k<w.1.size:=by
 rcases hk with h1|h1|h1;.exact h.o.blt h1
 .exact h.h.blt h1
 .exact h.t.blt h1
structure iH (w:World)(g n cap:Nat)(x:Nat->Ob)(A:Nat->Option Addr)(C hb:Nat->Nat):Prop where
 le:n<=cap
 row:0<n->LT w g (cap*7)ho:∀i,i<n->(x i).hn<=C i/\((x i).hn=0->C i=0)/\(0<C i->A i=some ⟨hb i,0,none⟩/\LT w (hb i) (C i))
theorem LT.frP{w w':World}{g m:Nat}{P:Nat->Prop}(h:LT w g m)(hf:Az P w w')(hp:¬P g):LT w' g m:=⟨λj hj=>by obtain⟨u,hu⟩:=h.has j hj;exact⟨u,(hf.cell (p:=⟨g,j,none⟩) h.lt hp).trans hu⟩,λj=>(hf.frozen (p:=⟨g,j,none⟩) h.lt hp).trans (h.free j),Ac h.lt hf.size⟩
theorem iH.fr{w w':World}{g n cap:Nat}{x:Nat->Ob}{A:Nat->Option Addr}{C hb:Nat->Nat}{P:Nat->Prop}(h:iH w g n cap x A C hb)(hf:Az P w w')(hp:∀k,Md g n (λi=>(x i).hn) hb k->¬P k):iH w' g n cap x A C hb:=⟨h.le,λh0=>(h.row h0).frP hf (hp g (AA ⟨h0,rfl⟩)),λi hi=>⟨(h.ho i hi).1,(h.ho i hi).2.1,λh0=>⟨((h.ho i hi).2.2 h0).1,((h.ho i hi).2.2 h0).2.frP hf (hp _ (AC ⟨i,hi,λe=>by have:=(h.ho i hi).2.1 e;omega,rfl⟩))⟩⟩⟩
theorem iH.grow{w w':World}{g n cap:Nat}{x:Nat->Ob}{A:Nat->Option Addr}{C hb:Nat->Nat}(h:iH w g n cap x A C hb)(hb':Below w.1.size w w'):iH w' g n cap x A C hb:=h.fr (Aq (P:=λ_=>False) hb') (λ_ _ h=>h)
theorem Ok.obR{w:World}{base:Nat}{ad:OA}{k cap g:Nat}{x:Nat->Ob}{A:Nat->Option Addr}{C hb:Nat->Nat}(h:Ok w base (.l ad k cap) k x A C hb)(hg:0<k->ad=some ⟨g,0,none⟩):iH w g k cap x A C hb:=by
 obtain⟨c,r,_⟩:=h.row;refine⟨?_,λh0=>?_,λi hi=>⟨(h.rm i hi).le,(h.rm i hi).z,λh0=>?_⟩⟩
 .rcases r.2 with⟨h1,h2⟩|⟨g',cap',cur,h1,h2,h3,h4,_⟩;.omega
  .injection h1 with e1 e2 e3;omega
 .rw[hg h0]at r;exact(UM r).1
 .obtain⟨g',e,hg',rm⟩:=(h.rm i hi).rm h0;have hn:(x i).hn≠0:=λe=>by have:=(h.rm i hi).z e;omega
  obtain⟨b',off,e',l1,l2,_⟩:=h.hold i hi 0 Za;rw[e]at e';injection e' with e';injection e' with e1 e2;have hgb:g'=hb i:=Za;subst hgb;exact⟨e,rm⟩
theorem U8 (n:Nat)(x:Nat->Ob)(ad:OA)(cap:Nat)(w:World)(lo hi:Nat)(hhi:hi<=w.1.size)(hl:(n:Int)<=1048576)(hf:∀i,i<n->Ef (x i))(hc:B4 w lo hi ad n x):Calls prog 87 #[.l ad n cap] w λe w'=>∃ad' cap' g A C hb,e=.returned (.l ad' n cap')/\L0 w' ad' g n x A C hb/\((∀q,Md g n (λi=>(x i).hn) hb q->w.1.size<=q)/\iH w' g n cap' x A C hb)/\Below w.1.size w w':=by
 obtain⟨i0,hi0,hz0,hz1,hz2⟩:=info_parts Ms;have HC:=Ah hc;have HF:=Ah hf;clear hc hf;go_enter func87,ntmps87;go_wp2;have bd0:Ok (w.alloc (.cells #[] 38)) w.1.size (.l (some ⟨w.1.size,0,none⟩) 0 0) 0 x (λ_=>none) (λ_=>0) (λ_=>0):=⟨⟨λ_=>.i 0,by simpa[AM]using GQ (base:=w.1.size) (e:=38) (size:=7) w #[] 0 uK Cf rfl,λi hi=>absurd hi (Aj _)⟩,λi hi=>absurd hi (Aj _),λi hi=>absurd hi (Aj _),λi hi=>absurd hi (Aj _),λi j hi=>absurd hi (Aj _),λi hi=>absurd hi (Aj _)⟩;go_loopw[3,4](λo i wr=>∃(k:Nat)(A:Nat->Option Addr)(C hb:Nat->Nat),k<=n/\i=.i k/\Below w.1.size w wr/\Ok wr w.1.size o k x A C hb)(λ_ i _=>n-(intOf i).toNat);case atStart=>exact⟨0,_,_,_,At _,rfl,An _ _,bd0⟩
 case round=>
  clear bd0;obtain⟨k,A,C,hb,hk,rfl,b0,bd⟩:=hrel;by_cases hkn:k<n
  .obtain⟨b,off,ah,ch,rfl,hlo,hbh,hcx,hsx⟩:=HC k hkn;have hfk:=(HF k hkn).h;obtain⟨e0,e1,e2,e3,e4,e5,e6⟩:=hcx.below b0 Za;have ZC:=Ah (hsx.below b0 hhi);have zr:=b0.size;have BD:=Ah bd;clear hcx hsx bd;go_wp2_with fail;refine(M8 (x k) ah ch _ lo hi Za hfk ZC).mono ?_;rintro e w1 ⟨ad',cap',rfl,hrm1,hs1,hb1⟩;have u9:=Ah hrm1;clear hrm1;obtain⟨b',ho1,hl1⟩:=hs1.one;have z1:=hb1.size;have m6:=Ah ho1;have KQ:=Ah hl1;have BD1:=Ah ((BD.grow hb1).grow (An w1 (.cells (vO (x k) ad' cap') 38)));obtain⟨c,hown,hat⟩:=BD1.row;have Vx:=Ah hat;clear hs1 ho1 hl1 e0 e1 e2 e3 e4 e5 e6 hat;go_wp2_with (at_builtin;go_must(refine wpList_append_own_at _ rfl _ _ 23 rfl w.1.size 38 i0 _ 7 96 underlying23 hi0 hz0 hz1 hz2 rfl Zb _ k (AM (k*7) c) rfl hown ⟨w1.1.size,0,none⟩ 1 1 (nJ (x k) ad' cap') rfl rfl (E5 w1 _ 38) jD Zm Za Zd ?_;intro v' w2 hown2 hgrow2 hnil2 hat2;clear hnil2));have hg2:=hgrow2.size;have FB:∀o,Az (λ_=>False) w1 (w1.alloc o):=λo=>Aq (An w1 o);have BD2:=Ah (BD1.app (cap':=cap') Vx hown2 hgrow2 hat2 (m6.frP (FB _) (λh0=>⟨λh=>h,(KQ h0).2⟩)) (λh0=>⟨by have:=(KQ h0).1;omega,by have:=(KQ h0).2;simp;omega⟩)
    (λh0 e=>by obtain⟨c0,r0,_⟩:=BD.row;have h1:=(r0.lt _ e).2;have h2:=(KQ h0).1;omega)
    (λi hi h0 h1 e=>by have h2:=(BD.hlt i hi h0).2;have h3:=(KQ h1).1;omega) ((u9.frB m6 (FB _) (λ_ h=>h)).base Za));have B2:Below w.1.size w w2:=by obtain⟨c0,r0,_⟩:=BD.row;exact((b0.trans (hb1.mono zr)).alloc Za _).trans ((BI hgrow2).below (λq hq e=>by have:=(r0.lt q e).1;omega) Zd)
   clear hown hown2 hgrow2 hat2 FB;go_wp2;go_roundw;case rel=>exact⟨k+1,_,_,_,Za,by go_num,B2,BD2⟩
   case measure=>simp[intOf];omega
  .have hke:k=n:=Za;subst hke;obtain⟨ad',cap',g,e,at',hq⟩:=bd.done;subst e;have zQ:=Ah (bd.obR at'.addr);have AT':=Ah at';clear at' bd;go_wp2;go_ret;exact⟨ad',cap',g,A,C,hb,rfl,AT',⟨hq,zQ⟩,b0⟩
theorem Ux (n:Nat)(x:Nat->Ch)(ad:OA)(cap:Nat)(w:World)(lo hi:Nat)(hhi:hi<=w.1.size)(hl:(n:Int)<=1048576)(hf:∀i,i<n->Ef (x i).ob)(hc:CO w lo hi ad n x):Calls prog 88 #[.l ad n cap] w λe w'=>∃ad' cap' g A C hb,e=.returned (.l ad' n cap')/\n<=cap'/\Lu w' ad' g n x A C hb/\(∀q,Md g n (λi=>(x i).ob.hn) hb q->w.1.size<=q)/\Below w.1.size w w':=by
 obtain⟨i0,hi0,hz0,hz1,hz2⟩:=info_parts KO;have HC:=Ah hc;have HF:=Ah hf;clear hc hf;go_enter func88,ntmps88;go_wp2;have bd0:Kx (w.alloc (.cells #[] 40)) w.1.size (.l (some ⟨w.1.size,0,none⟩) 0 0) 0 x (λ_=>none) (λ_=>0) (λ_=>0):=⟨⟨λ_=>.i 0,by simpa[AM]using GQ (base:=w.1.size) (e:=40) (size:=9) w #[] 0 uK Cf rfl,λi hi=>absurd hi (Aj _)⟩,λi hi=>absurd hi (Aj _),λi hi=>absurd hi (Aj _),λi hi=>absurd hi (Aj _),λi j hi=>absurd hi (Aj _)⟩;go_loopw[3,4](λo i wr=>∃(k:Nat)(A:Nat->Option Addr)(C hb:Nat->Nat),k<=n/\i=.i k/\Below w.1.size w wr/\Kx wr w.1.size o k x A C hb)(λ_ i _=>n-(intOf i).toNat);case atStart=>exact⟨0,_,_,_,At _,rfl,An _ _,bd0⟩
 case round=>
  clear bd0;obtain⟨k,A,C,hb,hk,rfl,b0,bd⟩:=hrel;by_cases hkn:k<n
  .obtain⟨b,off,ah,ch,rfl,hlo,hbh,hcx,hsx⟩:=HC k hkn;have hfk:=(HF k hkn).h;obtain⟨e0,e1,e2,e3,e4,e5,e6,e7,e8⟩:=hcx.below b0 Za;have zr:=b0.size;have ZC:=Ah (λo=>(hsx.below b0 hhi).alloc Za o);have BD:=Ah bd;clear hcx hsx bd;go_wp2_with fail;refine(M8 (x k).ob ah ch _ lo hi Zd hfk (ZC _)).mono ?_;rintro e w1 ⟨ad',cap',rfl,_,hs1,hb1⟩;obtain⟨b',ho1,hl1⟩:=hs1.one;have z1:wr.1.size+1<=w1.1.size:=by have:=hb1.size;simpa using this
   have m6:=Ah ho1;have KQ:Hid ((x k).ob.hn≠0->wr.1.size+1<=b'/\b'<w1.1.size):=λh0=>by have:=hl1 h0;simpa using this
   have rv:AN w1 wr.1.size 9 (AR [.i (x k).ver,.bool (x k).gone,.s (x k).ob.kind,.s (x k).ob.name,.i (x k).ob.ver,.i (x k).ob.born,.s (x k).ob.text,.bool (x k).ob.ending,.l ah (x k).ob.hn ch]):=AN.new (w:=wr) (l:=[.i (x k).ver,.bool (x k).gone,.s (x k).ob.kind,.s (x k).ob.name,.i (x k).ob.ver,.i (x k).ob.born,.s (x k).ob.text,.bool (x k).ob.ending,.l ah (x k).ob.hn ch]) (t:=40) hb1;have RV:=Ah rv;have q0:=rv.cell 0 Za;have q1:=rv.cell 1 Za;have q2:=rv.cell 2 Za;have q3:=rv.cell 3 Za;have q4:=rv.cell 4 Za;have q5:=rv.cell 5 Za;have q6:=rv.cell 6 Za;have q7:=rv.cell 7 Za;have q8:=rv.cell 8 Za;have qf:=rv.free;simp only[AR,Aa,Ab]at q0 q1 q2 q3 q4 q5 q6 q7 q8;have hbw:Below wr.1.size wr w1:=(An _ _).trans (hb1.mono Zc);have Ma:=Ah hbw;clear hs1 ho1 hl1 e0 e1 e2 e3 e4 e5 e6 e7 e8 rv hb1 hbw;have hBW:Below wr.1.size wr (((((((w1.setCell ⟨wr.1.size,2,none⟩ (.s (x k).ob.kind)).setCell ⟨wr.1.size,3,none⟩ (.s (x k).ob.name)).setCell ⟨wr.1.size,4,none⟩ (.i (x k).ob.ver)).setCell ⟨wr.1.size,5,none⟩ (.i (x k).ob.born)).setCell ⟨wr.1.size,6,none⟩ (.s (x k).ob.text)).setCell ⟨wr.1.size,7,none⟩ (.bool (x k).ob.ending)).setCell ⟨wr.1.size,8,none⟩ (.l ad' (x k).ob.hn cap')):=by
    iterate 7 refine Bs ?_ Zc _
    exact Ma
   have zS:(((((((w1.setCell ⟨wr.1.size,2,none⟩ (.s (x k).ob.kind)).setCell ⟨wr.1.size,3,none⟩ (.s (x k).ob.name)).setCell ⟨wr.1.size,4,none⟩ (.i (x k).ob.ver)).setCell ⟨wr.1.size,5,none⟩ (.i (x k).ob.born)).setCell ⟨wr.1.size,6,none⟩ (.s (x k).ob.text)).setCell ⟨wr.1.size,7,none⟩ (.bool (x k).ob.ending)).setCell ⟨wr.1.size,8,none⟩ (.l ad' (x k).ob.hn cap')).1.size=w1.1.size:=Zc;have BD1:=Ah (BD.grow (hBW.alloc (by rw[zS];omega) (.cells #[.i (x k).ver,.bool (x k).gone,.s (x k).ob.kind,.s (x k).ob.name,.i (x k).ob.ver,.i (x k).ob.born,.s (x k).ob.text,.bool (x k).ob.ending,.l ad' (x k).ob.hn cap'] 40)));obtain⟨c,hown,hat⟩:=BD1.row;have Vx:=Ah hat;have FS:Az (λq=>q=wr.1.size) w1 (((((((w1.setCell ⟨wr.1.size,2,none⟩ (.s (x k).ob.kind)).setCell ⟨wr.1.size,3,none⟩ (.s (x k).ob.name)).setCell ⟨wr.1.size,4,none⟩ (.i (x k).ob.ver)).setCell ⟨wr.1.size,5,none⟩ (.i (x k).ob.born)).setCell ⟨wr.1.size,6,none⟩ (.s (x k).ob.text)).setCell ⟨wr.1.size,7,none⟩ (.bool (x k).ob.ending)).setCell ⟨wr.1.size,8,none⟩ (.l ad' (x k).ob.hn cap')):=by
    iterate 7 refine Az.setCell (P:=λq=>q=wr.1.size) ?_ rK _
    exact Az.refl _ _
   have rU:=Ah ((m6.frP FS (λh0=>⟨by have:=(KQ h0).1;omega,(KQ h0).2⟩)).frP (Aq (P:=λ_=>False) (An (((((((w1.setCell ⟨wr.1.size,2,none⟩ (.s (x k).ob.kind)).setCell ⟨wr.1.size,3,none⟩ (.s (x k).ob.name)).setCell ⟨wr.1.size,4,none⟩ (.i (x k).ob.ver)).setCell ⟨wr.1.size,5,none⟩ (.i (x k).ob.born)).setCell ⟨wr.1.size,6,none⟩ (.s (x k).ob.text)).setCell ⟨wr.1.size,7,none⟩ (.bool (x k).ob.ending)).setCell ⟨wr.1.size,8,none⟩ (.l ad' (x k).ob.hn cap')) (.cells #[.i (x k).ver,.bool (x k).gone,.s (x k).ob.kind,.s (x k).ob.name,.i (x k).ob.ver,.i (x k).ob.born,.s (x k).ob.text,.bool (x k).ob.ending,.l ad' (x k).ob.hn cap'] 40))) (λh0=>⟨λh=>h,by rw[zS];exact(KQ h0).2⟩));have Si:=Ah (hBW.alloc (by rw[zS];omega) (.cells #[.i (x k).ver,.bool (x k).gone,.s (x k).ob.kind,.s (x k).ob.name,.i (x k).ob.ver,.i (x k).ob.born,.s (x k).ob.text,.bool (x k).ob.ending,.l ad' (x k).ob.hn cap'] 40));have hown':=Ah hown;clear hat FS hBW zS hown;go_wp2_with (at_builtin;go_must(refine wpList_append_own_at _ rfl _ _ 24 rfl w.1.size 40 i0 _ 9 112 underlying24 hi0 hz0 hz1 hz2 rfl Zb _ k (AM (k*9) c) rfl hown' ⟨w1.1.size,0,none⟩ 1 1 [.i (x k).ver,.bool (x k).gone,.s (x k).ob.kind,.s (x k).ob.name,.i (x k).ob.ver,.i (x k).ob.born,.s (x k).ob.text,.bool (x k).ob.ending,.l ad' (x k).ob.hn cap'] rfl rfl (by have h:=E5 (((((((w1.setCell ⟨wr.1.size,2,none⟩ (.s (x k).ob.kind)).setCell ⟨wr.1.size,3,none⟩ (.s (x k).ob.name)).setCell ⟨wr.1.size,4,none⟩ (.i (x k).ob.ver)).setCell ⟨wr.1.size,5,none⟩ (.i (x k).ob.born)).setCell ⟨wr.1.size,6,none⟩ (.s (x k).ob.text)).setCell ⟨wr.1.size,7,none⟩ (.bool (x k).ob.ending)).setCell ⟨wr.1.size,8,none⟩ (.l ad' (x k).ob.hn cap')) [.i (x k).ver,.bool (x k).gone,.s (x k).ob.kind,.s (x k).ob.name,.i (x k).ob.ver,.i (x k).ob.born,.s (x k).ob.text,.bool (x k).ob.ending,.l ad' (x k).ob.hn cap'] 40;simpa using h) jD Zm Za Zd ?_;intro v' w2 hown2 hgrow2 hnil2 hat2;clear hnil2));have hg2:=hgrow2.size;have BD2:=Ah (BD1.app (cap':=cap') Vx hown2 hgrow2 hat2 rU (λh0=>⟨by have:=(KQ h0).1;omega,by have:=(KQ h0).2;simp;omega⟩)
    (λh0 e=>by obtain⟨c0,r0,_⟩:=BD.row;have h1:=(r0.lt _ e).2;have h2:=(KQ h0).1;omega)
    (λi hi h0 h1 e=>by have h2:=(BD.hlt i hi h0).2;have h3:=(KQ h1).1;omega));have B2:Below w.1.size w w2:=by obtain⟨c0,r0,_⟩:=BD.row;exact(b0.trans (Si.mono zr)).trans ((BI hgrow2).below (λq hq e=>by have:=(r0.lt q e).1;omega) Zd)
   clear hown2 hgrow2 hat2;go_roundw;case rel=>exact⟨k+1,_,_,_,Za,by go_num,B2,BD2⟩
   case measure=>simp[intOf];omega
  .have hke:k=n:=Za;subst hke;obtain⟨ad',cap',g,e,hcp,at',hq⟩:=bd.done;subst e;have AT':=Ah at';clear at' bd;go_wp2;go_ret;exact⟨ad',cap',g,A,C,hb,rfl,hcp,AT',hq,b0⟩
theorem L0.isIn{w:World}{ad:OA}{g n:Nat}{x:Nat->Ob}{A:Nat->Option Addr}{C hb:Nat->Nat}(h:L0 w ad g n x A C hb){lo:Nat}(hlo:∀q,Md g n (λi=>(x i).hn) hb q->lo<=q):B4 w lo w.1.size ad n x:=λi hi=>by
 obtain⟨c,r,e⟩:=h.row Za;obtain⟨a0,a1,a2,a3,a4,a5,a6⟩:=e i hi;refine⟨g,0,A i,C i,h.addr Za,hlo g (AA ⟨Za,rfl⟩),r.lt,?_,λj hj=>?_⟩;.rw[A6];exact⟨(r.cell _ Za).trans (congrArg some a0),(r.cell _ Za).trans (congrArg some a1),(r.cell _ Za).trans (congrArg some a2),(r.cell _ Za).trans (congrArg some a3),(r.cell _ Za).trans (congrArg some a4),(r.cell _ Za).trans (congrArg some a5),(r.cell _ Za).trans (congrArg some a6)⟩
 .obtain⟨b,off,e1,e2,e3,e4,_⟩:=h.hold i hi j hj;have hn0:(x i).hn≠0:=Za;have e5:b=hb i:=Za;exact⟨b,off,e1,by rw[e5];exact hlo _ (AC ⟨i,hi,hn0,rfl⟩),by rw[e5];exact h.hlt i hi hn0,e4⟩
theorem Lu.isIn{w:World}{ad:OA}{g n:Nat}{x:Nat->Ch}{A:Nat->Option Addr}{C hb:Nat->Nat}(h:Lu w ad g n x A C hb){lo:Nat}(hlo:∀q,Md g n (λi=>(x i).ob.hn) hb q->lo<=q):CO w lo w.1.size ad n x:=λi hi=>by
 obtain⟨c,r,e⟩:=h.row Za;obtain⟨a0,a1,a2,a3,a4,a5,a6,a7,a8⟩:=e i hi;refine⟨g,0,A i,C i,h.addr Za,hlo g (AA ⟨Za,rfl⟩),r.lt,?_,λj hj=>?_⟩;.rw[A6];exact⟨(r.cell _ Za).trans (congrArg some a0),(r.cell _ Za).trans (congrArg some a1),(r.cell _ Za).trans (congrArg some a2),(r.cell _ Za).trans (congrArg some a3),(r.cell _ Za).trans (congrArg some a4),(r.cell _ Za).trans (congrArg some a5),(r.cell _ Za).trans (congrArg some a6),(r.cell _ Za).trans (congrArg some a7),(r.cell _ Za).trans (congrArg some a8)⟩
 .obtain⟨b,off,e1,e2,e3,e4,_⟩:=h.hold i hi j hj;have hn0:(x i).ob.hn≠0:=Za;have e5:b=hb i:=Za;exact⟨b,off,e1,by rw[e5];exact hlo _ (AC ⟨i,hi,hn0,rfl⟩),by rw[e5];exact h.hlt i hi hn0,e4⟩
theorem M2.isIn{w:World}{ad:OA}{g n:Nat}{x:Nat->Ti}(h:M2 w ad g n x){lo:Nat}(hlo:0<n->lo<=g):DZ w lo w.1.size ad n x:=λi hi=>by obtain⟨c,r,e⟩:=h.row Za;obtain⟨a0,a1,a2,a3,a4⟩:=e i hi;refine⟨g,0,h.addr Za,hlo Za,r.lt,?_⟩;rw[A6];exact⟨(r.cell _ Za).trans (congrArg some a0),(r.cell _ Za).trans (congrArg some a1),(r.cell _ Za).trans (congrArg some a2),(r.cell _ Za).trans (congrArg some a3),(r.cell _ Za).trans (congrArg some a4)⟩
theorem MN.isIn{w:World}{x:Bk}{p:Pl}(h:MN w x p){lo:Nat}(hlo:∀q,Lh p x q->lo<=q):BF w lo w.1.size x p.a1 p.a2 p.a3:=⟨h.o.isIn (λq hq=>hlo q (AA hq)),h.h.isIn (λq hq=>hlo q (AC (AA hq))),h.t.isIn (λh0=>hlo _ (AC (AC ⟨h0,rfl⟩)))⟩
theorem kU{w:World}{base e z n g l cap:Nat}{xs:List Value}(h:w.ownsRow base e z (.l (some ⟨g,0,none⟩) l cap) n xs)(_hn:0<n):n<=cap:=by
 rcases h.2 with⟨h1,_⟩|⟨g',cap',cur,h1,_,_,h4,_⟩;.cases h1
 .cases h1;exact h4
theorem AB.lo0{w:World}{lo hi:Nat}{ad:OA}{n:Nat}{s:Nat->ByteArray}(h:AB w lo hi ad n s):AB w 0 hi ad n s:=λi hi'=>by obtain⟨b,off,e1,e2,e3,e4⟩:=h i hi';exact⟨b,off,e1,At _,e3,e4⟩
theorem BF.lo0{w:World}{lo hi:Nat}{x:Bk}{a1 a2 a3:OA}(h:BF w lo hi x a1 a2 a3):BF w 0 hi x a1 a2 a3:=by
 refine⟨λi hi'=>?_,λi hi'=>?_,λi hi'=>?_⟩;.obtain⟨b,off,ah,ch,e1,e2,e3,e4,e5⟩:=h.o i hi';exact⟨b,off,ah,ch,e1,At _,e3,e4,e5.lo0⟩
 .obtain⟨b,off,ah,ch,e1,e2,e3,e4,e5⟩:=h.h i hi';exact⟨b,off,ah,ch,e1,At _,e3,e4,e5.lo0⟩
 .obtain⟨b,off,e1,e2,e3,e4⟩:=h.t i hi';exact⟨b,off,e1,At _,e3,e4⟩
end Go.Proofs.Ytnnjcenacidceaa
namespace Go.Proofs.Ytnnjcenacidceaa
open Go.RowKit Go.Proofs.Try
theorem EQ{P:Program}{o:Oper}{a:Act}{w:World}{K:Act->World->Prop}{Q:Exit->Act->World->Prop}(s x:Operand)(t tx:TypeId)(ho:o.op=.call {callee:=.builtin .append,args:=#[s,x],argTypes:=#[t,tx]})(v xv v2:Value)(w2:World)(hs:a.eval s=v)(hx:a.eval x=xv)(hr:(Builtin.append_ #[t,tx] o.type #[v,xv]).run P w=.ok v2 w2)(h:K (a.put o.dst v2) w2):o.wp P a w K Q:=by unfold Oper.wp execOp;simp only[ho,resolve,invoke,builtin,Sem.run_bind,Sem.run_pure,O9,Qu,List.map_cons,List.map_nil,hs,hx,hr];exact h
def lV (s:Nat->Nat)(k m:Nat):Nat->Nat:=λi=>if i=k then m else s i
theorem N4{s:Nat->Nat}{k m:Nat}:lV s k m k=m:=if_pos rfl
theorem NX{s:Nat->Nat}{k m i:Nat}(h:¬i=k):lV s k m i=s i:=if_neg h
structure TC (x:Bk)(N0:Nat)(X:World)(p:Pl)(d1 d2 d3:Nat):Prop where
 at_:MN X x p
 lo:∀q,Lh p x q->N0<=q
 ob:iH X p.g1 x.on d1 x.os p.A1 p.C1 p.h1
 h:x.hn<=d2
 c:MW X x.tn p.a3 d3
 z:x.tn=0->d3=0
 t:0<x.tn->LT X p.g3 (d3*5)
theorem TC.fr{x:Bk}{N0:Nat}{X Y:World}{p:Pl}{d1 d2 d3:Nat}{P:Nat->Prop}(h:TC x N0 X p d1 d2 d3)(hf:Az P X Y)(hp:∀q,Lh p x q->¬P q):TC x N0 Y p d1 d2 d3:=⟨h.at_.fr hf hp,h.lo,h.ob.fr hf (λk hk=>hp k (AA hk)),h.h,h.c.grow hf.size,h.z,λh0=>(h.t h0).frP hf (hp _ (AC (AC ⟨h0,rfl⟩)))⟩
theorem TC.grow{x:Bk}{N0:Nat}{X Y:World}{p:Pl}{d1 d2 d3:Nat}(h:TC x N0 X p d1 d2 d3)(hb:Below X.1.size X Y):TC x N0 Y p d1 d2 d3:=h.fr (Aq (P:=λ_=>False) hb) (λ_ _ h=>h)
theorem TC.box{x:Bk}{N0 z:Nat}{X Y:World}{p:Pl}{d1 d2 d3:Nat}(h:TC x N0 X p d1 d2 d3)(hf:Az (λq=>q=z) X Y)(hz:z<N0):TC x N0 Y p d1 d2 d3:=h.fr hf (λq hq e=>by have:=h.lo q hq;omega)
theorem TC.low{x:Bk}{N0 N1:Nat}{X:World}{p:Pl}{d1 d2 d3:Nat}(h:TC x N0 X p d1 d2 d3)(hn:N1<=N0):TC x N1 X p d1 d2 d3:=⟨h.at_,λq hq=>AT hn (h.lo q hq),h.ob,h.h,h.c,h.z,h.t⟩
theorem qN{X Z:World}{ad:OA}{n cap g b:Nat}{c:Nat->Value}{m:Nat}(hle:n<=cap)(hr:0<n->ad=some ⟨X.1.size,0,none⟩/\AN Z X.1.size m c)(hg:ad=some ⟨g,0,none⟩)(hgb:n=0->g=b)(hb:b<Z.1.size):MW Z n ad cap:=by
 refine⟨hle,AC ?_⟩;rcases Bm n with h0|h0;.exact⟨g,0,hg,by rw[hgb h0];exact hb⟩
 .exact⟨_,0,(hr h0).1,(hr h0).2.lt⟩
def cq (n:Nat)(mk:(Nat->Value)->Array Value)(W:World)(U:Nat->List Nat)(G:Nat->(Nat->Value)->(Nat->Nat)->World->Prop)(Fin:Act->World->Prop)(l:Array Bool)(a:Act)(X:World):Prop:=l.size=n+1/\((l.getD n false=true->(∀i,i<n+1->l.getD i false=true)/\Fin a X)/\(l.getD n false=false->∃(t:Nat->Value)(s:Nat->Nat),a=⟨mk t,[]⟩/\Below W.1.size W X/\∀i,i<n->l.getD i false=true->G i t s X/\s i<=X.1.size/\∀j∈U i,l.getD j false=true))
theorem cW{P:Program}{id:Nat}{ops:Array Oper}{Q:Exit->Act->World->Prop}{a0:Act}{W:World}(hm:P.follows .mixedOrders=true)(n:Nat)(mk:(Nat->Value)->Array Value)(t0:Nat->Value)(U:Nat->List Nat)(G:Nat->(Nat->Value)->(Nat->Nat)->World->Prop)(Fin:Act->World->Prop)(hn:ops.size=n+1)(hord:((List.range ops.size).all λi=>match ops[i]? with|some o=>o.after.all (λe=>decide (e.on<i))|none=>true)=true)(hlast:((List.range n).all λj=>(match ops[n]? with|some o=>o.after.any (λe=>Region.binds .any e&&e.on==j)|none=>false)&&(U j).all (λm=>match ops[j]? with|some o=>o.after.any (λe=>Region.binds .any e&&e.on==m)|none=>false))=true)(st:∀i t s t' s' X Y,i<n->G i t s X->t' i=t i->s' i=s i->(∀j∈U i,s' j=s j)->Below X.1.size X Y->G i t' s' Y)(h0:a0=⟨mk t0,[]⟩)(sg:∀i,i<n->∀(t:Nat->Value)(s:Nat->Nat) X K,Below W.1.size W X->(∀j,BE ops i j->G j t s X/\s j<=X.1.size)->(∀v Y,Below X.1.size X Y->G i (Av t i v) (lV s i Y.1.size) Y->K ⟨mk (Av t i v),[]⟩ Y)->wpOp P ops Q i K ⟨mk t,[]⟩ X)(sl:∀(t:Nat->Value)(s:Nat->Nat) X K,Below W.1.size W X->(∀j,j<n->G j t s X)->(∀a Y,Fin a Y->K a Y)->wpOp P ops Q n K ⟨mk t,[]⟩ X)(hfin:∀a X,Fin a X->Q .normal a X):(Code.region id ops true).wp P Q a0 W:=by
 have hdep:∀i j,i<n+1->BE ops i j->j<n:=by rintro i j hi ⟨o,ho,e,he,_,rfl⟩;have h1:=AZ.1 hord i (Bd.2 Za);rw[ho]at h1;have h2:=AU.1 h1 e he;have:=of_decide_eq_true h2;omega
 have wt:∀{i j:Nat}{o:Oper},ops[i]?=some o->o.after.any (λe=>Region.binds .any e&&e.on==j)=true->BE ops i j:=by intro i j o ho h1;obtain⟨k,hk,h2⟩:=EY.1 h1;simp only[Al,beq_iff_eq]at h2;exact⟨o,ho,o.after[k],EZ hk,h2.1,h2.2⟩
 refine Cs hm (cq n mk W U G Fin) ?_ ?_ ?_ ?_
 .have hz:∀i,(Array.replicate ops.size false).getD i false=false:=λi=>by simp[Array.getD]
  refine⟨by simp[hn],λh=>?_,λ_=>⟨t0,λ_=>0,h0,(Ao _ _).drew,λi _ h=>?_⟩⟩<;>(rw[hz]at h;cases h)
 .rintro l a X ⟨hs,_⟩;rw[hs,hn]
 .rintro l a X ⟨hs,h6,_⟩ hr;have AL:=KJ hord (by rw[hs,hn]) hr;exact hfin a X (h6 (AL n Za)).2
 .rintro l a X i ⟨hs,h6,hg⟩ hr';obtain⟨hu,o,ho,hall⟩:=mem_ready.1 hr';have di:∀j,BE ops i j->l.getD j false=true:=by
   rintro j ⟨o',ho',e,he,hb,rfl⟩;rw[ho]at ho';obtain rfl:o=o':=by simpa using ho'
   exact hall e he hb
  have hi7:i<n+1:=by
   rcases Au i (n+1)with h|h;.exact h
   .rw[A9 Za]at ho;cases ho
  have hui:l.getD i false=false:=by have:l.getD i true=false:=hu;simpa[Array.getD,hs,hi7]using this
  have l6:l.getD n false=false:=by cases h:l.getD n false with
   |false=>rfl
   |true=>rw[(h6 h).1 i hi7]at hui;cases hui
  obtain⟨t,s,rfl,hb,gg⟩:=hg l6;have kp:∀j,¬j=i->(l.setIfInBounds i true).getD j false=l.getD j false:=λj hj=>by rw[BT Za,if_neg hj]
  have ki:(l.setIfInBounds i true).getD i false=true:=by rw[BT Za,if_pos rfl]
  have hs':(l.setIfInBounds i true).size=n+1:=by simp[hs]
  have ku:∀j,l.getD j false=true->(l.setIfInBounds i true).getD j false=true:=λj h=>by
   by_cases e:j=i;.subst e;exact ki
   .rw[kp j e];exact h
  by_cases hin:i=n
  .subst hin;have al:∀j,j<i->l.getD j false=true:=λj hj=>by have h1:=AZ.1 hlast j (Bd.2 hj);rw[Al,ho]at h1;exact di j (wt ho h1.1)
   clear hr' hu ho h6 hg;refine sl t s X _ hb (λj hj=>(gg j hj (al j hj)).1) (λa Y hY=>⟨hs',λ_=>⟨λj hj=>?_,hY⟩,λh=>?_⟩)
   .by_cases e:j=i;.subst e;exact ki
    .exact ku j (al j Za)
   .rw[ki]at h;cases h
  .have hUi:∀m∈U i,l.getD m false=true:=λm hm=>by have h1:=AZ.1 hlast i (Bd.2 Za);rw[Al]at h1;have h2:=AZ.1 h1.2 m hm;rw[ho]at h2;exact di m (wt ho h2)
   clear hr' hu ho h6 hg;have hno:(l.setIfInBounds i true).getD n false=false:=by rw[kp n (λe=>hin e.symm)];exact l6
   refine sg i Za t s X _ hb (λj hj=>⟨(gg j (hdep i j hi7 hj) (di j hj)).1,(gg j (hdep i j hi7 hj) (di j hj)).2.1⟩) (λv Y hY hv=>⟨hs',λh=>?_,λ_=>⟨Av t i v,lV s i Y.1.size,rfl,hb.trans (hY.mono hb.size),λj j1 h=>?_⟩⟩);.rw[hno]at h;cases h
   .by_cases e:j=i;.subst e;exact⟨hv,by rw[N4];exact AD _,λm hm=>ku m (hUi m hm)⟩
    .rw[kp j e]at h;obtain⟨g1,g2,g3⟩:=gg j j1 h;exact⟨st j t s _ _ X Y j1 g1 (BB e) (NX e) (λm hm=>NX (λq=>by have:=g3 m hm;rw[q,hui]at this;cases this)) hY,by rw[NX e];exact AT g2 hY.size,λm hm=>ku m (g3 m hm)⟩
def wU (i:Nat):List Nat:=match i with|9=>[6]|13=>[9]|_=>[]
def cy (x:Bk)(a1 a2 a3:OA)(c1 c2 c3 S N0:Nat)(i:Nat)(t:Nat->Value)(s:Nat->Nat)(X:World):Prop:=match i with
 |0=>t 0=.p S 0
 |1=>t 1=.i x.now
 |2=>t 2=.p S 1
 |3=>t 3=.i x.floor
 |4=>t 4=.p S 2
 |5=>t 5=.l a1 x.on c1
 |6=>∃(b1:OA)(d1 g1:Nat)(A1:Nat->Option Addr)(C1 h1:Nat->Nat),t 6=.l b1 x.on d1/\L0 X b1 g1 x.on x.os A1 C1 h1/\(∀q,Md g1 x.on (λi=>(x.os i).hn) h1 q->N0<=q/\q<s 6)/\iH X g1 x.on d1 x.os A1 C1 h1
 |7=>t 7=.p S 3
 |8=>t 8=.l a2 x.hn c2
 |9=>s 6<=s 9/\∃(b2:OA)(d2 g2:Nat)(A2:Nat->Option Addr)(C2 h2:Nat->Nat),t 9=.l b2 x.hn d2/\x.hn<=d2/\Lu X b2 g2 x.hn x.hs A2 C2 h2/\∀q,Md g2 x.hn (λi=>(x.hs i).ob.hn) h2 q->s 6<=q/\q<s 9/\N0<=q
 |10=>∃g0:Nat,t 10=.l (some ⟨g0,0,none⟩) 0 0/\g0<X.1.size
 |11=>t 11=.p S 4
 |12=>t 12=.l a3 x.tn c3
 |13=>∃(b3:OA)(d3 g3:Nat),t 13=.l b3 x.tn d3/\M2 X b3 g3 x.tn x.ts/\(0<x.tn->s 9<=g3/\N0<=g3/\LT X g3 (d3*5))/\MW X x.tn b3 d3/\(x.tn=0->d3=0)
 |14=>∃(p:Pl)(d1 d2 d3:Nat),t 14=.agg (vB x p.a1 p.a2 p.a3 d1 d2 d3)/\TC x N0 X p d1 d2 d3
 |_=>True
theorem Pe{P:Prop}(h:P:=by refine Ag rfl rfl ?_;clear hK hg;go_simp;simpa[Av]using h):P:=h
theorem oC (t0:Nat->Value)(x:Bk)(a1 a2 a3:OA)(c1 c2 c3 S A N0:Nat)(W:World)(hN:N0<=W.1.size)(l1:(x.on:Int)<=1048576)(l2:(x.hn:Int)<=1048576)(l3:(x.tn:Int)<=1048576)(hf:BL x)(hi:BF W 0 W.1.size x a1 a2 a3)(hS:S<W.1.size)(hrow:AN W S 5 (AR (Qq x a1 a2 a3 c1 c2 c3)))(hA:A<W.1.size)(hA0:N0<=A)(hz:AN W A 5 (AR [.i 0,.i 0,.l none 0 0,.l none 0 0,.l none 0 0]))(_hap:∀q,q=A->q<W.1.size)(Q:Exit->Act->World->Prop)(hQ:∀(t:Nat->Value)(p:Pl)(d1 d2 d3:Nat) X,TC x N0 X p d1 d2 d3->AN X A 5 (AR (Qq x p.a1 p.a2 p.a3 d1 d2 d3))->Below N0 W X->Q .normal ⟨#[.agg (vB x a1 a2 a3 c1 c2 c3),.p S 0,.p A 0,t 0,t 1,t 2,t 3,t 4,t 5,t 6,t 7,t 8,t 9,t 10,t 11,t 12,t 13,t 14],[]⟩ X):Code.wp prog (rg Try.f73 1) Q ⟨#[.agg (vB x a1 a2 a3 c1 c2 c3),.p S 0,.p A 0,t0 0,t0 1,t0 2,t0 3,t0 4,t0 5,t0 6,t0 7,t0 8,t0 9,t0 10,t0 11,t0 12,t0 13,t0 14],[]⟩ W:=by
 refine cW Ze 15 (λt:Nat->Value=>#[.agg (vB x a1 a2 a3 c1 c2 c3),.p S 0,.p A 0,t 0,t 1,t 2,t 3,t 4,t 5,t 6,t 7,t 8,t 9,t 10,t 11,t 12,t 13,t 14]) t0 wU (cy x a1 a2 a3 c1 c2 c3 S W.1.size) (λa X=>∃(t:Nat->Value)(p:Pl)(d1 d2 d3:Nat),a=⟨#[.agg (vB x a1 a2 a3 c1 c2 c3),.p S 0,.p A 0,t 0,t 1,t 2,t 3,t 4,t 5,t 6,t 7,t 8,t 9,t 10,t 11,t 12,t 13,t 14],[]⟩/\TC x N0 X p d1 d2 d3/\AN X A 5 (AR (Qq x p.a1 p.a2 p.a3 d1 d2 d3))/\Below N0 W X) Ze Ze Ze ?_ rfl ?_ ?_ ?_
 .intro i t s t' s' X Y hi h ht hs hu hB;rcases(show i=0\/i=1\/i=2\/i=3\/i=4\/i=5\/i=6\/i=7\/i=8\/i=9\/i=10\/i=11\/i=12\/i=13\/i=14 by omega)with rfl|rfl|rfl|rfl|rfl|rfl|rfl|rfl|rfl|rfl|rfl|rfl|rfl|rfl|rfl;.exact ht.trans h
  .exact ht.trans h
  .exact ht.trans h
  .exact ht.trans h
  .exact ht.trans h
  .exact ht.trans h
  .obtain⟨b1,d1,g1,A1,C1,h1,e6,oa,qa,hor⟩:=h;exact⟨b1,d1,g1,A1,C1,h1,ht.trans e6,oa.grow hB,λq hq=>by rw[hs];exact qa q hq,hor.grow hB⟩
  .exact ht.trans h
  .exact ht.trans h
  .obtain⟨s69,b2,d2,g2,A2,C2,h2,e9,hcap,ob,qb⟩:=h;have hs6:=hu 6 (by simp[wU]);exact⟨by rw[hs,hs6];exact s69,b2,d2,g2,A2,C2,h2,ht.trans e9,hcap,ob.grow hB,λq hq=>by rw[hs,hs6];exact qb q hq⟩
  .obtain⟨g0,e,hl⟩:=h;exact⟨g0,ht.trans e,Ac hl hB.size⟩
  .exact ht.trans h
  .exact ht.trans h
  .obtain⟨b3,d3,g3,e13,oc,qc,hcp,hz3⟩:=h;have hs9:=hu 9 (by simp[wU]);exact⟨b3,d3,g3,ht.trans e13,oc.grow hB,λh0=>by rw[hs9];exact⟨(qc h0).1,(qc h0).2.1,(qc h0).2.2.frP (Aq (P:=λ_=>False) hB) (λh=>h)⟩,hcp.grow hB.size,hz3⟩
  .obtain⟨p,d1,d2,d3,e,h⟩:=h;exact⟨p,d1,d2,d3,ht.trans e,h.grow hB⟩
 .intro i hi' t s X K hb hg hK;have hN:=AD W.1.size;rcases(show i=0\/i=1\/i=2\/i=3\/i=4\/i=5\/i=6\/i=7\/i=8\/i=9\/i=10\/i=11\/i=12\/i=13\/i=14 by omega)with rfl|rfl|rfl|rfl|rfl|rfl|rfl|rfl|rfl|rfl|rfl|rfl|rfl|rfl|rfl;.have h:=hK (.p S 0) X EF (show Av t 0 (.p S 0) 0=.p S 0 from Bp);exact Pe
  .have e0:t 0=.p S 0:=(hg 0 (AQ rfl)).1;have q0:=(hb.cell (p:=⟨S,0,none⟩) hS).trans (hrow.cell 0 Zb);have q1:=(hb.cell (p:=⟨S,1,none⟩) hS).trans (hrow.cell 1 Zb);have q2:=(hb.cell (p:=⟨S,2,none⟩) hS).trans (hrow.cell 2 Zb);have q3:=(hb.cell (p:=⟨S,3,none⟩) hS).trans (hrow.cell 3 Zb);have q4:=(hb.cell (p:=⟨S,4,none⟩) hS).trans (hrow.cell 4 Zb);simp only[AR,Aa,Ab]at q0 q1 q2 q3 q4;have h:=hK (.i x.now) X EF (show Av t 1 (.i x.now) 1=.i x.now from Bp);refine Ag rfl rfl ?_;clear hK hg;go_simp;simpa[Av,e0]using h
  .have h:=hK (.p S 1) X EF (show Av t 2 (.p S 1) 2=.p S 1 from Bp);exact Pe
  .have e2:t 2=.p S 1:=(hg 2 (AQ rfl)).1;have q0:=(hb.cell (p:=⟨S,0,none⟩) hS).trans (hrow.cell 0 Zb);have q1:=(hb.cell (p:=⟨S,1,none⟩) hS).trans (hrow.cell 1 Zb);have q2:=(hb.cell (p:=⟨S,2,none⟩) hS).trans (hrow.cell 2 Zb);have q3:=(hb.cell (p:=⟨S,3,none⟩) hS).trans (hrow.cell 3 Zb);have q4:=(hb.cell (p:=⟨S,4,none⟩) hS).trans (hrow.cell 4 Zb);simp only[AR,Aa,Ab]at q0 q1 q2 q3 q4;have h:=hK (.i x.floor) X EF (show Av t 3 (.i x.floor) 3=.i x.floor from Bp);refine Ag rfl rfl ?_;clear hK hg;go_simp;simpa[Av,e2]using h
  .have h:=hK (.p S 2) X EF (show Av t 4 (.p S 2) 4=.p S 2 from Bp);exact Pe
  .have e4:t 4=.p S 2:=(hg 4 (AQ rfl)).1;have q0:=(hb.cell (p:=⟨S,0,none⟩) hS).trans (hrow.cell 0 Zb);have q1:=(hb.cell (p:=⟨S,1,none⟩) hS).trans (hrow.cell 1 Zb);have q2:=(hb.cell (p:=⟨S,2,none⟩) hS).trans (hrow.cell 2 Zb);have q3:=(hb.cell (p:=⟨S,3,none⟩) hS).trans (hrow.cell 3 Zb);have q4:=(hb.cell (p:=⟨S,4,none⟩) hS).trans (hrow.cell 4 Zb);simp only[AR,Aa,Ab]at q0 q1 q2 q3 q4;have h:=hK (.l a1 x.on c1) X EF (show Av t 5 (.l a1 x.on c1) 5=.l a1 x.on c1 from Bp);refine Ag rfl rfl ?_;clear hK hg;go_simp;simpa[Av,e4]using h
  .have e5:t 5=.l a1 x.on c1:=(hg 5 (AQ rfl)).1;have HI:=Ah (hi.below hb uK);have zb:=hb.size;refine Ag rfl rfl ?_;have HK:=Ah hK;clear hK;go_simp;go_at_call 87;refine(U8 x.on x.os a1 c1 X 0 W.1.size zb l1 hf.os HI.o).mono ?_;rintro r Z ⟨b1,d1,g1,A1,C1,h1,rfl,oa,⟨qa,hor⟩,ba⟩;have h:=HK (.l b1 x.on d1) Z ba ⟨b1,d1,g1,A1,C1,h1,Bp,oa,λq hq=>⟨AT (AT hN zb) (qa q hq),by rw[N4];exact oa.blt hq⟩,hor⟩;simpa[Av,e5]using h
  .have h:=hK (.p S 3) X EF (show Av t 7 (.p S 3) 7=.p S 3 from Bp);exact Pe
  .have e7:t 7=.p S 3:=(hg 7 (AQ rfl)).1;have q0:=(hb.cell (p:=⟨S,0,none⟩) hS).trans (hrow.cell 0 Zb);have q1:=(hb.cell (p:=⟨S,1,none⟩) hS).trans (hrow.cell 1 Zb);have q2:=(hb.cell (p:=⟨S,2,none⟩) hS).trans (hrow.cell 2 Zb);have q3:=(hb.cell (p:=⟨S,3,none⟩) hS).trans (hrow.cell 3 Zb);have q4:=(hb.cell (p:=⟨S,4,none⟩) hS).trans (hrow.cell 4 Zb);simp only[AR,Aa,Ab]at q0 q1 q2 q3 q4;have h:=hK (.l a2 x.hn c2) X EF (show Av t 8 (.l a2 x.hn c2) 8=.l a2 x.hn c2 from Bp);refine Ag rfl rfl ?_;clear hK hg;go_simp;simpa[Av,e7]using h
  .have s6:=(hg 6 ⟨_,rfl,⟨6,.chain⟩,Zc,rfl,rfl⟩).2;have e8:t 8=.l a2 x.hn c2:=(hg 8 (AQ rfl)).1;have HI:=Ah (hi.below hb uK);have zb:=hb.size;refine Ag rfl rfl ?_;have HK:=Ah hK;clear hK;go_simp;go_at_call 88;refine(Ux x.hn x.hs a2 c2 X 0 W.1.size zb l2 hf.hs HI.h).mono ?_;rintro r Z ⟨b2,d2,g2,A2,C2,h2,rfl,hcap,oa,qa,ba⟩;have h:=HK (.l b2 x.hn d2) Z ba ⟨by rw[N4,NX Zb];exact AT s6 ba.size,b2,d2,g2,A2,C2,h2,Bp,hcap,oa,λq hq=>⟨by rw[NX Zb];exact AT s6 (qa q hq),by rw[N4];exact oa.blt hq,AT (AT hN zb) (qa q hq)⟩⟩;simpa[Av,e8]using h
  .have h:=hK (.l (some ⟨X.1.size,0,none⟩) 0 0) (X.alloc (.cells #[] 89)) AG ⟨X.1.size,Bp,Zc⟩;exact Pe
  .have h:=hK (.p S 4) X EF (show Av t 11 (.p S 4) 11=.p S 4 from Bp);exact Pe
  .have e11:t 11=.p S 4:=(hg 11 (AQ rfl)).1;have q0:=(hb.cell (p:=⟨S,0,none⟩) hS).trans (hrow.cell 0 Zb);have q1:=(hb.cell (p:=⟨S,1,none⟩) hS).trans (hrow.cell 1 Zb);have q2:=(hb.cell (p:=⟨S,2,none⟩) hS).trans (hrow.cell 2 Zb);have q3:=(hb.cell (p:=⟨S,3,none⟩) hS).trans (hrow.cell 3 Zb);have q4:=(hb.cell (p:=⟨S,4,none⟩) hS).trans (hrow.cell 4 Zb);simp only[AR,Aa,Ab]at q0 q1 q2 q3 q4;have h:=hK (.l a3 x.tn c3) X EF (show Av t 12 (.l a3 x.tn c3) 12=.l a3 x.tn c3 from Bp);refine Ag rfl rfl ?_;clear hK hg;go_simp;simpa[Av,e11]using h
  .obtain⟨g0,e10,hg0⟩:∃g0:Nat,t 10=.l (some ⟨g0,0,none⟩) 0 0/\g0<X.1.size:=(hg 10 (AQ rfl)).1;have e12:t 12=.l a3 x.tn c3:=(hg 12 (AQ rfl)).1;have s9:=(hg 9 ⟨_,rfl,⟨9,.chain⟩,Zc,rfl,rfl⟩).2;have zb:=hb.size;obtain⟨ct,stt,att⟩:=(hi.below hb uK).t.src;obtain⟨ad',cap',Z,hrun,hrw,ba,hle,hz0,hrm,⟨gq,hgq,hgb⟩⟩:=M9 (P:=prog) X 25 25 89 5 56 _ underlying25 LC Za 0 W.1.size g0 a3 x.tn c3 ct stt Za Za;have h:=hK (.l ad' x.tn cap') Z ba ⟨ad',cap',X.1.size,Bp,⟨λh0=>(hrw h0).1,λh0=>⟨ct,(hrw h0).2,att⟩⟩,λh0=>⟨by rw[NX Zb];exact s9,AT hN zb,hrm h0 Ze⟩,qN hle hrw hgq hgb (Ac hg0 ba.size),hz0⟩;refine Ag rfl rfl ?_;clear hK hg;refine EQ (.tmp 13) (.tmp 15) 25 25 rfl _ _ _ _ (by simpa[Act.eval,go_sem]using e10) (by simpa[Act.eval,go_sem]using e12) hrun ?_;simpa[Av,Act.put]using h
  .have e1:t 1=.i x.now:=(hg 1 (AQ rfl)).1;have e3:t 3=.i x.floor:=(hg 3 (AQ rfl)).1;obtain⟨b1,d1,g1,A1,C1,h1,e6,oa,qa,hor⟩:∃(b1:OA)(d1 g1:Nat)(A1:Nat->Option Addr)(C1 h1:Nat->Nat),t 6=.l b1 x.on d1/\L0 X b1 g1 x.on x.os A1 C1 h1/\(∀q,Md g1 x.on (λi=>(x.os i).hn) h1 q->W.1.size<=q/\q<s 6)/\iH X g1 x.on d1 x.os A1 C1 h1:=(hg 6 (AQ rfl)).1;obtain⟨s69,b2,d2,g2,A2,C2,h2,e9,hcap,ob,qb⟩:s 6<=s 9/\∃(b2:OA)(d2 g2:Nat)(A2:Nat->Option Addr)(C2 h2:Nat->Nat),t 9=.l b2 x.hn d2/\x.hn<=d2/\Lu X b2 g2 x.hn x.hs A2 C2 h2/\∀q,Md g2 x.hn (λi=>(x.hs i).ob.hn) h2 q->s 6<=q/\q<s 9/\W.1.size<=q:=(hg 9 (AQ rfl)).1;obtain⟨b3,d3,g3,e13,oc,qc,hcp,hz3⟩:∃(b3:OA)(d3 g3:Nat),t 13=.l b3 x.tn d3/\M2 X b3 g3 x.tn x.ts/\(0<x.tn->s 9<=g3/\W.1.size<=g3/\LT X g3 (d3*5))/\MW X x.tn b3 d3/\(x.tn=0->d3=0):=(hg 13 (AQ rfl)).1;have hP:TC x W.1.size X ⟨b1,b2,b3,g1,g2,g3,A1,C1,h1,A2,C2,h2⟩ d1 d2 d3:=⟨⟨oa,ob,oc,λq k1 k2=>by have z1:=(qa q k1).2;have z2:=(qb q k2).1;omega,λq k1 k3=>by have z1:=(qa q k1).2;have z2:=(qc k3.1).1;have z3:q=g3:=k3.2;omega,λq k2 k3=>by have z1:=(qb q k2).2.1;have z2:=(qc k3.1).1;have z3:q=g3:=k3.2;omega⟩,λq hq=>by rcases hq with h|h|h;exact(qa q h).1;exact(qb q h).2.2;exact h.2▸(qc h.1).2.1,hor,hcap,hcp,hz3,λh0=>(qc h0).2.2⟩;have h:=hK (.agg (vB x b1 b2 b3 d1 d2 d3)) X EF ⟨_,d1,d2,d3,Bp,hP⟩;refine Ag rfl rfl ?_;clear hK hg;go_simp;simpa[Av,e1,e3,e6,e9,e13]using h
 .intro t s X K hb hg hK;obtain⟨p,d1,d2,d3,e14,hP⟩:∃(p:Pl)(d1 d2 d3:Nat),t 14=.agg (vB x p.a1 p.a2 p.a3 d1 d2 d3)/\TC x W.1.size X p d1 d2 d3:=hg 14 Za;have rz:=hz.below hb hA;obtain⟨r0,r1,r2,r3,r4⟩:=Y0 rz;have rf:=rz.free;have rl:=rz.lt;have R5:=(((((rz.set (o:=0) Za (.i x.now)).set (o:=1) Za (.i x.floor)).set (o:=2) Za (.l p.a1 x.on d1)).set (o:=3) Za (.l p.a2 x.hn d2)).set (o:=4) Za (.l p.a3 x.tn d3));have F5:=((((((Az.refl (λq=>q=A) X).setCell (p:=⟨A,0,none⟩) rfl (.i x.now)).setCell (p:=⟨A,1,none⟩) rfl (.i x.floor)).setCell (p:=⟨A,2,none⟩) rfl (.l p.a1 x.on d1)).setCell (p:=⟨A,3,none⟩) rfl (.l p.a2 x.hn d2)).setCell (p:=⟨A,4,none⟩) rfl (.l p.a3 x.tn d3));have h:=hK _ _ ⟨t,p,d1,d2,d3,rfl,(hP.box F5 hA).low hN,R5.congr (λj hj=>by rcases(show j=0\/j=1\/j=2\/j=3\/j=4 by omega)with rfl|rfl|rfl|rfl|rfl<;>rfl),(hb.mono hN).trans (F5.below (λq hq e=>by have e':q=A:=e;omega) (AT hN hb.size))⟩;have HK:=Ah h;clear hK hg h R5 F5 rz;refine Ag rfl rfl ?_;go_simp;simpa[e14]using HK.out
 .rintro a X ⟨t,p,d1,d2,d3,rfl,z1,z2,z3⟩;exact hQ t p d1 d2 d3 X z1 z2 z3
theorem SI (x:Bk)(a1 a2 a3:OA)(c1 c2 c3:Nat)(w:World)(lo hi:Nat)(hhi:hi<=w.1.size)(l1:(x.on:Int)<=1048576)(l2:(x.hn:Int)<=1048576)(l3:(x.tn:Int)<=1048576)(hf:BL x)(hc:BF w lo hi x a1 a2 a3):Calls prog 73 #[.agg (vB x a1 a2 a3 c1 c2 c3)] w λe w'=>∃(p:Pl)(d1 d2 d3:Nat),e=.returned (.agg (vB x p.a1 p.a2 p.a3 d1 d2 d3))/\TC x w.1.size w' p d1 d2 d3/\Below w.1.size w w':=by have hb:Below w.1.size w ((w.alloc (.cells (vB x a1 a2 a3 c1 c2 c3) 27)).alloc (.cells #[.i 0,.i 0,.l none 0 0,.l none 0 0,.l none 0 0] 27)):=((Ao _ _).alloc uK _).alloc Zc _;have hi0:BF ((w.alloc (.cells (vB x a1 a2 a3 c1 c2 c3) 27)).alloc (.cells #[.i 0,.i 0,.l none 0 0,.l none 0 0,.l none 0 0] 27)) 0 ((w.alloc (.cells (vB x a1 a2 a3 c1 c2 c3) 27)).alloc (.cells #[.i 0,.i 0,.l none 0 0,.l none 0 0,.l none 0 0] 27)).1.size x a1 a2 a3:=((hc.below hb hhi).upTo (AT hhi hb.size)).lo0;have r1:=AN.new (w:=w) (l:=(Qq x a1 a2 a3 c1 c2 c3)) (t:=27) (An _ (.cells #[.i 0,.i 0,.l none 0 0,.l none 0 0,.l none 0 0] 27));have r2:=AN.new (w:=w.alloc (.cells (vB x a1 a2 a3 c1 c2 c3) 27)) (l:=[.i 0,.i 0,.l none 0 0,.l none 0 0,.l none 0 0]) (t:=27) EF;rw[Aw]at r2;have HB:=Ah hb;have HI:=Ah hi0;have H1:=Ah r1;have H2:=Ah r2;have HF:=Ah hf;clear hb hi0 r1 r2 hf hc;go_enter func73,ntmps73;go_wp2_with fail;generalize(w.alloc (.cells (vB x a1 a2 a3 c1 c2 c3) 27)).alloc (.cells #[.i 0,.i 0,.l none 0 0,.l none 0 0,.l none 0 0] 27)=W at HB HI H1 H2⊢;refine oC (λ_=>undef) x a1 a2 a3 c1 c2 c3 w.1.size (w.1.size+1) w.1.size W HB.size l1 l2 l3 HF HI H1.lt H1 H2.lt Za H2 (λq e=>e▸H2.lt) _ ?_;intro t p d1 d2 d3 X hP hrow hB;have z0:=hrow.cell 0 Zb;have z1:=hrow.cell 1 Zb;have z2:=hrow.cell 2 Zb;have z3:=hrow.cell 3 Zb;have z4:=hrow.cell 4 Zb;simp only[AR,Aa,Ab]at z0 z1 z2 z3 z4;have HP:=Ah hP;have HX:=Ah (HB.trans hB);clear hP hB hrow;go_wp2_with fail;refine bodyPost_ret (v:=.agg (vB x p.a1 p.a2 p.a3 d1 d2 d3)) (by simp[results,results73,go_sem,z0,z1,z2,z3,z4]) rfl ?_;exact⟨p,d1,d2,d3,rfl,HP,HX⟩
theorem RE (x:Bk)(a1 a2 a3:OA)(c1 c2 c3:Nat)(w:World)(lo hi:Nat)(hhi:hi<=w.1.size)(l1:(x.on:Int)<=1048576)(l2:(x.hn:Int)<=1048576)(l3:(x.tn:Int)<=1048576)(hf:BL x)(hc:BF w lo hi x a1 a2 a3):Calls prog 73 #[.agg (vB x a1 a2 a3 c1 c2 c3)] w λe w'=>∃(b1 b2 b3:OA)(d1 d2 d3:Nat),e=.returned (.agg (vB x b1 b2 b3 d1 d2 d3))/\BF w' w.1.size w'.1.size x b1 b2 b3/\(x.hn<=d2/\MW w' x.tn b3 d3)/\Below w.1.size w w':=by refine(SI x a1 a2 a3 c1 c2 c3 w lo hi hhi l1 l2 l3 hf hc).mono ?_;rintro e w' ⟨p,d1,d2,d3,rfl,hP,hB⟩;exact⟨_,_,_,d1,d2,d3,rfl,hP.at_.isIn hP.lo,⟨hP.h,hP.c⟩,hB⟩
end Go.Proofs.Ytnnjcenacidceaa
namespace Go.Proofs.Ytnnjcenacidceaa
open Go.RowKit Go.Maps Go.Proofs.Try
theorem Yj (w:World)(c:Array Value)(t:TypeId):Qa (w.alloc (.cells c t)) w.1.size c:=λi=>Ak w c t i
theorem aE{W:World}{B:Nat}{x:Bk}{a1 a2 a3:OA}{c1 c2 c3:Nat}(h:Qa W B (Xk x a1 a2 a3 c1 c2 c3)):W.cell? ⟨B,0,none⟩=some (.i x.now)/\W.cell? ⟨B,1,none⟩=some (.i x.floor)/\W.cell? ⟨B,2,none⟩=some (.slice a1 x.on c1)/\W.cell? ⟨B,3,none⟩=some (.slice a2 x.hn c2)/\W.cell? ⟨B,4,none⟩=some (.slice a3 x.tn c3):=⟨h 0,h 1,h 2,h 3,h 4⟩
theorem E4{B:Bk}(hv:Bc (LU B) 7=true):0<=B.floor/\B.floor<=B.now/\B.now<=1000000/\B.hn<=200/\(B.hn:Int)=B.now-B.floor/\∀i,i<B.hn->(B.hs i).ver=B.floor+1+i:=by have h0:=O3 (AP.1 hv 0 Za);have h3:KI B.now B.floor B.hn B.hs=true:=AP.1 hv 3 Za;unfold KI at h3;simp only[Al,decide_eq_true_eq]at h3;refine⟨h0.1,h0.2.1,h0.2.2,h3.1,h3.2.1,λi hi=>?_⟩;have:=AP.1 h3.2.2 i hi;simp only[Al,decide_eq_true_eq]at this;exact this.1
def L5 (x:Bk)(j:Nat):Bk:={x with floor:=x.floor+j,hn:=x.hn-j,hs:=λi=>x.hs (i+j)}
def mJ (x:Bk)(fl:Int):Nat:=(min fl x.now-x.floor).toNat
def fR (x:Bk)(fl:Int):Bk:=if Bc (LU x) 7 then L5 x (mJ x fl)else wS
theorem AB.to{w w':World}{lo hi:Nat}{ad:OA}{n:Nat}{s:Nat->ByteArray}(h:AB w lo hi ad n s)(e:∀q j,lo<=q->q<hi->w'.cell? ⟨q,j,none⟩=w.cell? ⟨q,j,none⟩):AB w' lo hi ad n s:=λi hi'=>by obtain⟨b,off,e1,e2,e3,e4⟩:=h i hi';exact⟨b,off,e1,e2,e3,(e _ _ e2 e3).trans e4⟩
theorem B4.to{w w':World}{lo hi lo2 hi2:Nat}{ad:OA}{n:Nat}{x:Nat->Ob}(h:B4 w lo hi ad n x)(e:∀q j,lo<=q->q<hi->w'.cell? ⟨q,j,none⟩=w.cell? ⟨q,j,none⟩)(h1:lo2<=lo)(h2:hi<=hi2):B4 w' lo2 hi2 ad n x:=λi hi'=>by obtain⟨b,off,ah,ch,e1,e2,e3,e4,e5⟩:=h i hi';exact⟨b,off,ah,ch,e1,Za,Za,⟨(e _ _ e2 e3).trans e4.c0,(e _ _ e2 e3).trans e4.c1,(e _ _ e2 e3).trans e4.c2,(e _ _ e2 e3).trans e4.c3,(e _ _ e2 e3).trans e4.c4,(e _ _ e2 e3).trans e4.c5,(e _ _ e2 e3).trans e4.c6⟩,λj hj=>by obtain⟨b',o',f1,f2,f3,f4⟩:=e5 j hj;exact⟨b',o',f1,Za,Za,(e _ _ f2 f3).trans f4⟩⟩
theorem CO.to{w w':World}{lo hi lo2 hi2:Nat}{ad:OA}{n:Nat}{x:Nat->Ch}(h:CO w lo hi ad n x)(e:∀q j,lo<=q->q<hi->w'.cell? ⟨q,j,none⟩=w.cell? ⟨q,j,none⟩)(h1:lo2<=lo)(h2:hi<=hi2):CO w' lo2 hi2 ad n x:=λi hi'=>by obtain⟨b,off,ah,ch,e1,e2,e3,e4,e5⟩:=h i hi';exact⟨b,off,ah,ch,e1,Za,Za,⟨(e _ _ e2 e3).trans e4.c0,(e _ _ e2 e3).trans e4.c1,(e _ _ e2 e3).trans e4.c2,(e _ _ e2 e3).trans e4.c3,(e _ _ e2 e3).trans e4.c4,(e _ _ e2 e3).trans e4.c5,(e _ _ e2 e3).trans e4.c6,(e _ _ e2 e3).trans e4.c7,(e _ _ e2 e3).trans e4.c8⟩,λj hj=>by obtain⟨b',o',f1,f2,f3,f4⟩:=e5 j hj;exact⟨b',o',f1,Za,Za,(e _ _ f2 f3).trans f4⟩⟩
theorem DZ.to{w w':World}{lo hi lo2 hi2:Nat}{ad:OA}{n:Nat}{x:Nat->Ti}(h:DZ w lo hi ad n x)(e:∀q j,lo<=q->q<hi->w'.cell? ⟨q,j,none⟩=w.cell? ⟨q,j,none⟩)(h1:lo2<=lo)(h2:hi<=hi2):DZ w' lo2 hi2 ad n x:=λi hi'=>by obtain⟨b,off,e1,e2,e3,e4⟩:=h i hi';exact⟨b,off,e1,Za,Za,⟨(e _ _ e2 e3).trans e4.c0,(e _ _ e2 e3).trans e4.c1,(e _ _ e2 e3).trans e4.c2,(e _ _ e2 e3).trans e4.c3,(e _ _ e2 e3).trans e4.c4⟩⟩
def QR (w:World)(lo X n j:Nat)(ad:OA)(c:Nat->Value):Prop:=∀t,t<(n-j)*9->∃b off,ad=some ⟨b,off,none⟩/\lo<=b/\b<w.1.size/\b≠X/\w.cell? ⟨b,off+t,none⟩=some (c (t+j*9))
theorem QR.fr{w w':World}{lo X n j:Nat}{ad:OA}{c:Nat->Value}{P:Nat->Prop}(h:QR w lo X n j ad c)(hf:Az P w w')(hp:∀q,lo<=q->q<w.1.size->q≠X->¬P q):QR w' lo X n j ad c:=λt ht=>by obtain⟨b,off,e1,e2,e3,e4,e5⟩:=h t ht;exact⟨b,off,e1,e2,Ac e3 hf.size,e4,(hf.cell (p:=⟨b,off+t,none⟩) e3 (hp b e2 e3 e4)).trans e5⟩
theorem QR.chgs{w:World}{lo hi X n j:Nat}{ad:OA}{c:Nat->Value}{x:Nat->Ch}{A:Nat->Option Addr}{C:Nat->Nat}(h:QR w lo X n j ad c)(hj:j<=n)(hat:∀i,i<n->Qr c i (x i) (A i) (C i))(hst:∀i,i<n->AB w lo hi (A i) (x i).ob.hn (x i).ob.hs)(hhi:hi<=w.1.size):CO w lo w.1.size ad (n-j) (λi=>x (i+j)):=λi hi'=>by
 obtain⟨b,off,e1,e2,e3,e4,_⟩:=h (i*9) Za;obtain⟨a0,a1,a2,a3,a4,a5,a6,a7,a8⟩:=hat (i+j) Za;have f:∀t v,t<9->c ((i+j)*9+t)=v->w.cell? ⟨b,off+i*9+t,none⟩=some v:=λt v ht hv=>by obtain⟨b',off',g1,_,_,_,g5⟩:=h (i*9+t) Za;rw[e1]at g1;cases g1;rw[Bq,g5,show i*9+t+j*9=(i+j)*9+t by omega,hv]
 refine⟨b,off,A (i+j),C (i+j),e1,e2,e3,⟨f 0 _ Za a0,f 1 _ Za a1,f 2 _ Za a2,f 3 _ Za a3,f 4 _ Za a4,f 5 _ Za a5,f 6 _ Za a6,f 7 _ Za a7,f 8 _ Za a8⟩,λq hq=>?_⟩;obtain⟨b',o',g1,g2,g3,g4⟩:=hst (i+j) Za q hq;exact⟨b',o',g1,g2,Za,g4⟩
def Rv (Bx:Nat)(now:Int)(w:World):Nat:=match w.cell? ⟨Bx,1,none⟩with
 |some (.i v)=>(now-v).toNat
 |_=>0
def cT (x:Bk)(fl:Int)(b1 b3:OA)(d1 d3:Nat)(c:Nat->Value)(w1 w2 wr:World):Prop:=∃(j:Nat)(b2':OA)(d2':Nat),j<=x.hn/\j<=mJ x fl/\x.hn-j<=d2'/\Below w2.1.size w2 wr/\AN wr w2.1.size 5 (AR [.i x.now,.i (x.floor+(j:Nat)),.l b1 x.on d1,.l b2' (x.hn-j:Nat) d2',.l b3 x.tn d3])/\QR wr w1.1.size w2.1.size x.hn j b2' c
def yM (y:Bk)(w:World)(e:Ending)(w':World):Prop:=∃(b1 b2 b3:OA)(d1 d2 d3:Nat),e=.returned (.agg (vB y b1 b2 b3 d1 d2 d3))/\BF w' w.1.size w'.1.size y b1 b2 b3/\MW w' y.tn b3 d3/\Below w.1.size w w'
theorem eZ{P:Prop}(h:P:=by
  have hjc2:j=mJ x fl:=by unfold mJ at hjc⊢;omega
  have rr:=Rr.below hb Za;obtain⟨t0,t1,t2,t3,t4⟩:=Y0 rr;have tf:=rr.free;have RW:=Ah (YC (v0:=.i x.now) (v1:=.i (x.floor+(j:Nat))) (v2:=.l b1 x.on d1) (v3:=.l b2' (x.hn-j:Nat) d2') (v4:=.l b3 x.tn d3) rr);have HE:=Ah hjc2;clear rr hjc2;go_wp2;have rw:=RW.out;obtain⟨u0,u1,u2,u3,u4⟩:=Y0 rw;refine bodyPost_ret (v:=.agg #[.i x.now,.i (x.floor+(j:Nat)),.l b1 x.on d1,.l b2' (x.hn-j:Nat) d2',.l b3 x.tn d3]) (by simp[results,results68,go_sem,u0,u1,u2,u3,u4]) rfl ?_;have FF:Az (λq=>q=w.1.size+1) wr _:=(((((Az.refl _ wr).setCell (p:=⟨w.1.size+1,0,none⟩) rK (.i x.now)).setCell (p:=⟨w.1.size+1,1,none⟩) rK (.i (x.floor+(j:Nat)))).setCell (p:=⟨w.1.size+1,2,none⟩) rK (.l b1 x.on d1)).setCell (p:=⟨w.1.size+1,3,none⟩) rK (.l b2' (x.hn-j:Nat) d2')).setCell (p:=⟨w.1.size+1,4,none⟩) rK (.l b3 x.tn d3);rw[<-HE.out];have zwr:=hb.size;have eC:∀q t,w1.1.size<=q->q<wr.1.size->World.cell? _ ⟨q,t,none⟩=wr.cell? ⟨q,t,none⟩:=λq t h1 h2=>FF.cell (p:=⟨q,t,none⟩) h2 (by show¬q=w.1.size+1;omega);have eO:∀q t,w1.1.size<=q->q<w2.1.size->World.cell? _ ⟨q,t,none⟩=w2.cell? ⟨q,t,none⟩:=λq t h1 h2=>(eC q t h1 Za).trans (hb.cell (p:=⟨q,t,none⟩) h2);have FIN:=And.intro (show BF _ w.1.size _ (L5 x j) b1 b2' b3 from⟨HX.o.to eO Za (AT zwr FF.size),((HC.fr FF (λq h1 _ _ e=>by omega)).chgs hj Vx (λi hi'=>(MU i hi').to eO) (AT zwr FF.size)).to (λ_ _ _ _=>rfl) Za uK,HX.t.to eO Za (AT zwr FF.size)⟩) ((hB2.trans (hb.mono hB2.size)).trans (FF.below (λq hq e=>by omega) Za));exact⟨b1,b2',b3,d1,d2',d3,rfl,FIN.1,yX.grow (AT zwr FF.size),FIN.2⟩):P:=h
theorem gG{P:Prop}(h:P:=by refine⟨r.lt,r.free,λq hq=>(r.cell q hq).trans (congrArg some ?_)⟩;rw[hh];rcases(show q=0\/q=1\/q=2\/q=3\/q=4 by omega)with rfl|rfl|rfl|rfl|rfl<;>rfl):P:=h
theorem Q9 (x:Bk)(a1 a2 a3:OA)(c1 c2 c3:Nat)(fl:Int)(w:World)(lo hi:Nat)(hhi:hi<=w.1.size)(l1:(x.on:Int)<=1048576)(l2:(x.hn:Int)<=1048576)(l3:(x.tn:Int)<=1048576)(hf:BL x)(hc:BF w lo hi x a1 a2 a3)(hv:Bc (LU x) 7=true):Calls prog 68 #[.agg (vB x a1 a2 a3 c1 c2 c3),.i fl] w λe w'=>yM (L5 x (mJ x fl)) w e w':=by
 obtain⟨i0,hi0,hz0,hz1,hz2⟩:=info_parts KO;obtain⟨v0,v1,v2,v3,v4,v5⟩:=E4 hv;go_enter func68,ntmps68;go_wp2_with (first
  |(go_at_call 21;go_must(refine(K2 x a1 a2 a3 c1 c2 c3 _ lo hi Zd hf (hc.below ((An _ _).alloc Zc _) hhi)).mono ?_;rw[hv];rintro e w1 ⟨rfl,hb1⟩;have hB1:Below w.1.size w w1:=((An _ _).alloc Zc _).trans (hb1.mono Zd);have H1:Qa w1 w.1.size (Xk x a1 a2 a3 c1 c2 c3):=((Yj w _ 27).below AG Zc).below hb1 Zd;obtain⟨p0,p1,p2,p3,p4⟩:=aE H1))
  |(go_at_call 73;go_must(refine(RE x a1 a2 a3 c1 c2 c3 _ lo hi (by have:=hB1.size;omega) l1 l2 l3 hf (hc.below hB1 hhi)).mono ?_;rintro e w2 ⟨b1,b2,b3,d1,d2,d3,rfl,hx2,⟨hcp2,hct2⟩,hb2⟩)));have hB2:Below w.1.size w w2:=hB1.trans (hb2.mono hB1.size);have zw1:w.1.size+1<w1.1.size:=by have:=hb1.size;simp at this;omega
 have zw2:=hb2.size;have Rr:AN w2 (w.1.size+1) 5 (AR [.i 0,.i 0,.l none 0 0,.l none 0 0,.l none 0 0]):=by have h:=AN.new (w:=w.alloc (.cells (vB x a1 a2 a3 c1 c2 c3) 27)) (l:=[.i 0,.i 0,.l none 0 0,.l none 0 0,.l none 0 0]) (t:=27) hb1;rw[Aw]at h;exact h.below hb2 Za
 have R0:AN (w2.alloc (.cells (vB x b1 b2 b3 d1 d2 d3) 27)) w2.1.size 5 (AR [.i x.now,.i (x.floor+(0:Nat)),.l b1 x.on d1,.l b2 x.hn d2,.l b3 x.tn d3]):=by have h:=AN.new (w:=w2) (l:=(Qq x b1 b2 b3 d1 d2 d3)) (t:=27) EF;simpa using h
 have HX:=Ah hx2;have yX:=Ah hct2;clear hct2;obtain⟨c,A,C,hsr,hat,hst⟩:=hx2.h.src;have uT:=Ah hsr.one;have Vx:=Ah hat;have MU:=Ah hst;have H0:QR (w2.alloc (.cells (vB x b1 b2 b3 d1 d2 d3) 27)) w1.1.size w2.1.size x.hn 0 b2 c:=λt ht=>by obtain⟨b,off,e1,e2,e3,e4⟩:=hsr.at_ t ht;exact⟨b,off,e1,e2,Zd,Za,by rw[N9,Bi];exact((An w2 _).cell (p:=⟨b,off+t,none⟩) e3).trans e4⟩
 clear hsr hat hst;clear H1 p0 p1 p2 p3 p4 hb1 hb2 hx2;go_loopw[12](λ_ wr=>cT x fl b1 b3 d1 d3 c w1 w2 wr)(λ_ wr=>Rv w2.1.size x.now wr);case atStart=>exact⟨0,b2,d2,At _,At _,hcp2,An _ _,R0,H0⟩
 case round=>
  obtain⟨j,b2',d2',hj,hjc,hdc,hb,hrow,hch⟩:=hrel;clear R0 H0;obtain⟨y0,y1,y2,y3,y4⟩:=Y0 hrow;have yf:=hrow.free;have HR:=Ah hrow;have HC:=Ah hch;clear hrow hch;by_cases hlt:x.floor+(j:Nat)<fl
  .by_cases h0:j<x.hn
   .obtain⟨m,hm⟩:∃m,x.hn-j=m+1:=⟨x.hn-j-1,Za⟩;rw[hm]at y3;obtain⟨b,off,rfl,hlo,hbh,hne,hc0⟩:=HC.out 0 Za;have hv0:c (0+j*9)=.i (x.floor+((j:Int)+1)):=by have h1:=(Vx j Za).1;rw[A6,h1,v5 j Za];simp;omega
    rw[hv0,Bi]at hc0;clear hv0;have zwr:=hb.size;have hbx:=HR.lt;obtain⟨W1,hW1⟩:∃W1,wr.setCell ⟨w2.1.size,1,none⟩ (.i (x.floor+((j:Int)+1)))=W1:=⟨_,rfl⟩;have R1:=HR.set (o:=1) Za (.i (x.floor+((j:Int)+1)));rw[hW1]at R1;have F1:Az (λq=>q=w2.1.size) wr W1:=by rw[<-hW1];exact Az.setCell (Az.refl _ _) (p:=⟨w2.1.size,1,none⟩) rK _
    have R2:=R1.fr (Aq (P:=λ_=>False) (An W1 (.cells #[] 40))) (λh=>h);have k3:(W1.alloc (.cells #[] 40)).cell? ⟨w2.1.size,3,none⟩=some (.slice (some ⟨b,off,none⟩) (m+1:Nat) d2'):=by rw[R2.cell 3 Za];show some (Value.slice (some ⟨b,off,none⟩) (x.hn-j:Nat) d2')=_;rw[hm]
    have z1:=F1.size;have M1:Rv w2.1.size x.now wr=(x.now-(x.floor+(j:Nat))).toNat:=by unfold Rv;rw[y1]
    have jK:=Ah M1;have hns:(W1.alloc (.cells #[] 40)).ownsRow wr.1.size 40 9 (.l (some ⟨W1.1.size,0,none⟩) 0 0) 0 []:=GQ (base:=wr.1.size) (e:=40) (size:=9) W1 #[] 0 z1 Cf rfl;have xF:=Ah (show∀t,t<m*9->(W1.alloc (.cells #[] 40)).cell? ⟨b,off+9+t,none⟩=some (c (t+9+j*9))from λt ht=>by obtain⟨b',off',g1,g2,g3,g4,g5⟩:=HC (t+9) Za;cases g1;rw[Bq,Nat.add_comm 9 t,(An W1 (.cells #[] 40)).cell (p:=⟨b,off+(t+9),none⟩) Zk,F1.cell (p:=⟨b,off+(t+9),none⟩) hbh hne,g5]);have hWz:W1.1.size=wr.1.size:=by rw[<-hW1];simp
    have BW:=Ah (hb.trans ((F1.below (B:=w2.1.size) (λq hq e=>by omega) Za).trans ((An W1 (.cells #[] 40)).mono Za)));have iY:=Ah R2;clear M1 R1 R2 F1;subst hW1;rw[hWz]at hns;cases m with
    |zero=>have hh:x.hn-(j+1)=0:=Za;have HF:=Ah (show cT x fl b1 b3 d1 d3 c w1 w2 (((wr.setCell ⟨w2.1.size,1,none⟩ (.i (x.floor+((j:Int)+1)))).setCell ⟨w2.1.size,3,none⟩ (.l (some ⟨wr.1.size,0,none⟩) 0 0)).alloc (.cells #[] 40))/\Rv w2.1.size x.now (((wr.setCell ⟨w2.1.size,1,none⟩ (.i (x.floor+((j:Int)+1)))).setCell ⟨w2.1.size,3,none⟩ (.l (some ⟨wr.1.size,0,none⟩) 0 0)).alloc (.cells #[] 40))<Rv w2.1.size x.now wr by
      have r:=((HR.set (o:=1) Za (.i (x.floor+((j:Int)+1)))).set (o:=3) Za (.l (some ⟨wr.1.size,0,none⟩) 0 0)).fr (Aq (P:=λ_=>False) (An _ (.cells #[] 40))) (λh=>h);have RF:AN (((wr.setCell ⟨w2.1.size,1,none⟩ (.i (x.floor+((j:Int)+1)))).setCell ⟨w2.1.size,3,none⟩ (.l (some ⟨wr.1.size,0,none⟩) 0 0)).alloc (.cells #[] 40)) w2.1.size 5 (AR [.i x.now,.i (x.floor+((j+1:Nat):Int)),.l b1 x.on d1,.l (some ⟨wr.1.size,0,none⟩) (x.hn-(j+1):Nat) 0,.l b3 x.tn d3]):=by exact gG
      refine⟨⟨j+1,some ⟨wr.1.size,0,none⟩,0,Za,by unfold mJ;omega,Za,?_,RF,λt ht=>by rw[hh]at ht;omega⟩,?_⟩;.exact hb.trans ((((Ao w2.1.size wr).setCell (p:=⟨w2.1.size,1,none⟩) uK _).setCell (p:=⟨w2.1.size,3,none⟩) uK _).alloc Zd _)
      .have e1:=RF.cell 1 Za;rw[jK.out];unfold Rv;rw[e1];show(x.now-(x.floor+((j+1:Nat):Int))).toNat<_;omega);clear hns hh;go_wp2_with (at_builtin;go_must(refine Mb rfl _ _ 24 rfl 40 i0 underlying24 hi0 _ _ 0 0 uK rfl _ _ rfl ?_));exact HF
    |succ m=>
     have hh:x.hn-(j+1)=m+1:=Za;have WQ:=Ah (show∀t u,(AM ((m+1)*9) (λt=>c (t+9+j*9)))[t]?=some u->((wr.setCell ⟨w2.1.size,1,none⟩ (.i (x.floor+((j:Int)+1)))).alloc (.cells #[] 40)).cell? ((⟨b,off+9,none⟩:Addr).add t)=some u from λt u hu=>by
      obtain⟨h1,rfl⟩:=Ng hu;have e:((⟨b,off+9,none⟩:Addr).add t)=⟨b,off+9+t,none⟩:=by unfold Addr.add;split<;>simp_all
      rw[e];exact xF t h1);have VH:=Ah (show∀u∈AM ((m+1)*9) (λt=>c (t+9+j*9)),u.oneCell'=true from λu hu=>by
      obtain⟨t,ht,rfl⟩:=MR.1 hu;have ht':t<(m+1)*9:=by simpa using ht
      exact uT _ Za);have hm2:m<=200:=Za;have hd1:¬d2'=1:=Za;clear xF;go_wp2_with (at_builtin;go_must(refine wpList_append_own_at _ rfl _ _ 24 rfl wr.1.size 40 i0 _ 9 112 underlying24 hi0 hz0 hz1 hz2 rfl Zb _ 0 [] rfl hns ⟨b,off+9,none⟩ (m+1) _ (AM ((m+1)*9) (λt=>c (t+9+j*9))) rfl (AW _ _) WQ VH Zm Za Zc ?_;intro v' w3 hown3 hgrow3 hnil3 hat3;simp only[A6,Eg]at hown3;have uZ:=Ah hown3;obtain⟨g',cap',rfl,hg3,hr3⟩:=SK hown3 (Nat.succ_pos m);have vQ:=Ah (kU uZ (Nat.succ_pos m));have r3:=iY.fr (BI hgrow3) (λe=>by have e2:some wr.1.size=some w2.1.size:=e;injection e2 with e2;omega);have k3b:=r3.cell 3 Za;have k3f:=r3.free 3;have FG:=Ah (BI hgrow3);have qV:=Ah hr3;have aj:=Ah r3;clear hown3 hgrow3 hnil3 hat3 hr3 r3));have zw3:=FG.size;simp only[Aw,Bj]at zw3;have r:=aj.set (o:=3) Za (.l (some ⟨g',0,none⟩) (m+1:Nat) cap');have RF:AN (w3.setCell ⟨w2.1.size,3,none⟩ (.l (some ⟨g',0,none⟩) (m+1:Nat) cap')) w2.1.size 5 (AR [.i x.now,.i (x.floor+((j+1:Nat):Int)),.l b1 x.on d1,.l (some ⟨g',0,none⟩) (x.hn-(j+1):Nat) cap',.l b3 x.tn d3]):=by exact gG
     refine⟨⟨j+1,some ⟨g',0,none⟩,cap',Za,by unfold mJ;omega,by rw[hh];exact vQ,?_,RF,λt ht=>?_⟩,?_⟩;.exact((BW.trans (FG.below (λq hq e=>by have e2:some wr.1.size=some q:=e;injection e2 with e2;omega) Zd)).setCell (p:=⟨w2.1.size,3,none⟩) uK _)
     .rw[hh]at ht;refine⟨g',0,rfl,Za,by simpa using qV.lt,Za,?_⟩;rw[A6,As _ _ _ _ (by intro e;injection e with e1;omega),qV.cell t ht,show t+9+j*9=t+(j+1)*9 by omega]
     .have e1:=RF.cell 1 Za;rw[jK.out];unfold Rv;rw[e1];show(x.now-(x.floor+((j+1:Nat):Int))).toNat<_;omega
   .exact eZ
  .exact eZ
structure Lm (w:World)(R n f:Nat)(x:Nat->Ch)(A:Nat->Option Addr)(C:Nat->Nat):Prop where
 room:LT w R 1800
 at_:∀i,i<n->Dk w R ((f+1+i)%200*9) (x i) (A i) (C i)
theorem Sm (x:Bk)(a1 a2 a3:OA)(c1 c2 c3:Nat)(fl:Int)(w:World)(lo hi:Nat)(hhi:hi<=w.1.size)(hf:BL x)(hc:BF w lo hi x a1 a2 a3)(hv:Bc (LU x) 7=false):Calls prog 68 #[.agg (vB x a1 a2 a3 c1 c2 c3),.i fl] w λe w'=>e=.returned (.agg #[.i 0,.i 0,.l none 0 0,.l none 0 0,.l none 0 0])/\Below w.1.size w w':=by go_enter func68,ntmps68;go_wp2_with (go_at_call 21;go_must(refine(K2 x a1 a2 a3 c1 c2 c3 _ lo hi Zd hf (hc.below ((An _ _).alloc Zc _) hhi)).mono ?_;rw[hv];rintro e w1 ⟨rfl,hb1⟩;have R1:=AN.new (l:=[.i 0,.i 0,.l none 0 0,.l none 0 0,.l none 0 0]) hb1;have r0:=R1.cell 0 Zb;have r1:=R1.cell 1 Zb;have r2:=R1.cell 2 Zb;have r3:=R1.cell 3 Zb;have r4:=R1.cell 4 Zb;have rf:=R1.free;simp only[AR,Aa,Ab,Aw]at r0 r1 r2 r3 r4 rf;have RW:=Ah R1;clear R1));have rw:=YC (v0:=.i 0) (v1:=.i 0) (v2:=.l none 0 0) (v3:=.l none 0 0) (v4:=.l none 0 0) (show AN w1 (w.1.size+1) 5 _ from by have h:=RW.out;rw[Aw]at h;exact h);obtain⟨u0,u1,u2,u3,u4⟩:=Y0 rw;refine bodyPost_ret (v:=.agg #[.i 0,.i 0,.l none 0 0,.l none 0 0,.l none 0 0]) (by simp[results,results68,go_sem,u0,u1,u2,u3,u4]) rfl ⟨rfl,?_⟩;have FF:=(((((Az.refl (λq=>q=w.1.size+1) w1).setCell (p:=⟨w.1.size+1,0,none⟩) rK (.i 0)).setCell (p:=⟨w.1.size+1,1,none⟩) rK (.i 0)).setCell (p:=⟨w.1.size+1,2,none⟩) rK (.l none 0 0)).setCell (p:=⟨w.1.size+1,3,none⟩) rK (.l none 0 0)).setCell (p:=⟨w.1.size+1,4,none⟩) rK (.l none 0 0);have zb:=hb1.size;simp only[Aw]at zb;exact(((An _ _).alloc Zc _).trans (hb1.mono Zd)).trans (FF.below (λq hq e=>by omega) Za)
theorem tP (w:World)(lo hi:Nat)(a1 a2 a3:OA):BF w lo hi wS a1 a2 a3:=⟨λ_i hi'=>absurd hi' (Aj _),λ_i hi'=>absurd hi' (Aj _),λ_i hi'=>absurd hi' (Aj _)⟩
theorem XU (x:Bk)(a1 a2 a3:OA)(c1 c2 c3:Nat)(fl:Int)(y:Bk)(hy:fR x fl=y)(w:World)(lo hi:Nat)(hhi:hi<=w.1.size)(l1:(x.on:Int)<=1048576)(l2:(x.hn:Int)<=1048576)(l3:(x.tn:Int)<=1048576)(hf:BL x)(hc:BF w lo hi x a1 a2 a3):Calls prog 68 #[.agg (vB x a1 a2 a3 c1 c2 c3),.i fl] w λe w'=>yM y w e w':=by cases hv:Bc (LU x) 7 with
 |false=>
  have e:y=wS:=by rw[<-hy];simp[fR,hv]
  subst e;refine(Sm x a1 a2 a3 c1 c2 c3 fl w lo hi hhi hf hc hv).mono ?_;rintro e w' ⟨rfl,hb⟩;exact⟨none,none,none,0,0,0,rfl,tP _ _ _ _ _ _,⟨AD _,AA ⟨rfl,rfl,rfl⟩⟩,hb⟩
 |true=>
  have e:y=L5 x (mJ x fl):=by rw[<-hy];simp[fR,hv]
  subst e;exact Q9 x a1 a2 a3 c1 c2 c3 fl w lo hi hhi l1 l2 l3 hf hc hv
end Go.Proofs.Ytnnjcenacidceaa
