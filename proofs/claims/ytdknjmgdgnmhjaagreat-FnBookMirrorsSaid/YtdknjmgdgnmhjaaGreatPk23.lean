import Derived.Test.YtdknjmgdgnmhjaaGreatPk22
set_option maxRecDepth 100000
set_option maxHeartbeats 8000000
namespace Go.Proofs.YtdknjmgdgnmhjaaGreat
open Go.RowKit Go.Maps Go.Proofs.Tryz
variable {B V:Bk}{x:Bu}{c:Ca}{w w' X Y:World}{a1 a2 a3 ad u1 u2 b1 b2 b3:OA}{c3 R g n nn cap p k c1 c2 m1 m2 M d1 d2 g1 g2 p' q' p0 k' o Nb e1 e2 e3 base lo hi:Nat}{v:Wt}{P:Nat→Prop}{A:Nat→Option Addr}{C hb:Nat→Nat}
theorem jS(B:Bk)(v:Wr):0<=B8 B v/\B8 B v<=8:=by
 unfold B8 DE;repeat' split
 all_goals decide
theorem yN{B:Bk}{x:Bu}(hf:BS B)(hv:VB B)(hu:MM x)(hb:Xm x):∀k,k<=x.rn->(∀j,j<k->Vs B x j=true)->VB (Du B x.rs k)/\(Du B x.rs k).tn=B.tn/\(Du B x.rs k).ts=B.ts/\B.v<=(Du B x.rs k).v
 |0,_,_=>⟨hv,rfl,rfl,Fc _⟩
 |k+1,hk,h=>by obtain⟨a,b,c,d⟩:=yN hf hv hu hb k Za (λj hj=>h j Za);refine⟨Rq a (Z4 hf (PD hv) hu hb k Za (λj hj=>h j Za)) (of_decide_eq_true (h k Za)),b,c,?_⟩;show B.v<=(Du B x.rs k).v+1;omega
theorem Acm (hf:BS B)(hv:VB B)(hu:MM x)(hb:Xm x):VB (BV B x)/\(BV B x).tn=B.tn/\(BV B x).ts=B.ts/\B.v<=(BV B x).v/\0<=CM B x/\CM B x<=9/\0<=Dc B x/\Dc B x<=(BV B x).v:=by
 have c:0<=CM B x/\CM B x<=9:=by
  unfold CM;split;.decide
  .split;.have:=jS (Du B x.rs (YR B x)) (x.rs (YR B x));omega
   .decide
 unfold BV Dc;by_cases e:wX B x<x.wn\/YR B x<x.rn;.rw[if_pos e,if_pos e];have:=hv.n0;have:=hv.n1;exact⟨hv,rfl,rfl,Fc _,c.1,c.2,Fc _,Za⟩
 .rw[if_neg e,if_neg e];obtain⟨q1,q2,_⟩:=QF (Vs B x) x.rn;have hw:YR B x=x.rn:=by unfold YR at e⊢;omega
  obtain⟨a,b,cc,d⟩:=yN hf hv hu hb x.rn A9 (λj hj=>q2 j (by unfold YR at hw;omega));have:=a.n0;have:=a.n1;exact⟨a,b,cc,d,c.1,c.2,Za,Fc _⟩
theorem Aa1 (h:Iz B.tn B.ts B.v=true):∀i j,i<j->j<B.tn->Gt (B.ts i).c (B.ts j).c=true:=by unfold Iz Pv at h;simp only[As,AS]at h;intro i j P4;induction j with
 |zero=>omega
 |succ j ih=>
  intro hj;have s:=h.2.1 (j+1) hj;have s:Gt (B.ts j).c (B.ts (j+1)).c=true:=by simpa using s
  by_cases e:i=j;.subst e;exact s
  .exact K5 (ih Za Za) s
theorem Ace (hf:BS B)(hv:VB B)(hu:MM c.bu)(h1:dB c=true)(h2:Ql c.bu=true)(h3:Qk B c=true):VB (LM B c):=by
 obtain⟨a,b,cc,d,c0,c1,v0,v1⟩:=Acm hf hv hu (Kg h2);have ht:=hv.ti;have Qa:=Aa1 ht;unfold Iz at ht;simp only[As,AS,decide_eq_true_eq]at ht;unfold dB at h1;simp only[As]at h1;obtain⟨r1,r2,r3⟩:=Kz (λi=>(B.ts i).c) c.c B.tn;have hk:Eb B c.c=Gu (λi=>(B.ts i).c) c.c B.tn:=rfl;rw[<-hk]at r1 r2 r3;have Jh:Mc (NX B c) (BV B c.bu).v=true:=by unfold Mc NX;simp only[As,decide_eq_true_eq];exact⟨h1.1,h1.2,rfl,H7 ⟨c0,c1⟩,H7 ⟨v0,v1⟩⟩
 have hold:∀i,i<B.tn->Mc (B.ts i) (BV B c.bu).v=true:=λi hi=>by have:=ht.2.2 i hi;exact wj
 refine⟨a.n0,a.n1,a.n2,a.on,a.asc,a.fit,a.vd,a.hn,a.hnow,a.t,a.chg,a.liv,a.agO,a.agH,?_⟩;show Iz (if Jz B c.c then B.tn else B.tn+1) (Lv B.ts (Eb B c.c) (Jz B c.c) (NX B c)) (BV B c.bu).v=true;unfold Qk at h3;unfold Iz Pv;simp only[As,AS,decide_eq_true_eq];cases hi:Jz B c.c with
 |true=>
  unfold Jz at hi;simp only[As,decide_eq_true_eq]at hi;simp only[if_true];refine⟨ht.1,λi h=>?_,λi h=>?_⟩;.cases i with
   |zero=>rfl
   |succ i=>
    have hA:=Qa i (i+1) Za h;show((i+1==0)||Gt (Lv B.ts (Eb B c.c) true (NX B c) (i+1-1)).c (Lv B.ts (Eb B c.c) true (NX B c) (i+1)).c)=true;have cl:∀j,(Lv B.ts (Eb B c.c) true (NX B c) j).c=(B.ts j).c:=λj=>by
     unfold Lv;split;.rfl
     .split;.rename_i e;subst e;exact hi.2.symm
      .rfl
    rw[cl,cl,Nm,hA,Bool.or_true]
  .unfold Lv;split;.exact hold i h
   .split;.exact Jh
    .exact hold i h
 |false=>
  rw[hi]at h3;simp only[Fo,if_false]at h3⊢;have h3:=of_decide_eq_true h3;have CF:Eb B c.c<B.tn->¬(B.ts (Eb B c.c)).c=c.c:=λq e=>by unfold Jz at hi;rw[decide_eq_true q,decide_eq_true e]at hi;cases hi
  refine⟨Za,λi h=>?_,λi h=>?_⟩;.cases i with
   |zero=>rfl
   |succ i=>
    show((i+1==0)||Gt (Lv B.ts (Eb B c.c) false (NX B c) (i+1-1)).c (Lv B.ts (Eb B c.c) false (NX B c) (i+1)).c)=true;rw[Nm];suffices q:Gt (Lv B.ts (Eb B c.c) false (NX B c) i).c (Lv B.ts (Eb B c.c) false (NX B c) (i+1)).c=true by rw[q,Bool.or_true]
    unfold Lv;by_cases e1:i+1<Eb B c.c;.rw[if_pos Za,if_pos e1];exact Qa i (i+1) Za Za
    .by_cases e2:i+1=Eb B c.c;.rw[if_pos Za,if_neg e1,if_pos e2];exact r2 i Za
     .by_cases e3:i=Eb B c.c;.rw[if_neg Za,if_pos e3,if_neg e1,if_neg e2];show Gt c.c (B.ts (i+1-1)).c=true;rw[Nm,e3];exact QG (r3 Za) (CF Za)
      .rw[if_neg Za,if_neg e3,if_neg e1,if_neg e2];show Gt (B.ts (i-1)).c (B.ts (i+1-1)).c=true;rw[Nm];exact Qa (i-1) i Za Za
  .unfold Lv;split;.exact hold i Za
   .split;.exact Jh
    .exact hold (i-1) Za
theorem Aa6 (hf:BS B)(hv:VB B)(hu:MM c.bu):VB (H5 B c):=by
 unfold H5;split;.rename_i h;exact Ace hf hv hu h.1 h.2.1 h.2.2
 .exact hv
theorem XN (B:Bk)(v:Wr)(a1 a2 a3:OA)(c1 c2 c3:Nat)(w:World)(hwr:N7 v=false)(wf:Q7 v):Calls prog 30 #[.agg (vB B a1 a2 a3 c1 c2 c3),.agg (vW v)] w λe w'=>e=.returned (.agg #[.i 2,.i B.v,.i B.f,.l a1 B.on c1,.l a2 B.hn c2,.l a3 B.tn c3,.i 0])/\Below w.1.size w w':=by
 have B3:∀o1 o2 o3,Below w.1.size w (((w.alloc o1).alloc o2).alloc o3):=λo1 o2 o3=>(((Ap _ _).alloc A9 _).alloc Ze _).alloc Zd _;have Gj:=Ab B3;clear B3;have HWR:=Ab hwr;have x_:=Ab wf;clear hwr wf;go_enter func30,ntmps30;go_wp2_with fail;refine(GY v x_ _).mono ?_;rintro e w1⟨rfl,AU⟩;rw[HWR.out];have z1:w.1.size+1+1<w1.1.size:=by have:=AU.size;simp at this;omega
 have MA:=Ab AU;have Kr:=Ab ((Gj _ _ _).trans (AU.mono Zd));obtain⟨X0,X1,X2,Y1,Y2⟩:=BI AU;obtain⟨b0,b1,b2,b3,b4⟩:=Oo X0;obtain⟨p0,p1,p2,p3,p4,p5⟩:=SB X1;obtain⟨r0,r1,r2,r3,r4,r5,r6⟩:=je X2;clear X0 X1 X2;clear AU;go_wp2;refine bodyPost_ret (v:=.agg #[.i 2,.i B.v,.i B.f,.l a1 B.on c1,.l a2 B.hn c2,.l a3 B.tn c3,.i 0]) Zbs rfl ⟨rfl,by repeat(first|with_reducible exact Kr.out|with_reducible refine Bs ?_ Zh _|with_reducible refine Cz ?_ Zh _|with_reducible refine CB ?_)⟩
structure Ip (w:World)(B:Bk)(a1 a2 a3:OA)(c3:Nat):Prop where
 v:VB B
 f:BS B
 i:BL w 0 w.1.size B a1 a2 a3
 c:Kw w B.tn a3 c3
theorem Ip.below (h:Ip w B a1 a2 a3 c3)(hb:Below w.1.size w w'):Ip w' B a1 a2 a3 c3:=⟨h.v,h.f,h.i.grow hb,h.c.grow hb.size⟩
def DoP (w:World)(e:Ending)(w':World):Prop:=Below w.1.size w w'/\∃(cd:Int)(Y:Bk)(b1 b2 b3:OA)(e1 e2 e3:Nat)(ve:Int),e=.returned (.agg #[.i cd,.i Y.v,.i Y.f,.l b1 Y.on e1,.l b2 Y.hn e2,.l b3 Y.tn e3,.i ve])/\Ip w' Y b1 b2 b3 e3
theorem X7 (B:Bk)(v:Wr)(a1 a2 a3:OA)(c1 c2 c3:Nat)(w:World)(hb:Ip w B a1 a2 a3 c3)(hv:aE v):Calls prog 30 #[.agg (vB B a1 a2 a3 c1 c2 c3),.agg (vW v)] w λe w'=>DoP w e w':=by cases hw:N7 v with
 |false=>refine(XN B v a1 a2 a3 c1 c2 c3 w hw hv.fit).mono ?_;exact dr
 |true=>
  have Cj:=ZF hb.f (PD hb.v) hw hv.fit;by_cases h0:B8 B v=0;.refine(UW B v a1 a2 a3 c1 c2 c3 w Cj hb.i h0).mono ?_;rintro e w'⟨h,x1,x2,x3,y1,y2,y3,rfl,Cs,rfl,rfl⟩;exact⟨h,_,Jd B v,x1,x2,x3,y1,y2,y3,_,rfl,Rq hb.v Cj h0,(UL Cj).1,Cs,hb.c.grow h.size⟩
  .by_cases h4:B8 B v=4;.refine(aJ B v a1 a2 a3 c1 c2 c3 w Cj hb.i h4).mono ?_;exact dr
   .refine(Si B v a1 a2 a3 c1 c2 c3 w Cj hb.i h0 h4).mono ?_;exact dr
def Dr3 (R:Nat)(ad:OA)(nn cap p:Nat)(w:World)(e:Ending)(w':World):Prop:=∃(x:Bu)(u1 u2:OA)(d1 d2:Nat),e=.returned (.agg (vU x u1 u2 d1 d2))/\aA x/\IX w' 0 w'.1.size x u1 u2/\Dn R ad nn cap p 400 w w'
def L3C (w:World)(B:Bk)(R:Nat)(ad:OA)(nn cap p k:Nat)(a1 a2 a3:OA)(c1 c2 c3 m1 m2:Nat)(X:World):Prop:=∃x u1 u2 d1 d2 g1 g2 p',p<=p'/\p'<=p+k/\x.wn<=m1/\x.rn<=m2/\SA w B R ad nn cap p' a1 a2 a3 c1 c2 c3 x u1 u2 d1 d2 g1 g2 X
structure L3W (w:World)(B:Bk)(R:Nat)(ad:OA)(nn cap p k:Nat)(a1 a2 a3:OA)(c1 c2 c3 m1 m2:Nat)(M:Nat)(x:Bu)(u1 u2:OA)(d1 d2 g1 g2 p':Nat)(v:Wt)(X:World):Prop where
 b:p<=p'/\p'<=p+k/\x.wn<=m1/\x.rn<=m2
 l:SA w B R ad nn cap p' a1 a2 a3 c1 c2 c3 x u1 u2 d1 d2 g1 g2 X
 m:AE X M 3 (AV (fL v))i:WtI v
 M0:w.1.size+1+1+1<=M
 n1:0<d1->¬M=g1
 n2:0<d2->¬M=g2
def L3V (w:World)(B:Bk)(R:Nat)(ad:OA)(nn cap p k:Nat)(a1 a2 a3:OA)(c1 c2 c3 m1 m2:Nat)(M:Nat)(X:World):Prop:=∃x u1 u2 d1 d2 g1 g2 p' v,L3W w B R ad nn cap p k a1 a2 a3 c1 c2 c3 m1 m2 M x u1 u2 d1 d2 g1 g2 p' v X
structure Xf (w:World)(B:Bk)(R:Nat)(ad:OA)(nn cap p k:Nat)(a1 a2 a3:OA)(c1 c2 c3 m1 m2:Nat)(Nb:Nat)(x:Bu)(u1 u2:OA)(d1 d2 g1 g2 p':Nat)(Y:Bk)(b1 b2 b3:OA)(e1 e2 e3:Nat)(X:World):Prop where
 b:p<=p'/\p'<=p+k/\x.wn<=m1/\x.rn<=m2
 l:SA w B R ad nn cap p' a1 a2 a3 c1 c2 c3 x u1 u2 d1 d2 g1 g2 X
 m:AE X Nb 5 (AV (JR Y b1 b2 b3 e1 e2 e3))i:Ip X Y b1 b2 b3 e3
 N0:w.1.size+1+1+1<=Nb
 n1:0<d1->¬Nb=g1
 n2:0<d2->¬Nb=g2
 ns:IC X Nb
def L3M (w:World)(B:Bk)(R:Nat)(ad:OA)(nn cap p k:Nat)(a1 a2 a3:OA)(c1 c2 c3 m1 m2:Nat)(Nb:Nat)(X:World):Prop:=∃x u1 u2 d1 d2 g1 g2 p' Y b1 b2 b3 e1 e2 e3,Xf w B R ad nn cap p k a1 a2 a3 c1 c2 c3 m1 m2 Nb x u1 u2 d1 d2 g1 g2 p' Y b1 b2 b3 e1 e2 e3 X
theorem Ip.pick (h:Ip X B a1 a2 a3 c3)(hf:AB (λq=>q=R) X Y)(hn:∀j s,¬X.cell? ⟨R,j,none⟩=some (.s s)):Ip Y B a1 a2 a3 c3:=⟨h.v,h.f,(h.i.box hf hn A9).upTo hf.size,h.c.grow hf.size⟩
theorem Ip.app{d:Nat}(h:Ip X B a1 a2 a3 c3)(hf:AB (λq=>0<d/\q=g) X Y)(hp:0<d->SZ X g n)(hk:0<d->∀j,j<n->Y.cell? ⟨g,j,none⟩=X.cell? ⟨g,j,none⟩):Ip Y B a1 a2 a3 c3:=by
 refine⟨h.v,h.f,BL.upTo (hi:=X.1.size) ?_ hf.size,h.c.grow hf.size⟩;rcases Bi d with h0|h0;.exact h.i.below ⟨hf.os,hf.tape,hf.output,hf.size,λi hi=>hf.block i hi (λe=>by omega)⟩ A9
 .exact sr h.v h.i A9 (hf.mono (λk e=>e.2)) (hp h0) (hk h0)
theorem jJ{w3:World}{y:Nat}(hf:AB (λq=>q=R) (w.alloc (.cells #[.s ⟨#[120]⟩,.s ⟨#[103,111,110,101]⟩] 9)) w3)(hR:¬w.1.size=R)(hy:(y:Int)<2):∃s:ByteArray,(s.size:Int)<=140737488355328/\w3.cell? ⟨w.1.size,y,none⟩=some (.s s):=by have e:=hf.cell (p:=⟨w.1.size,y,none⟩) Ze hR;have n:(w.alloc (.cells #[.s ⟨#[120]⟩,.s ⟨#[103,111,110,101]⟩] 9)).cell? ⟨w.1.size,y,none⟩=_:=Al w #[.s ⟨#[120]⟩,.s ⟨#[103,111,110,101]⟩] 9 y;rw[e,n];rcases(show y=0\/y=1 by omega)with rfl|rfl;all_goals exact⟨_,Zb,rfl⟩
theorem fN (X:World)(l:List Value)(t:TypeId)(h1:∀j,j<l.length->(AV l j).oneCell'=true):Cr (X.alloc (.cells l.toArray t)) X.1.size (X.1.size+1) (some ⟨X.1.size,0,none⟩) l.length (AV l):=⟨λj hj=>⟨X.1.size,0,rfl,AG _,BE _,by rw[A6];exact(AE.new (l:=l) (t:=t) Dx).cell j hj⟩,h1⟩
theorem PM (h:VB B):B.on<=100/\∀i,i<B.on->(B.os i).hn<=100:=⟨h.on,λi hi=>by have:=(h.fit i hi).1;simp only[Bv,D7,As,decide_eq_true_eq]at this;omega⟩
theorem L3W.pick (h:L3W w B R ad nn cap p k a1 a2 a3 c1 c2 c3 m1 m2 M x u1 u2 d1 d2 g1 g2 p' v X)(hw:Rd w R ad nn cap p0)(hf:AB (λq=>q=R) X Y)(hr:Rd Y R ad nn cap q')(hq:p'<=q')(hk:q'<=p+k'):L3W w B R ad nn cap p k' a1 a2 a3 c1 c2 c3 m1 m2 M x u1 u2 d1 d2 g1 g2 q' v Y:=have hR:=hw.lt
 ⟨⟨AJ h.b.1 hq,hk,h.b.2.2⟩,h.l.pick hw hf hr,h.m.fr2 hf (by have:=h.M0;omega),h.i,h.M0,h.n1,h.n2⟩
theorem L3W.set (h:L3W w B R ad nn cap p k a1 a2 a3 c1 c2 c3 m1 m2 M x u1 u2 d1 d2 g1 g2 p' v X)(hw:Rd w R ad nn cap p0)(ho:o<3)(u:Value)(v':Wt)(hi:WtI v')(e:∀j,j<3->GR (AV (fL v)) o u j=AV (fL v') j):L3W w B R ad nn cap p k a1 a2 a3 c1 c2 c3 m1 m2 M x u1 u2 d1 d2 g1 g2 p' v' (X.setCell ⟨M,o,none⟩ u):=⟨h.b,h.l.box hw ((AB.refl (λq=>q=M) X).setCell (p:=⟨M,o,none⟩) rfl u) h.M0 h.n1 h.n2,(h.m.set ho u).congr e,hi,h.M0,h.n1,h.n2⟩
theorem Xf.pick (h:Xf w B R ad nn cap p k a1 a2 a3 c1 c2 c3 m1 m2 Nb x u1 u2 d1 d2 g1 g2 p' V b1 b2 b3 e1 e2 e3 X)(hw:Rd w R ad nn cap p0)(hf:AB (λq=>q=R) X Y)(hr:Rd Y R ad nn cap q')(hq:p'<=q')(hk:q'<=p+k'):Xf w B R ad nn cap p k' a1 a2 a3 c1 c2 c3 m1 m2 Nb x u1 u2 d1 d2 g1 g2 q' V b1 b2 b3 e1 e2 e3 Y:=have hR:=hw.lt
 ⟨⟨AJ h.b.1 hq,hk,h.b.2.2⟩,h.l.pick hw hf hr,h.m.fr2 hf (by have:=h.N0;omega),h.i.pick hf h.l.r.ns,h.N0,h.n1,h.n2,h.ns.fr hf h.m.lt (by have:=h.N0;omega)⟩
theorem Xf.wide{m2':Nat}(h:Xf w B R ad nn cap p k a1 a2 a3 c1 c2 c3 m1 m2 Nb x u1 u2 d1 d2 g1 g2 p' V b1 b2 b3 e1 e2 e3 X)(hk:k<=k')(hm:m2<=m2'):Xf w B R ad nn cap p k' a1 a2 a3 c1 c2 c3 m1 m2' Nb x u1 u2 d1 d2 g1 g2 p' V b1 b2 b3 e1 e2 e3 X:=⟨⟨h.b.1,by have:=h.b.2.1;omega,h.b.2.2.1,by have:=h.b.2.2.2;omega⟩,h.l,h.m,h.i,h.N0,h.n1,h.n2,h.ns⟩
theorem Xf.below (h:Xf w B R ad nn cap p k a1 a2 a3 c1 c2 c3 m1 m2 Nb x u1 u2 d1 d2 g1 g2 p' V b1 b2 b3 e1 e2 e3 X)(hw:Rd w R ad nn cap p0)(hb:Below X.1.size X Y):Xf w B R ad nn cap p k a1 a2 a3 c1 c2 c3 m1 m2 Nb x u1 u2 d1 d2 g1 g2 p' V b1 b2 b3 e1 e2 e3 Y:=⟨h.b,h.l.below hw hb,h.m.below hb h.m.lt,h.i.below hb,h.N0,h.n1,h.n2,h.ns.below hb h.m.lt⟩
def L3D (w:World)(B:Bk)(R:Nat)(ad:OA)(nn cap p k:Nat)(a1 a2 a3:OA)(c1 c2 c3 m1 m2:Nat)(Nb Mv Dd:Nat)(v:Wr)(cd ve:Int)(X:World):Prop:=∃x u1 u2 d1 d2 g1 g2 p' Y b1 b2 b3 e1 e2 e3 V f1 f2 f3 h1 h2 h3,Xf w B R ad nn cap p k a1 a2 a3 c1 c2 c3 m1 m2 Nb x u1 u2 d1 d2 g1 g2 p' Y b1 b2 b3 e1 e2 e3 X/\AE X Mv 6 (AV (wv v))/\AE X Dd 7 (AV [.i cd,.i V.v,.i V.f,.l f1 V.on h1,.l f2 V.hn h2,.l f3 V.tn h3,.i ve])/\Ip X V f1 f2 f3 h3/\(¬Nb=Mv/\¬Nb=Dd/\¬Mv=Dd/\w.1.size+1+1+1<=Mv/\w.1.size+1+1+1<=Dd)/\(0<d1->¬Mv=g1/\¬Dd=g1)/\(0<d2->¬Mv=g2/\¬Dd=g2)
theorem Xf.addR{Z:World}{v:Wr}{pB:OA}{Su YJ:Nat}(h:Xf w B R ad nn cap p k a1 a2 a3 c1 c2 c3 m1 m2 Nb x u1 u2 d1 d2 g1 g2 p' V b1 b2 b3 e1 e2 e3 X)(hw:Rd w R ad nn cap p0)(hf:AB (λq=>0<d2/\q=g2) X Z)(hr:Rw Z pB YJ (x.rn+1) Su 6 (Qj (QW x.rs x.rn v)))(hp:SZ Z YJ ((x.rn+1)*6))(hk:0<d2->∀j,j<x.rn*6->Z.cell? ⟨g2,j,none⟩=X.cell? ⟨g2,j,none⟩)(hg:(0<d2/\YJ=g2)\/X.1.size<=YJ)(hv:aE v)(hn:x.rn<100):Xf w B R ad nn cap p k a1 a2 a3 c1 c2 c3 m1 (m2+1) Nb (cN x v) u1 pB d1 Su g1 YJ p' V b1 b2 b3 e1 e2 e3 (Z.setCell ⟨w.1.size+1+1,1,none⟩ (.l pB (x.rn+1) Su)):=by have F:=(AB.refl (λq=>q=w.1.size+1+1) Z).setCell (p:=⟨w.1.size+1+1,1,none⟩) rfl (.l pB (x.rn+1) Su);have vm:=h.N0;have hml:=h.m.lt;exact⟨⟨h.b.1,h.b.2.1,h.b.2.2.1,Nat.succ_le_succ h.b.2.2.2⟩,h.l.addR hw hf hr hp hg hv hn,(h.m.fr hf (λe=>h.n2 e.1 e.2)).fr F Za,(h.i.app hf (λh0=>(h.l.h2 h0).2) hk).pick F (h.l.un.fr hf h.l.u.lt (λe=>by have:=(h.l.h2 e.1).1;omega)),h.N0,h.n1,λ_=>by
  rcases hg with⟨g0,rfl⟩|hg;.exact h.n2 g0
  .omega,(h.ns.fr hf hml (λe=>h.n2 e.1 e.2)).fr F (Aa hml hf.size) Za⟩
theorem Xf.put{Y:Bk}{f1 f2 f3:OA}{h1 h2 h3:Nat}(h:Xf w B R ad nn cap p k a1 a2 a3 c1 c2 c3 m1 m2 Nb x u1 u2 d1 d2 g1 g2 p' Y b1 b2 b3 e1 e2 e3 X)(hw:Rd w R ad nn cap p0)(hv:Ip X V f1 f2 f3 h3)(hk:k<=k'):Xf w B R ad nn cap p k' a1 a2 a3 c1 c2 c3 m1 m2 Nb x u1 u2 d1 d2 g1 g2 p' V f1 f2 f3 h1 h2 h3 (((((X.setCell ⟨Nb,0,none⟩ (.i V.v)).setCell ⟨Nb,1,none⟩ (.i V.f)).setCell ⟨Nb,2,none⟩ (.l f1 V.on h1)).setCell ⟨Nb,3,none⟩ (.l f2 V.hn h2)).setCell ⟨Nb,4,none⟩ (.l f3 V.tn h3)):=by have F:=((((((AB.refl (λq=>q=Nb) X).setCell (p:=⟨Nb,0,none⟩) rfl (.i V.v)).setCell (p:=⟨Nb,1,none⟩) rfl (.i V.f)).setCell (p:=⟨Nb,2,none⟩) rfl (.l f1 V.on h1)).setCell (p:=⟨Nb,3,none⟩) rfl (.l f2 V.hn h2)).setCell (p:=⟨Nb,4,none⟩) rfl (.l f3 V.tn h3));have M:=(((((h.m.set (o:=0) Zb (.i V.v)).set (o:=1) Zb (.i V.f)).set (o:=2) Zb (.l f1 V.on h1)).set (o:=3) Zb (.l f2 V.hn h2)).set (o:=4) Zb (.l f3 V.tn h3));refine⟨⟨h.b.1,by have:=h.b.2.1;omega,h.b.2.2⟩,h.l.box hw F h.N0 h.n1 h.n2,M.congr (λj hj=>?_),hv.pick F h.ns,h.N0,h.n1,h.n2,Ye h.ns h.m V f1 f2 f3 h1 h2 h3⟩;.exact Ui
theorem qz{u:Value}{v':Wt}(h0:(if 0=o then u else .s v.k)=.s v'.k:=by rfl)(h1:(if 1=o then u else .s v.n)=.s v'.n:=by rfl)(h2:(if 2=o then u else .i v.t)=.i v'.t:=by rfl):∀j,j<3->GR (AV (fL v)) o u j=AV (fL v') j:=λj hj=>by
 rcases(show j=0\/j=1\/j=2 by omega)with rfl|rfl|rfl;.exact h0
 .exact h1
 .exact h2
theorem Z9 (B:Bk)(R:Nat)(ad:OA)(nn cap p:Nat)(a1 a2 a3:OA)(c1 c2 c3:Nat)(w:World)(hr:Rd w R ad nn cap p)(hp:p<=700000)(hb:Ip w B a1 a2 a3 c3):Calls prog 56 #[.p R 0,.agg (vB B a1 a2 a3 c1 c2 c3)] w λe w'=>Dr3 R ad nn cap p w e w':=by
 have HS:=Ab (Abb w B R ad nn cap p a1 a2 a3 c1 c2 c3 hr);have HB:=Ab hb;have HR:=Ab hr;have Ic:=hr.lt;clear hb hr;go_enter func56,ntmps56;go_upto_region 2 with fail;generalize((w.alloc (.cells (vB B a1 a2 a3 c1 c2 c3) 36)).alloc (.cells #[.l none 0 0,.l none 0 0] 118)).alloc (.cells #[.l none 0 0,.l none 0 0] 118)=X0 at HS⊢;go_upto_block 0 with(go_at_call 16;go_must(refine(Bt R ad nn cap _ 3 _ HS.r Za Zb Zb).mono ?_;rintro e w3 ⟨y,rfl,_,hy,FP,Gi⟩;have j6:=hy Zb;clear hy));have cG:=Ab (HS.pick HR FP Gi);clear HS FP Gi;go_cut[](λwx=>L3C w B R ad nn cap p 60 a1 a2 a3 c1 c2 c3 3 0 wx);case first=>
  --<l1
  go_wp2_with fail;go_loopw[6](λs6 wr=>∃n:Nat,s6=.i n/\n<=2/\Hid (L3C w B R ad nn cap p (1+17*(2-n)) a1 a2 a3 c1 c2 c3 (2-n) 0 wr))(λs _=>(intOf s).toNat);case atStart=>exact⟨y,rfl,Za,Ab ⟨_,_,_,_,_,_,_,_,Nat.le_succ _,Za,Ar _,Ar _,cG⟩⟩
  case round=>
   clear cG;obtain⟨n,rfl,fT,HL⟩:=hrel;go_upto_region 3 with fail;go_cut[22](λc wx=>∃b:Bool,c=.bool b/\(b=true->0<n)/\L3C w B R ad nn cap p (2+17*(2-n)) a1 a2 a3 c1 c2 c3 (2-n) 0 wx);case first=>
    obtain⟨x,u1,u2,d1,d2,g1,g2,p',GM,Lz,gK,Wj,hL⟩:=HL.out;have I5:=Ab hL;clear HL hL;go_wp2_with (go_at_call 16;go_must(refine(Bt R ad nn cap _ 2 _ I5.r Za Zb Zb).mono ?_;rintro e w3 ⟨y,rfl,_,hy,FP,Gi⟩;have j6:=hy Zb;clear hy));all_goals go_meet
    case rel=>exact⟨_,rfl,λ_=>by omega,x,u1,u2,d1,d2,g1,g2,p'+1,Za,Za,gK,Wj,I5.pick HR FP Gi⟩
    case rel=>exact⟨_,rfl,λh=>Ns,x,u1,u2,d1,d2,g1,g2,p',Za,Za,gK,Wj,I5⟩
   case rest=>obtain⟨b,rfl,FV,hL⟩:=hcut;have I5:=Ab hL;clear HL hL;cases b with
    |false=>go_wp2_with fail;go_meet;case rel=>obtain⟨x,u1,u2,d1,d2,g1,g2,p',GM,Lz,gK,Wj,hL⟩:=I5.out;exact⟨x,u1,u2,d1,d2,g1,g2,p',GM,Za,Za,Wj,hL⟩
    |true=>
     have LU:=FV rfl;clear FV;go_upto_block 1 with fail;go_cut[](λwx=>L3C w B R ad nn cap p (18+17*(2-n)) a1 a2 a3 c1 c2 c3 (3-n) 0 wx);case first=>
      --<b1
      obtain⟨x,u1,u2,d1,d2,g1,g2,p',GM,Lz,gK,Wj,hL⟩:=I5.out;have JP:=hL.u.lt;have HL:=Ab hL;clear I5 hL;have hxb:∀o,Below wc.1.size wc (wc.alloc o):=λo=>Ak _ _;have HXB:=Ab hxb;clear hxb;go_upto_region 6 with(go_at_call 16;go_must(refine(Bt R ad nn cap p' 2 _ (HL.r.below (HXB _)) Za Zb Zb).mono ?_;rintro e w3 ⟨y,rfl,_,hy,FP,Gi⟩;have hy2:=hy Zb;obtain⟨s,Ks,Qt⟩:=jJ FP Za hy2;have HLp:=Ab (HL.pick HR ((Aj (HXB _)).trans FP) Gi)));have YG:=HLp.u.lt;have HV:=Ab (show L3V w B R ad nn cap p (3+17*(2-n)) a1 a2 a3 c1 c2 c3 (2-n) 0 w3.1.size (w3.alloc (.cells #[.s ⟨#[98,101,114,116,104]⟩,.s s,.i 0] 146))from⟨x,u1,u2,d1,d2,g1,g2,p'+1,⟨⟨#[98,101,114,116,104]⟩,s,0⟩,⟨Za,Za,gK,Wj⟩,HLp.below HR Do,AE.new (l:=[.s ⟨#[98,101,114,116,104]⟩,.s s,.i 0]) (t:=146) Dx,⟨⟨by show((⟨#[98,101,114,116,104]⟩:ByteArray).size:Int)<=_;decide,Ks⟩,by show(0:Int)<=_;omega⟩,Za,λh0=>by have:=(HLp.w1.room h0).lt;omega,λh0=>by have:=(HLp.w2.room h0).lt;omega⟩);have hzM:w3.1.size<(w3.alloc (.cells #[.s ⟨#[98,101,114,116,104]⟩,.s s,.i 0] 146)).1.size:=Ze;generalize w3.alloc (.cells #[.s ⟨#[98,101,114,116,104]⟩,.s s,.i 0] 146)=X5 at HV hzM⊢;generalize w3.1.size=M at HV hzM YG⊢;clear FP Gi HLp HL HXB Ks Qt hy hy2 GM Lz gK Wj;go_cut[39](λc wx=>∃b:Bool,c=.bool b/\(b=true->0<B.on)/\L3V w B R ad nn cap p (4+17*(2-n)) a1 a2 a3 c1 c2 c3 (2-n) 0 M wx);case first=>
       --<r6
       obtain⟨x,u1,u2,d1,d2,g1,g2,p',v,hV⟩:=HV.out;have gu:=hV.l.s.cell 2 Zb;simp only[AV,Ac,Ad]at gu;have hq:=hV.b;have HW:=Ab hV;clear hV HV;go_wp2_with (go_at_call 16;go_must(refine(Bt R ad nn cap _ 3 _ HW.l.r Za Zb Zb).mono ?_;rintro e w3 ⟨y,rfl,_,hy,FP,Gi⟩;have j6:=hy Zb;clear hy));all_goals go_meet
       case rel=>exact⟨_,rfl,λ_=>by omega,x,u1,u2,d1,d2,g1,g2,p'+1,v,HW.pick HR FP Gi Za Za⟩
       case rel=>exact⟨_,rfl,λh=>Ns,x,u1,u2,d1,d2,g1,g2,p',v,⟨⟨hq.1,Za,hq.2.2⟩,HW.l,HW.m,HW.i,HW.M0,HW.n1,HW.n2⟩⟩
       --r6>
      case rest=>
       obtain⟨b,rfl,FV,hV⟩:=hcut;have HV2:=Ab hV;clear hV HV;go_upto_if 39 with fail;go_cut[](λwx=>L3V w B R ad nn cap p (14+17*(2-n)) a1 a2 a3 c1 c2 c3 (2-n) 0 M wx);case first=>obtain⟨x,u1,u2,d1,d2,g1,g2,p',v,hV⟩:=HV2.out;have hq:=hV.b;have HW:=Ab hV;clear hV HV2;cases b with
        |false=>go_wp2_with fail;go_meet;case rel=>exact⟨x,u1,u2,d1,d2,g1,g2,p',v,⟨⟨hq.1,Za,hq.2.2⟩,HW.l,HW.m,HW.i,HW.M0,HW.n1,HW.n2⟩⟩
        |true=>have AU:=FV rfl;clear FV;go_wp2_with fail;have lE:=HW.l.s.cell 2 Zb;simp only[AV,Ac,Ad]at lE;have hSl:=HW.l.s.lt;have VF:=HW.l.f.size;have hM0:=HW.M0;have hMl:=HW.m.lt;refine Ab1 (AV [_,_,_,_,_,_,_,_,_,_]) R ad nn cap p' w.1.size w.1.size B a1 c1 _ HW.l.r Za hSl Za lE (HB.i.box HW.l.f HR.ns A9).o VF AU (PM HB.v).1 rfl _ ?_;intro t O k ah ch q2 X2 ht hO hk hs By Te hp3 hp4 AW;rw[ht];have SD:=Ab (HW.pick (k':=14+17*(2-n)) HR Te AW Za Za);obtain⟨o0,o1,o2⟩:=CT3 By;have ol:=By.lt;have r0:=SD.m.cell 0 Zb;have r1:=SD.m.cell 1 Zb;have r2:=SD.m.cell 2 Zb;have rf:=SD.m.free;have rl:=SD.m.lt;simp only[fL,AV,Ac,Ad]at r0 r1 r2;have CF:¬O=M:=Za;have Ke:=Ab (HB.f.os k hk);clear By Te AW hs ht lE HW;go_wp2_with fail;go_meet;case rel=>exact⟨x,u1,u2,d1,d2,g1,g2,q2,⟨(B.os k).k,(B.os k).n,(B.os k).t⟩,((SD.set HR (o:=0) Zb (.s (B.os k).k) ⟨(B.os k).k,v.n,v.t⟩ ⟨⟨Ke.k,SD.i.fit.z1⟩,SD.i.v1⟩ qz).set HR (o:=1) Zb (.s (B.os k).n) ⟨(B.os k).k,(B.os k).n,v.t⟩ ⟨⟨Ke.k,Ke.n⟩,SD.i.v1⟩ qz).set HR (o:=2) Zb (.i (B.os k).t) ⟨(B.os k).k,(B.os k).n,(B.os k).t⟩ ⟨⟨Ke.k,Ke.n⟩,c' Ke.v⟩ qz⟩
        --r7>
       case rest=>
        have HV3:=Ab hcut;clear hcut HV2;obtain⟨x,u1,u2,d1,d2,g1,g2,p',v,hV⟩:=HV3.out;have hq:=hV.b;have HW:=Ab hV;clear hV HV3;go_upto_if 58 with(go_at_call 16;go_must(refine(Bt R ad nn cap _ 5 _ HW.l.r Za Zb Zb).mono ?_;rintro e w3 ⟨y,rfl,_,hy,FP,Gi⟩;have j6:=hy Zb;clear hy));have SD:=Ab (HW.pick (k':=15+17*(2-n)) HR FP Gi Za Za);clear HW FP Gi;go_cut[](λwx=>L3V w B R ad nn cap p (16+17*(2-n)) a1 a2 a3 c1 c2 c3 (2-n) 0 M wx);case first=>
         go_wp2_with (go_at_call 16;go_must(refine(Bt R ad nn cap _ 9 _ SD.l.r Za Zb Zb).mono ?_;rintro e w4 ⟨y4,rfl,_,hy4,gE,hr4⟩;have Ag2:=hy4 Zb;have HW3:=Ab (SD.pick (k':=16+17*(2-n)) HR gE hr4 Za Za);have r2:=HW3.m.cell 2 Zb;have rf2:=HW3.m.free 2;have rl2:=HW3.m.lt));all_goals go_meet
         case rel=>exact⟨x,u1,u2,d1,d2,g1,g2,_,_,HW3.set HR (o:=2) Zb _ ⟨v.k,v.n,(y4:Int)⟩ ⟨⟨HW3.i.fit.z0,HW3.i.fit.z1⟩,by show(y4:Int)<=_;omega⟩ qz⟩
         case rel=>exact⟨x,u1,u2,d1,d2,g1,g2,p'+1,v,⟨⟨Za,Za,hq.2.2⟩,SD.l,SD.m,SD.i,SD.M0,SD.n1,SD.n2⟩⟩
        case rest=>have HV4:=Ab hcut;clear hcut SD;obtain⟨x,u1,u2,d1,d2,g1,g2,p',v,hV⟩:=HV4.out;have hq:=hV.b;have HW:=Ab hV;clear hV HV4;have q0:=HW.l.u.cell 0 Zb;have r0:=HW.m.cell 0 Zb;have r1:=HW.m.cell 1 Zb;have r2:=HW.m.cell 2 Zb;have rl:=HW.m.lt;have ul:=HW.l.u.lt;simp only[fL,AV,Ac,Ad]at q0 r0 r1 r2;go_wp2_with ((with_reducible show wpList _ _ _ (⟨some 66,_,_,_,_,_⟩::_) _ _);obtain⟨ad',cap',g',Y,CZ,FW,Pg,hg⟩:=It (P:=prog) (wc.alloc (.cells #[.s v.k,.s v.n,.i v.t] 146)) 115 115 146 3 40 _ Tc Yt Za Zc u1 g1 x.wn d1 (qo x.ws) (HW.out.l.w1.grow Do) (λj _=>dP _ _ (GX _ Za)) wc.1.size (wc.1.size+1) (some ⟨wc.1.size,0,none⟩) 1 1 (AV (fL v)) (fN wc (fL v) 146 (λj hj=>dP v j hj)) Za Za Za;refine Kh rfl _ _ _ _ rfl _ _ _ _ rfl rfl CZ ?_;have HA:=Ab (HW.out.l.below HR.out (Ak wc (.cells #[.s v.k,.s v.n,.i v.t] 146)));have U:=HA.out.u.fr Pg (λe=>by have:=HA.out.h1 e.1;omega);have U0:=U.cell 0 Zb;have U1:=U.free 0;have U2:=U.lt);go_meet;case rel=>exact⟨wK x v,ad',u2,cap',d2,g',g2,p',Za,Za,by show x.wn+1<=_;omega,hq.2.2.2,HA.addT HR Pg FW hg HW.i Za⟩
        --r9>
      --b1>
     case rest=>
      have MI:=Ab hcut;clear hcut I5;have Lg:IntKind.i64.wrap ((n:Int)-1)=((n-1:Nat):Int):=by rw[AQ _ ⟨Za,Za⟩];omega
      go_wp2;refine⟨⟨n-1,rfl,Za,Ab ?_⟩,?_⟩;.obtain⟨x,u1,u2,d1,d2,g1,g2,p',GM,Lz,gK,Wj,hL⟩:=MI.out;exact⟨x,u1,u2,d1,d2,g1,g2,p',GM,Za,Za,Wj,hL⟩
      .show(((n-1:Nat):Int)).toNat<((n:Int)).toNat;omega
  --l1>
 case rest=>
  have HL:=Ab hcut;clear hcut cG;obtain⟨x,u1,u2,d1,d2,g1,g2,p',GM,Lz,gK,Wj,hL⟩:=HL.out;have EG:=Ab hL;clear HL hL;obtain⟨s0,s1,s2,s3,s4⟩:=JQ EG.s;have sl:=EG.s.lt;have ul:=EG.u.lt;go_upto_region 13 with fail;have HN:=Ab (show L3M w B R ad nn cap p 60 a1 a2 a3 c1 c2 c3 3 0 wc.1.size (wc.alloc (.cells (vB B a1 a2 a3 c1 c2 c3) 36))from⟨x,u1,u2,d1,d2,g1,g2,p',B,a1,a2,a3,c1,c2,c3,⟨GM,Lz,gK,Wj⟩,EG.below HR Do,AE.new (l:=(JR B a1 a2 a3 c1 c2 c3)) (t:=36) Dx,(HB.pick EG.f HR.ns).below Do,Za,λh0=>by have:=(EG.w1.room h0).lt;omega,λh0=>by have:=(EG.w2.room h0).lt;omega,U9 _ _ _ _ _ _ _ _⟩);have hzN:wc.1.size<(wc.alloc (.cells (vB B a1 a2 a3 c1 c2 c3) 36)).1.size:=Ze;generalize wc.alloc (.cells (vB B a1 a2 a3 c1 c2 c3) 36)=X1 at HN hzN⊢;generalize wc.1.size=Nb at HN hzN ul⊢;clear s0 s1 s2 s3 s4 sl EG GM Lz gK Wj;obtain⟨x,u1,u2,d1,d2,g1,g2,p',Y,b1,b2,b3,e1,e2,e3,hN⟩:=HN.out;have hq:=hN.b;go_upto_block 2 with(go_at_call 16;go_must(refine(Bt R ad nn cap _ 4 _ hN.l.r Za Zb Zb).mono ?_;rintro e w3 ⟨y,rfl,_,hy,FP,Gi⟩;have j6:=hy Zb;clear hy));have St:=Ab (show L3M w B R ad nn cap p 61 a1 a2 a3 c1 c2 c3 3 0 Nb w3 from⟨x,u1,u2,d1,d2,g1,g2,p'+1,Y,b1,b2,b3,e1,e2,e3,hN.pick HR FP Gi Za Za⟩);clear HN hN FP Gi hq;go_cut[](λwx=>L3M w B R ad nn cap p 350 a1 a2 a3 c1 c2 c3 3 4 Nb wx);case first=>
   go_wp2_with fail;go_loopw[10](λs wr=>∃n:Int,s=.i n/\-1<=n/\n<=3/\Hid (L3M w B R ad nn cap p (61+62*(3-n).toNat) a1 a2 a3 c1 c2 c3 3 (3-n).toNat Nb wr))(λs _=>(intOf s+1).toNat);case atStart=>obtain⟨x,u1,u2,d1,d2,g1,g2,p',Y,b1,b2,b3,e1,e2,e3,hN⟩:=St.out;exact⟨y,rfl,Za,Za,Ab ⟨x,u1,u2,d1,d2,g1,g2,p',Y,b1,b2,b3,e1,e2,e3,hN.wide Za Za⟩⟩
   case round=>
    clear St;obtain⟨n,rfl,Mz,hn3,HN⟩:=hrel;by_cases LU:0<=n
    .go_upto_block 3 with fail;go_cut[](λwx=>L3M w B R ad nn cap p (123+62*(3-n).toNat) a1 a2 a3 c1 c2 c3 3 ((3-n).toNat+1) Nb wx);case first=>
      --<b3
      obtain⟨x,u1,u2,d1,d2,g1,g2,p',Y,b1,b2,b3,e1,e2,e3,hN⟩:=HN.out;have hq:=hN.b;have HM:=Ab hN;obtain⟨m0,m1,m2,m3,m4⟩:=JQ hN.m;have ml:=hN.m.lt;clear HN hN;go_upto_region 17 with(go_at_call 31;go_must(refine(M8 Y R ad nn cap p' b1 b2 b3 e1 e2 e3 _ HM.l.r Za HM.i.f (PM HM.i.v).1 (PM HM.i.v).2 HM.i.i).mono ?_;rintro e w3 ⟨v,rfl,hv,FP,q3,Aab,Ahw,Gi⟩));have Up:=Ab ((HM.pick (k':=121+62*(3-n).toNat) HR FP Gi Aab Za).below HR (Ak w3 (.cells (vW v) 76)));have HV:=Ab (show AE (w3.alloc (.cells (vW v) 76)) w3.1.size 6 (AV (wv v))from AE.new (w:=w3) (l:=wv v) (t:=76) Dx);have hlv:w3.1.size<(w3.alloc (.cells (vW v) 76)).1.size:=Ze;have Aet:w.1.size+1+1+1<=w3.1.size:=by have:=(HM.l.pick HR FP Gi).u.lt;omega
      have hvn:¬Nb=w3.1.size/\(0<d1->¬w3.1.size=g1)/\(0<d2->¬w3.1.size=g2):=by have h:=HM.pick (k':=121+62*(3-n).toNat) HR FP Gi Aab Za;have h1:=h.m.lt;exact⟨Za,λh0=>by have:=(h.l.w1.room h0).lt;omega,λh0=>by have:=(h.l.w2.room h0).lt;omega⟩
      clear HM m0 m1 m2 m3 m4 ml FP Gi;generalize w3.alloc (.cells (vW v) 76)=X3 at Up HV hlv⊢;generalize w3.1.size=Mv at HV hlv hvn Aet⊢;have m0:=Up.m.cell 0 Zb;have m1:=Up.m.cell 1 Zb;have m2:=Up.m.cell 2 Zb;have m3:=Up.m.cell 3 Zb;have m4:=Up.m.cell 4 Zb;have ml:=Up.m.lt;have v0:=HV.cell 0 Zb;have v1:=HV.cell 1 Zb;have v2:=HV.cell 2 Zb;have v3:=HV.cell 3 Zb;have v4:=HV.cell 4 Zb;have v5:=HV.cell 5 Zb;simp only[wv,AV,Ac,Ad]at m0 m1 m2 m3 m4 v0 v1 v2 v3 v4 v5;go_upto_region 18 with(go_at_call 30;go_must(refine(X7 Y v b1 b2 b3 e1 e2 e3 _ Up.i hv).mono ?_;rintro e w4 ⟨E1,cd,V,f1,f2,f3,h1,h2,h3,ve,rfl,hV⟩));have HD:=Ab (show L3D w B R ad nn cap p (121+62*(3-n).toNat) a1 a2 a3 c1 c2 c3 3 (3-n).toNat Nb Mv w4.1.size v cd ve (w4.alloc (.cells #[.i cd,.i V.v,.i V.f,.l f1 V.on h1,.l f2 V.hn h2,.l f3 V.tn h3,.i ve] 73))from⟨x,u1,u2,d1,d2,g1,g2,q3,Y,b1,b2,b3,e1,e2,e3,V,f1,f2,f3,h1,h2,h3,(Up.below HR E1).below HR Do,(HV.below E1 hlv).below Do (Aa hlv E1.size),AE.new (l:=[.i cd,.i V.v,.i V.f,.l f1 V.on h1,.l f2 V.hn h2,.l f3 V.tn h3,.i ve]) (t:=73) Dx,hV.below Do,⟨hvn.1,by have:=E1.size;omega,by have:=E1.size;omega,Aet,by have:=E1.size;omega⟩,λh0=>⟨hvn.2.1 h0,by have:=((Up.l.below HR E1).w1.room h0).lt;omega⟩,λh0=>⟨hvn.2.2 h0,by have:=((Up.l.below HR E1).w2.room h0).lt;omega⟩⟩);generalize w4.alloc (.cells #[.i cd,.i V.v,.i V.f,.l f1 V.on h1,.l f2 V.hn h2,.l f3 V.tn h3,.i ve] 73)=X4 at HD⊢;generalize w4.1.size=Dd at HD⊢;clear Up HV m0 m1 m2 m3 m4 ml v0 v1 v2 v3 v4 v5 E1 hV hvn hlv;go_cut[88](λc wx=>∃b:Bool,c=.bool b/\L3D w B R ad nn cap p (122+62*(3-n).toNat) a1 a2 a3 c1 c2 c3 3 (3-n).toNat Nb Mv Dd v cd ve wx);case first=>
       --<r18
       obtain⟨x,u1,u2,d1,d2,g1,g2,q3,Y,b1,b2,b3,e1,e2,e3,V,f1,f2,f3,h1,h2,h3,hN,hrv,AW,vh,CF,fS,WG⟩:=HD.out;have hq:=hN.b;have HNn:=Ab hN;have r0:=AW.cell 0 Zb;have rl:=AW.lt;have gH:=Ab AW;simp only[AV,Ac]at r0;clear HD hN AW;have jW:=Ab hrv;clear hrv;go_wp2_with (go_at_call 16;go_must(refine(Bt R ad nn cap _ 3 _ HNn.l.r Za Zb Zb).mono ?_;rintro e w3 ⟨y,rfl,_,hy,FP,Gi⟩;have j6:=hy Zb;clear hy));all_goals go_meet
       case rel=>exact⟨_,rfl,x,u1,u2,d1,d2,g1,g2,q3,Y,b1,b2,b3,e1,e2,e3,V,f1,f2,f3,h1,h2,h3,HNn.wide Za A9,jW,gH,vh,CF,fS,WG⟩
       case rel=>exact⟨_,rfl,x,u1,u2,d1,d2,g1,g2,q3+1,Y,b1,b2,b3,e1,e2,e3,V,f1,f2,f3,h1,h2,h3,HNn.pick HR FP Gi Za Za,jW.fr2 FP Za,gH.fr2 FP Za,vh.pick FP HNn.l.r.ns,CF,fS,WG⟩
       --r18>
      case rest=>
       obtain⟨b,rfl,hD⟩:=hcut;have HD2:=Ab hD;clear hD HD;go_upto_if 88 with fail;go_cut[](λwx=>L3D w B R ad nn cap p (122+62*(3-n).toNat) a1 a2 a3 c1 c2 c3 3 ((3-n).toNat+1) Nb Mv Dd v cd ve wx);case first=>obtain⟨x,u1,u2,d1,d2,g1,g2,q3,Y,b1,b2,b3,e1,e2,e3,V,f1,f2,f3,h1,h2,h3,hN,hrv,AW,vh,CF,fS,WG⟩:=HD2.out;have hq:=hN.b;have HNn:=Ab hN;have gH:=Ab AW;have jW:=Ab hrv;clear HD2 hN AW hrv;cases b with
        |false=>go_wp2_with fail;go_meet;case rel=>exact⟨x,u1,u2,d1,d2,g1,g2,q3,Y,b1,b2,b3,e1,e2,e3,V,f1,f2,f3,h1,h2,h3,HNn.wide A9 Za,jW,gH,vh,CF,fS,WG⟩
        |true=>have q1:=HNn.l.u.cell 1 Zb;have v0:=jW.cell 0 Zb;have v1:=jW.cell 1 Zb;have v2:=jW.cell 2 Zb;have v3:=jW.cell 3 Zb;have v4:=jW.cell 4 Zb;have v5:=jW.cell 5 Zb;have vl:=jW.lt;have ul:=HNn.l.u.lt;have Aju:x.rn<=4:=Za;have hvU:¬Mv=w.1.size+1+1:=Za;have hdU:¬Dd=w.1.size+1+1:=Za;simp only[wv,AV,Ac,Ad]at q1 v0 v1 v2 v3 v4 v5;go_wp2_with ((with_reducible show wpList _ _ _ (⟨some 93,_,_,_,_,_⟩::_) _ _);obtain⟨ad',cap',g',Z,CZ,FW,hpt,hfZ,hkZ,hg⟩:=iP (wc.alloc (.cells (vW v) 76)) 116 u2 g2 x.rn d2 x.rs v (HNn.out.l.w2.grow Do) (λh0=>(HNn.out.l.below HR.out Do).h2 h0|>.2) wc.1.size (wc.1.size+1) (some ⟨wc.1.size,0,none⟩) 1 (fN wc (wv v) 76 (λj hj=>dv v j hj)) Za;refine Kh rfl _ _ _ _ rfl _ _ _ _ rfl rfl CZ ?_;have HA:=Ab (HNn.out.below HR.out (Ak wc (.cells (vW v) 76)));have U:=HA.out.l.u.fr hfZ (λe=>by have:=(HA.out.l.h2 e.1).1;omega);have U0:=U.cell 1 Zb;have U1:=U.free 1;have U2:=U.lt);go_meet;case rel=>exact⟨cN x v,u1,ad',d1,cap',g1,g',q3,Y,b1,b2,b3,e1,e2,e3,V,f1,f2,f3,h1,h2,h3,HA.addR HR hfZ FW hpt hkZ hg hv Za,(((jW.below Do vl).fr hfZ (λe=>(WG e.1).1 e.2)).fr ((AB.refl (λq=>q=w.1.size+1+1) Z).setCell (p:=⟨w.1.size+1+1,1,none⟩) rfl _) hvU),(((gH.below Do gH.lt).fr hfZ (λe=>(WG e.1).2 e.2)).fr ((AB.refl (λq=>q=w.1.size+1+1) Z).setCell (p:=⟨w.1.size+1+1,1,none⟩) rfl _) hdU),((vh.below Do).app hfZ (λh0=>(HA.l.h2 h0).2) hkZ).pick ((AB.refl (λq=>q=w.1.size+1+1) Z).setCell (p:=⟨w.1.size+1+1,1,none⟩) rfl _) (HA.l.un.fr hfZ HA.l.u.lt (λe=>by have:=(HA.l.h2 e.1).1;omega)),CF,fS,λh0=>by
          rcases hg with⟨g0,rfl⟩|hg;.exact WG g0
          .have:=gH.lt;have hz:(wc.alloc (.cells (vW v) 76)).1.size=wc.1.size+1:=Ze;omega⟩
        --r19>
       case rest=>
        have HD3:=Ab hcut;clear hcut HD2;obtain⟨x,u1,u2,d1,d2,g1,g2,q3,Y,b1,b2,b3,e1,e2,e3,V,f1,f2,f3,h1,h2,h3,hN,hrv,AW,vh,CF,fS,WG⟩:=HD3.out;have hq:=hN.b;have HNn:=Ab hN;have gH:=Ab AW;have HBV:=Ab vh;clear HD3 hN hrv vh;obtain⟨r0,r1,r2,r3,r4,r5⟩:=CT6 AW;have rl:=AW.lt;obtain⟨m0,m1,m2,m3,m4⟩:=JQ HNn.m;have ml:=HNn.m.lt;have mf:=HNn.m.free;clear AW;go_wp2_with fail;all_goals go_meet
        case rel=>exact⟨x,u1,u2,d1,d2,g1,g2,q3,V,f1,f2,f3,h1,h2,h3,HNn.put HR HBV Za⟩
        case rel=>exact⟨x,u1,u2,d1,d2,g1,g2,q3,Y,b1,b2,b3,e1,e2,e3,HNn.wide Za A9⟩
        --r20>
      --b3>
     case rest=>have jX:=Ab hcut;clear hcut HN;have Lg:IntKind.i64.wrap (n-1)=n-1:=AQ _ ⟨Za,Za⟩;go_wp2;obtain⟨x,u1,u2,d1,d2,g1,g2,p',Y,b1,b2,b3,e1,e2,e3,hN⟩:=jX.out;refine⟨⟨n-1,rfl,Za,Za,Ab ⟨x,u1,u2,d1,d2,g1,g2,p',Y,b1,b2,b3,e1,e2,e3,hN.wide Za Za⟩⟩,?_⟩;show(n-1+1).toNat<(n+1).toNat;omega
    .go_wp2_with fail;go_meet;case rel=>obtain⟨x,u1,u2,d1,d2,g1,g2,p',Y,b1,b2,b3,e1,e2,e3,hN⟩:=HN.out;exact⟨x,u1,u2,d1,d2,g1,g2,p',Y,b1,b2,b3,e1,e2,e3,hN.wide Za Za⟩
  case rest=>have HN:=Ab hcut;clear hcut St;obtain⟨x,u1,u2,d1,d2,g1,g2,p',Y,b1,b2,b3,e1,e2,e3,hN⟩:=HN.out;have HM:=Ab hN;clear HN hN;obtain⟨q0,q1⟩:=CT2 HM.l.u;have ul':=HM.l.u.lt;obtain⟨A0,A1⟩:=CT2 HM.l.a;have AF:=HM.l.a.free;have AL:=HM.l.a.lt;have hq:=HM.b;go_wp2_with fail;have Z:=(HM.l.a.set (o:=0) Zb (.l u1 x.wn d1)).set (o:=1) Zb (.l u2 x.rn d2);have z0:=Z.cell 0 Zb;have z1:=Z.cell 1 Zb;simp[GR]at z0 z1;have FF:=((AB.refl (λq=>q=w.1.size+1) wc).setCell (p:=⟨w.1.size+1,0,none⟩) rfl (.l u1 x.wn d1)).setCell (p:=⟨w.1.size+1,1,none⟩) rfl (.l u2 x.rn d2);have G1:=HM.l.w1.fr FF (λh0 e=>by have:=HM.l.h1 h0;omega);have G2:=HM.l.w2.fr FF (λh0 e=>by have:=(HM.l.h2 h0).1;omega);refine bodyPost_ret (v:=.agg (vU x u1 u2 d1 d2)) (by simp[results,results56,go_sem,z0,z1]) rfl ⟨x,u1,u2,d1,d2,rfl,HM.l.i,⟨G1.wts,G2.wrs⟩,(HM.l.f.far Za _ _).far Za _ _,p',Za,Za,HR.far (HR.far HM.l.r Za _ _) Za _ _⟩
  --l2>
def RK (n m Kk:Nat)(mk:(Nat->Value)->Array Value)(W:World)(R:Nat)(ad:OA)(nn cap p:Nat)(G:Nat->Value->World->Prop)(Fin:Act->World->Prop)(l:Array Bool)(a:Act)(X:World):Prop:=l.size=n+1/\((l.getD n false=true->(∀i,i<n->¬i=m->l.getD i false=true)/\Fin a X)/\(l.getD n false=false->∃t:Nat->Value,a=⟨mk t,[]⟩/\AB (λq=>q=R) W X/\(∃p',p<=p'/\p'<=p+Kk*l.toList.count true/\Rd X R ad nn cap p')/\∀i,i<n->l.getD i false=true->G i (t i) X))
theorem Hz{P:Program}{id:Nat}{ops:Array Oper}{Q:Exit->Act->World->Prop}{a0:Act}{W:World}(hm:P.follows .mixedOrders=true)(n m Kk:Nat)(mk:(Nat->Value)->Array Value)(t0:Nat->Value)(R:Nat)(ad:OA)(nn cap p:Nat)(G:Nat->Value->World->Prop)(Fin:Act->World->Prop)(hn:ops.size=n+1)(Fj:((List.range ops.size).all λi=>match ops[i]? with|some o=>o.after.all (λe=>!(Region.binds .any e)||decide (e.on<i))|none=>true)=true)(Jq:((List.range n).all λj=>(j==m)||match ops[n]? with|some o=>o.after.any (λe=>Region.binds .any e&&e.on==j)|none=>false)=true)(st:∀i v X Y p',i<n->G i v X->AB (λq=>q=R) X Y->Rd X R ad nn cap p'->R<W.1.size->W.1.size<=X.1.size->G i v Y)(h0:a0=⟨mk t0,[]⟩)(hr:Rd W R ad nn cap p)(sg:∀i,i<n->∀(t:Nat->Value) X K p',AB (λq=>q=R) W X->p<=p'->p'<=p+Kk*n->Rd X R ad nn cap p'->(∀j,Ci ops i j->G j (t j) X)->(∀v Y p2,p'<=p2->p2<=p'+Kk->G i v Y->AB (λq=>q=R) X Y->Rd Y R ad nn cap p2->K ⟨mk (AX t i v),[]⟩ Y)->wpOp P ops Q i K ⟨mk t,[]⟩ X)(sl:∀(t:Nat->Value) X K p',AB (λq=>q=R) W X->p<=p'->p'<=p+Kk*n->Rd X R ad nn cap p'->(∀j,j<n->¬j=m->G j (t j) X)->(∀a Y,Fin a Y->K a Y)->wpOp P ops Q n K ⟨mk t,[]⟩ X)(sf:m<n->∀a X K,Fin a X->(∀a',Fin a' X->K a' X)->wpOp P ops Q m K a X)(G7:∀a X,Fin a X->Q .normal a X):(Code.region id ops true).wp P Q a0 W:=by
 have BJ:∀i j,i<n+1->Ci ops i j->j<n:=by exact Ac2
 refine Dk hm (RK n m Kk mk W R ad nn cap p G Fin) ?_ ?_ ?_ ?_
 .have hz:∀i,(Array.replicate ops.size false).getD i false=false:=λi=>by simp[Array.getD]
  refine⟨by simp[hn],λh=>?_,λ_=>⟨t0,h0,Aj (Ap _ _).drew,⟨p,AG _,Za,hr.below (Ap _ _).drew⟩,λi _ h=>?_⟩⟩<;>(rw[hz]at h;cases h)
 .exact RH
 .rintro l a X ⟨hs,h6,_⟩ hr;have AL:=IT Fj Zcn hr;exact G7 a X (h6 (AL n Za)).2
 .rintro l a X i ⟨hs,h6,hg⟩ hr';obtain⟨hu,o,ho,Bg⟩:=mem_ready.1 hr';have di:∀j,Ci ops i j->l.getD j false=true:=by exact WQ
  have LA:i<n+1:=by exact Z8
  have FH:l.getD i false=false:=by exact Vd
  have kp:∀j,¬j=i->(l.setIfInBounds i true).getD j false=l.getD j false:=λj hj=>by rw[Cq Za,if_neg hj]
  have ki:(l.setIfInBounds i true).getD i false=true:=by rw[Cq Za,if_pos rfl]
  have hs':(l.setIfInBounds i true).size=n+1:=by simp[hs]
  have ku:∀j,l.getD j false=true->(l.setIfInBounds i true).getD j false=true:=λj h=>by exact Pm
  cases l6:l.getD n false with
  |true=>
   have CF:¬i=n:=λe=>by rw[e,l6]at FH;cases FH
   have Nu:i=m:=by
    rcases Nat.decEq i m with h|h;.rw[(h6 l6).1 i Za h]at FH;cases FH
    .exact h
   subst Nu;have h6':=h6 l6;clear hr' hu ho hg h6;refine sf Za a X _ h6'.2 (λa' hF=>⟨hs',λ_=>⟨λj hj kC=>ku j (h6'.1 j hj kC),hF⟩,λh=>?_⟩);rw[ku n l6]at h;cases h
  |false=>
  obtain⟨t,rfl,hb,⟨p',q1,q2,AW⟩,gg⟩:=hg l6;have hc:=XA Za FH;have MQ:(l.setIfInBounds i true).toList.count true<=n+1:=by exact xy
  have iq:Kk*l.toList.count true<=Kk*n:=Nat.mul_le_mul_left _ Za;have oK:Kk*(l.setIfInBounds i true).toList.count true=Kk*l.toList.count true+Kk:=by rw[hc,Nat.mul_add,Oq]
  by_cases Cs:i=n
  .subst Cs;have al:∀j,j<i->¬j=m->l.getD j false=true:=λj hj kC=>by have h1:=Bz.1 Jq j (BF.2 hj);rw[ho,show(j==m)=false from by simpa using kC,Bool.false_or]at h1;exact db
   clear hr' hu ho h6 hg;refine sl t X _ p' hb q1 Za AW (λj hj kC=>gg j hj (al j hj kC)) (λa Y hY=>⟨hs',λ_=>⟨λj hj kC=>?_,hY⟩,λh=>?_⟩);.exact ku j (al j hj kC)
   .rw[ki]at h;cases h
  .clear hr' hu ho h6 hg;have LI:(l.setIfInBounds i true).getD n false=false:=by rw[kp n (λe=>Cs e.symm)];exact l6
   refine sg i Za t X _ p' hb q1 Za AW (λj hj=>gg j (BJ i j LA hj) (di j hj)) (λv Y p2 r1 r2 hv hY y_=>⟨hs',λh=>?_,λ_=>⟨AX t i v,rfl,hb.trans hY,⟨p2,Za,Za,y_⟩,λj j1 h=>?_⟩⟩);.rw[LI]at h;cases h
   .exact f_
theorem D4.blt{x:Nat->Ob}(h:D4 w ad g n x A C hb)(hk:Fm g n (λi=>(x i).hn) hb k):k<w.1.size:=by exact E_
theorem IQ.blt{x:Nat->Ch}(h:IQ w ad g n x A C hb)(hk:Fm g n (λi=>(x i).ob.hn) hb k):k<w.1.size:=by exact E_
theorem K6.blt{x:Nat->Ti}(h:K6 w ad g n x)(hk:0<n/\k=g):k<w.1.size:=by obtain⟨h0,rfl⟩:=hk;obtain⟨c,r,_⟩:=h.row h0;exact r.lt
theorem Jv.blt{x:Bk}{p:Pl}(h:Jv w x p)(hk:GA p x k):k<w.1.size:=by
 rcases hk with h1|h1|h1;.exact h.o.blt h1
 .exact h.h.blt h1
 .exact h.t.blt h1
structure cu (w:World)(g n cap:Nat)(x:Nat->Ob)(A:Nat->Option Addr)(C hb:Nat->Nat):Prop where
 le:n<=cap
 row:0<n->IR w g (cap*7)ho:∀i,i<n->(x i).hn<=C i/\((x i).hn=0->C i=0)/\(0<C i->A i=some ⟨hb i,0,none⟩/\IR w (hb i) (C i))
theorem IR.frP{m:Nat}(h:IR w g m)(hf:AB P w w')(hp:¬P g):IR w' g m:=⟨λj hj=>by obtain⟨u,hu⟩:=h.has j hj;exact⟨u,(hf.cell (p:=⟨g,j,none⟩) h.lt hp).trans hu⟩,λj=>(hf.frozen (p:=⟨g,j,none⟩) h.lt hp).trans (h.free j),Aa h.lt hf.size⟩
theorem cu.fr{x:Nat->Ob}(h:cu w g n cap x A C hb)(hf:AB P w w')(hp:∀k,Fm g n (λi=>(x i).hn) hb k->¬P k):cu w' g n cap x A C hb:=⟨h.le,λh0=>(h.row h0).frP hf (hp g (AA ⟨h0,rfl⟩)),λi hi=>⟨(h.ho i hi).1,(h.ho i hi).2.1,λh0=>⟨((h.ho i hi).2.2 h0).1,((h.ho i hi).2.2 h0).2.frP hf (hp _ (Az ⟨i,hi,λe=>by have:=(h.ho i hi).2.1 e;omega,rfl⟩))⟩⟩⟩
theorem cu.grow{x:Nat->Ob}(h:cu w g n cap x A C hb)(hb':Below w.1.size w w'):cu w' g n cap x A C hb:=h.fr (Aj (P:=λ_=>False) hb') (λ_ _ h=>h)
theorem Nd.obR{x:Nat->Ob}(h:Nd w base (.l ad k cap) k x A C hb)(hg:0<k->ad=some ⟨g,0,none⟩):cu w g k cap x A C hb:=by
 obtain⟨c,r,_⟩:=h.row;refine⟨?_,λh0=>?_,λi hi=>⟨(h.rm i hi).le,(h.rm i hi).z,λh0=>?_⟩⟩
 .rcases r.2 with⟨h1,h2⟩|⟨g',cap',cur,h1,h2,h3,h4,_⟩;.omega
  .injection h1 with e1 e2 e3;omega
 .rw[hg h0]at r;exact(Rm r).1
 .obtain⟨g',e,hg',rm⟩:=(h.rm i hi).rm h0;have hn:(x i).hn≠0:=λe=>by have:=(h.rm i hi).z e;omega
  obtain⟨b',off,e',l1,l2,_⟩:=h.hold i hi 0 Za;rw[e]at e';injection e' with e';injection e' with e1 e2;have QM:g'=hb i:=Za;subst QM;exact⟨e,rm⟩
theorem Pp (n:Nat)(x:Nat->Ob)(ad:OA)(cap:Nat)(w:World)(lo hi:Nat)(CD:hi<=w.1.size)(hl:(n:Int)<=1048576)(hf:∀i,i<n->Cu (x i))(hc:Bh w lo hi ad n x):Calls prog 41 #[.l ad n cap] w λe w'=>∃ad' cap' g A C hb,e=.returned (.l ad' n cap')/\D4 w' ad' g n x A C hb/\((∀q,Fm g n (λi=>(x i).hn) hb q->w.1.size<=q)/\cu w' g n cap' x A C hb)/\Below w.1.size w w':=by
 obtain⟨i0,Fq,GH,C7,Fk⟩:=info_parts Eu;have HC:=Ab hc;have HF:=Ab hf;clear hc hf;go_enter func41,ntmps41;go_wp2;have tX:Nd (w.alloc (.cells #[] 52)) w.1.size (.l (some ⟨w.1.size,0,none⟩) 0 0) 0 x (λ_=>none) (λ_=>0) (λ_=>0):=⟨⟨λ_=>.i 0,by simpa[AN]using Dy (base:=w.1.size) (e:=52) (size:=7) w #[] 0 A9 S4 rfl,λi hi=>absurd hi (Ae _)⟩,λi hi=>absurd hi (Ae _),λi hi=>absurd hi (Ae _),λi hi=>absurd hi (Ae _),λi j hi=>absurd hi (Ae _),λi hi=>absurd hi (Ae _)⟩;go_loopw[3,4](λo i wr=>∃(k:Nat)(A:Nat->Option Addr)(C hb:Nat->Nat),k<=n/\i=.i k/\Below w.1.size w wr/\Nd wr w.1.size o k x A C hb)(λ_ i _=>n-(intOf i).toNat);case atStart=>exact⟨0,_,_,_,Ar _,rfl,Ak _ _,tX⟩
 case round=>
  clear tX;obtain⟨k,A,C,hb,hk,rfl,b0,bd⟩:=hrel;by_cases B7:k<n
  .obtain⟨b,off,ah,ch,rfl,Gc,Ja,Dh,Il⟩:=HC k B7;have My:=(HF k B7).h;obtain⟨e0,e1,e2,e3,e4,e5,e6⟩:=Dh.below b0 Za;have So:=Ab (Il.below b0 CD);have zr:=b0.size;have BD:=Ab bd;clear Dh Il bd;go_wp2_with fail;refine(Iy (x k) ah ch _ lo hi Za My So).mono ?_;rintro e w1 ⟨ad',cap',rfl,Ny,Ks,AU⟩;have Agv:=Ab Ny;clear Ny;obtain⟨b',La,Ox⟩:=Ks.one;have z1:=AU.size;have gO:=Ab La;have EG:=Ab Ox;have BD1:=Ab ((BD.grow AU).grow (Ak w1 (.cells (vO (x k) ad' cap') 52)));obtain⟨c,CG,DR⟩:=BD1.row;have Qw:=Ab DR;clear Ks La Ox e0 e1 e2 e3 e4 e5 e6 DR;go_wp2_with (at_builtin;go_must(refine wpList_append_own_at _ rfl _ _ 23 rfl w.1.size 52 i0 _ 7 96 underlying23 Fq GH C7 Fk rfl Zb _ k (AN (k*7) c) rfl CG ⟨w1.1.size,0,none⟩ 1 1 (Qz (x k) ad' cap') rfl rfl (DI w1 _ 52) kG Zl Za Zd ?_;intro v' w2 BH Bm Hs If;clear Hs));have hg2:=Bm.size;have FB:∀o,AB (λ_=>False) w1 (w1.alloc o):=λo=>Aj (Ak w1 o);have BD2:=Ab (BD1.app (cap':=cap') Qw BH Bm If (gO.frP (FB _) (λh0=>⟨λh=>h,(EG h0).2⟩)) (λh0=>⟨by have:=(EG h0).1;omega,by have:=(EG h0).2;simp;omega⟩)
    (λh0 e=>by obtain⟨c0,r0,_⟩:=BD.row;have h1:=(r0.lt _ e).2;have h2:=(EG h0).1;omega)
    (λi hi h0 h1 e=>by have h2:=(BD.hlt i hi h0).2;have h3:=(EG h1).1;omega) ((Agv.frB gO (FB _) (λ_ h=>h)).base Za));have B2:Below w.1.size w w2:=by obtain⟨c0,r0,_⟩:=BD.row;exact((b0.trans (AU.mono zr)).alloc Za _).trans ((BB Bm).below (λq hq e=>by have:=(r0.lt q e).1;omega) Zd)
   clear CG BH Bm If FB;go_wp2;exact xz
  .have rN:k=n:=Za;subst rN;obtain⟨ad',cap',g,e,at',hq⟩:=bd.done;subst e;have HOR:=Ab (bd.obR at'.addr);have AT':=Ab at';clear at' bd;go_wp2;go_ret;exact⟨ad',cap',g,A,C,hb,rfl,AT',⟨hq,HOR⟩,b0⟩
theorem XF (n:Nat)(x:Nat->Ch)(ad:OA)(cap:Nat)(w:World)(lo hi:Nat)(CD:hi<=w.1.size)(hl:(n:Int)<=1048576)(hf:∀i,i<n->Cu (x i).ob)(hc:Dv w lo hi ad n x):Calls prog 61 #[.l ad n cap] w λe w'=>∃ad' cap' g A C hb,e=.returned (.l ad' n cap')/\n<=cap'/\IQ w' ad' g n x A C hb/\(∀q,Fm g n (λi=>(x i).ob.hn) hb q->w.1.size<=q)/\Below w.1.size w w':=by
 obtain⟨i0,Fq,GH,C7,Fk⟩:=info_parts Gg;have HC:=Ab hc;have HF:=Ab hf;clear hc hf;go_enter func61,ntmps61;go_wp2;have tX:FI (w.alloc (.cells #[] 54)) w.1.size (.l (some ⟨w.1.size,0,none⟩) 0 0) 0 x (λ_=>none) (λ_=>0) (λ_=>0):=⟨⟨λ_=>.i 0,by simpa[AN]using Dy (base:=w.1.size) (e:=54) (size:=9) w #[] 0 A9 S4 rfl,λi hi=>absurd hi (Ae _)⟩,λi hi=>absurd hi (Ae _),λi hi=>absurd hi (Ae _),λi hi=>absurd hi (Ae _),λi j hi=>absurd hi (Ae _)⟩;go_loopw[3,4](λo i wr=>∃(k:Nat)(A:Nat->Option Addr)(C hb:Nat->Nat),k<=n/\i=.i k/\Below w.1.size w wr/\FI wr w.1.size o k x A C hb)(λ_ i _=>n-(intOf i).toNat);case atStart=>exact⟨0,_,_,_,Ar _,rfl,Ak _ _,tX⟩
 case round=>
  clear tX;obtain⟨k,A,C,hb,hk,rfl,b0,bd⟩:=hrel;by_cases B7:k<n
  .obtain⟨b,off,ah,ch,rfl,Gc,Ja,Dh,Il⟩:=HC k B7;have My:=(HF k B7).h;obtain⟨e0,e1,e2,e3,e4,e5,e6,e7,e8⟩:=Dh.below b0 Za;have zr:=b0.size;have So:=Ab (λo=>(Il.below b0 CD).alloc Za o);have BD:=Ab bd;clear Dh Il bd;go_wp2_with fail;refine(Iy (x k).ob ah ch _ lo hi Zd My (So _)).mono ?_;rintro e w1 ⟨ad',cap',rfl,_,Ks,AU⟩;obtain⟨b',La,Ox⟩:=Ks.one;have z1:wr.1.size+1<=w1.1.size:=by have:=AU.size;simpa using this
   have gO:=Ab La;have EG:Hid ((x k).ob.hn≠0->wr.1.size+1<=b'/\b'<w1.1.size):=λh0=>by have:=Ox h0;simpa using this
   have rv:AE w1 wr.1.size 9 (AV (PE (x k) ah ch)):=AE.new (w:=wr) (l:=(PE (x k) ah ch)) (t:=54) AU;have RV:=Ab rv;obtain⟨q0,q1,q2,q3,q4,q5,q6,q7,q8⟩:=Sc rv;have qf:=rv.free;have Gr:Below wr.1.size wr w1:=(Ak _ _).trans (AU.mono Ze);have Kr:=Ab Gr;clear Ks La Ox e0 e1 e2 e3 e4 e5 e6 e7 e8 rv AU Gr;have j9:Below wr.1.size wr (((((((w1.setCell ⟨wr.1.size,2,none⟩ (.s (x k).ob.k)).setCell ⟨wr.1.size,3,none⟩ (.s (x k).ob.n)).setCell ⟨wr.1.size,4,none⟩ (.i (x k).ob.t)).setCell ⟨wr.1.size,5,none⟩ (.i (x k).ob.b)).setCell ⟨wr.1.size,6,none⟩ (.s (x k).ob.m)).setCell ⟨wr.1.size,7,none⟩ (.bool (x k).ob.e)).setCell ⟨wr.1.size,8,none⟩ (.l ad' (x k).ob.hn cap')):=by
    iterate 7 refine Bs ?_ Ze _
    exact Kr
   have zS:(((((((w1.setCell ⟨wr.1.size,2,none⟩ (.s (x k).ob.k)).setCell ⟨wr.1.size,3,none⟩ (.s (x k).ob.n)).setCell ⟨wr.1.size,4,none⟩ (.i (x k).ob.t)).setCell ⟨wr.1.size,5,none⟩ (.i (x k).ob.b)).setCell ⟨wr.1.size,6,none⟩ (.s (x k).ob.m)).setCell ⟨wr.1.size,7,none⟩ (.bool (x k).ob.e)).setCell ⟨wr.1.size,8,none⟩ (.l ad' (x k).ob.hn cap')).1.size=w1.1.size:=Ze;have BD1:=Ab (BD.grow (j9.alloc (by rw[zS];omega) (.cells (vH (x k) ad' cap') 54)));obtain⟨c,CG,DR⟩:=BD1.row;have Qw:=Ab DR;have FS:AB (λq=>q=wr.1.size) w1 (((((((w1.setCell ⟨wr.1.size,2,none⟩ (.s (x k).ob.k)).setCell ⟨wr.1.size,3,none⟩ (.s (x k).ob.n)).setCell ⟨wr.1.size,4,none⟩ (.i (x k).ob.t)).setCell ⟨wr.1.size,5,none⟩ (.i (x k).ob.b)).setCell ⟨wr.1.size,6,none⟩ (.s (x k).ob.m)).setCell ⟨wr.1.size,7,none⟩ (.bool (x k).ob.e)).setCell ⟨wr.1.size,8,none⟩ (.l ad' (x k).ob.hn cap')):=by
    iterate 7 refine AB.setCell (P:=λq=>q=wr.1.size) ?_ KV _
    exact AB.refl _ _
   have HO2:=Ab ((gO.frP FS (λh0=>⟨by have:=(EG h0).1;omega,(EG h0).2⟩)).frP (Aj (P:=λ_=>False) (Ak (((((((w1.setCell ⟨wr.1.size,2,none⟩ (.s (x k).ob.k)).setCell ⟨wr.1.size,3,none⟩ (.s (x k).ob.n)).setCell ⟨wr.1.size,4,none⟩ (.i (x k).ob.t)).setCell ⟨wr.1.size,5,none⟩ (.i (x k).ob.b)).setCell ⟨wr.1.size,6,none⟩ (.s (x k).ob.m)).setCell ⟨wr.1.size,7,none⟩ (.bool (x k).ob.e)).setCell ⟨wr.1.size,8,none⟩ (.l ad' (x k).ob.hn cap')) (.cells (vH (x k) ad' cap') 54))) (λh0=>⟨λh=>h,by rw[zS];exact(EG h0).2⟩));have SF:=Ab (j9.alloc (by rw[zS];omega) (.cells (vH (x k) ad' cap') 54));have tH:=Ab CG;clear DR FS j9 zS CG;go_wp2_with (at_builtin;go_must(refine wpList_append_own_at _ rfl _ _ 26 rfl w.1.size 54 i0 _ 9 112 underlying26 Fq GH C7 Fk rfl Zb _ k (AN (k*9) c) rfl tH ⟨w1.1.size,0,none⟩ 1 1 (PE (x k) ad' cap') rfl rfl (by have h:=DI (((((((w1.setCell ⟨wr.1.size,2,none⟩ (.s (x k).ob.k)).setCell ⟨wr.1.size,3,none⟩ (.s (x k).ob.n)).setCell ⟨wr.1.size,4,none⟩ (.i (x k).ob.t)).setCell ⟨wr.1.size,5,none⟩ (.i (x k).ob.b)).setCell ⟨wr.1.size,6,none⟩ (.s (x k).ob.m)).setCell ⟨wr.1.size,7,none⟩ (.bool (x k).ob.e)).setCell ⟨wr.1.size,8,none⟩ (.l ad' (x k).ob.hn cap')) (PE (x k) ad' cap') 54;simpa using h) kG Zl Za Zd ?_;intro v' w2 BH Bm Hs If;clear Hs));have hg2:=Bm.size;have BD2:=Ab (BD1.app (cap':=cap') Qw BH Bm If HO2 (λh0=>⟨by have:=(EG h0).1;omega,by have:=(EG h0).2;simp;omega⟩)
    (λh0 e=>by obtain⟨c0,r0,_⟩:=BD.row;have h1:=(r0.lt _ e).2;have h2:=(EG h0).1;omega)
    (λi hi h0 h1 e=>by have h2:=(BD.hlt i hi h0).2;have h3:=(EG h1).1;omega));have B2:Below w.1.size w w2:=by obtain⟨c0,r0,_⟩:=BD.row;exact(b0.trans (SF.mono zr)).trans ((BB Bm).below (λq hq e=>by have:=(r0.lt q e).1;omega) Zd)
   clear BH Bm If;exact xz
  .have rN:k=n:=Za;subst rN;obtain⟨ad',cap',g,e,Mx,at',hq⟩:=bd.done;subst e;have AT':=Ab at';clear at' bd;go_wp2;go_ret;exact⟨ad',cap',g,A,C,hb,rfl,Mx,AT',hq,b0⟩
theorem D4.isIn{x:Nat->Ob}(h:D4 w ad g n x A C hb)(Gc:∀q,Fm g n (λi=>(x i).hn) hb q->lo<=q):Bh w lo w.1.size ad n x:=λi hi=>by
 obtain⟨c,r,e⟩:=h.row Za;obtain⟨a0,a1,a2,a3,a4,a5,a6⟩:=e i hi;refine⟨g,0,A i,C i,h.addr Za,Gc g (AA ⟨Za,rfl⟩),r.lt,?_,λj hj=>?_⟩;.rw[A6];exact Aco
 .obtain⟨b,off,e1,e2,e3,e4,_⟩:=h.hold i hi j hj;have LU:(x i).hn≠0:=Za;exact xr
theorem IQ.isIn{x:Nat->Ch}(h:IQ w ad g n x A C hb)(Gc:∀q,Fm g n (λi=>(x i).ob.hn) hb q->lo<=q):Dv w lo w.1.size ad n x:=λi hi=>by
 obtain⟨c,r,e⟩:=h.row Za;obtain⟨a0,a1,a2,a3,a4,a5,a6,a7,a8⟩:=e i hi;refine⟨g,0,A i,C i,h.addr Za,Gc g (AA ⟨Za,rfl⟩),r.lt,?_,λj hj=>?_⟩;.rw[A6];exact⟨(r.cell _ Za).trans (congrArg some a0),(r.cell _ Za).trans (congrArg some a1),(r.cell _ Za).trans (congrArg some a2),(r.cell _ Za).trans (congrArg some a3),(r.cell _ Za).trans (congrArg some a4),(r.cell _ Za).trans (congrArg some a5),(r.cell _ Za).trans (congrArg some a6),(r.cell _ Za).trans (congrArg some a7),(r.cell _ Za).trans (congrArg some a8)⟩
 .obtain⟨b,off,e1,e2,e3,e4,_⟩:=h.hold i hi j hj;have LU:(x i).ob.hn≠0:=Za;exact xr
theorem K6.isIn{x:Nat->Ti}(h:K6 w ad g n x)(Gc:0<n->lo<=g):DD w lo w.1.size ad n x:=λi hi=>by obtain⟨c,r,e⟩:=h.row Za;obtain⟨a0,a1,a2,a3,a4⟩:=e i hi;refine⟨g,0,h.addr Za,Gc Za,r.lt,?_⟩;rw[A6];exact⟨(r.cell _ Za).trans (congrArg some a0),(r.cell _ Za).trans (congrArg some a1),(r.cell _ Za).trans (congrArg some a2),(r.cell _ Za).trans (congrArg some a3),(r.cell _ Za).trans (congrArg some a4)⟩
theorem Jv.isIn{x:Bk}{p:Pl}(h:Jv w x p)(Gc:∀q,GA p x q->lo<=q):BL w lo w.1.size x p.a1 p.a2 p.a3:=⟨h.o.isIn (λq hq=>Gc q (AA hq)),h.h.isIn (λq hq=>Gc q (Az (AA hq))),h.t.isIn (λh0=>Gc _ (Az (Az ⟨h0,rfl⟩)))⟩
theorem mg{e z l:Nat}{xs:List Value}(h:w.ownsRow base e z (.l (some ⟨g,0,none⟩) l cap) n xs)(_hn:0<n):n<=cap:=by
 rcases h.2 with⟨h1,_⟩|⟨g',cap',cur,h1,_,_,h4,_⟩;.cases h1
 .cases h1;exact h4
theorem AK.lo0{s:Nat->ByteArray}(h:AK w lo hi ad n s):AK w 0 hi ad n s:=λi hi'=>by obtain⟨b,off,e1,e2,e3,e4⟩:=h i hi';exact⟨b,off,e1,Ar _,e3,e4⟩
theorem BL.lo0{x:Bk}(h:BL w lo hi x a1 a2 a3):BL w 0 hi x a1 a2 a3:=by
 refine⟨λi hi'=>?_,λi hi'=>?_,λi hi'=>?_⟩;.obtain⟨b,off,ah,ch,e1,e2,e3,e4,e5⟩:=h.o i hi';exact⟨b,off,ah,ch,e1,Ar _,e3,e4,e5.lo0⟩
 .obtain⟨b,off,ah,ch,e1,e2,e3,e4,e5⟩:=h.h i hi';exact⟨b,off,ah,ch,e1,Ar _,e3,e4,e5.lo0⟩
 .obtain⟨b,off,e1,e2,e3,e4⟩:=h.t i hi';exact⟨b,off,e1,Ar _,e3,e4⟩
end Go.Proofs.YtdknjmgdgnmhjaaGreat
