import Derived.Test.YtofencldleijcaaGreatPk35
import Derived.Test.YtofencldleijcaaGreatPk32
import Derived.Test.YtofencldleijcaaGreatPk34
import Derived.Deep.Light
import Derived.Test.YtofencldleijcaaGreatPk11
import Derived.Test.YtofencldleijcaaGreatPk26
import Derived.Test.YtofencldleijcaaGreatPk10
import Derived.Maps.AppendAt
import Derived.Deep.RegionLaw
set_option maxRecDepth 100000
set_option maxHeartbeats 8000000
namespace Go.Proofs.YtofencldleijcaaGreat
open Go.RowKit Go.Maps Go.Proofs.Tryz
theorem Vp(B:Bk)(v:Wr):0<=Bv B v/\Bv B v<=8:=by
 unfold Bv Dp;repeat' split
 all_goals decide
theorem W5{B:Bk}{x:Bu}(hf:Dm B)(hv:VB B)(hu:Ku x)(hb:Qr x):∀k,k<=x.rn->(∀j,j<k->PJ B x j=true)->VB (CO B x.rs k)/\(CO B x.rs k).tn=B.tn/\(CO B x.rs k).ts=B.ts/\B.now<=(CO B x.rs k).now
 |0,_,_=>⟨hv,rfl,rfl,Fc _⟩
 |k+1,hk,h=>by obtain⟨a,b,c,d⟩:=W5 hf hv hu hb k Zb (λj hj=>h j Zb);refine⟨I8 a (SR hf (I6 hv) hu hb k Zb (λj hj=>h j Zb)) (of_decide_eq_true (h k Zb)),b,c,?_⟩;show B.now<=(CO B x.rs k).now+1;omega
theorem iL{B:Bk}{x:Bu}(hf:Dm B)(hv:VB B)(hu:Ku x)(hb:Qr x):VB (BI B x)/\(BI B x).tn=B.tn/\(BI B x).ts=B.ts/\B.now<=(BI B x).now/\0<=Ct B x/\Ct B x<=9/\0<=CG B x/\CG B x<=(BI B x).now:=by
 have c:0<=Ct B x/\Ct B x<=9:=by
  unfold Ct;split;.decide
  .split;.have:=Vp (CO B x.rs (R3 B x)) (x.rs (R3 B x));omega
   .decide
 unfold BI CG;by_cases e:XU B x<x.wn\/R3 B x<x.rn;.rw[if_pos e,if_pos e];have:=hv.n0;have:=hv.n1;exact⟨hv,rfl,rfl,Fc _,c.1,c.2,Fc _,Zb⟩
 .rw[if_neg e,if_neg e];obtain⟨q1,q2,_⟩:=MV (PJ B x) x.rn;have hw:R3 B x=x.rn:=by unfold R3 at e⊢;omega
  obtain⟨a,b,cc,d⟩:=W5 hf hv hu hb x.rn Bg (λj hj=>q2 j (by unfold R3 at hw;omega));have:=a.n0;have:=a.n1;exact⟨a,b,cc,d,c.1,c.2,Zb,Fc _⟩
theorem gH{B:Bk}(h:Gg B.tn B.ts B.now=true):∀i j,i<j->j<B.tn->ER (B.ts i).client (B.ts j).client=true:=by unfold Gg Mb at h;simp only[Ak,AC]at h;intro i j hij;induction j with
 |zero=>omega
 |succ j ih=>
  intro hj;have s:=h.2.1 (j+1) hj;have s:ER (B.ts j).client (B.ts (j+1)).client=true:=by simpa using s
  by_cases e:i=j;.subst e;exact s
  .exact I3 (ih Zb Zb) s
theorem fQ{B:Bk}{c:Ca}(hf:Dm B)(hv:VB B)(hu:Ku c.bu)(h1:T4 c=true)(h2:MC c.bu=true)(h3:MD B c=true):VB (JE B c):=by
 obtain⟨a,b,cc,d,c0,c1,v0,v1⟩:=iL hf hv hu (IB h2);have ht:=hv.ti;have hasc:=gH ht;unfold Gg at ht;simp only[Ak,AC,decide_eq_true_eq]at ht;unfold T4 at h1;simp only[Ak]at h1;obtain⟨r1,r2,r3⟩:=IS (λi=>(B.ts i).client) c.client B.tn;have hk:DO B c.client=E7 (λi=>(B.ts i).client) c.client B.tn:=rfl;rw[<-hk]at r1 r2 r3;have hnew:JK (KZ B c) (BI B c.bu).now=true:=by unfold JK KZ;simp only[Ak,decide_eq_true_eq];exact⟨h1.1,h1.2,rfl,Fa ⟨c0,c1⟩,Fa ⟨v0,v1⟩⟩
 have hold:∀i,i<B.tn->JK (B.ts i) (BI B c.bu).now=true:=λi hi=>by have:=ht.2.2 i hi;unfold JK at this⊢;simp only[Ak]at this⊢;have q:=IT this.2.2.2.2;exact⟨this.1,this.2.1,this.2.2.1,this.2.2.2.1,Fa ⟨q.1,Zb⟩⟩
 refine⟨a.n0,a.n1,a.n2,a.on,a.asc,a.fit,a.vd,a.hn,a.hnow,a.ver,a.chg,a.liv,a.agO,a.agH,?_⟩;show Gg (if Hv B c.client then B.tn else B.tn+1) (Jy B.ts (DO B c.client) (Hv B c.client) (KZ B c)) (BI B c.bu).now=true;unfold MD at h3;unfold Gg Mb;simp only[Ak,AC,decide_eq_true_eq];cases hi:Hv B c.client with
 |true=>
  unfold Hv at hi;simp only[Ak,decide_eq_true_eq]at hi;simp only[if_true];refine⟨ht.1,λi h=>?_,λi h=>?_⟩;.cases i with
   |zero=>rfl
   |succ i=>
    have hA:=hasc i (i+1) Zb h;show((i+1==0)||ER (Jy B.ts (DO B c.client) true (KZ B c) (i+1-1)).client (Jy B.ts (DO B c.client) true (KZ B c) (i+1)).client)=true;have cl:∀j,(Jy B.ts (DO B c.client) true (KZ B c) j).client=(B.ts j).client:=λj=>by
     unfold Jy;split;.rfl
     .split;.rename_i e;subst e;exact hi.2.symm
      .rfl
    rw[cl,cl,Eu,hA,Bool.or_true]
  .unfold Jy;split;.exact hold i h
   .split;.exact hnew
    .exact hold i h
 |false=>
  rw[hi]at h3;simp only[Es,if_false]at h3⊢;have h3:=of_decide_eq_true h3;have hne:DO B c.client<B.tn->¬(B.ts (DO B c.client)).client=c.client:=λq e=>by unfold Hv at hi;rw[decide_eq_true q,decide_eq_true e]at hi;cases hi
  refine⟨Zb,λi h=>?_,λi h=>?_⟩;.cases i with
   |zero=>rfl
   |succ i=>
    show((i+1==0)||ER (Jy B.ts (DO B c.client) false (KZ B c) (i+1-1)).client (Jy B.ts (DO B c.client) false (KZ B c) (i+1)).client)=true;rw[Eu];suffices q:ER (Jy B.ts (DO B c.client) false (KZ B c) i).client (Jy B.ts (DO B c.client) false (KZ B c) (i+1)).client=true by rw[q,Bool.or_true]
    unfold Jy;by_cases e1:i+1<DO B c.client;.rw[if_pos Zb,if_pos e1];exact hasc i (i+1) Zb Zb
    .by_cases e2:i+1=DO B c.client;.rw[if_pos Zb,if_neg e1,if_pos e2];exact r2 i Zb
     .by_cases e3:i=DO B c.client;.rw[if_neg Zb,if_pos e3,if_neg e1,if_neg e2];show ER c.client (B.ts (i+1-1)).client=true;rw[Eu,e3];exact ML (r3 Zb) (hne Zb)
      .rw[if_neg Zb,if_neg e3,if_neg e1,if_neg e2];show ER (B.ts (i-1)).client (B.ts (i+1-1)).client=true;rw[Eu];exact hasc (i-1) i Zb Zb
  .unfold Jy;split;.exact hold i Zb
   .split;.exact hnew
    .exact hold (i-1) Zb
theorem fS{B:Bk}{c:Ca}(hf:Dm B)(hv:VB B)(hu:Ku c.bu):VB (FM B c):=by
 unfold FM;split;.rename_i h;exact fQ hf hv hu h.1 h.2.1 h.2.2
 .exact hv
end Go.Proofs.YtofencldleijcaaGreat
namespace Go.Proofs.YtofencldleijcaaGreat
open Go.RowKit Go.Maps Go.Proofs.Tryz
theorem N5 (B:Bk)(v:Wr)(a1 a2 a3:OA)(c1 c2 c3:Nat)(w:World)(hwr:EU v=false)(wf:Ml v):Calls prog 14 #[.agg (vB B a1 a2 a3 c1 c2 c3),.agg (vW v)] w λe w'=>e=.returned (.agg #[.i 2,.i B.now,.i B.floor,.l a1 B.on c1,.l a2 B.hn c2,.l a3 B.tn c3,.i 0])/\Below w.1.size w w':=by
 have B3:∀o1 o2 o3,Below w.1.size w (((w.alloc o1).alloc o2).alloc o3):=λo1 o2 o3=>(((Al _ _).alloc Bg _).alloc Zc _).alloc Zd _;have EV:=Ag B3;clear B3;have dU:=Ag hwr;have dY:=Ag wf;clear hwr wf;go_enter func14,ntmps14;go_wp2_with fail;refine(Fw v dY _).mono ?_;rintro e w1⟨rfl,hb1⟩;rw[dU.out];have z1:w.1.size+1+1<w1.1.size:=by have:=hb1.size;simp at this;omega
 have Lx:=Ag hb1;have IM:=Ag ((EV _ _ _).trans (hb1.mono Zd));obtain⟨X0,X1,X2,Y1,Y2⟩:=BQ hb1;have b0:=X0 0;have b1:=X0 1;have b2:=X0 2;have b3:=X0 3;have b4:=X0 4;have p0:=X1 0;have p1:=X1 1;have p2:=X1 2;have p3:=X1 3;have p4:=X1 4;have p5:=X1 5;have r0:=X2 0;have r1:=X2 1;have r2:=X2 2;have r3:=X2 3;have r4:=X2 4;have r5:=X2 5;have r6:=X2 6;simp only[Ac,Ab,Aa]at b0 b1 b2 b3 b4 p0 p1 p2 p3 p4 p5 r0 r1 r2 r3 r4 r5 r6;clear X0 X1 X2;clear hb1;go_wp2;refine bodyPost_ret (v:=.agg #[.i 2,.i B.now,.i B.floor,.l a1 B.on c1,.l a2 B.hn c2,.l a3 B.tn c3,.i 0]) (by simp[results,results14,go_sem,r0,r1,r2,r3,r4,r5,r6]) rfl ⟨rfl,by repeat(first|with_reducible exact IM.out|with_reducible refine BC ?_ Zi _|with_reducible refine Cg ?_ Zi _|with_reducible refine Ci ?_)⟩
structure EZ (w:World)(B:Bk)(a1 a2 a3:OA)(c3:Nat):Prop where
 v:VB B
 f:Dm B
 i:B7 w 0 w.1.size B a1 a2 a3
 c:E4 w B.tn a3 c3
theorem EZ.below{w w':World}{B:Bk}{a1 a2 a3:OA}{c3:Nat}(h:EZ w B a1 a2 a3 c3)(hb:Below w.1.size w w'):EZ w' B a1 a2 a3 c3:=⟨h.v,h.f,h.i.grow hb,h.c.grow hb.size⟩
def rM (w:World)(e:Ending)(w':World):Prop:=Below w.1.size w w'/\∃(cd:Int)(Y:Bk)(b1 b2 b3:OA)(e1 e2 e3:Nat)(ve:Int),e=.returned (.agg #[.i cd,.i Y.now,.i Y.floor,.l b1 Y.on e1,.l b2 Y.hn e2,.l b3 Y.tn e3,.i ve])/\EZ w' Y b1 b2 b3 e3
theorem SM{P:Prop}(h:P:=by rintro e w'⟨rfl,h⟩;exact⟨h,_,B,a1,a2,a3,c1,c2,c3,_,rfl,hb.below h⟩):P:=h
theorem NF (B:Bk)(v:Wr)(a1 a2 a3:OA)(c1 c2 c3:Nat)(w:World)(hb:EZ w B a1 a2 a3 c3)(hv:OE v):Calls prog 14 #[.agg (vB B a1 a2 a3 c1 c2 c3),.agg (vW v)] w λe w'=>rM w e w':=by cases hw:EU v with
 |false=>refine(N5 B v a1 a2 a3 c1 c2 c3 w hw hv.fit).mono ?_;exact SM
 |true=>
  have hok:=M5 hb.f (I6 hb.v) hw hv.fit;by_cases h0:Bv B v=0;.refine(MZ B v a1 a2 a3 c1 c2 c3 w hok hb.i h0).mono ?_;rintro e w'⟨h,x1,x2,x3,y1,y2,y3,rfl,hin,rfl,rfl⟩;exact⟨h,_,Eg B v,x1,x2,x3,y1,y2,y3,_,rfl,I8 hb.v hok h0,(MJ hok).1,hin,hb.c.grow h.size⟩
  .by_cases h4:Bv B v=4;.refine(P5 B v a1 a2 a3 c1 c2 c3 w hok hb.i h4).mono ?_;exact SM
   .refine(Lj B v a1 a2 a3 c1 c2 c3 w hok hb.i h0 h4).mono ?_;exact SM
end Go.Proofs.YtofencldleijcaaGreat
namespace Go.Proofs.YtofencldleijcaaGreat
open Go.RowKit Go.Proofs.Tryz
def rN (R:Nat)(ad:OA)(nn cap p:Nat)(w:World)(e:Ending)(w':World):Prop:=∃(x:Bu)(u1 u2:OA)(d1 d2:Nat),e=.returned (.agg (vU x u1 u2 d1 d2))/\RH x/\Fl w' 0 w'.1.size x u1 u2/\Dn R ad nn cap p 400 w w'
def mD (w:World)(B:Bk)(R:Nat)(ad:OA)(nn cap p k:Nat)(a1 a2 a3:OA)(c1 c2 c3 m1 m2:Nat)(X:World):Prop:=∃x u1 u2 d1 d2 g1 g2 p',p<=p'/\p'<=p+k/\x.wn<=m1/\x.rn<=m2/\Om w B R ad nn cap p' a1 a2 a3 c1 c2 c3 x u1 u2 d1 d2 g1 g2 X
structure fY (w:World)(B:Bk)(R:Nat)(ad:OA)(nn cap p k:Nat)(a1 a2 a3:OA)(c1 c2 c3 m1 m2:Nat)(M:Nat)(x:Bu)(u1 u2:OA)(d1 d2 g1 g2 p':Nat)(v:Wt)(X:World):Prop where
 b:p<=p'/\p'<=p+k/\x.wn<=m1/\x.rn<=m2
 l:Om w B R ad nn cap p' a1 a2 a3 c1 c2 c3 x u1 u2 d1 d2 g1 g2 X
 m:AM X M 3 (A7 (TE v))i:iV v
 M0:w.1.size+1+1+1<=M
 n1:0<d1->¬M=g1
 n2:0<d2->¬M=g2
def mH (w:World)(B:Bk)(R:Nat)(ad:OA)(nn cap p k:Nat)(a1 a2 a3:OA)(c1 c2 c3 m1 m2:Nat)(M:Nat)(X:World):Prop:=∃x u1 u2 d1 d2 g1 g2 p' v,fY w B R ad nn cap p k a1 a2 a3 c1 c2 c3 m1 m2 M x u1 u2 d1 d2 g1 g2 p' v X
structure Rx (w:World)(B:Bk)(R:Nat)(ad:OA)(nn cap p k:Nat)(a1 a2 a3:OA)(c1 c2 c3 m1 m2:Nat)(Nb:Nat)(x:Bu)(u1 u2:OA)(d1 d2 g1 g2 p':Nat)(Y:Bk)(b1 b2 b3:OA)(e1 e2 e3:Nat)(X:World):Prop where
 b:p<=p'/\p'<=p+k/\x.wn<=m1/\x.rn<=m2
 l:Om w B R ad nn cap p' a1 a2 a3 c1 c2 c3 x u1 u2 d1 d2 g1 g2 X
 m:AM X Nb 5 (A7 (Mu Y b1 b2 b3 e1 e2 e3))i:EZ X Y b1 b2 b3 e3
 N0:w.1.size+1+1+1<=Nb
 n1:0<d1->¬Nb=g1
 n2:0<d2->¬Nb=g2
 ns:G7 X Nb
def lH (w:World)(B:Bk)(R:Nat)(ad:OA)(nn cap p k:Nat)(a1 a2 a3:OA)(c1 c2 c3 m1 m2:Nat)(Nb:Nat)(X:World):Prop:=∃x u1 u2 d1 d2 g1 g2 p' Y b1 b2 b3 e1 e2 e3,Rx w B R ad nn cap p k a1 a2 a3 c1 c2 c3 m1 m2 Nb x u1 u2 d1 d2 g1 g2 p' Y b1 b2 b3 e1 e2 e3 X
theorem EZ.pick{X Y:World}{B:Bk}{R:Nat}{a1 a2 a3:OA}{c3:Nat}(h:EZ X B a1 a2 a3 c3)(hf:AB (λq=>q=R) X Y)(hn:∀j s,¬X.cell? ⟨R,j,none⟩=some (.s s)):EZ Y B a1 a2 a3 c3:=⟨h.v,h.f,(h.i.box hf hn Bg).upTo hf.size,h.c.grow hf.size⟩
theorem EZ.app{X Y:World}{B:Bk}{g d n:Nat}{a1 a2 a3:OA}{c3:Nat}(h:EZ X B a1 a2 a3 c3)(hf:AB (λq=>0<d/\q=g) X Y)(hp:0<d->Mq X g n)(hk:0<d->∀j,j<n->Y.cell? ⟨g,j,none⟩=X.cell? ⟨g,j,none⟩):EZ Y B a1 a2 a3 c3:=by
 refine⟨h.v,h.f,B7.upTo (hi:=X.1.size) ?_ hf.size,h.c.grow hf.size⟩;rcases BF d with h0|h0;.exact h.i.below ⟨hf.os,hf.tape,hf.output,hf.size,λi hi=>hf.block i hi (λe=>by omega)⟩ Bg
 .exact Z3 h.v h.i Bg (hf.mono (λk e=>e.2)) (hp h0) (hk h0)
theorem Va{w w3:World}{R y:Nat}(hf:AB (λq=>q=R) (w.alloc (.cells #[.s ⟨#[120]⟩,.s ⟨#[103,111,110,101]⟩] 9)) w3)(hR:¬w.1.size=R)(hy:(y:Int)<2):∃s:ByteArray,(s.size:Int)<=140737488355328/\w3.cell? ⟨w.1.size,y,none⟩=some (.s s):=by have e:=hf.cell (p:=⟨w.1.size,y,none⟩) Zc hR;have n:(w.alloc (.cells #[.s ⟨#[120]⟩,.s ⟨#[103,111,110,101]⟩] 9)).cell? ⟨w.1.size,y,none⟩=_:=Ao w #[.s ⟨#[120]⟩,.s ⟨#[103,111,110,101]⟩] 9 y;rw[e,n];rcases(show y=0\/y=1 by omega)with rfl|rfl;all_goals exact⟨_,Za,rfl⟩
theorem MS (X:World)(l:List Value)(t:TypeId)(h1:∀j,j<l.length->(A7 l j).oneCell'=true):BR (X.alloc (.cells l.toArray t)) X.1.size (X.1.size+1) (some ⟨X.1.size,0,none⟩) l.length (A7 l):=⟨λj hj=>⟨X.1.size,0,rfl,Az _,Bj _,by rw[Bq];exact(AM.new (l:=l) (t:=t) Ck).cell j hj⟩,h1⟩
theorem Nk{B:Bk}(h:VB B):B.on<=100/\∀i,i<B.on->(B.os i).hn<=100:=⟨h.on,λi hi=>by have:=(h.fit i hi).1;simp only[Bh,DP,Ak,decide_eq_true_eq]at this;omega⟩
theorem fY.pick{w:World}{B:Bk}{R:Nat}{ad:OA}{nn cap p k:Nat}{a1 a2 a3:OA}{c1 c2 c3 m1 m2:Nat}{M:Nat}{x:Bu}{u1 u2:OA}{d1 d2 g1 g2 p' q' p0 k':Nat}{v:Wt}{X Y:World}(h:fY w B R ad nn cap p k a1 a2 a3 c1 c2 c3 m1 m2 M x u1 u2 d1 d2 g1 g2 p' v X)(hw:Rd w R ad nn cap p0)(hf:AB (λq=>q=R) X Y)(hr:Rd Y R ad nn cap q')(hq:p'<=q')(hk:q'<=p+k'):fY w B R ad nn cap p k' a1 a2 a3 c1 c2 c3 m1 m2 M x u1 u2 d1 d2 g1 g2 q' v Y:=have hR:=hw.lt
 ⟨⟨AG h.b.1 hq,hk,h.b.2.2⟩,h.l.pick hw hf hr,h.m.fr2 hf (by have:=h.M0;omega),h.i,h.M0,h.n1,h.n2⟩
theorem fY.set{w:World}{B:Bk}{R:Nat}{ad:OA}{nn cap p k:Nat}{a1 a2 a3:OA}{c1 c2 c3 m1 m2:Nat}{M:Nat}{x:Bu}{u1 u2:OA}{d1 d2 g1 g2 p' p0:Nat}{v:Wt}{X:World}(h:fY w B R ad nn cap p k a1 a2 a3 c1 c2 c3 m1 m2 M x u1 u2 d1 d2 g1 g2 p' v X)(hw:Rd w R ad nn cap p0){o:Nat}(ho:o<3)(u:Value)(v':Wt)(hi:iV v')(e:∀j,j<3->Jm (A7 (TE v)) o u j=A7 (TE v') j):fY w B R ad nn cap p k a1 a2 a3 c1 c2 c3 m1 m2 M x u1 u2 d1 d2 g1 g2 p' v' (X.setCell ⟨M,o,none⟩ u):=⟨h.b,h.l.box hw ((AB.refl (λq=>q=M) X).setCell (p:=⟨M,o,none⟩) rfl u) h.M0 h.n1 h.n2,(h.m.set ho u).congr e,hi,h.M0,h.n1,h.n2⟩
theorem Rx.pick{w:World}{B:Bk}{R:Nat}{ad:OA}{nn cap p k:Nat}{a1 a2 a3:OA}{c1 c2 c3 m1 m2:Nat}{Nb:Nat}{x:Bu}{u1 u2:OA}{d1 d2 g1 g2 p' q' p0 k':Nat}{V:Bk}{b1 b2 b3:OA}{e1 e2 e3:Nat}{X Y:World}(h:Rx w B R ad nn cap p k a1 a2 a3 c1 c2 c3 m1 m2 Nb x u1 u2 d1 d2 g1 g2 p' V b1 b2 b3 e1 e2 e3 X)(hw:Rd w R ad nn cap p0)(hf:AB (λq=>q=R) X Y)(hr:Rd Y R ad nn cap q')(hq:p'<=q')(hk:q'<=p+k'):Rx w B R ad nn cap p k' a1 a2 a3 c1 c2 c3 m1 m2 Nb x u1 u2 d1 d2 g1 g2 q' V b1 b2 b3 e1 e2 e3 Y:=have hR:=hw.lt
 ⟨⟨AG h.b.1 hq,hk,h.b.2.2⟩,h.l.pick hw hf hr,h.m.fr2 hf (by have:=h.N0;omega),h.i.pick hf h.l.r.ns,h.N0,h.n1,h.n2,h.ns.fr hf h.m.lt (by have:=h.N0;omega)⟩
theorem Rx.wide{w:World}{B:Bk}{R:Nat}{ad:OA}{nn cap p k:Nat}{a1 a2 a3:OA}{c1 c2 c3 m1 m2:Nat}{Nb:Nat}{x:Bu}{u1 u2:OA}{d1 d2 g1 g2 p' k' m2':Nat}{V:Bk}{b1 b2 b3:OA}{e1 e2 e3:Nat}{X:World}(h:Rx w B R ad nn cap p k a1 a2 a3 c1 c2 c3 m1 m2 Nb x u1 u2 d1 d2 g1 g2 p' V b1 b2 b3 e1 e2 e3 X)(hk:k<=k')(hm:m2<=m2'):Rx w B R ad nn cap p k' a1 a2 a3 c1 c2 c3 m1 m2' Nb x u1 u2 d1 d2 g1 g2 p' V b1 b2 b3 e1 e2 e3 X:=⟨⟨h.b.1,by have:=h.b.2.1;omega,h.b.2.2.1,by have:=h.b.2.2.2;omega⟩,h.l,h.m,h.i,h.N0,h.n1,h.n2,h.ns⟩
theorem Rx.below{w:World}{B:Bk}{R:Nat}{ad:OA}{nn cap p k:Nat}{a1 a2 a3:OA}{c1 c2 c3 m1 m2:Nat}{Nb:Nat}{x:Bu}{u1 u2:OA}{d1 d2 g1 g2 p' p0:Nat}{V:Bk}{b1 b2 b3:OA}{e1 e2 e3:Nat}{X Y:World}(h:Rx w B R ad nn cap p k a1 a2 a3 c1 c2 c3 m1 m2 Nb x u1 u2 d1 d2 g1 g2 p' V b1 b2 b3 e1 e2 e3 X)(hw:Rd w R ad nn cap p0)(hb:Below X.1.size X Y):Rx w B R ad nn cap p k a1 a2 a3 c1 c2 c3 m1 m2 Nb x u1 u2 d1 d2 g1 g2 p' V b1 b2 b3 e1 e2 e3 Y:=⟨h.b,h.l.below hw hb,h.m.below hb h.m.lt,h.i.below hb,h.N0,h.n1,h.n2,h.ns.below hb h.m.lt⟩
def oC (w:World)(B:Bk)(R:Nat)(ad:OA)(nn cap p k:Nat)(a1 a2 a3:OA)(c1 c2 c3 m1 m2:Nat)(Nb Mv Dd:Nat)(v:Wr)(cd ve:Int)(X:World):Prop:=∃x u1 u2 d1 d2 g1 g2 p' Y b1 b2 b3 e1 e2 e3 V f1 f2 f3 h1 h2 h3,Rx w B R ad nn cap p k a1 a2 a3 c1 c2 c3 m1 m2 Nb x u1 u2 d1 d2 g1 g2 p' Y b1 b2 b3 e1 e2 e3 X/\AM X Mv 6 (A7 (wv v))/\AM X Dd 7 (A7 [.i cd,.i V.now,.i V.floor,.l f1 V.on h1,.l f2 V.hn h2,.l f3 V.tn h3,.i ve])/\EZ X V f1 f2 f3 h3/\(¬Nb=Mv/\¬Nb=Dd/\¬Mv=Dd/\w.1.size+1+1+1<=Mv/\w.1.size+1+1+1<=Dd)/\(0<d1->¬Mv=g1/\¬Dd=g1)/\(0<d2->¬Mv=g2/\¬Dd=g2)
theorem Rx.addR{w:World}{B:Bk}{R:Nat}{ad:OA}{nn cap p k:Nat}{a1 a2 a3:OA}{c1 c2 c3 m1 m2:Nat}{Nb:Nat}{x:Bu}{u1 u2:OA}{d1 d2 g1 g2 p' p0:Nat}{V:Bk}{b1 b2 b3:OA}{e1 e2 e3:Nat}{X Z:World}{v:Wr}{u2':OA}{d2' g2':Nat}(h:Rx w B R ad nn cap p k a1 a2 a3 c1 c2 c3 m1 m2 Nb x u1 u2 d1 d2 g1 g2 p' V b1 b2 b3 e1 e2 e3 X)(hw:Rd w R ad nn cap p0)(hf:AB (λq=>0<d2/\q=g2) X Z)(hr:Rw Z u2' g2' (x.rn+1) d2' 6 (LH (KP x.rs x.rn v)))(hp:Mq Z g2' ((x.rn+1)*6))(hk:0<d2->∀j,j<x.rn*6->Z.cell? ⟨g2,j,none⟩=X.cell? ⟨g2,j,none⟩)(hg:(0<d2/\g2'=g2)\/X.1.size<=g2')(hv:OE v)(hn:x.rn<100):Rx w B R ad nn cap p k a1 a2 a3 c1 c2 c3 m1 (m2+1) Nb (TC x v) u1 u2' d1 d2' g1 g2' p' V b1 b2 b3 e1 e2 e3 (Z.setCell ⟨w.1.size+1+1,1,none⟩ (.l u2' (x.rn+1) d2')):=by have F:=(AB.refl (λq=>q=w.1.size+1+1) Z).setCell (p:=⟨w.1.size+1+1,1,none⟩) rfl (.l u2' (x.rn+1) d2');have hN0:=h.N0;have hml:=h.m.lt;exact⟨⟨h.b.1,h.b.2.1,h.b.2.2.1,Nat.succ_le_succ h.b.2.2.2⟩,h.l.addR hw hf hr hp hg hv hn,(h.m.fr hf (λe=>h.n2 e.1 e.2)).fr F Zb,(h.i.app hf (λh0=>(h.l.h2 h0).2) hk).pick F (h.l.un.fr hf h.l.u.lt (λe=>by have:=(h.l.h2 e.1).1;omega)),h.N0,h.n1,λ_=>by
  rcases hg with⟨g0,rfl⟩|hg;.exact h.n2 g0
  .omega,(h.ns.fr hf hml (λe=>h.n2 e.1 e.2)).fr F (Ad hml hf.size) Zb⟩
theorem Rx.put{w:World}{B:Bk}{R:Nat}{ad:OA}{nn cap p k:Nat}{a1 a2 a3:OA}{c1 c2 c3 m1 m2:Nat}{Nb:Nat}{x:Bu}{u1 u2:OA}{d1 d2 g1 g2 p' p0 k':Nat}{Y V:Bk}{b1 b2 b3 f1 f2 f3:OA}{e1 e2 e3 h1 h2 h3:Nat}{X:World}(h:Rx w B R ad nn cap p k a1 a2 a3 c1 c2 c3 m1 m2 Nb x u1 u2 d1 d2 g1 g2 p' Y b1 b2 b3 e1 e2 e3 X)(hw:Rd w R ad nn cap p0)(hv:EZ X V f1 f2 f3 h3)(hk:k<=k'):Rx w B R ad nn cap p k' a1 a2 a3 c1 c2 c3 m1 m2 Nb x u1 u2 d1 d2 g1 g2 p' V f1 f2 f3 h1 h2 h3 (((((X.setCell ⟨Nb,0,none⟩ (.i V.now)).setCell ⟨Nb,1,none⟩ (.i V.floor)).setCell ⟨Nb,2,none⟩ (.l f1 V.on h1)).setCell ⟨Nb,3,none⟩ (.l f2 V.hn h2)).setCell ⟨Nb,4,none⟩ (.l f3 V.tn h3)):=by have F:=((((((AB.refl (λq=>q=Nb) X).setCell (p:=⟨Nb,0,none⟩) rfl (.i V.now)).setCell (p:=⟨Nb,1,none⟩) rfl (.i V.floor)).setCell (p:=⟨Nb,2,none⟩) rfl (.l f1 V.on h1)).setCell (p:=⟨Nb,3,none⟩) rfl (.l f2 V.hn h2)).setCell (p:=⟨Nb,4,none⟩) rfl (.l f3 V.tn h3));have M:=(((((h.m.set (o:=0) Za (.i V.now)).set (o:=1) Za (.i V.floor)).set (o:=2) Za (.l f1 V.on h1)).set (o:=3) Za (.l f2 V.hn h2)).set (o:=4) Za (.l f3 V.tn h3));refine⟨⟨h.b.1,by have:=h.b.2.1;omega,h.b.2.2⟩,h.l.box hw F h.N0 h.n1 h.n2,M.congr (λj hj=>?_),hv.pick F h.ns,h.N0,h.n1,h.n2,WK h.ns h.m V f1 f2 f3 h1 h2 h3⟩;.rcases(show j=0\/j=1\/j=2\/j=3\/j=4 by omega)with rfl|rfl|rfl|rfl|rfl<;>rfl
theorem cI{v:Wt}{o:Nat}{u:Value}{v':Wt}(h0:(if 0=o then u else .s v.kind)=.s v'.kind:=by rfl)(h1:(if 1=o then u else .s v.name)=.s v'.name:=by rfl)(h2:(if 2=o then u else .i v.ver)=.i v'.ver:=by rfl):∀j,j<3->Jm (A7 (TE v)) o u j=A7 (TE v') j:=λj hj=>by
 rcases(show j=0\/j=1\/j=2 by omega)with rfl|rfl|rfl;.exact h0
 .exact h1
 .exact h2
theorem Tf (B:Bk)(R:Nat)(ad:OA)(nn cap p:Nat)(a1 a2 a3:OA)(c1 c2 c3:Nat)(w:World)(hr:Rd w R ad nn cap p)(hp:p<=700000)(hb:EZ w B a1 a2 a3 c3):Calls prog 37 #[.p R 0,.agg (vB B a1 a2 a3 c1 c2 c3)] w λe w'=>rN R ad nn cap p w e w':=by
 have HS:=Ag (fB w B R ad nn cap p a1 a2 a3 c1 c2 c3 hr);have HB:=Ag hb;have HR:=Ag hr;have hRw:=hr.lt;clear hb hr;go_enter func37,ntmps37;go_upto_region 2 with fail;generalize((w.alloc (.cells (vB B a1 a2 a3 c1 c2 c3) 27)).alloc (.cells #[.l none 0 0,.l none 0 0] 88)).alloc (.cells #[.l none 0 0,.l none 0 0] 88)=X0 at HS⊢;go_upto_block 0 with(go_at_call 12;go_must(refine(BV R ad nn cap _ 3 _ HS.r Zb Za Za).mono ?_;rintro e w3 ⟨y,rfl,_,hy,hf3,hr3⟩;have hy3:=hy Za;clear hy));have Po:=Ag (HS.pick HR hf3 hr3);clear HS hf3 hr3;go_cut[](λwx=>mD w B R ad nn cap p 60 a1 a2 a3 c1 c2 c3 3 0 wx);case first=>
  --<l1
  go_wp2_with fail;go_loopw[6](λs6 wr=>∃n:Nat,s6=.i n/\n<=2/\Hid (mD w B R ad nn cap p (1+17*(2-n)) a1 a2 a3 c1 c2 c3 (2-n) 0 wr))(λs _=>(intOf s).toNat);case atStart=>exact⟨y,rfl,Zb,Ag ⟨_,_,_,_,_,_,_,_,Nat.le_succ _,Zb,Aw _,Aw _,Po⟩⟩
  case round=>
   clear Po;obtain⟨n,rfl,hn2,HL⟩:=hrel;go_upto_region 3 with fail;go_cut[22](λc wx=>∃b:Bool,c=.bool b/\(b=true->0<n)/\mD w B R ad nn cap p (2+17*(2-n)) a1 a2 a3 c1 c2 c3 (2-n) 0 wx);case first=>
    obtain⟨x,u1,u2,d1,d2,g1,g2,p',hq1,hq2,hq3,hq4,hL⟩:=HL.out;have I1:=Ag hL;clear HL hL;go_wp2_with (go_at_call 12;go_must(refine(BV R ad nn cap _ 2 _ I1.r Zb Za Za).mono ?_;rintro e w3 ⟨y,rfl,_,hy,hf3,hr3⟩;have hy3:=hy Za;clear hy));all_goals go_meet
    case rel=>exact⟨_,rfl,λ_=>by omega,x,u1,u2,d1,d2,g1,g2,p'+1,Zb,Zb,hq3,hq4,I1.pick HR hf3 hr3⟩
    case rel=>exact⟨_,rfl,λh=>KW,x,u1,u2,d1,d2,g1,g2,p',Zb,Zb,hq3,hq4,I1⟩
   case rest=>obtain⟨b,rfl,hb0,hL⟩:=hcut;have I1:=Ag hL;clear HL hL;cases b with
    |false=>go_wp2_with fail;go_meet;case rel=>obtain⟨x,u1,u2,d1,d2,g1,g2,p',hq1,hq2,hq3,hq4,hL⟩:=I1.out;exact⟨x,u1,u2,d1,d2,g1,g2,p',hq1,Zb,Zb,hq4,hL⟩
    |true=>
     have hn0:=hb0 rfl;clear hb0;go_upto_block 1 with fail;go_cut[](λwx=>mD w B R ad nn cap p (18+17*(2-n)) a1 a2 a3 c1 c2 c3 (3-n) 0 wx);case first=>
      --<b1
      obtain⟨x,u1,u2,d1,d2,g1,g2,p',hq1,hq2,hq3,hq4,hL⟩:=I1.out;have hsz:=hL.u.lt;have HL:=Ag hL;clear I1 hL;have hxb:∀o,Below wc.1.size wc (wc.alloc o):=λo=>An _ _;have iN:=Ag hxb;clear hxb;go_upto_region 6 with(go_at_call 12;go_must(refine(BV R ad nn cap p' 2 _ (HL.r.below (iN _)) Zb Za Za).mono ?_;rintro e w3 ⟨y,rfl,_,hy,hf3,hr3⟩;have hy2:=hy Za;obtain⟨s,hs1,hs2⟩:=Va hf3 Zb hy2;have HLp:=Ag (HL.pick HR ((Ap (iN _)).trans hf3) hr3)));have hz3:=HLp.u.lt;have HV:=Ag (show mH w B R ad nn cap p (3+17*(2-n)) a1 a2 a3 c1 c2 c3 (2-n) 0 w3.1.size (w3.alloc (.cells #[.s ⟨#[98,101,114,116,104]⟩,.s s,.i 0] 120))from⟨x,u1,u2,d1,d2,g1,g2,p'+1,⟨⟨#[98,101,114,116,104]⟩,s,0⟩,⟨Zb,Zb,hq3,hq4⟩,HLp.below HR EC,AM.new (l:=[.s ⟨#[98,101,114,116,104]⟩,.s s,.i 0]) (t:=120) Ck,⟨⟨by show((⟨#[98,101,114,116,104]⟩:ByteArray).size:Int)<=_;decide,hs1⟩,by show(0:Int)<=_;omega⟩,Zb,λh0=>by have:=(HLp.w1.room h0).lt;omega,λh0=>by have:=(HLp.w2.room h0).lt;omega⟩);have hzM:w3.1.size<(w3.alloc (.cells #[.s ⟨#[98,101,114,116,104]⟩,.s s,.i 0] 120)).1.size:=Zc;generalize w3.alloc (.cells #[.s ⟨#[98,101,114,116,104]⟩,.s s,.i 0] 120)=X5 at HV hzM⊢;generalize w3.1.size=M at HV hzM hz3⊢;clear hf3 hr3 HLp HL iN hs1 hs2 hy hy2 hq1 hq2 hq3 hq4;go_cut[39](λc wx=>∃b:Bool,c=.bool b/\(b=true->0<B.on)/\mH w B R ad nn cap p (4+17*(2-n)) a1 a2 a3 c1 c2 c3 (2-n) 0 M wx);case first=>
       --<r6
       obtain⟨x,u1,u2,d1,d2,g1,g2,p',v,hV⟩:=HV.out;have hS2:=hV.l.s.cell 2 Za;simp only[A7,Ae,Af]at hS2;have hq:=hV.b;have HW:=Ag hV;clear hV HV;go_wp2_with (go_at_call 12;go_must(refine(BV R ad nn cap _ 3 _ HW.l.r Zb Za Za).mono ?_;rintro e w3 ⟨y,rfl,_,hy,hf3,hr3⟩;have hy3:=hy Za;clear hy));all_goals go_meet
       case rel=>exact⟨_,rfl,λ_=>by omega,x,u1,u2,d1,d2,g1,g2,p'+1,v,HW.pick HR hf3 hr3 Zb Zb⟩
       case rel=>exact⟨_,rfl,λh=>KW,x,u1,u2,d1,d2,g1,g2,p',v,⟨⟨hq.1,Zb,hq.2.2⟩,HW.l,HW.m,HW.i,HW.M0,HW.n1,HW.n2⟩⟩
       --r6>
      case rest=>
       obtain⟨b,rfl,hb0,hV⟩:=hcut;have mU:=Ag hV;clear hV HV;go_upto_if 39 with fail;go_cut[](λwx=>mH w B R ad nn cap p (14+17*(2-n)) a1 a2 a3 c1 c2 c3 (2-n) 0 M wx);case first=>obtain⟨x,u1,u2,d1,d2,g1,g2,p',v,hV⟩:=mU.out;have hq:=hV.b;have HW:=Ag hV;clear hV mU;cases b with
        |false=>go_wp2_with fail;go_meet;case rel=>exact⟨x,u1,u2,d1,d2,g1,g2,p',v,⟨⟨hq.1,Zb,hq.2.2⟩,HW.l,HW.m,HW.i,HW.M0,HW.n1,HW.n2⟩⟩
        |true=>have hb1:=hb0 rfl;clear hb0;go_wp2_with fail;have hcS:=HW.l.s.cell 2 Za;simp only[A7,Ae,Af]at hcS;have hSl:=HW.l.s.lt;have hzX:=HW.l.f.size;have hM0:=HW.M0;have hMl:=HW.m.lt;refine gZ (A7 [_,_,_,_,_,_,_,_,_,_]) R ad nn cap p' w.1.size w.1.size B a1 c1 _ HW.l.r Zb hSl Zb hcS (HB.i.box HW.l.f HR.ns Bg).o hzX hb1 (Nk HB.v).1 rfl _ ?_;intro t O k ah ch q2 X2 ht hO hk hs hrow hfr hp3 hp4 hrd;rw[ht];have On:=Ag (HW.pick (k':=14+17*(2-n)) HR hfr hrd Zb Zb);have o0:=hrow.cell 0 Za;have o1:=hrow.cell 1 Za;have o2:=hrow.cell 2 Za;have ol:=hrow.lt;simp only[A7,Ae,Af]at o0 o1 o2;have r0:=On.m.cell 0 Za;have r1:=On.m.cell 1 Za;have r2:=On.m.cell 2 Za;have rf:=On.m.free;have rl:=On.m.lt;simp only[TE,A7,Ae,Af]at r0 r1 r2;have hne:¬O=M:=Zb;have RY:=Ag (HB.f.os k hk);clear hrow hfr hrd hs ht hcS HW;go_wp2_with fail;go_meet;case rel=>exact⟨x,u1,u2,d1,d2,g1,g2,q2,⟨(B.os k).kind,(B.os k).name,(B.os k).ver⟩,((On.set HR (o:=0) Za (.s (B.os k).kind) ⟨(B.os k).kind,v.name,v.ver⟩ ⟨⟨RY.k,On.i.fit.z1⟩,On.i.v1⟩ cI).set HR (o:=1) Za (.s (B.os k).name) ⟨(B.os k).kind,(B.os k).name,v.ver⟩ ⟨⟨RY.k,RY.n⟩,On.i.v1⟩ cI).set HR (o:=2) Za (.i (B.os k).ver) ⟨(B.os k).kind,(B.os k).name,(B.os k).ver⟩ ⟨⟨RY.k,RY.n⟩,dM RY.v⟩ cI⟩
        --r7>
       case rest=>
        have pE:=Ag hcut;clear hcut mU;obtain⟨x,u1,u2,d1,d2,g1,g2,p',v,hV⟩:=pE.out;have hq:=hV.b;have HW:=Ag hV;clear hV pE;go_upto_if 58 with(go_at_call 12;go_must(refine(BV R ad nn cap _ 5 _ HW.l.r Zb Za Za).mono ?_;rintro e w3 ⟨y,rfl,_,hy,hf3,hr3⟩;have hy3:=hy Za;clear hy));have On:=Ag (HW.pick (k':=15+17*(2-n)) HR hf3 hr3 Zb Zb);clear HW hf3 hr3;go_cut[](λwx=>mH w B R ad nn cap p (16+17*(2-n)) a1 a2 a3 c1 c2 c3 (2-n) 0 M wx);case first=>
         go_wp2_with (go_at_call 12;go_must(refine(BV R ad nn cap _ 9 _ On.l.r Zb Za Za).mono ?_;rintro e w4 ⟨y4,rfl,_,hy4,hf4,hr4⟩;have hy4':=hy4 Za;have iT:=Ag (On.pick (k':=16+17*(2-n)) HR hf4 hr4 Zb Zb);have r2:=iT.m.cell 2 Za;have rf2:=iT.m.free 2;have rl2:=iT.m.lt));all_goals go_meet
         case rel=>exact⟨x,u1,u2,d1,d2,g1,g2,_,_,iT.set HR (o:=2) Za _ ⟨v.kind,v.name,(y4:Int)⟩ ⟨⟨iT.i.fit.z0,iT.i.fit.z1⟩,by show(y4:Int)<=_;omega⟩ cI⟩
         case rel=>exact⟨x,u1,u2,d1,d2,g1,g2,p'+1,v,⟨⟨Zb,Zb,hq.2.2⟩,On.l,On.m,On.i,On.M0,On.n1,On.n2⟩⟩
        case rest=>have oK:=Ag hcut;clear hcut On;obtain⟨x,u1,u2,d1,d2,g1,g2,p',v,hV⟩:=oK.out;have hq:=hV.b;have HW:=Ag hV;clear hV oK;have q0:=HW.l.u.cell 0 Za;have r0:=HW.m.cell 0 Za;have r1:=HW.m.cell 1 Za;have r2:=HW.m.cell 2 Za;have rl:=HW.m.lt;have ul:=HW.l.u.lt;simp only[TE,A7,Ae,Af]at q0 r0 r1 r2;go_wp2_with ((with_reducible show wpList _ _ _ (⟨some 66,_,_,_,_,_⟩::_) _ _);obtain⟨ad',cap',g',Y,hrun,hrw,hfY,hg⟩:=O8 (P:=prog) (wc.alloc (.cells #[.s v.kind,.s v.name,.i v.ver] 120)) 86 86 120 3 40 _ OG RM Zb Ze u1 g1 x.wn d1 (bD x.ws) (HW.out.l.w1.grow EC) (λj _=>T9 _ _ (Gl _ Zb)) wc.1.size (wc.1.size+1) (some ⟨wc.1.size,0,none⟩) 1 1 (A7 (TE v)) (MS wc (TE v) 120 (λj hj=>T9 v j hj)) Zb Zb Zb;refine EG rfl _ _ _ _ rfl _ _ _ _ rfl rfl hrun ?_;have HA:=Ag (HW.out.l.below HR.out (An wc (.cells #[.s v.kind,.s v.name,.i v.ver] 120)));have U:=HA.out.u.fr hfY (λe=>by have:=HA.out.h1 e.1;omega);have U0:=U.cell 0 Za;have U1:=U.free 0;have U2:=U.lt);go_meet;case rel=>exact⟨Wf x v,ad',u2,cap',d2,g',g2,p',Zb,Zb,by show x.wn+1<=_;omega,hq.2.2.2,HA.addT HR hfY hrw hg HW.i Zb⟩
        --r9>
      --b1>
     case rest=>
      have G0:=Ag hcut;clear hcut I1;have hw1:IntKind.i64.wrap ((n:Int)-1)=((n-1:Nat):Int):=by rw[AE _ ⟨Zb,Zb⟩];omega
      go_wp2;refine⟨⟨n-1,rfl,Zb,Ag ?_⟩,?_⟩;.obtain⟨x,u1,u2,d1,d2,g1,g2,p',hq1,hq2,hq3,hq4,hL⟩:=G0.out;exact⟨x,u1,u2,d1,d2,g1,g2,p',hq1,Zb,Zb,hq4,hL⟩
      .show(((n-1:Nat):Int)).toNat<((n:Int)).toNat;omega
  --l1>
 case rest=>
  have HL:=Ag hcut;clear hcut Po;obtain⟨x,u1,u2,d1,d2,g1,g2,p',hq1,hq2,hq3,hq4,hL⟩:=HL.out;have Fs:=Ag hL;clear HL hL;have s0:=Fs.s.cell 0 Za;have s1:=Fs.s.cell 1 Za;have s2:=Fs.s.cell 2 Za;have s3:=Fs.s.cell 3 Za;have s4:=Fs.s.cell 4 Za;have sl:=Fs.s.lt;have ul:=Fs.u.lt;simp only[A7,Ae,Af]at s0 s1 s2 s3 s4;go_upto_region 13 with fail;have HN:=Ag (show lH w B R ad nn cap p 60 a1 a2 a3 c1 c2 c3 3 0 wc.1.size (wc.alloc (.cells (vB B a1 a2 a3 c1 c2 c3) 27))from⟨x,u1,u2,d1,d2,g1,g2,p',B,a1,a2,a3,c1,c2,c3,⟨hq1,hq2,hq3,hq4⟩,Fs.below HR EC,AM.new (l:=(Mu B a1 a2 a3 c1 c2 c3)) (t:=27) Ck,(HB.pick Fs.f HR.ns).below EC,Zb,λh0=>by have:=(Fs.w1.room h0).lt;omega,λh0=>by have:=(Fs.w2.room h0).lt;omega,Ui _ _ _ _ _ _ _ _⟩);have hzN:wc.1.size<(wc.alloc (.cells (vB B a1 a2 a3 c1 c2 c3) 27)).1.size:=Zc;generalize wc.alloc (.cells (vB B a1 a2 a3 c1 c2 c3) 27)=X1 at HN hzN⊢;generalize wc.1.size=Nb at HN hzN ul⊢;clear s0 s1 s2 s3 s4 sl Fs hq1 hq2 hq3 hq4;obtain⟨x,u1,u2,d1,d2,g1,g2,p',Y,b1,b2,b3,e1,e2,e3,hN⟩:=HN.out;have hq:=hN.b;go_upto_block 2 with(go_at_call 12;go_must(refine(BV R ad nn cap _ 4 _ hN.l.r Zb Za Za).mono ?_;rintro e w3 ⟨y,rfl,_,hy,hf3,hr3⟩;have hy3:=hy Za;clear hy));have J6:=Ag (show lH w B R ad nn cap p 61 a1 a2 a3 c1 c2 c3 3 0 Nb w3 from⟨x,u1,u2,d1,d2,g1,g2,p'+1,Y,b1,b2,b3,e1,e2,e3,hN.pick HR hf3 hr3 Zb Zb⟩);clear HN hN hf3 hr3 hq;go_cut[](λwx=>lH w B R ad nn cap p 350 a1 a2 a3 c1 c2 c3 3 4 Nb wx);case first=>
   go_wp2_with fail;go_loopw[10](λs wr=>∃n:Int,s=.i n/\-1<=n/\n<=3/\Hid (lH w B R ad nn cap p (61+62*(3-n).toNat) a1 a2 a3 c1 c2 c3 3 (3-n).toNat Nb wr))(λs _=>(intOf s+1).toNat);case atStart=>obtain⟨x,u1,u2,d1,d2,g1,g2,p',Y,b1,b2,b3,e1,e2,e3,hN⟩:=J6.out;exact⟨y,rfl,Zb,Zb,Ag ⟨x,u1,u2,d1,d2,g1,g2,p',Y,b1,b2,b3,e1,e2,e3,hN.wide Zb Zb⟩⟩
   case round=>
    clear J6;obtain⟨n,rfl,hn1,hn3,HN⟩:=hrel;by_cases hn0:0<=n
    .go_upto_block 3 with fail;go_cut[](λwx=>lH w B R ad nn cap p (123+62*(3-n).toNat) a1 a2 a3 c1 c2 c3 3 ((3-n).toNat+1) Nb wx);case first=>
      --<b3
      obtain⟨x,u1,u2,d1,d2,g1,g2,p',Y,b1,b2,b3,e1,e2,e3,hN⟩:=HN.out;have hq:=hN.b;have HM:=Ag hN;have m0:=hN.m.cell 0 Za;have m1:=hN.m.cell 1 Za;have m2:=hN.m.cell 2 Za;have m3:=hN.m.cell 3 Za;have m4:=hN.m.cell 4 Za;have ml:=hN.m.lt;simp only[A7,Ae,Af]at m0 m1 m2 m3 m4;clear HN hN;go_upto_region 17 with(go_at_call 13;go_must(refine(Kw Y R ad nn cap p' b1 b2 b3 e1 e2 e3 _ HM.l.r Zb HM.i.f (Nk HM.i.v).1 (Nk HM.i.v).2 HM.i.i).mono ?_;rintro e w3 ⟨v,rfl,hv,hf3,q3,hq31,hq32,hr3⟩));have KU:=Ag ((HM.pick (k':=121+62*(3-n).toNat) HR hf3 hr3 hq31 Zb).below HR (An w3 (.cells (vW v) 36)));have HV:=Ag (show AM (w3.alloc (.cells (vW v) 36)) w3.1.size 6 (A7 (wv v))from AM.new (w:=w3) (l:=wv v) (t:=36) Ck);have hlv:w3.1.size<(w3.alloc (.cells (vW v) 36)).1.size:=Zc;have hvU0:w.1.size+1+1+1<=w3.1.size:=by have:=(HM.l.pick HR hf3 hr3).u.lt;omega
      have hvn:¬Nb=w3.1.size/\(0<d1->¬w3.1.size=g1)/\(0<d2->¬w3.1.size=g2):=by have h:=HM.pick (k':=121+62*(3-n).toNat) HR hf3 hr3 hq31 Zb;have h1:=h.m.lt;exact⟨Zb,λh0=>by have:=(h.l.w1.room h0).lt;omega,λh0=>by have:=(h.l.w2.room h0).lt;omega⟩
      clear HM m0 m1 m2 m3 m4 ml hf3 hr3;generalize w3.alloc (.cells (vW v) 36)=X3 at KU HV hlv⊢;generalize w3.1.size=Mv at HV hlv hvn hvU0⊢;have m0:=KU.m.cell 0 Za;have m1:=KU.m.cell 1 Za;have m2:=KU.m.cell 2 Za;have m3:=KU.m.cell 3 Za;have m4:=KU.m.cell 4 Za;have ml:=KU.m.lt;have v0:=HV.cell 0 Za;have v1:=HV.cell 1 Za;have v2:=HV.cell 2 Za;have v3:=HV.cell 3 Za;have v4:=HV.cell 4 Za;have v5:=HV.cell 5 Za;simp only[wv,A7,Ae,Af]at m0 m1 m2 m3 m4 v0 v1 v2 v3 v4 v5;go_upto_region 18 with(go_at_call 14;go_must(refine(NF Y v b1 b2 b3 e1 e2 e3 _ KU.i hv).mono ?_;rintro e w4 ⟨hb4,cd,V,f1,f2,f3,h1,h2,h3,ve,rfl,hV⟩));have HD:=Ag (show oC w B R ad nn cap p (121+62*(3-n).toNat) a1 a2 a3 c1 c2 c3 3 (3-n).toNat Nb Mv w4.1.size v cd ve (w4.alloc (.cells #[.i cd,.i V.now,.i V.floor,.l f1 V.on h1,.l f2 V.hn h2,.l f3 V.tn h3,.i ve] 33))from⟨x,u1,u2,d1,d2,g1,g2,q3,Y,b1,b2,b3,e1,e2,e3,V,f1,f2,f3,h1,h2,h3,(KU.below HR hb4).below HR EC,(HV.below hb4 hlv).below EC (Ad hlv hb4.size),AM.new (l:=[.i cd,.i V.now,.i V.floor,.l f1 V.on h1,.l f2 V.hn h2,.l f3 V.tn h3,.i ve]) (t:=33) Ck,hV.below EC,⟨hvn.1,by have:=hb4.size;omega,by have:=hb4.size;omega,hvU0,by have:=hb4.size;omega⟩,λh0=>⟨hvn.2.1 h0,by have:=((KU.l.below HR hb4).w1.room h0).lt;omega⟩,λh0=>⟨hvn.2.2 h0,by have:=((KU.l.below HR hb4).w2.room h0).lt;omega⟩⟩);generalize w4.alloc (.cells #[.i cd,.i V.now,.i V.floor,.l f1 V.on h1,.l f2 V.hn h2,.l f3 V.tn h3,.i ve] 33)=X4 at HD⊢;generalize w4.1.size=Dd at HD⊢;clear KU HV m0 m1 m2 m3 m4 ml v0 v1 v2 v3 v4 v5 hb4 hV hvn hlv;go_cut[88](λc wx=>∃b:Bool,c=.bool b/\oC w B R ad nn cap p (122+62*(3-n).toNat) a1 a2 a3 c1 c2 c3 3 (3-n).toNat Nb Mv Dd v cd ve wx);case first=>
       --<r18
       obtain⟨x,u1,u2,d1,d2,g1,g2,q3,Y,b1,b2,b3,e1,e2,e3,V,f1,f2,f3,h1,h2,h3,hN,hrv,hrd,hbv,hne,hn1',hn2'⟩:=HD.out;have hq:=hN.b;have HNn:=Ag hN;have r0:=hrd.cell 0 Za;have rl:=hrd.lt;have cY:=Ag hrd;simp only[A7,Ae]at r0;clear HD hN hrd;have VG:=Ag hrv;clear hrv;go_wp2_with (go_at_call 12;go_must(refine(BV R ad nn cap _ 3 _ HNn.l.r Zb Za Za).mono ?_;rintro e w3 ⟨y,rfl,_,hy,hf3,hr3⟩;have hy3:=hy Za;clear hy));all_goals go_meet
       case rel=>exact⟨_,rfl,x,u1,u2,d1,d2,g1,g2,q3,Y,b1,b2,b3,e1,e2,e3,V,f1,f2,f3,h1,h2,h3,HNn.wide Zb Bg,VG,cY,hbv,hne,hn1',hn2'⟩
       case rel=>exact⟨_,rfl,x,u1,u2,d1,d2,g1,g2,q3+1,Y,b1,b2,b3,e1,e2,e3,V,f1,f2,f3,h1,h2,h3,HNn.pick HR hf3 hr3 Zb Zb,VG.fr2 hf3 Zb,cY.fr2 hf3 Zb,hbv.pick hf3 HNn.l.r.ns,hne,hn1',hn2'⟩
       --r18>
      case rest=>
       obtain⟨b,rfl,hD⟩:=hcut;have jQ:=Ag hD;clear hD HD;go_upto_if 88 with fail;go_cut[](λwx=>oC w B R ad nn cap p (122+62*(3-n).toNat) a1 a2 a3 c1 c2 c3 3 ((3-n).toNat+1) Nb Mv Dd v cd ve wx);case first=>obtain⟨x,u1,u2,d1,d2,g1,g2,q3,Y,b1,b2,b3,e1,e2,e3,V,f1,f2,f3,h1,h2,h3,hN,hrv,hrd,hbv,hne,hn1',hn2'⟩:=jQ.out;have hq:=hN.b;have HNn:=Ag hN;have cY:=Ag hrd;have VG:=Ag hrv;clear jQ hN hrd hrv;cases b with
        |false=>go_wp2_with fail;go_meet;case rel=>exact⟨x,u1,u2,d1,d2,g1,g2,q3,Y,b1,b2,b3,e1,e2,e3,V,f1,f2,f3,h1,h2,h3,HNn.wide Bg Zb,VG,cY,hbv,hne,hn1',hn2'⟩
        |true=>have q1:=HNn.l.u.cell 1 Za;have v0:=VG.cell 0 Za;have v1:=VG.cell 1 Za;have v2:=VG.cell 2 Za;have v3:=VG.cell 3 Za;have v4:=VG.cell 4 Za;have v5:=VG.cell 5 Za;have vl:=VG.lt;have ul:=HNn.l.u.lt;have hrw3:x.rn<=4:=Zb;have hvU:¬Mv=w.1.size+1+1:=Zb;have hdU:¬Dd=w.1.size+1+1:=Zb;simp only[wv,A7,Ae,Af]at q1 v0 v1 v2 v3 v4 v5;go_wp2_with ((with_reducible show wpList _ _ _ (⟨some 93,_,_,_,_,_⟩::_) _ _);obtain⟨ad',cap',g',Z,hrun,hrw,hpt,hfZ,hkZ,hg⟩:=OQ (wc.alloc (.cells (vW v) 36)) 28 u2 g2 x.rn d2 x.rs v (HNn.out.l.w2.grow EC) (λh0=>(HNn.out.l.below HR.out EC).h2 h0|>.2) wc.1.size (wc.1.size+1) (some ⟨wc.1.size,0,none⟩) 1 (MS wc (wv v) 36 (λj hj=>Th v j hj)) Zb;refine EG rfl _ _ _ _ rfl _ _ _ _ rfl rfl hrun ?_;have HA:=Ag (HNn.out.below HR.out (An wc (.cells (vW v) 36)));have U:=HA.out.l.u.fr hfZ (λe=>by have:=(HA.out.l.h2 e.1).1;omega);have U0:=U.cell 1 Za;have U1:=U.free 1;have U2:=U.lt);go_meet;case rel=>exact⟨TC x v,u1,ad',d1,cap',g1,g',q3,Y,b1,b2,b3,e1,e2,e3,V,f1,f2,f3,h1,h2,h3,HA.addR HR hfZ hrw hpt hkZ hg hv Zb,(((VG.below EC vl).fr hfZ (λe=>(hn2' e.1).1 e.2)).fr ((AB.refl (λq=>q=w.1.size+1+1) Z).setCell (p:=⟨w.1.size+1+1,1,none⟩) rfl _) hvU),(((cY.below EC cY.lt).fr hfZ (λe=>(hn2' e.1).2 e.2)).fr ((AB.refl (λq=>q=w.1.size+1+1) Z).setCell (p:=⟨w.1.size+1+1,1,none⟩) rfl _) hdU),((hbv.below EC).app hfZ (λh0=>(HA.l.h2 h0).2) hkZ).pick ((AB.refl (λq=>q=w.1.size+1+1) Z).setCell (p:=⟨w.1.size+1+1,1,none⟩) rfl _) (HA.l.un.fr hfZ HA.l.u.lt (λe=>by have:=(HA.l.h2 e.1).1;omega)),hne,hn1',λh0=>by
          rcases hg with⟨g0,rfl⟩|hg;.exact hn2' g0
          .have:=cY.lt;have hz:(wc.alloc (.cells (vW v) 36)).1.size=wc.1.size+1:=Zc;omega⟩
        --r19>
       case rest=>
        have pJ:=Ag hcut;clear hcut jQ;obtain⟨x,u1,u2,d1,d2,g1,g2,q3,Y,b1,b2,b3,e1,e2,e3,V,f1,f2,f3,h1,h2,h3,hN,hrv,hrd,hbv,hne,hn1',hn2'⟩:=pJ.out;have hq:=hN.b;have HNn:=Ag hN;have cY:=Ag hrd;have qO:=Ag hbv;clear pJ hN hrv hbv;have r0:=hrd.cell 0 Za;have r1:=hrd.cell 1 Za;have r2:=hrd.cell 2 Za;have r3:=hrd.cell 3 Za;have r4:=hrd.cell 4 Za;have r5:=hrd.cell 5 Za;have rl:=hrd.lt;have m0:=HNn.m.cell 0 Za;have m1:=HNn.m.cell 1 Za;have m2:=HNn.m.cell 2 Za;have m3:=HNn.m.cell 3 Za;have m4:=HNn.m.cell 4 Za;have ml:=HNn.m.lt;have mf:=HNn.m.free;simp only[A7,Ae,Af]at r0 r1 r2 r3 r4 r5 m0 m1 m2 m3 m4;clear hrd;go_wp2_with fail;all_goals go_meet
        case rel=>exact⟨x,u1,u2,d1,d2,g1,g2,q3,V,f1,f2,f3,h1,h2,h3,HNn.put HR qO Zb⟩
        case rel=>exact⟨x,u1,u2,d1,d2,g1,g2,q3,Y,b1,b2,b3,e1,e2,e3,HNn.wide Zb Bg⟩
        --r20>
      --b3>
     case rest=>have Si:=Ag hcut;clear hcut HN;have hw1:IntKind.i64.wrap (n-1)=n-1:=AE _ ⟨Zb,Zb⟩;go_wp2;obtain⟨x,u1,u2,d1,d2,g1,g2,p',Y,b1,b2,b3,e1,e2,e3,hN⟩:=Si.out;refine⟨⟨n-1,rfl,Zb,Zb,Ag ⟨x,u1,u2,d1,d2,g1,g2,p',Y,b1,b2,b3,e1,e2,e3,hN.wide Zb Zb⟩⟩,?_⟩;show(n-1+1).toNat<(n+1).toNat;omega
    .go_wp2_with fail;go_meet;case rel=>obtain⟨x,u1,u2,d1,d2,g1,g2,p',Y,b1,b2,b3,e1,e2,e3,hN⟩:=HN.out;exact⟨x,u1,u2,d1,d2,g1,g2,p',Y,b1,b2,b3,e1,e2,e3,hN.wide Zb Zb⟩
  case rest=>have HN:=Ag hcut;clear hcut J6;obtain⟨x,u1,u2,d1,d2,g1,g2,p',Y,b1,b2,b3,e1,e2,e3,hN⟩:=HN.out;have HM:=Ag hN;clear HN hN;have q0:=HM.l.u.cell 0 Za;have q1:=HM.l.u.cell 1 Za;have ul':=HM.l.u.lt;have A0:=HM.l.a.cell 0 Za;have A1:=HM.l.a.cell 1 Za;have AF:=HM.l.a.free;have AL:=HM.l.a.lt;simp only[A7,Ae,Af]at q0 q1 A0 A1;have hq:=HM.b;go_wp2_with fail;have Z:=(HM.l.a.set (o:=0) Za (.l u1 x.wn d1)).set (o:=1) Za (.l u2 x.rn d2);have z0:=Z.cell 0 Za;have z1:=Z.cell 1 Za;simp[Jm]at z0 z1;have FF:=((AB.refl (λq=>q=w.1.size+1) wc).setCell (p:=⟨w.1.size+1,0,none⟩) rfl (.l u1 x.wn d1)).setCell (p:=⟨w.1.size+1,1,none⟩) rfl (.l u2 x.rn d2);have G1:=HM.l.w1.fr FF (λh0 e=>by have:=HM.l.h1 h0;omega);have G2:=HM.l.w2.fr FF (λh0 e=>by have:=(HM.l.h2 h0).1;omega);refine bodyPost_ret (v:=.agg (vU x u1 u2 d1 d2)) (by simp[results,results37,go_sem,z0,z1]) rfl ⟨x,u1,u2,d1,d2,rfl,HM.l.i,⟨G1.wts,G2.wrs⟩,(HM.l.f.far Zb _ _).far Zb _ _,p',Zb,Zb,HR.far (HR.far HM.l.r Zb _ _) Zb _ _⟩
  --l2>
end Go.Proofs.YtofencldleijcaaGreat
namespace Go.Proofs.YtofencldleijcaaGreat
open Go.RowKit Go.Proofs.Tryz
theorem NC{ops:Array Oper}{l:Array Bool}(hord:((List.range ops.size).all λi=>match ops[i]? with|some o=>o.after.all (λe=>!(Region.binds .any e)||decide (e.on<i))|none=>true)=true)(hs:l.size=ops.size)(hr:Region.ready .any ops l=[]):∀i,i<ops.size->l.getD i false=true:=by
 have conv:∀i,i<ops.size->l.getD i true=l.getD i false:=λi hi=>by simp[Array.getD,hs,hi]
 intro i;induction i using Nat.strongRecOn with
 |_ i ih=>intro hi;cases hg:l.getD i false with
  |true=>rfl
  |false=>
   have hm:i∈Region.ready .any ops l:=by
    rw[mem_ready];refine⟨(conv i hi).trans hg,ops[i],by simp[hi],λe he hb=>?_⟩;have h1:=Bt.1 hord i (by simpa using hi);simp only[DF hi]at h1;have h2:=(A9.1 h1) e he;have h3:e.on<i:=by rw[hb]at h2;simpa using h2
    exact ih e.on h3 Zb
   rw[hr]at hm;cases hm
def RK (n m Kk:Nat)(mk:(Nat->Value)->Array Value)(W:World)(R:Nat)(ad:OA)(nn cap p:Nat)(G:Nat->Value->World->Prop)(Fin:Act->World->Prop)(l:Array Bool)(a:Act)(X:World):Prop:=l.size=n+1/\((l.getD n false=true->(∀i,i<n->¬i=m->l.getD i false=true)/\Fin a X)/\(l.getD n false=false->∃t:Nat->Value,a=⟨mk t,[]⟩/\AB (λq=>q=R) W X/\(∃p',p<=p'/\p'<=p+Kk*l.toList.count true/\Rd X R ad nn cap p')/\∀i,i<n->l.getD i false=true->G i (t i) X))
theorem Nt{P:Program}{id:Nat}{ops:Array Oper}{Q:Exit->Act->World->Prop}{a0:Act}{W:World}(hm:P.follows .mixedOrders=true)(n m Kk:Nat)(mk:(Nat->Value)->Array Value)(t0:Nat->Value)(R:Nat)(ad:OA)(nn cap p:Nat)(G:Nat->Value->World->Prop)(Fin:Act->World->Prop)(hn:ops.size=n+1)(hord:((List.range ops.size).all λi=>match ops[i]? with|some o=>o.after.all (λe=>!(Region.binds .any e)||decide (e.on<i))|none=>true)=true)(hlast:((List.range n).all λj=>(j==m)||match ops[n]? with|some o=>o.after.any (λe=>Region.binds .any e&&e.on==j)|none=>false)=true)(st:∀i v X Y p',i<n->G i v X->AB (λq=>q=R) X Y->Rd X R ad nn cap p'->R<W.1.size->W.1.size<=X.1.size->G i v Y)(h0:a0=⟨mk t0,[]⟩)(hr:Rd W R ad nn cap p)(sg:∀i,i<n->∀(t:Nat->Value) X K p',AB (λq=>q=R) W X->p<=p'->p'<=p+Kk*n->Rd X R ad nn cap p'->(∀j,Cf ops i j->G j (t j) X)->(∀v Y p2,p'<=p2->p2<=p'+Kk->G i v Y->AB (λq=>q=R) X Y->Rd Y R ad nn cap p2->K ⟨mk (AN t i v),[]⟩ Y)->wpOp P ops Q i K ⟨mk t,[]⟩ X)(sl:∀(t:Nat->Value) X K p',AB (λq=>q=R) W X->p<=p'->p'<=p+Kk*n->Rd X R ad nn cap p'->(∀j,j<n->¬j=m->G j (t j) X)->(∀a Y,Fin a Y->K a Y)->wpOp P ops Q n K ⟨mk t,[]⟩ X)(sf:m<n->∀a X K,Fin a X->(∀a',Fin a' X->K a' X)->wpOp P ops Q m K a X)(hfin:∀a X,Fin a X->Q .normal a X):(Code.region id ops true).wp P Q a0 W:=by
 have hdep:∀i j,i<n+1->Cf ops i j->j<n:=by
  rintro i j hi ⟨o,ho,e,he,hb,rfl⟩;have h1:=Bt.1 hord i (Bc.2 Zb);rw[ho]at h1;have h2:=A9.1 h1 e he;rw[hb]at h2;have:e.on<i:=by simpa using h2
  omega
 refine CA hm (RK n m Kk mk W R ad nn cap p G Fin) ?_ ?_ ?_ ?_
 .have hz:∀i,(Array.replicate ops.size false).getD i false=false:=λi=>by simp[Array.getD]
  refine⟨by simp[hn],λh=>?_,λ_=>⟨t0,h0,Ap (Al _ _).drew,⟨p,Az _,Zb,hr.below (Al _ _).drew⟩,λi _ h=>?_⟩⟩<;>(rw[hz]at h;cases h)
 .rintro l a X ⟨hs,_⟩;rw[hs,hn]
 .rintro l a X ⟨hs,h6,_⟩ hr;have AL:=NC hord (by rw[hs,hn]) hr;exact hfin a X (h6 (AL n Zb)).2
 .rintro l a X i ⟨hs,h6,hg⟩ hr';obtain⟨hu,o,ho,hall⟩:=mem_ready.1 hr';have di:∀j,Cf ops i j->l.getD j false=true:=by
   rintro j ⟨o',ho',e,he,hb,rfl⟩;rw[ho]at ho';obtain rfl:o=o':=by simpa using ho'
   exact hall e he hb
  have hi7:i<n+1:=by
   rcases At i (n+1)with h|h;.exact h
   .rw[AP Zb]at ho;cases ho
  have hui:l.getD i false=false:=by have:l.getD i true=false:=hu;simpa[Array.getD,hs,hi7]using this
  have kp:∀j,¬j=i->(l.setIfInBounds i true).getD j false=l.getD j false:=λj hj=>by rw[BM Zb,if_neg hj]
  have ki:(l.setIfInBounds i true).getD i false=true:=by rw[BM Zb,if_pos rfl]
  have hs':(l.setIfInBounds i true).size=n+1:=by simp[hs]
  have ku:∀j,l.getD j false=true->(l.setIfInBounds i true).getD j false=true:=λj h=>by
   by_cases e:j=i;.subst e;exact ki
   .rw[kp j e];exact h
  cases l6:l.getD n false with
  |true=>
   have hne:¬i=n:=λe=>by rw[e,l6]at hui;cases hui
   have him:i=m:=by
    rcases Nat.decEq i m with h|h;.rw[(h6 l6).1 i Zb h]at hui;cases hui
    .exact h
   subst him;have h6':=h6 l6;clear hr' hu ho hg h6;refine sf Zb a X _ h6'.2 (λa' hF=>⟨hs',λ_=>⟨λj hj hjm=>ku j (h6'.1 j hj hjm),hF⟩,λh=>?_⟩);rw[ku n l6]at h;cases h
  |false=>
  obtain⟨t,rfl,hb,⟨p',q1,q2,hrd⟩,gg⟩:=hg l6;have hc:=NG Zb hui;have hc2:(l.setIfInBounds i true).toList.count true<=n+1:=by have:=List.count_le_length (a:=true) (l:=(l.setIfInBounds i true).toList);simpa[hs]using this
  have hcn:Kk*l.toList.count true<=Kk*n:=Nat.mul_le_mul_left _ Zb;have hck:Kk*(l.setIfInBounds i true).toList.count true=Kk*l.toList.count true+Kk:=by rw[hc,Nat.mul_add,Nat.mul_one]
  by_cases hin:i=n
  .subst hin;have al:∀j,j<i->¬j=m->l.getD j false=true:=λj hj hjm=>by have h1:=Bt.1 hlast j (Bc.2 hj);rw[ho,show(j==m)=false from by simpa using hjm,Bool.false_or]at h1;obtain⟨k,hk,h2⟩:=IW.1 h1;simp only[Ak,beq_iff_eq]at h2;exact di j ⟨o,ho,o.after[k],F2 hk,h2.1,h2.2⟩
   clear hr' hu ho h6 hg;refine sl t X _ p' hb q1 Zb hrd (λj hj hjm=>gg j hj (al j hj hjm)) (λa Y hY=>⟨hs',λ_=>⟨λj hj hjm=>?_,hY⟩,λh=>?_⟩);.exact ku j (al j hj hjm)
   .rw[ki]at h;cases h
  .clear hr' hu ho h6 hg;have hno:(l.setIfInBounds i true).getD n false=false:=by rw[kp n (λe=>hin e.symm)];exact l6
   refine sg i Zb t X _ p' hb q1 Zb hrd (λj hj=>gg j (hdep i j hi7 hj) (di j hj)) (λv Y p2 r1 r2 hv hY hrY=>⟨hs',λh=>?_,λ_=>⟨AN t i v,rfl,hb.trans hY,⟨p2,Zb,Zb,hrY⟩,λj j1 h=>?_⟩⟩);.rw[hno]at h;cases h
   .by_cases e:j=i;.subst e;rw[BE];exact hv
    .rw[kp j e]at h;rw[BO e];exact st _ _ _ _ _ j1 (gg j j1 h) hY hrd hr.lt hb.size
end Go.Proofs.YtofencldleijcaaGreat
namespace Go.Proofs.YtofencldleijcaaGreat
open Go.RowKit Go.Maps Go.Proofs.Tryz
theorem Bd.isIn{w:World}{lo hi:Nat}{ad:OA}{n:Nat}{s:Nat->ByteArray}(h:Bd w lo hi ad n s):Ax w lo hi ad n s:=λi hi'=>by obtain⟨b,off,e1,e2,e3,e4,e5⟩:=h i hi';exact⟨b,off,e1,e2,e3,e4⟩
theorem D5.blt{w:World}{ad:OA}{g n:Nat}{x:Nat->Ob}{A:Nat->Option Addr}{C hb:Nat->Nat}(h:D5 w ad g n x A C hb){k:Nat}(hk:Gy g n (λi=>(x i).hn) hb k):k<w.1.size:=by
 rcases hk with⟨h0,rfl⟩|⟨i,hi,h0,rfl⟩;.obtain⟨c,r,_⟩:=h.row h0;exact r.lt
 .exact h.hlt i hi h0
theorem Gw.blt{w:World}{ad:OA}{g n:Nat}{x:Nat->Ch}{A:Nat->Option Addr}{C hb:Nat->Nat}(h:Gw w ad g n x A C hb){k:Nat}(hk:Gy g n (λi=>(x i).ob.hn) hb k):k<w.1.size:=by
 rcases hk with⟨h0,rfl⟩|⟨i,hi,h0,rfl⟩;.obtain⟨c,r,_⟩:=h.row h0;exact r.lt
 .exact h.hlt i hi h0
theorem ID.blt{w:World}{ad:OA}{g n:Nat}{x:Nat->Ti}(h:ID w ad g n x){k:Nat}(hk:0<n/\k=g):k<w.1.size:=by obtain⟨h0,rfl⟩:=hk;obtain⟨c,r,_⟩:=h.row h0;exact r.lt
theorem Kr.blt{w:World}{x:Bk}{p:Pl}(h:Kr w x p){k:Nat}(hk:Ot p x k):k<w.1.size:=by
 rcases hk with h1|h1|h1;.exact h.o.blt h1
 .exact h.h.blt h1
 .exact h.t.blt h1
structure V6 (w:World)(g n cap:Nat)(x:Nat->Ob)(A:Nat->Option Addr)(C hb:Nat->Nat):Prop where
 le:n<=cap
 row:0<n->Fk w g (cap*7)ho:∀i,i<n->(x i).hn<=C i/\((x i).hn=0->C i=0)/\(0<C i->A i=some ⟨hb i,0,none⟩/\Fk w (hb i) (C i))
theorem Fk.frP{w w':World}{g m:Nat}{P:Nat->Prop}(h:Fk w g m)(hf:AB P w w')(hp:¬P g):Fk w' g m:=⟨λj hj=>by obtain⟨u,hu⟩:=h.has j hj;exact⟨u,(hf.cell (p:=⟨g,j,none⟩) h.lt hp).trans hu⟩,λj=>(hf.frozen (p:=⟨g,j,none⟩) h.lt hp).trans (h.free j),Ad h.lt hf.size⟩
theorem V6.fr{w w':World}{g n cap:Nat}{x:Nat->Ob}{A:Nat->Option Addr}{C hb:Nat->Nat}{P:Nat->Prop}(h:V6 w g n cap x A C hb)(hf:AB P w w')(hp:∀k,Gy g n (λi=>(x i).hn) hb k->¬P k):V6 w' g n cap x A C hb:=⟨h.le,λh0=>(h.row h0).frP hf (hp g (AO ⟨h0,rfl⟩)),λi hi=>⟨(h.ho i hi).1,(h.ho i hi).2.1,λh0=>⟨((h.ho i hi).2.2 h0).1,((h.ho i hi).2.2 h0).2.frP hf (hp _ (AD ⟨i,hi,λe=>by have:=(h.ho i hi).2.1 e;omega,rfl⟩))⟩⟩⟩
theorem V6.grow{w w':World}{g n cap:Nat}{x:Nat->Ob}{A:Nat->Option Addr}{C hb:Nat->Nat}(h:V6 w g n cap x A C hb)(hb':Below w.1.size w w'):V6 w' g n cap x A C hb:=h.fr (Ap (P:=λ_=>False) hb') (λ_ _ h=>h)
theorem Ky.obR{w:World}{base:Nat}{ad:OA}{k cap g:Nat}{x:Nat->Ob}{A:Nat->Option Addr}{C hb:Nat->Nat}(h:Ky w base (.l ad k cap) k x A C hb)(hg:0<k->ad=some ⟨g,0,none⟩):V6 w g k cap x A C hb:=by
 obtain⟨c,r,_⟩:=h.row;refine⟨?_,λh0=>?_,λi hi=>⟨(h.rm i hi).le,(h.rm i hi).z,λh0=>?_⟩⟩
 .rcases r.2 with⟨h1,h2⟩|⟨g',cap',cur,h1,h2,h3,h4,_⟩;.omega
  .injection h1 with e1 e2 e3;omega
 .rw[hg h0]at r;exact(Rn r).1
 .obtain⟨g',e,hg',rm⟩:=(h.rm i hi).rm h0;have hn:(x i).hn≠0:=λe=>by have:=(h.rm i hi).z e;omega
  obtain⟨b',off,e',l1,l2,_⟩:=h.hold i hi 0 Zb;rw[e]at e';injection e' with e';injection e' with e1 e2;have hgb:g'=hb i:=Zb;subst hgb;exact⟨e,rm⟩
theorem L4 (n:Nat)(x:Nat->Ob)(ad:OA)(cap:Nat)(w:World)(lo hi:Nat)(hhi:hi<=w.1.size)(hl:(n:Int)<=1048576)(hf:∀i,i<n->DD (x i))(hc:Bs w lo hi ad n x):Calls prog 32 #[.l ad n cap] w λe w'=>∃ad' cap' g A C hb,e=.returned (.l ad' n cap')/\D5 w' ad' g n x A C hb/\((∀q,Gy g n (λi=>(x i).hn) hb q->w.1.size<=q)/\V6 w' g n cap' x A C hb)/\Below w.1.size w w':=by
 obtain⟨i0,hi0,hz0,hz1,hz2⟩:=info_parts GB;have HC:=Ag hc;have HF:=Ag hf;clear hc hf;go_enter func32,ntmps32;go_wp2;have bd0:Ky (w.alloc (.cells #[] 61)) w.1.size (.l (some ⟨w.1.size,0,none⟩) 0 0) 0 x (λ_=>none) (λ_=>0) (λ_=>0):=⟨⟨λ_=>.i 0,by simpa[Ay]using Et (base:=w.1.size) (e:=61) (size:=7) w #[] 0 Bg OM rfl,λi hi=>absurd hi (Ai _)⟩,λi hi=>absurd hi (Ai _),λi hi=>absurd hi (Ai _),λi hi=>absurd hi (Ai _),λi j hi=>absurd hi (Ai _),λi hi=>absurd hi (Ai _)⟩;go_loopw[3,4](λo i wr=>∃(k:Nat)(A:Nat->Option Addr)(C hb:Nat->Nat),k<=n/\i=.i k/\Below w.1.size w wr/\Ky wr w.1.size o k x A C hb)(λ_ i _=>n-(intOf i).toNat);case atStart=>exact⟨0,_,_,_,Aw _,rfl,An _ _,bd0⟩
 case round=>
  clear bd0;obtain⟨k,A,C,hb,hk,rfl,b0,bd⟩:=hrel;by_cases hkn:k<n
  .obtain⟨b,off,ah,ch,rfl,hlo,hbh,hcx,hsx⟩:=HC k hkn;have hfk:=(HF k hkn).h;obtain⟨e0,e1,e2,e3,e4,e5,e6⟩:=hcx.below b0 Zb;have ZD:=Ag (hsx.below b0 hhi);have zr:=b0.size;have BD:=Ag bd;clear hcx hsx bd;go_wp2_with fail;refine(Kz (x k) ah ch _ lo hi Zb hfk ZD).mono ?_;rintro e w1 ⟨ad',cap',rfl,hrm1,hs1,hb1⟩;have m6:=Ag hrm1;clear hrm1;obtain⟨b',ho1,hl1⟩:=hs1.one;have z1:=hb1.size;have Uq:=Ag ho1;have Fs:=Ag hl1;have BD1:=Ag ((BD.grow hb1).grow (An w1 (.cells (vO (x k) ad' cap') 61)));obtain⟨c,hown,hat⟩:=BD1.row;have RO:=Ag hat;clear hs1 ho1 hl1 e0 e1 e2 e3 e4 e5 e6 hat;go_wp2_with (at_builtin;go_must(refine wpList_append_own_at _ rfl _ _ 23 rfl w.1.size 61 i0 _ 7 96 underlying23 hi0 hz0 hz1 hz2 rfl Za _ k (Ay (k*7) c) rfl hown ⟨w1.1.size,0,none⟩ 1 1 (iX (x k) ad' cap') rfl rfl (DM w1 _ 61) Xf Zs Zb Zd ?_;intro v' w2 hown2 hgrow2 hnil2 hat2;clear hnil2));have hg2:=hgrow2.size;have FB:∀o,AB (λ_=>False) w1 (w1.alloc o):=λo=>Ap (An w1 o);have BD2:=Ag (BD1.app (cap':=cap') RO hown2 hgrow2 hat2 (Uq.frP (FB _) (λh0=>⟨λh=>h,(Fs h0).2⟩)) (λh0=>⟨by have:=(Fs h0).1;omega,by have:=(Fs h0).2;simp;omega⟩)
    (λh0 e=>by obtain⟨c0,r0,_⟩:=BD.row;have h1:=(r0.lt _ e).2;have h2:=(Fs h0).1;omega)
    (λi hi h0 h1 e=>by have h2:=(BD.hlt i hi h0).2;have h3:=(Fs h1).1;omega) ((m6.frB Uq (FB _) (λ_ h=>h)).base Zb));have B2:Below w.1.size w w2:=by obtain⟨c0,r0,_⟩:=BD.row;exact((b0.trans (hb1.mono zr)).alloc Zb _).trans ((Bz hgrow2).below (λq hq e=>by have:=(r0.lt q e).1;omega) Zd)
   clear hown hown2 hgrow2 hat2 FB;go_wp2;go_roundw;case rel=>exact⟨k+1,_,_,_,Zb,by go_num,B2,BD2⟩
   case measure=>simp[intOf];omega
  .have hke:k=n:=Zb;subst hke;obtain⟨ad',cap',g,e,at',hq⟩:=bd.done;subst e;have qN:=Ag (bd.obR at'.addr);have AT':=Ag at';clear at' bd;go_wp2;go_ret;exact⟨ad',cap',g,A,C,hb,rfl,AT',⟨hq,qN⟩,b0⟩
theorem Rg (n:Nat)(x:Nat->Ch)(ad:OA)(cap:Nat)(w:World)(lo hi:Nat)(hhi:hi<=w.1.size)(hl:(n:Int)<=1048576)(hf:∀i,i<n->DD (x i).ob)(hc:Dr w lo hi ad n x):Calls prog 45 #[.l ad n cap] w λe w'=>∃ad' cap' g A C hb,e=.returned (.l ad' n cap')/\n<=cap'/\Gw w' ad' g n x A C hb/\(∀q,Gy g n (λi=>(x i).ob.hn) hb q->w.1.size<=q)/\Below w.1.size w w':=by
 obtain⟨i0,hi0,hz0,hz1,hz2⟩:=info_parts IK;have HC:=Ag hc;have HF:=Ag hf;clear hc hf;go_enter func45,ntmps45;go_wp2;have bd0:LP (w.alloc (.cells #[] 63)) w.1.size (.l (some ⟨w.1.size,0,none⟩) 0 0) 0 x (λ_=>none) (λ_=>0) (λ_=>0):=⟨⟨λ_=>.i 0,by simpa[Ay]using Et (base:=w.1.size) (e:=63) (size:=9) w #[] 0 Bg OM rfl,λi hi=>absurd hi (Ai _)⟩,λi hi=>absurd hi (Ai _),λi hi=>absurd hi (Ai _),λi hi=>absurd hi (Ai _),λi j hi=>absurd hi (Ai _)⟩;go_loopw[3,4](λo i wr=>∃(k:Nat)(A:Nat->Option Addr)(C hb:Nat->Nat),k<=n/\i=.i k/\Below w.1.size w wr/\LP wr w.1.size o k x A C hb)(λ_ i _=>n-(intOf i).toNat);case atStart=>exact⟨0,_,_,_,Aw _,rfl,An _ _,bd0⟩
 case round=>
  clear bd0;obtain⟨k,A,C,hb,hk,rfl,b0,bd⟩:=hrel;by_cases hkn:k<n
  .obtain⟨b,off,ah,ch,rfl,hlo,hbh,hcx,hsx⟩:=HC k hkn;have hfk:=(HF k hkn).h;obtain⟨e0,e1,e2,e3,e4,e5,e6,e7,e8⟩:=hcx.below b0 Zb;have zr:=b0.size;have ZD:=Ag (λo=>(hsx.below b0 hhi).alloc Zb o);have BD:=Ag bd;clear hcx hsx bd;go_wp2_with fail;refine(Kz (x k).ob ah ch _ lo hi Zd hfk (ZD _)).mono ?_;rintro e w1 ⟨ad',cap',rfl,_,hs1,hb1⟩;obtain⟨b',ho1,hl1⟩:=hs1.one;have z1:wr.1.size+1<=w1.1.size:=by have:=hb1.size;simpa using this
   have Uq:=Ag ho1;have Fs:Hid ((x k).ob.hn≠0->wr.1.size+1<=b'/\b'<w1.1.size):=λh0=>by have:=hl1 h0;simpa using this
   have rv:AM w1 wr.1.size 9 (A7 [.i (x k).ver,.bool (x k).gone,.s (x k).ob.kind,.s (x k).ob.name,.i (x k).ob.ver,.i (x k).ob.born,.s (x k).ob.text,.bool (x k).ob.ending,.l ah (x k).ob.hn ch]):=AM.new (w:=wr) (l:=[.i (x k).ver,.bool (x k).gone,.s (x k).ob.kind,.s (x k).ob.name,.i (x k).ob.ver,.i (x k).ob.born,.s (x k).ob.text,.bool (x k).ob.ending,.l ah (x k).ob.hn ch]) (t:=63) hb1;have RV:=Ag rv;have q0:=rv.cell 0 Zb;have q1:=rv.cell 1 Zb;have q2:=rv.cell 2 Zb;have q3:=rv.cell 3 Zb;have q4:=rv.cell 4 Zb;have q5:=rv.cell 5 Zb;have q6:=rv.cell 6 Zb;have q7:=rv.cell 7 Zb;have q8:=rv.cell 8 Zb;have qf:=rv.free;simp only[A7,Ae,Af]at q0 q1 q2 q3 q4 q5 q6 q7 q8;have hbw:Below wr.1.size wr w1:=(An _ _).trans (hb1.mono Zc);have IM:=Ag hbw;clear hs1 ho1 hl1 e0 e1 e2 e3 e4 e5 e6 e7 e8 rv hb1 hbw;have hBW:Below wr.1.size wr (((((((w1.setCell ⟨wr.1.size,2,none⟩ (.s (x k).ob.kind)).setCell ⟨wr.1.size,3,none⟩ (.s (x k).ob.name)).setCell ⟨wr.1.size,4,none⟩ (.i (x k).ob.ver)).setCell ⟨wr.1.size,5,none⟩ (.i (x k).ob.born)).setCell ⟨wr.1.size,6,none⟩ (.s (x k).ob.text)).setCell ⟨wr.1.size,7,none⟩ (.bool (x k).ob.ending)).setCell ⟨wr.1.size,8,none⟩ (.l ad' (x k).ob.hn cap')):=by
    iterate 7 refine BC ?_ Zc _
    exact IM
   have zS:(((((((w1.setCell ⟨wr.1.size,2,none⟩ (.s (x k).ob.kind)).setCell ⟨wr.1.size,3,none⟩ (.s (x k).ob.name)).setCell ⟨wr.1.size,4,none⟩ (.i (x k).ob.ver)).setCell ⟨wr.1.size,5,none⟩ (.i (x k).ob.born)).setCell ⟨wr.1.size,6,none⟩ (.s (x k).ob.text)).setCell ⟨wr.1.size,7,none⟩ (.bool (x k).ob.ending)).setCell ⟨wr.1.size,8,none⟩ (.l ad' (x k).ob.hn cap')).1.size=w1.1.size:=Zc;have BD1:=Ag (BD.grow (hBW.alloc (by rw[zS];omega) (.cells #[.i (x k).ver,.bool (x k).gone,.s (x k).ob.kind,.s (x k).ob.name,.i (x k).ob.ver,.i (x k).ob.born,.s (x k).ob.text,.bool (x k).ob.ending,.l ad' (x k).ob.hn cap'] 63)));obtain⟨c,hown,hat⟩:=BD1.row;have RO:=Ag hat;have FS:AB (λq=>q=wr.1.size) w1 (((((((w1.setCell ⟨wr.1.size,2,none⟩ (.s (x k).ob.kind)).setCell ⟨wr.1.size,3,none⟩ (.s (x k).ob.name)).setCell ⟨wr.1.size,4,none⟩ (.i (x k).ob.ver)).setCell ⟨wr.1.size,5,none⟩ (.i (x k).ob.born)).setCell ⟨wr.1.size,6,none⟩ (.s (x k).ob.text)).setCell ⟨wr.1.size,7,none⟩ (.bool (x k).ob.ending)).setCell ⟨wr.1.size,8,none⟩ (.l ad' (x k).ob.hn cap')):=by
    iterate 7 refine AB.setCell (P:=λq=>q=wr.1.size) ?_ (by rfl) _
    exact AB.refl _ _
   have RT:=Ag ((Uq.frP FS (λh0=>⟨by have:=(Fs h0).1;omega,(Fs h0).2⟩)).frP (Ap (P:=λ_=>False) (An (((((((w1.setCell ⟨wr.1.size,2,none⟩ (.s (x k).ob.kind)).setCell ⟨wr.1.size,3,none⟩ (.s (x k).ob.name)).setCell ⟨wr.1.size,4,none⟩ (.i (x k).ob.ver)).setCell ⟨wr.1.size,5,none⟩ (.i (x k).ob.born)).setCell ⟨wr.1.size,6,none⟩ (.s (x k).ob.text)).setCell ⟨wr.1.size,7,none⟩ (.bool (x k).ob.ending)).setCell ⟨wr.1.size,8,none⟩ (.l ad' (x k).ob.hn cap')) (.cells #[.i (x k).ver,.bool (x k).gone,.s (x k).ob.kind,.s (x k).ob.name,.i (x k).ob.ver,.i (x k).ob.born,.s (x k).ob.text,.bool (x k).ob.ending,.l ad' (x k).ob.hn cap'] 63))) (λh0=>⟨λh=>h,by rw[zS];exact(Fs h0).2⟩));have Oo:=Ag (hBW.alloc (by rw[zS];omega) (.cells #[.i (x k).ver,.bool (x k).gone,.s (x k).ob.kind,.s (x k).ob.name,.i (x k).ob.ver,.i (x k).ob.born,.s (x k).ob.text,.bool (x k).ob.ending,.l ad' (x k).ob.hn cap'] 63));have hown':=Ag hown;clear hat FS hBW zS hown;go_wp2_with (at_builtin;go_must(refine wpList_append_own_at _ rfl _ _ 24 rfl w.1.size 63 i0 _ 9 112 underlying24 hi0 hz0 hz1 hz2 rfl Za _ k (Ay (k*9) c) rfl hown' ⟨w1.1.size,0,none⟩ 1 1 [.i (x k).ver,.bool (x k).gone,.s (x k).ob.kind,.s (x k).ob.name,.i (x k).ob.ver,.i (x k).ob.born,.s (x k).ob.text,.bool (x k).ob.ending,.l ad' (x k).ob.hn cap'] rfl rfl (by have h:=DM (((((((w1.setCell ⟨wr.1.size,2,none⟩ (.s (x k).ob.kind)).setCell ⟨wr.1.size,3,none⟩ (.s (x k).ob.name)).setCell ⟨wr.1.size,4,none⟩ (.i (x k).ob.ver)).setCell ⟨wr.1.size,5,none⟩ (.i (x k).ob.born)).setCell ⟨wr.1.size,6,none⟩ (.s (x k).ob.text)).setCell ⟨wr.1.size,7,none⟩ (.bool (x k).ob.ending)).setCell ⟨wr.1.size,8,none⟩ (.l ad' (x k).ob.hn cap')) [.i (x k).ver,.bool (x k).gone,.s (x k).ob.kind,.s (x k).ob.name,.i (x k).ob.ver,.i (x k).ob.born,.s (x k).ob.text,.bool (x k).ob.ending,.l ad' (x k).ob.hn cap'] 63;simpa using h) Xf Zs Zb Zd ?_;intro v' w2 hown2 hgrow2 hnil2 hat2;clear hnil2));have hg2:=hgrow2.size;have BD2:=Ag (BD1.app (cap':=cap') RO hown2 hgrow2 hat2 RT (λh0=>⟨by have:=(Fs h0).1;omega,by have:=(Fs h0).2;simp;omega⟩)
    (λh0 e=>by obtain⟨c0,r0,_⟩:=BD.row;have h1:=(r0.lt _ e).2;have h2:=(Fs h0).1;omega)
    (λi hi h0 h1 e=>by have h2:=(BD.hlt i hi h0).2;have h3:=(Fs h1).1;omega));have B2:Below w.1.size w w2:=by obtain⟨c0,r0,_⟩:=BD.row;exact(b0.trans (Oo.mono zr)).trans ((Bz hgrow2).below (λq hq e=>by have:=(r0.lt q e).1;omega) Zd)
   clear hown2 hgrow2 hat2;go_roundw;case rel=>exact⟨k+1,_,_,_,Zb,by go_num,B2,BD2⟩
   case measure=>simp[intOf];omega
  .have hke:k=n:=Zb;subst hke;obtain⟨ad',cap',g,e,hcp,at',hq⟩:=bd.done;subst e;have AT':=Ag at';clear at' bd;go_wp2;go_ret;exact⟨ad',cap',g,A,C,hb,rfl,hcp,AT',hq,b0⟩
theorem D5.isIn{w:World}{ad:OA}{g n:Nat}{x:Nat->Ob}{A:Nat->Option Addr}{C hb:Nat->Nat}(h:D5 w ad g n x A C hb){lo:Nat}(hlo:∀q,Gy g n (λi=>(x i).hn) hb q->lo<=q):Bs w lo w.1.size ad n x:=λi hi=>by
 obtain⟨c,r,e⟩:=h.row Zb;obtain⟨a0,a1,a2,a3,a4,a5,a6⟩:=e i hi;refine⟨g,0,A i,C i,h.addr Zb,hlo g (AO ⟨Zb,rfl⟩),r.lt,?_,λj hj=>?_⟩;.rw[Bq];exact⟨(r.cell _ Zb).trans (congrArg some a0),(r.cell _ Zb).trans (congrArg some a1),(r.cell _ Zb).trans (congrArg some a2),(r.cell _ Zb).trans (congrArg some a3),(r.cell _ Zb).trans (congrArg some a4),(r.cell _ Zb).trans (congrArg some a5),(r.cell _ Zb).trans (congrArg some a6)⟩
 .obtain⟨b,off,e1,e2,e3,e4,_⟩:=h.hold i hi j hj;have hn0:(x i).hn≠0:=Zb;have e5:b=hb i:=Zb;exact⟨b,off,e1,by rw[e5];exact hlo _ (AD ⟨i,hi,hn0,rfl⟩),by rw[e5];exact h.hlt i hi hn0,e4⟩
theorem Gw.isIn{w:World}{ad:OA}{g n:Nat}{x:Nat->Ch}{A:Nat->Option Addr}{C hb:Nat->Nat}(h:Gw w ad g n x A C hb){lo:Nat}(hlo:∀q,Gy g n (λi=>(x i).ob.hn) hb q->lo<=q):Dr w lo w.1.size ad n x:=λi hi=>by
 obtain⟨c,r,e⟩:=h.row Zb;obtain⟨a0,a1,a2,a3,a4,a5,a6,a7,a8⟩:=e i hi;refine⟨g,0,A i,C i,h.addr Zb,hlo g (AO ⟨Zb,rfl⟩),r.lt,?_,λj hj=>?_⟩;.rw[Bq];exact⟨(r.cell _ Zb).trans (congrArg some a0),(r.cell _ Zb).trans (congrArg some a1),(r.cell _ Zb).trans (congrArg some a2),(r.cell _ Zb).trans (congrArg some a3),(r.cell _ Zb).trans (congrArg some a4),(r.cell _ Zb).trans (congrArg some a5),(r.cell _ Zb).trans (congrArg some a6),(r.cell _ Zb).trans (congrArg some a7),(r.cell _ Zb).trans (congrArg some a8)⟩
 .obtain⟨b,off,e1,e2,e3,e4,_⟩:=h.hold i hi j hj;have hn0:(x i).ob.hn≠0:=Zb;have e5:b=hb i:=Zb;exact⟨b,off,e1,by rw[e5];exact hlo _ (AD ⟨i,hi,hn0,rfl⟩),by rw[e5];exact h.hlt i hi hn0,e4⟩
theorem ID.isIn{w:World}{ad:OA}{g n:Nat}{x:Nat->Ti}(h:ID w ad g n x){lo:Nat}(hlo:0<n->lo<=g):C5 w lo w.1.size ad n x:=λi hi=>by obtain⟨c,r,e⟩:=h.row Zb;obtain⟨a0,a1,a2,a3,a4⟩:=e i hi;refine⟨g,0,h.addr Zb,hlo Zb,r.lt,?_⟩;rw[Bq];exact⟨(r.cell _ Zb).trans (congrArg some a0),(r.cell _ Zb).trans (congrArg some a1),(r.cell _ Zb).trans (congrArg some a2),(r.cell _ Zb).trans (congrArg some a3),(r.cell _ Zb).trans (congrArg some a4)⟩
theorem Kr.isIn{w:World}{x:Bk}{p:Pl}(h:Kr w x p){lo:Nat}(hlo:∀q,Ot p x q->lo<=q):B7 w lo w.1.size x p.a1 p.a2 p.a3:=⟨h.o.isIn (λq hq=>hlo q (AO hq)),h.h.isIn (λq hq=>hlo q (AD (AO hq))),h.t.isIn (λh0=>hlo _ (AD (AD ⟨h0,rfl⟩)))⟩
theorem ZS{w:World}{base e z n g l cap:Nat}{xs:List Value}(h:w.ownsRow base e z (.l (some ⟨g,0,none⟩) l cap) n xs)(_hn:0<n):n<=cap:=by
 rcases h.2 with⟨h1,_⟩|⟨g',cap',cur,h1,_,_,h4,_⟩;.cases h1
 .cases h1;exact h4
theorem Ax.lo0{w:World}{lo hi:Nat}{ad:OA}{n:Nat}{s:Nat->ByteArray}(h:Ax w lo hi ad n s):Ax w 0 hi ad n s:=λi hi'=>by obtain⟨b,off,e1,e2,e3,e4⟩:=h i hi';exact⟨b,off,e1,Aw _,e3,e4⟩
theorem B7.lo0{w:World}{lo hi:Nat}{x:Bk}{a1 a2 a3:OA}(h:B7 w lo hi x a1 a2 a3):B7 w 0 hi x a1 a2 a3:=by
 refine⟨λi hi'=>?_,λi hi'=>?_,λi hi'=>?_⟩;.obtain⟨b,off,ah,ch,e1,e2,e3,e4,e5⟩:=h.o i hi';exact⟨b,off,ah,ch,e1,Aw _,e3,e4,e5.lo0⟩
 .obtain⟨b,off,ah,ch,e1,e2,e3,e4,e5⟩:=h.h i hi';exact⟨b,off,ah,ch,e1,Aw _,e3,e4,e5.lo0⟩
 .obtain⟨b,off,e1,e2,e3,e4⟩:=h.t i hi';exact⟨b,off,e1,Aw _,e3,e4⟩
end Go.Proofs.YtofencldleijcaaGreat
namespace Go.Proofs.YtofencldleijcaaGreat
open Go.RowKit Go.Proofs.Tryz
theorem Mw{P:Program}{o:Oper}{a:Act}{w:World}{K:Act->World->Prop}{Q:Exit->Act->World->Prop}(s x:Operand)(t tx:TypeId)(ho:o.op=.call {callee:=.builtin .append,args:=#[s,x],argTypes:=#[t,tx]})(v xv v2:Value)(w2:World)(hs:a.eval s=v)(hx:a.eval x=xv)(hr:(Builtin.append_ #[t,tx] o.type #[v,xv]).run P w=.ok v2 w2)(h:K (a.put o.dst v2) w2):o.wp P a w K Q:=by unfold Oper.wp execOp;simp only[ho,resolve,invoke,builtin,Sem.run_bind,IV,Lw,ME,List.map_cons,List.map_nil,hs,hx,hr];exact h
def aI (s:Nat->Nat)(k m:Nat):Nat->Nat:=λi=>if i=k then m else s i
theorem Kb{s:Nat->Nat}{k m:Nat}:aI s k m k=m:=if_pos rfl
theorem Kf{s:Nat->Nat}{k m i:Nat}(h:¬i=k):aI s k m i=s i:=if_neg h
structure Qa (x:Bk)(N0:Nat)(X:World)(p:Pl)(d1 d2 d3:Nat):Prop where
 at_:Kr X x p
 lo:∀q,Ot p x q->N0<=q
 ob:V6 X p.g1 x.on d1 x.os p.A1 p.C1 p.h1
 h:x.hn<=d2
 c:E4 X x.tn p.a3 d3
 z:x.tn=0->d3=0
 t:0<x.tn->Fk X p.g3 (d3*5)
theorem Qa.fr{x:Bk}{N0:Nat}{X Y:World}{p:Pl}{d1 d2 d3:Nat}{P:Nat->Prop}(h:Qa x N0 X p d1 d2 d3)(hf:AB P X Y)(hp:∀q,Ot p x q->¬P q):Qa x N0 Y p d1 d2 d3:=⟨h.at_.fr hf hp,h.lo,h.ob.fr hf (λk hk=>hp k (AO hk)),h.h,h.c.grow hf.size,h.z,λh0=>(h.t h0).frP hf (hp _ (AD (AD ⟨h0,rfl⟩)))⟩
theorem Qa.grow{x:Bk}{N0:Nat}{X Y:World}{p:Pl}{d1 d2 d3:Nat}(h:Qa x N0 X p d1 d2 d3)(hb:Below X.1.size X Y):Qa x N0 Y p d1 d2 d3:=h.fr (Ap (P:=λ_=>False) hb) (λ_ _ h=>h)
theorem Qa.box{x:Bk}{N0 z:Nat}{X Y:World}{p:Pl}{d1 d2 d3:Nat}(h:Qa x N0 X p d1 d2 d3)(hf:AB (λq=>q=z) X Y)(hz:z<N0):Qa x N0 Y p d1 d2 d3:=h.fr hf (λq hq e=>by have:=h.lo q hq;omega)
theorem Qa.low{x:Bk}{N0 N1:Nat}{X:World}{p:Pl}{d1 d2 d3:Nat}(h:Qa x N0 X p d1 d2 d3)(hn:N1<=N0):Qa x N1 X p d1 d2 d3:=⟨h.at_,λq hq=>AG hn (h.lo q hq),h.ob,h.h,h.c,h.z,h.t⟩
theorem gE{X Z:World}{ad:OA}{n cap g b:Nat}{c:Nat->Value}{m:Nat}(hle:n<=cap)(hr:0<n->ad=some ⟨X.1.size,0,none⟩/\AM Z X.1.size m c)(hg:ad=some ⟨g,0,none⟩)(hgb:n=0->g=b)(hb:b<Z.1.size):E4 Z n ad cap:=by
 refine⟨hle,AD ?_⟩;rcases BF n with h0|h0;.exact⟨g,0,hg,by rw[hgb h0];exact hb⟩
 .exact⟨_,0,(hr h0).1,(hr h0).2.lt⟩
def rR (n:Nat)(mk:(Nat->Value)->Array Value)(W:World)(U:Nat->List Nat)(G:Nat->(Nat->Value)->(Nat->Nat)->World->Prop)(Fin:Act->World->Prop)(l:Array Bool)(a:Act)(X:World):Prop:=l.size=n+1/\((l.getD n false=true->(∀i,i<n+1->l.getD i false=true)/\Fin a X)/\(l.getD n false=false->∃(t:Nat->Value)(s:Nat->Nat),a=⟨mk t,[]⟩/\Below W.1.size W X/\∀i,i<n->l.getD i false=true->G i t s X/\s i<=X.1.size/\∀j∈U i,l.getD j false=true))
theorem Y3{P:Program}{id:Nat}{ops:Array Oper}{Q:Exit->Act->World->Prop}{a0:Act}{W:World}(hm:P.follows .mixedOrders=true)(n:Nat)(mk:(Nat->Value)->Array Value)(t0:Nat->Value)(U:Nat->List Nat)(G:Nat->(Nat->Value)->(Nat->Nat)->World->Prop)(Fin:Act->World->Prop)(hn:ops.size=n+1)(hord:((List.range ops.size).all λi=>match ops[i]? with|some o=>o.after.all (λe=>decide (e.on<i))|none=>true)=true)(hlast:((List.range n).all λj=>(match ops[n]? with|some o=>o.after.any (λe=>Region.binds .any e&&e.on==j)|none=>false)&&(U j).all (λm=>match ops[j]? with|some o=>o.after.any (λe=>Region.binds .any e&&e.on==m)|none=>false))=true)(st:∀i t s t' s' X Y,i<n->G i t s X->t' i=t i->s' i=s i->(∀j∈U i,s' j=s j)->Below X.1.size X Y->G i t' s' Y)(h0:a0=⟨mk t0,[]⟩)(sg:∀i,i<n->∀(t:Nat->Value)(s:Nat->Nat) X K,Below W.1.size W X->(∀j,Cf ops i j->G j t s X/\s j<=X.1.size)->(∀v Y,Below X.1.size X Y->G i (AN t i v) (aI s i Y.1.size) Y->K ⟨mk (AN t i v),[]⟩ Y)->wpOp P ops Q i K ⟨mk t,[]⟩ X)(sl:∀(t:Nat->Value)(s:Nat->Nat) X K,Below W.1.size W X->(∀j,j<n->G j t s X)->(∀a Y,Fin a Y->K a Y)->wpOp P ops Q n K ⟨mk t,[]⟩ X)(hfin:∀a X,Fin a X->Q .normal a X):(Code.region id ops true).wp P Q a0 W:=by
 have hdep:∀i j,i<n+1->Cf ops i j->j<n:=by rintro i j hi ⟨o,ho,e,he,_,rfl⟩;have h1:=Bt.1 hord i (Bc.2 Zb);rw[ho]at h1;have h2:=A9.1 h1 e he;have:=of_decide_eq_true h2;omega
 have wt:∀{i j:Nat}{o:Oper},ops[i]?=some o->o.after.any (λe=>Region.binds .any e&&e.on==j)=true->Cf ops i j:=by intro i j o ho h1;obtain⟨k,hk,h2⟩:=IW.1 h1;simp only[Ak,beq_iff_eq]at h2;exact⟨o,ho,o.after[k],F2 hk,h2.1,h2.2⟩
 refine CA hm (rR n mk W U G Fin) ?_ ?_ ?_ ?_
 .have hz:∀i,(Array.replicate ops.size false).getD i false=false:=λi=>by simp[Array.getD]
  refine⟨by simp[hn],λh=>?_,λ_=>⟨t0,λ_=>0,h0,(Al _ _).drew,λi _ h=>?_⟩⟩<;>(rw[hz]at h;cases h)
 .rintro l a X ⟨hs,_⟩;rw[hs,hn]
 .rintro l a X ⟨hs,h6,_⟩ hr;have AL:=CC hord (by rw[hs,hn]) hr;exact hfin a X (h6 (AL n Zb)).2
 .rintro l a X i ⟨hs,h6,hg⟩ hr';obtain⟨hu,o,ho,hall⟩:=mem_ready.1 hr';have di:∀j,Cf ops i j->l.getD j false=true:=by
   rintro j ⟨o',ho',e,he,hb,rfl⟩;rw[ho]at ho';obtain rfl:o=o':=by simpa using ho'
   exact hall e he hb
  have hi7:i<n+1:=by
   rcases At i (n+1)with h|h;.exact h
   .rw[AP Zb]at ho;cases ho
  have hui:l.getD i false=false:=by have:l.getD i true=false:=hu;simpa[Array.getD,hs,hi7]using this
  have l6:l.getD n false=false:=by cases h:l.getD n false with
   |false=>rfl
   |true=>rw[(h6 h).1 i hi7]at hui;cases hui
  obtain⟨t,s,rfl,hb,gg⟩:=hg l6;have kp:∀j,¬j=i->(l.setIfInBounds i true).getD j false=l.getD j false:=λj hj=>by rw[BM Zb,if_neg hj]
  have ki:(l.setIfInBounds i true).getD i false=true:=by rw[BM Zb,if_pos rfl]
  have hs':(l.setIfInBounds i true).size=n+1:=by simp[hs]
  have ku:∀j,l.getD j false=true->(l.setIfInBounds i true).getD j false=true:=λj h=>by
   by_cases e:j=i;.subst e;exact ki
   .rw[kp j e];exact h
  by_cases hin:i=n
  .subst hin;have al:∀j,j<i->l.getD j false=true:=λj hj=>by have h1:=Bt.1 hlast j (Bc.2 hj);rw[Ak,ho]at h1;exact di j (wt ho h1.1)
   clear hr' hu ho h6 hg;refine sl t s X _ hb (λj hj=>(gg j hj (al j hj)).1) (λa Y hY=>⟨hs',λ_=>⟨λj hj=>?_,hY⟩,λh=>?_⟩)
   .by_cases e:j=i;.subst e;exact ki
    .exact ku j (al j Zb)
   .rw[ki]at h;cases h
  .have hUi:∀m∈U i,l.getD m false=true:=λm hm=>by have h1:=Bt.1 hlast i (Bc.2 Zb);rw[Ak]at h1;have h2:=Bt.1 h1.2 m hm;rw[ho]at h2;exact di m (wt ho h2)
   clear hr' hu ho h6 hg;have hno:(l.setIfInBounds i true).getD n false=false:=by rw[kp n (λe=>hin e.symm)];exact l6
   refine sg i Zb t s X _ hb (λj hj=>⟨(gg j (hdep i j hi7 hj) (di j hj)).1,(gg j (hdep i j hi7 hj) (di j hj)).2.1⟩) (λv Y hY hv=>⟨hs',λh=>?_,λ_=>⟨AN t i v,aI s i Y.1.size,rfl,hb.trans (hY.mono hb.size),λj j1 h=>?_⟩⟩);.rw[hno]at h;cases h
   .by_cases e:j=i;.subst e;exact⟨hv,by rw[Kb];exact Az _,λm hm=>ku m (hUi m hm)⟩
    .rw[kp j e]at h;obtain⟨g1,g2,g3⟩:=gg j j1 h;exact⟨st j t s _ _ X Y j1 g1 (BO e) (Kf e) (λm hm=>Kf (λq=>by have:=g3 m hm;rw[q,hui]at this;cases this)) hY,by rw[Kf e];exact AG g2 hY.size,λm hm=>ku m (g3 m hm)⟩
def nV (i:Nat):List Nat:=match i with|9=>[6]|13=>[9]|_=>[]
def rB (x:Bk)(a1 a2 a3:OA)(c1 c2 c3 S N0:Nat)(i:Nat)(t:Nat->Value)(s:Nat->Nat)(X:World):Prop:=match i with
 |0=>t 0=.p S 0
 |1=>t 1=.i x.now
 |2=>t 2=.p S 1
 |3=>t 3=.i x.floor
 |4=>t 4=.p S 2
 |5=>t 5=.l a1 x.on c1
 |6=>∃(b1:OA)(d1 g1:Nat)(A1:Nat->Option Addr)(C1 h1:Nat->Nat),t 6=.l b1 x.on d1/\D5 X b1 g1 x.on x.os A1 C1 h1/\(∀q,Gy g1 x.on (λi=>(x.os i).hn) h1 q->N0<=q/\q<s 6)/\V6 X g1 x.on d1 x.os A1 C1 h1
 |7=>t 7=.p S 3
 |8=>t 8=.l a2 x.hn c2
 |9=>s 6<=s 9/\∃(b2:OA)(d2 g2:Nat)(A2:Nat->Option Addr)(C2 h2:Nat->Nat),t 9=.l b2 x.hn d2/\x.hn<=d2/\Gw X b2 g2 x.hn x.hs A2 C2 h2/\∀q,Gy g2 x.hn (λi=>(x.hs i).ob.hn) h2 q->s 6<=q/\q<s 9/\N0<=q
 |10=>∃g0:Nat,t 10=.l (some ⟨g0,0,none⟩) 0 0/\g0<X.1.size
 |11=>t 11=.p S 4
 |12=>t 12=.l a3 x.tn c3
 |13=>∃(b3:OA)(d3 g3:Nat),t 13=.l b3 x.tn d3/\ID X b3 g3 x.tn x.ts/\(0<x.tn->s 9<=g3/\N0<=g3/\Fk X g3 (d3*5))/\E4 X x.tn b3 d3/\(x.tn=0->d3=0)
 |14=>∃(p:Pl)(d1 d2 d3:Nat),t 14=.agg (vB x p.a1 p.a2 p.a3 d1 d2 d3)/\Qa x N0 X p d1 d2 d3
 |_=>True
theorem LQ{P:Prop}(h:P:=by refine Ar rfl rfl ?_;clear hK hg;go_simp;simpa[AN]using h):P:=h
theorem iD (t0:Nat->Value)(x:Bk)(a1 a2 a3:OA)(c1 c2 c3 S A N0:Nat)(W:World)(hN:N0<=W.1.size)(l1:(x.on:Int)<=1048576)(l2:(x.hn:Int)<=1048576)(l3:(x.tn:Int)<=1048576)(hf:Dm x)(hi:B7 W 0 W.1.size x a1 a2 a3)(hS:S<W.1.size)(hrow:AM W S 5 (A7 (Mu x a1 a2 a3 c1 c2 c3)))(hA:A<W.1.size)(hA0:N0<=A)(hz:AM W A 5 (A7 [.i 0,.i 0,.l none 0 0,.l none 0 0,.l none 0 0]))(_hap:∀q,q=A->q<W.1.size)(Q:Exit->Act->World->Prop)(hQ:∀(t:Nat->Value)(p:Pl)(d1 d2 d3:Nat) X,Qa x N0 X p d1 d2 d3->AM X A 5 (A7 (Mu x p.a1 p.a2 p.a3 d1 d2 d3))->Below N0 W X->Q .normal ⟨#[.agg (vB x a1 a2 a3 c1 c2 c3),.p S 0,.p A 0,t 0,t 1,t 2,t 3,t 4,t 5,t 6,t 7,t 8,t 9,t 10,t 11,t 12,t 13,t 14],[]⟩ X):Code.wp prog (rg Tryz.f16 1) Q ⟨#[.agg (vB x a1 a2 a3 c1 c2 c3),.p S 0,.p A 0,t0 0,t0 1,t0 2,t0 3,t0 4,t0 5,t0 6,t0 7,t0 8,t0 9,t0 10,t0 11,t0 12,t0 13,t0 14],[]⟩ W:=by
 refine Y3 Ze 15 (λt:Nat->Value=>#[.agg (vB x a1 a2 a3 c1 c2 c3),.p S 0,.p A 0,t 0,t 1,t 2,t 3,t 4,t 5,t 6,t 7,t 8,t 9,t 10,t 11,t 12,t 13,t 14]) t0 nV (rB x a1 a2 a3 c1 c2 c3 S W.1.size) (λa X=>∃(t:Nat->Value)(p:Pl)(d1 d2 d3:Nat),a=⟨#[.agg (vB x a1 a2 a3 c1 c2 c3),.p S 0,.p A 0,t 0,t 1,t 2,t 3,t 4,t 5,t 6,t 7,t 8,t 9,t 10,t 11,t 12,t 13,t 14],[]⟩/\Qa x N0 X p d1 d2 d3/\AM X A 5 (A7 (Mu x p.a1 p.a2 p.a3 d1 d2 d3))/\Below N0 W X) Ze Ze Ze ?_ rfl ?_ ?_ ?_
 .intro i t s t' s' X Y hi h ht hs hu hB;rcases(show i=0\/i=1\/i=2\/i=3\/i=4\/i=5\/i=6\/i=7\/i=8\/i=9\/i=10\/i=11\/i=12\/i=13\/i=14 by omega)with rfl|rfl|rfl|rfl|rfl|rfl|rfl|rfl|rfl|rfl|rfl|rfl|rfl|rfl|rfl;.exact ht.trans h
  .exact ht.trans h
  .exact ht.trans h
  .exact ht.trans h
  .exact ht.trans h
  .exact ht.trans h
  .obtain⟨b1,d1,g1,A1,C1,h1,e6,oa,qa,hor⟩:=h;exact⟨b1,d1,g1,A1,C1,h1,ht.trans e6,oa.grow hB,λq hq=>by rw[hs];exact qa q hq,hor.grow hB⟩
  .exact ht.trans h
  .exact ht.trans h
  .obtain⟨s69,b2,d2,g2,A2,C2,h2,e9,hcap,ob,qb⟩:=h;have hs6:=hu 6 (by simp[nV]);exact⟨by rw[hs,hs6];exact s69,b2,d2,g2,A2,C2,h2,ht.trans e9,hcap,ob.grow hB,λq hq=>by rw[hs,hs6];exact qb q hq⟩
  .obtain⟨g0,e,hl⟩:=h;exact⟨g0,ht.trans e,Ad hl hB.size⟩
  .exact ht.trans h
  .exact ht.trans h
  .obtain⟨b3,d3,g3,e13,oc,qc,hcp,hz3⟩:=h;have hs9:=hu 9 (by simp[nV]);exact⟨b3,d3,g3,ht.trans e13,oc.grow hB,λh0=>by rw[hs9];exact⟨(qc h0).1,(qc h0).2.1,(qc h0).2.2.frP (Ap (P:=λ_=>False) hB) (λh=>h)⟩,hcp.grow hB.size,hz3⟩
  .obtain⟨p,d1,d2,d3,e,h⟩:=h;exact⟨p,d1,d2,d3,ht.trans e,h.grow hB⟩
 .intro i hi' t s X K hb hg hK;have hN:=Az W.1.size;rcases(show i=0\/i=1\/i=2\/i=3\/i=4\/i=5\/i=6\/i=7\/i=8\/i=9\/i=10\/i=11\/i=12\/i=13\/i=14 by omega)with rfl|rfl|rfl|rfl|rfl|rfl|rfl|rfl|rfl|rfl|rfl|rfl|rfl|rfl|rfl;.have h:=hK (.p S 0) X Ck (show AN t 0 (.p S 0) 0=.p S 0 from BE);exact LQ
  .have e0:t 0=.p S 0:=(hg 0 (BB rfl)).1;have q0:=(hb.cell (p:=⟨S,0,none⟩) hS).trans (hrow.cell 0 Za);have q1:=(hb.cell (p:=⟨S,1,none⟩) hS).trans (hrow.cell 1 Za);have q2:=(hb.cell (p:=⟨S,2,none⟩) hS).trans (hrow.cell 2 Za);have q3:=(hb.cell (p:=⟨S,3,none⟩) hS).trans (hrow.cell 3 Za);have q4:=(hb.cell (p:=⟨S,4,none⟩) hS).trans (hrow.cell 4 Za);simp only[A7,Ae,Af]at q0 q1 q2 q3 q4;have h:=hK (.i x.now) X Ck (show AN t 1 (.i x.now) 1=.i x.now from BE);refine Ar rfl rfl ?_;clear hK hg;go_simp;simpa[AN,e0]using h
  .have h:=hK (.p S 1) X Ck (show AN t 2 (.p S 1) 2=.p S 1 from BE);exact LQ
  .have e2:t 2=.p S 1:=(hg 2 (BB rfl)).1;have q0:=(hb.cell (p:=⟨S,0,none⟩) hS).trans (hrow.cell 0 Za);have q1:=(hb.cell (p:=⟨S,1,none⟩) hS).trans (hrow.cell 1 Za);have q2:=(hb.cell (p:=⟨S,2,none⟩) hS).trans (hrow.cell 2 Za);have q3:=(hb.cell (p:=⟨S,3,none⟩) hS).trans (hrow.cell 3 Za);have q4:=(hb.cell (p:=⟨S,4,none⟩) hS).trans (hrow.cell 4 Za);simp only[A7,Ae,Af]at q0 q1 q2 q3 q4;have h:=hK (.i x.floor) X Ck (show AN t 3 (.i x.floor) 3=.i x.floor from BE);refine Ar rfl rfl ?_;clear hK hg;go_simp;simpa[AN,e2]using h
  .have h:=hK (.p S 2) X Ck (show AN t 4 (.p S 2) 4=.p S 2 from BE);exact LQ
  .have e4:t 4=.p S 2:=(hg 4 (BB rfl)).1;have q0:=(hb.cell (p:=⟨S,0,none⟩) hS).trans (hrow.cell 0 Za);have q1:=(hb.cell (p:=⟨S,1,none⟩) hS).trans (hrow.cell 1 Za);have q2:=(hb.cell (p:=⟨S,2,none⟩) hS).trans (hrow.cell 2 Za);have q3:=(hb.cell (p:=⟨S,3,none⟩) hS).trans (hrow.cell 3 Za);have q4:=(hb.cell (p:=⟨S,4,none⟩) hS).trans (hrow.cell 4 Za);simp only[A7,Ae,Af]at q0 q1 q2 q3 q4;have h:=hK (.l a1 x.on c1) X Ck (show AN t 5 (.l a1 x.on c1) 5=.l a1 x.on c1 from BE);refine Ar rfl rfl ?_;clear hK hg;go_simp;simpa[AN,e4]using h
  .have e5:t 5=.l a1 x.on c1:=(hg 5 (BB rfl)).1;have HI:=Ag (hi.below hb Bg);have zb:=hb.size;refine Ar rfl rfl ?_;have HK:=Ag hK;clear hK;go_simp;go_at_call 32;refine(L4 x.on x.os a1 c1 X 0 W.1.size zb l1 hf.os HI.o).mono ?_;rintro r Z ⟨b1,d1,g1,A1,C1,h1,rfl,oa,⟨qa,hor⟩,ba⟩;have h:=HK (.l b1 x.on d1) Z ba ⟨b1,d1,g1,A1,C1,h1,BE,oa,λq hq=>⟨AG (AG hN zb) (qa q hq),by rw[Kb];exact oa.blt hq⟩,hor⟩;simpa[AN,e5]using h
  .have h:=hK (.p S 3) X Ck (show AN t 7 (.p S 3) 7=.p S 3 from BE);exact LQ
  .have e7:t 7=.p S 3:=(hg 7 (BB rfl)).1;have q0:=(hb.cell (p:=⟨S,0,none⟩) hS).trans (hrow.cell 0 Za);have q1:=(hb.cell (p:=⟨S,1,none⟩) hS).trans (hrow.cell 1 Za);have q2:=(hb.cell (p:=⟨S,2,none⟩) hS).trans (hrow.cell 2 Za);have q3:=(hb.cell (p:=⟨S,3,none⟩) hS).trans (hrow.cell 3 Za);have q4:=(hb.cell (p:=⟨S,4,none⟩) hS).trans (hrow.cell 4 Za);simp only[A7,Ae,Af]at q0 q1 q2 q3 q4;have h:=hK (.l a2 x.hn c2) X Ck (show AN t 8 (.l a2 x.hn c2) 8=.l a2 x.hn c2 from BE);refine Ar rfl rfl ?_;clear hK hg;go_simp;simpa[AN,e7]using h
  .have s6:=(hg 6 ⟨_,rfl,⟨6,.chain⟩,Zc,rfl,rfl⟩).2;have e8:t 8=.l a2 x.hn c2:=(hg 8 (BB rfl)).1;have HI:=Ag (hi.below hb Bg);have zb:=hb.size;refine Ar rfl rfl ?_;have HK:=Ag hK;clear hK;go_simp;go_at_call 45;refine(Rg x.hn x.hs a2 c2 X 0 W.1.size zb l2 hf.hs HI.h).mono ?_;rintro r Z ⟨b2,d2,g2,A2,C2,h2,rfl,hcap,oa,qa,ba⟩;have h:=HK (.l b2 x.hn d2) Z ba ⟨by rw[Kb,Kf Za];exact AG s6 ba.size,b2,d2,g2,A2,C2,h2,BE,hcap,oa,λq hq=>⟨by rw[Kf Za];exact AG s6 (qa q hq),by rw[Kb];exact oa.blt hq,AG (AG hN zb) (qa q hq)⟩⟩;simpa[AN,e8]using h
  .have h:=hK (.l (some ⟨X.1.size,0,none⟩) 0 0) (X.alloc (.cells #[] 117)) EC ⟨X.1.size,BE,Zc⟩;exact LQ
  .have h:=hK (.p S 4) X Ck (show AN t 11 (.p S 4) 11=.p S 4 from BE);exact LQ
  .have e11:t 11=.p S 4:=(hg 11 (BB rfl)).1;have q0:=(hb.cell (p:=⟨S,0,none⟩) hS).trans (hrow.cell 0 Za);have q1:=(hb.cell (p:=⟨S,1,none⟩) hS).trans (hrow.cell 1 Za);have q2:=(hb.cell (p:=⟨S,2,none⟩) hS).trans (hrow.cell 2 Za);have q3:=(hb.cell (p:=⟨S,3,none⟩) hS).trans (hrow.cell 3 Za);have q4:=(hb.cell (p:=⟨S,4,none⟩) hS).trans (hrow.cell 4 Za);simp only[A7,Ae,Af]at q0 q1 q2 q3 q4;have h:=hK (.l a3 x.tn c3) X Ck (show AN t 12 (.l a3 x.tn c3) 12=.l a3 x.tn c3 from BE);refine Ar rfl rfl ?_;clear hK hg;go_simp;simpa[AN,e11]using h
  .obtain⟨g0,e10,hg0⟩:∃g0:Nat,t 10=.l (some ⟨g0,0,none⟩) 0 0/\g0<X.1.size:=(hg 10 (BB rfl)).1;have e12:t 12=.l a3 x.tn c3:=(hg 12 (BB rfl)).1;have s9:=(hg 9 ⟨_,rfl,⟨9,.chain⟩,Zc,rfl,rfl⟩).2;have zb:=hb.size;obtain⟨ct,stt,att⟩:=(hi.below hb Bg).t.src;obtain⟨ad',cap',Z,hrun,hrw,ba,hle,hz0,hrm,⟨gq,hgq,hgb⟩⟩:=K7 (P:=prog) X 25 25 117 5 56 _ underlying25 G9 Zb 0 W.1.size g0 a3 x.tn c3 ct stt Zb Zb;have h:=hK (.l ad' x.tn cap') Z ba ⟨ad',cap',X.1.size,BE,⟨λh0=>(hrw h0).1,λh0=>⟨ct,(hrw h0).2,att⟩⟩,λh0=>⟨by rw[Kf Za];exact s9,AG hN zb,hrm h0 Ze⟩,gE hle hrw hgq hgb (Ad hg0 ba.size),hz0⟩;refine Ar rfl rfl ?_;clear hK hg;refine Mw (.tmp 13) (.tmp 15) 25 25 rfl _ _ _ _ (by simpa[Act.eval,go_sem]using e10) (by simpa[Act.eval,go_sem]using e12) hrun ?_;simpa[AN,Act.put]using h
  .have e1:t 1=.i x.now:=(hg 1 (BB rfl)).1;have e3:t 3=.i x.floor:=(hg 3 (BB rfl)).1;obtain⟨b1,d1,g1,A1,C1,h1,e6,oa,qa,hor⟩:∃(b1:OA)(d1 g1:Nat)(A1:Nat->Option Addr)(C1 h1:Nat->Nat),t 6=.l b1 x.on d1/\D5 X b1 g1 x.on x.os A1 C1 h1/\(∀q,Gy g1 x.on (λi=>(x.os i).hn) h1 q->W.1.size<=q/\q<s 6)/\V6 X g1 x.on d1 x.os A1 C1 h1:=(hg 6 (BB rfl)).1;obtain⟨s69,b2,d2,g2,A2,C2,h2,e9,hcap,ob,qb⟩:s 6<=s 9/\∃(b2:OA)(d2 g2:Nat)(A2:Nat->Option Addr)(C2 h2:Nat->Nat),t 9=.l b2 x.hn d2/\x.hn<=d2/\Gw X b2 g2 x.hn x.hs A2 C2 h2/\∀q,Gy g2 x.hn (λi=>(x.hs i).ob.hn) h2 q->s 6<=q/\q<s 9/\W.1.size<=q:=(hg 9 (BB rfl)).1;obtain⟨b3,d3,g3,e13,oc,qc,hcp,hz3⟩:∃(b3:OA)(d3 g3:Nat),t 13=.l b3 x.tn d3/\ID X b3 g3 x.tn x.ts/\(0<x.tn->s 9<=g3/\W.1.size<=g3/\Fk X g3 (d3*5))/\E4 X x.tn b3 d3/\(x.tn=0->d3=0):=(hg 13 (BB rfl)).1;have hP:Qa x W.1.size X ⟨b1,b2,b3,g1,g2,g3,A1,C1,h1,A2,C2,h2⟩ d1 d2 d3:=⟨⟨oa,ob,oc,λq k1 k2=>by have z1:=(qa q k1).2;have z2:=(qb q k2).1;omega,λq k1 k3=>by have z1:=(qa q k1).2;have z2:=(qc k3.1).1;have z3:q=g3:=k3.2;omega,λq k2 k3=>by have z1:=(qb q k2).2.1;have z2:=(qc k3.1).1;have z3:q=g3:=k3.2;omega⟩,λq hq=>by rcases hq with h|h|h;exact(qa q h).1;exact(qb q h).2.2;exact h.2▸(qc h.1).2.1,hor,hcap,hcp,hz3,λh0=>(qc h0).2.2⟩;have h:=hK (.agg (vB x b1 b2 b3 d1 d2 d3)) X Ck ⟨_,d1,d2,d3,BE,hP⟩;refine Ar rfl rfl ?_;clear hK hg;go_simp;simpa[AN,e1,e3,e6,e9,e13]using h
 .intro t s X K hb hg hK;obtain⟨p,d1,d2,d3,e14,hP⟩:∃(p:Pl)(d1 d2 d3:Nat),t 14=.agg (vB x p.a1 p.a2 p.a3 d1 d2 d3)/\Qa x W.1.size X p d1 d2 d3:=hg 14 Zb;have rz:=hz.below hb hA;obtain⟨r0,r1,r2,r3,r4⟩:=VL rz;have rf:=rz.free;have rl:=rz.lt;have R5:=(((((rz.set (o:=0) Zb (.i x.now)).set (o:=1) Zb (.i x.floor)).set (o:=2) Zb (.l p.a1 x.on d1)).set (o:=3) Zb (.l p.a2 x.hn d2)).set (o:=4) Zb (.l p.a3 x.tn d3));have F5:=((((((AB.refl (λq=>q=A) X).setCell (p:=⟨A,0,none⟩) rfl (.i x.now)).setCell (p:=⟨A,1,none⟩) rfl (.i x.floor)).setCell (p:=⟨A,2,none⟩) rfl (.l p.a1 x.on d1)).setCell (p:=⟨A,3,none⟩) rfl (.l p.a2 x.hn d2)).setCell (p:=⟨A,4,none⟩) rfl (.l p.a3 x.tn d3));have h:=hK _ _ ⟨t,p,d1,d2,d3,rfl,(hP.box F5 hA).low hN,R5.congr (λj hj=>by rcases(show j=0\/j=1\/j=2\/j=3\/j=4 by omega)with rfl|rfl|rfl|rfl|rfl<;>rfl),(hb.mono hN).trans (F5.below (λq hq e=>by have e':q=A:=e;omega) (AG hN hb.size))⟩;have HK:=Ag h;clear hK hg h R5 F5 rz;refine Ar rfl rfl ?_;go_simp;simpa[e14]using HK.out
 .rintro a X ⟨t,p,d1,d2,d3,rfl,z1,z2,z3⟩;exact hQ t p d1 d2 d3 X z1 z2 z3
theorem Vz (x:Bk)(a1 a2 a3:OA)(c1 c2 c3:Nat)(w:World)(lo hi:Nat)(hhi:hi<=w.1.size)(l1:(x.on:Int)<=1048576)(l2:(x.hn:Int)<=1048576)(l3:(x.tn:Int)<=1048576)(hf:Dm x)(hc:B7 w lo hi x a1 a2 a3):Calls prog 16 #[.agg (vB x a1 a2 a3 c1 c2 c3)] w λe w'=>∃(p:Pl)(d1 d2 d3:Nat),e=.returned (.agg (vB x p.a1 p.a2 p.a3 d1 d2 d3))/\Qa x w.1.size w' p d1 d2 d3/\Below w.1.size w w':=by have hb:Below w.1.size w ((w.alloc (.cells (vB x a1 a2 a3 c1 c2 c3) 27)).alloc (.cells #[.i 0,.i 0,.l none 0 0,.l none 0 0,.l none 0 0] 27)):=((Al _ _).alloc Bg _).alloc Zc _;have hi0:B7 ((w.alloc (.cells (vB x a1 a2 a3 c1 c2 c3) 27)).alloc (.cells #[.i 0,.i 0,.l none 0 0,.l none 0 0,.l none 0 0] 27)) 0 ((w.alloc (.cells (vB x a1 a2 a3 c1 c2 c3) 27)).alloc (.cells #[.i 0,.i 0,.l none 0 0,.l none 0 0,.l none 0 0] 27)).1.size x a1 a2 a3:=((hc.below hb hhi).upTo (AG hhi hb.size)).lo0;have r1:=AM.new (w:=w) (l:=(Mu x a1 a2 a3 c1 c2 c3)) (t:=27) (An _ (.cells #[.i 0,.i 0,.l none 0 0,.l none 0 0,.l none 0 0] 27));have r2:=AM.new (w:=w.alloc (.cells (vB x a1 a2 a3 c1 c2 c3) 27)) (l:=[.i 0,.i 0,.l none 0 0,.l none 0 0,.l none 0 0]) (t:=27) Ck;rw[Au]at r2;have HB:=Ag hb;have HI:=Ag hi0;have H1:=Ag r1;have H2:=Ag r2;have HF:=Ag hf;clear hb hi0 r1 r2 hf hc;go_enter func16,ntmps16;go_wp2_with fail;generalize(w.alloc (.cells (vB x a1 a2 a3 c1 c2 c3) 27)).alloc (.cells #[.i 0,.i 0,.l none 0 0,.l none 0 0,.l none 0 0] 27)=W at HB HI H1 H2⊢;refine iD (λ_=>undef) x a1 a2 a3 c1 c2 c3 w.1.size (w.1.size+1) w.1.size W HB.size l1 l2 l3 HF HI H1.lt H1 H2.lt Zb H2 (λq e=>e▸H2.lt) _ ?_;intro t p d1 d2 d3 X hP hrow hB;have z0:=hrow.cell 0 Za;have z1:=hrow.cell 1 Za;have z2:=hrow.cell 2 Za;have z3:=hrow.cell 3 Za;have z4:=hrow.cell 4 Za;simp only[A7,Ae,Af]at z0 z1 z2 z3 z4;have HP:=Ag hP;have HX:=Ag (HB.trans hB);clear hP hB hrow;go_wp2_with fail;refine bodyPost_ret (v:=.agg (vB x p.a1 p.a2 p.a3 d1 d2 d3)) (by simp[results,results16,go_sem,z0,z1,z2,z3,z4]) rfl ?_;exact⟨p,d1,d2,d3,rfl,HP,HX⟩
theorem NS (x:Bk)(a1 a2 a3:OA)(c1 c2 c3:Nat)(w:World)(lo hi:Nat)(hhi:hi<=w.1.size)(l1:(x.on:Int)<=1048576)(l2:(x.hn:Int)<=1048576)(l3:(x.tn:Int)<=1048576)(hf:Dm x)(hc:B7 w lo hi x a1 a2 a3):Calls prog 16 #[.agg (vB x a1 a2 a3 c1 c2 c3)] w λe w'=>∃(b1 b2 b3:OA)(d1 d2 d3:Nat),e=.returned (.agg (vB x b1 b2 b3 d1 d2 d3))/\B7 w' w.1.size w'.1.size x b1 b2 b3/\(x.hn<=d2/\E4 w' x.tn b3 d3)/\Below w.1.size w w':=by refine(Vz x a1 a2 a3 c1 c2 c3 w lo hi hhi l1 l2 l3 hf hc).mono ?_;rintro e w' ⟨p,d1,d2,d3,rfl,hP,hB⟩;exact⟨_,_,_,d1,d2,d3,rfl,hP.at_.isIn hP.lo,⟨hP.h,hP.c⟩,hB⟩
end Go.Proofs.YtofencldleijcaaGreat
namespace Go.Proofs.YtofencldleijcaaGreat
open Go.RowKit Go.Maps Go.Proofs.Tryz
theorem DJ (w:World)(c:Array Value)(t:TypeId):DS (w.alloc (.cells c t)) w.1.size c:=λi=>Ao w c t i
theorem DU{W:World}{B:Nat}{x:Bk}{a1 a2 a3:OA}{c1 c2 c3:Nat}(h:DS W B (Er x a1 a2 a3 c1 c2 c3)):W.cell? ⟨B,0,none⟩=some (.i x.now)/\W.cell? ⟨B,1,none⟩=some (.i x.floor)/\W.cell? ⟨B,2,none⟩=some (.slice a1 x.on c1)/\W.cell? ⟨B,3,none⟩=some (.slice a2 x.hn c2)/\W.cell? ⟨B,4,none⟩=some (.slice a3 x.tn c3):=⟨h 0,h 1,h 2,h 3,h 4⟩
theorem KJ{B:Bk}(hv:Be (Hw B) 7=true):0<=B.floor/\B.floor<=B.now/\B.now<=1000000/\B.hn<=200/\(B.hn:Int)=B.now-B.floor/\∀i,i<B.hn->(B.hs i).ver=B.floor+1+i:=by have h0:=K8 (AC.1 hv 0 Zb);have h3:EQ B.now B.floor B.hn B.hs=true:=AC.1 hv 3 Zb;unfold EQ at h3;simp only[Ak,decide_eq_true_eq]at h3;refine⟨h0.1,h0.2.1,h0.2.2,h3.1,h3.2.1,λi hi=>?_⟩;have:=AC.1 h3.2.2 i hi;simp only[Ak,decide_eq_true_eq]at this;exact this.1
def G6 (x:Bk)(j:Nat):Bk:={x with floor:=x.floor+j,hn:=x.hn-j,hs:=λi=>x.hs (i+j)}
def cN (x:Bk)(fl:Int):Nat:=(min fl x.now-x.floor).toNat
def Yq (x:Bk)(fl:Int):Bk:=if Be (Hw x) 7 then G6 x (cN x fl)else ZH
theorem Ax.to{w w':World}{lo hi:Nat}{ad:OA}{n:Nat}{s:Nat->ByteArray}(h:Ax w lo hi ad n s)(e:∀q j,lo<=q->q<hi->w'.cell? ⟨q,j,none⟩=w.cell? ⟨q,j,none⟩):Ax w' lo hi ad n s:=λi hi'=>by obtain⟨b,off,e1,e2,e3,e4⟩:=h i hi';exact⟨b,off,e1,e2,e3,(e _ _ e2 e3).trans e4⟩
theorem Bs.to{w w':World}{lo hi lo2 hi2:Nat}{ad:OA}{n:Nat}{x:Nat->Ob}(h:Bs w lo hi ad n x)(e:∀q j,lo<=q->q<hi->w'.cell? ⟨q,j,none⟩=w.cell? ⟨q,j,none⟩)(h1:lo2<=lo)(h2:hi<=hi2):Bs w' lo2 hi2 ad n x:=λi hi'=>by obtain⟨b,off,ah,ch,e1,e2,e3,e4,e5⟩:=h i hi';exact⟨b,off,ah,ch,e1,Zb,Zb,⟨(e _ _ e2 e3).trans e4.c0,(e _ _ e2 e3).trans e4.c1,(e _ _ e2 e3).trans e4.c2,(e _ _ e2 e3).trans e4.c3,(e _ _ e2 e3).trans e4.c4,(e _ _ e2 e3).trans e4.c5,(e _ _ e2 e3).trans e4.c6⟩,λj hj=>by obtain⟨b',o',f1,f2,f3,f4⟩:=e5 j hj;exact⟨b',o',f1,Zb,Zb,(e _ _ f2 f3).trans f4⟩⟩
theorem Dr.to{w w':World}{lo hi lo2 hi2:Nat}{ad:OA}{n:Nat}{x:Nat->Ch}(h:Dr w lo hi ad n x)(e:∀q j,lo<=q->q<hi->w'.cell? ⟨q,j,none⟩=w.cell? ⟨q,j,none⟩)(h1:lo2<=lo)(h2:hi<=hi2):Dr w' lo2 hi2 ad n x:=λi hi'=>by obtain⟨b,off,ah,ch,e1,e2,e3,e4,e5⟩:=h i hi';exact⟨b,off,ah,ch,e1,Zb,Zb,⟨(e _ _ e2 e3).trans e4.c0,(e _ _ e2 e3).trans e4.c1,(e _ _ e2 e3).trans e4.c2,(e _ _ e2 e3).trans e4.c3,(e _ _ e2 e3).trans e4.c4,(e _ _ e2 e3).trans e4.c5,(e _ _ e2 e3).trans e4.c6,(e _ _ e2 e3).trans e4.c7,(e _ _ e2 e3).trans e4.c8⟩,λj hj=>by obtain⟨b',o',f1,f2,f3,f4⟩:=e5 j hj;exact⟨b',o',f1,Zb,Zb,(e _ _ f2 f3).trans f4⟩⟩
theorem C5.to{w w':World}{lo hi lo2 hi2:Nat}{ad:OA}{n:Nat}{x:Nat->Ti}(h:C5 w lo hi ad n x)(e:∀q j,lo<=q->q<hi->w'.cell? ⟨q,j,none⟩=w.cell? ⟨q,j,none⟩)(h1:lo2<=lo)(h2:hi<=hi2):C5 w' lo2 hi2 ad n x:=λi hi'=>by obtain⟨b,off,e1,e2,e3,e4⟩:=h i hi';exact⟨b,off,e1,Zb,Zb,⟨(e _ _ e2 e3).trans e4.c0,(e _ _ e2 e3).trans e4.c1,(e _ _ e2 e3).trans e4.c2,(e _ _ e2 e3).trans e4.c3,(e _ _ e2 e3).trans e4.c4⟩⟩
def Nc (w:World)(lo X n j:Nat)(ad:OA)(c:Nat->Value):Prop:=∀t,t<(n-j)*9->∃b off,ad=some ⟨b,off,none⟩/\lo<=b/\b<w.1.size/\b≠X/\w.cell? ⟨b,off+t,none⟩=some (c (t+j*9))
theorem Nc.fr{w w':World}{lo X n j:Nat}{ad:OA}{c:Nat->Value}{P:Nat->Prop}(h:Nc w lo X n j ad c)(hf:AB P w w')(hp:∀q,lo<=q->q<w.1.size->q≠X->¬P q):Nc w' lo X n j ad c:=λt ht=>by obtain⟨b,off,e1,e2,e3,e4,e5⟩:=h t ht;exact⟨b,off,e1,e2,Ad e3 hf.size,e4,(hf.cell (p:=⟨b,off+t,none⟩) e3 (hp b e2 e3 e4)).trans e5⟩
theorem Nc.chgs{w:World}{lo hi X n j:Nat}{ad:OA}{c:Nat->Value}{x:Nat->Ch}{A:Nat->Option Addr}{C:Nat->Nat}(h:Nc w lo X n j ad c)(hj:j<=n)(hat:∀i,i<n->PD c i (x i) (A i) (C i))(hst:∀i,i<n->Ax w lo hi (A i) (x i).ob.hn (x i).ob.hs)(hhi:hi<=w.1.size):Dr w lo w.1.size ad (n-j) (λi=>x (i+j)):=λi hi'=>by
 obtain⟨b,off,e1,e2,e3,e4,_⟩:=h (i*9) Zb;obtain⟨a0,a1,a2,a3,a4,a5,a6,a7,a8⟩:=hat (i+j) Zb;have f:∀t v,t<9->c ((i+j)*9+t)=v->w.cell? ⟨b,off+i*9+t,none⟩=some v:=λt v ht hv=>by obtain⟨b',off',g1,_,_,_,g5⟩:=h (i*9+t) Zb;rw[e1]at g1;cases g1;rw[AY,g5,show i*9+t+j*9=(i+j)*9+t by omega,hv]
 refine⟨b,off,A (i+j),C (i+j),e1,e2,e3,⟨f 0 _ Zb a0,f 1 _ Zb a1,f 2 _ Zb a2,f 3 _ Zb a3,f 4 _ Zb a4,f 5 _ Zb a5,f 6 _ Zb a6,f 7 _ Zb a7,f 8 _ Zb a8⟩,λq hq=>?_⟩;obtain⟨b',o',g1,g2,g3,g4⟩:=hst (i+j) Zb q hq;exact⟨b',o',g1,g2,Zb,g4⟩
def NA (Bx:Nat)(now:Int)(w:World):Nat:=match w.cell? ⟨Bx,1,none⟩with
 |some (.i v)=>(now-v).toNat
 |_=>0
def Xu (x:Bk)(fl:Int)(b1 b3:OA)(d1 d3:Nat)(c:Nat->Value)(w1 w2 wr:World):Prop:=∃(j:Nat)(b2':OA)(d2':Nat),j<=x.hn/\j<=cN x fl/\x.hn-j<=d2'/\Below w2.1.size w2 wr/\AM wr w2.1.size 5 (A7 [.i x.now,.i (x.floor+(j:Nat)),.l b1 x.on d1,.l b2' (x.hn-j:Nat) d2',.l b3 x.tn d3])/\Nc wr w1.1.size w2.1.size x.hn j b2' c
def pR (y:Bk)(w:World)(e:Ending)(w':World):Prop:=∃(b1 b2 b3:OA)(d1 d2 d3:Nat),e=.returned (.agg (vB y b1 b2 b3 d1 d2 d3))/\B7 w' w.1.size w'.1.size y b1 b2 b3/\E4 w' y.tn b3 d3/\Below w.1.size w w'
theorem We{P:Prop}(h:P:=by
  have hjc2:j=cN x fl:=by unfold cN at hjc⊢;omega
  have rr:=Rr.below hb Zb;obtain⟨t0,t1,t2,t3,t4⟩:=VL rr;have tf:=rr.free;have RW:=Ag (Vu (v0:=.i x.now) (v1:=.i (x.floor+(j:Nat))) (v2:=.l b1 x.on d1) (v3:=.l b2' (x.hn-j:Nat) d2') (v4:=.l b3 x.tn d3) rr);have HE:=Ag hjc2;clear rr hjc2;go_wp2;have rw:=RW.out;obtain⟨u0,u1,u2,u3,u4⟩:=VL rw;refine bodyPost_ret (v:=.agg #[.i x.now,.i (x.floor+(j:Nat)),.l b1 x.on d1,.l b2' (x.hn-j:Nat) d2',.l b3 x.tn d3]) (by simp[results,results35,go_sem,u0,u1,u2,u3,u4]) rfl ?_;have FF:AB (λq=>q=w.1.size+1) wr _:=(((((AB.refl _ wr).setCell (p:=⟨w.1.size+1,0,none⟩) (by rfl) (.i x.now)).setCell (p:=⟨w.1.size+1,1,none⟩) (by rfl) (.i (x.floor+(j:Nat)))).setCell (p:=⟨w.1.size+1,2,none⟩) (by rfl) (.l b1 x.on d1)).setCell (p:=⟨w.1.size+1,3,none⟩) (by rfl) (.l b2' (x.hn-j:Nat) d2')).setCell (p:=⟨w.1.size+1,4,none⟩) (by rfl) (.l b3 x.tn d3);rw[<-HE.out];have zwr:=hb.size;have eC:∀q t,w1.1.size<=q->q<wr.1.size->World.cell? _ ⟨q,t,none⟩=wr.cell? ⟨q,t,none⟩:=λq t h1 h2=>FF.cell (p:=⟨q,t,none⟩) h2 (by show¬q=w.1.size+1;omega);have eO:∀q t,w1.1.size<=q->q<w2.1.size->World.cell? _ ⟨q,t,none⟩=w2.cell? ⟨q,t,none⟩:=λq t h1 h2=>(eC q t h1 Zb).trans (hb.cell (p:=⟨q,t,none⟩) h2);have FIN:=And.intro (show B7 _ w.1.size _ (G6 x j) b1 b2' b3 from⟨HX.o.to eO Zb (AG zwr FF.size),((HC.fr FF (λq h1 _ _ e=>by omega)).chgs hj RO (λi hi'=>(I0 i hi').to eO) (AG zwr FF.size)).to (λ_ _ _ _=>rfl) Zb Bg,HX.t.to eO Zb (AG zwr FF.size)⟩) ((hB2.trans (hb.mono hB2.size)).trans (FF.below (λq hq e=>by omega) Zb));exact⟨b1,b2',b3,d1,d2',d3,rfl,FIN.1,qM.grow (AG zwr FF.size),FIN.2⟩):P:=h
theorem WB{P:Prop}(h:P:=by refine⟨r.lt,r.free,λq hq=>(r.cell q hq).trans (congrArg some ?_)⟩;rw[hh];rcases(show q=0\/q=1\/q=2\/q=3\/q=4 by omega)with rfl|rfl|rfl|rfl|rfl<;>rfl):P:=h
theorem Ni (x:Bk)(a1 a2 a3:OA)(c1 c2 c3:Nat)(fl:Int)(w:World)(lo hi:Nat)(hhi:hi<=w.1.size)(l1:(x.on:Int)<=1048576)(l2:(x.hn:Int)<=1048576)(l3:(x.tn:Int)<=1048576)(hf:Dm x)(hc:B7 w lo hi x a1 a2 a3)(hv:Be (Hw x) 7=true):Calls prog 35 #[.agg (vB x a1 a2 a3 c1 c2 c3),.i fl] w λe w'=>pR (G6 x (cN x fl)) w e w':=by
 obtain⟨i0,hi0,hz0,hz1,hz2⟩:=info_parts IK;obtain⟨v0,v1,v2,v3,v4,v5⟩:=KJ hv;go_enter func35,ntmps35;go_wp2_with (first
  |(go_at_call 15;go_must(refine(Gp x a1 a2 a3 c1 c2 c3 _ lo hi Zd hf (hc.below ((An _ _).alloc Zc _) hhi)).mono ?_;rw[hv];rintro e w1 ⟨rfl,hb1⟩;have hB1:Below w.1.size w w1:=((An _ _).alloc Zc _).trans (hb1.mono Zd);have H1:DS w1 w.1.size (Er x a1 a2 a3 c1 c2 c3):=((DJ w _ 27).below EC Zc).below hb1 Zd;obtain⟨p0,p1,p2,p3,p4⟩:=DU H1))
  |(go_at_call 16;go_must(refine(NS x a1 a2 a3 c1 c2 c3 _ lo hi (by have:=hB1.size;omega) l1 l2 l3 hf (hc.below hB1 hhi)).mono ?_;rintro e w2 ⟨b1,b2,b3,d1,d2,d3,rfl,hx2,⟨hcp2,hct2⟩,hb2⟩)));have hB2:Below w.1.size w w2:=hB1.trans (hb2.mono hB1.size);have zw1:w.1.size+1<w1.1.size:=by have:=hb1.size;simp at this;omega
 have zw2:=hb2.size;have Rr:AM w2 (w.1.size+1) 5 (A7 [.i 0,.i 0,.l none 0 0,.l none 0 0,.l none 0 0]):=by have h:=AM.new (w:=w.alloc (.cells (vB x a1 a2 a3 c1 c2 c3) 27)) (l:=[.i 0,.i 0,.l none 0 0,.l none 0 0,.l none 0 0]) (t:=27) hb1;rw[Au]at h;exact h.below hb2 Zb
 have R0:AM (w2.alloc (.cells (vB x b1 b2 b3 d1 d2 d3) 27)) w2.1.size 5 (A7 [.i x.now,.i (x.floor+(0:Nat)),.l b1 x.on d1,.l b2 x.hn d2,.l b3 x.tn d3]):=by have h:=AM.new (w:=w2) (l:=(Mu x b1 b2 b3 d1 d2 d3)) (t:=27) Ck;simpa using h
 have HX:=Ag hx2;have qM:=Ag hct2;clear hct2;obtain⟨c,A,C,hsr,hat,hst⟩:=hx2.h.src;have mW:=Ag hsr.one;have RO:=Ag hat;have I0:=Ag hst;have H0:Nc (w2.alloc (.cells (vB x b1 b2 b3 d1 d2 d3) 27)) w1.1.size w2.1.size x.hn 0 b2 c:=λt ht=>by obtain⟨b,off,e1,e2,e3,e4⟩:=hsr.at_ t ht;exact⟨b,off,e1,e2,Zd,Zb,by rw[IY,Ks];exact((An w2 _).cell (p:=⟨b,off+t,none⟩) e3).trans e4⟩
 clear hsr hat hst;clear H1 p0 p1 p2 p3 p4 hb1 hb2 hx2;go_loopw[12](λ_ wr=>Xu x fl b1 b3 d1 d3 c w1 w2 wr)(λ_ wr=>NA w2.1.size x.now wr);case atStart=>exact⟨0,b2,d2,Aw _,Aw _,hcp2,An _ _,R0,H0⟩
 case round=>
  obtain⟨j,b2',d2',hj,hjc,hdc,hb,hrow,hch⟩:=hrel;clear R0 H0;obtain⟨y0,y1,y2,y3,y4⟩:=VL hrow;have yf:=hrow.free;have HR:=Ag hrow;have HC:=Ag hch;clear hrow hch;by_cases hlt:x.floor+(j:Nat)<fl
  .by_cases h0:j<x.hn
   .obtain⟨m,hm⟩:∃m,x.hn-j=m+1:=⟨x.hn-j-1,Zb⟩;rw[hm]at y3;obtain⟨b,off,rfl,hlo,hbh,hne,hc0⟩:=HC.out 0 Zb;have hv0:c (0+j*9)=.i (x.floor+((j:Int)+1)):=by have h1:=(RO j Zb).1;rw[Bq,h1,v5 j Zb];simp;omega
    rw[hv0,Ks]at hc0;clear hv0;have zwr:=hb.size;have hbx:=HR.lt;obtain⟨W1,hW1⟩:∃W1,wr.setCell ⟨w2.1.size,1,none⟩ (.i (x.floor+((j:Int)+1)))=W1:=⟨_,rfl⟩;have R1:=HR.set (o:=1) Zb (.i (x.floor+((j:Int)+1)));rw[hW1]at R1;have F1:AB (λq=>q=w2.1.size) wr W1:=by rw[<-hW1];exact AB.setCell (AB.refl _ _) (p:=⟨w2.1.size,1,none⟩) (by rfl) _
    have R2:=R1.fr (Ap (P:=λ_=>False) (An W1 (.cells #[] 63))) (λh=>h);have k3:(W1.alloc (.cells #[] 63)).cell? ⟨w2.1.size,3,none⟩=some (.slice (some ⟨b,off,none⟩) (m+1:Nat) d2'):=by rw[R2.cell 3 Zb];show some (Value.slice (some ⟨b,off,none⟩) (x.hn-j:Nat) d2')=_;rw[hm]
    have z1:=F1.size;have M1:NA w2.1.size x.now wr=(x.now-(x.floor+(j:Nat))).toNat:=by unfold NA;rw[y1]
    have Tq:=Ag M1;have hns:(W1.alloc (.cells #[] 63)).ownsRow wr.1.size 63 9 (.l (some ⟨W1.1.size,0,none⟩) 0 0) 0 []:=Et (base:=wr.1.size) (e:=63) (size:=9) W1 #[] 0 z1 OM rfl;have pP:=Ag (show∀t,t<m*9->(W1.alloc (.cells #[] 63)).cell? ⟨b,off+9+t,none⟩=some (c (t+9+j*9))from λt ht=>by obtain⟨b',off',g1,g2,g3,g4,g5⟩:=HC (t+9) Zb;cases g1;rw[AY,Nat.add_comm 9 t,(An W1 (.cells #[] 63)).cell (p:=⟨b,off+(t+9),none⟩) Zq,F1.cell (p:=⟨b,off+(t+9),none⟩) hbh hne,g5]);have hWz:W1.1.size=wr.1.size:=by rw[<-hW1];simp
    have BW:=Ag (hb.trans ((F1.below (B:=w2.1.size) (λq hq e=>by omega) Zb).trans ((An W1 (.cells #[] 63)).mono Zb)));have dB:=Ag R2;clear M1 R1 R2 F1;subst hW1;rw[hWz]at hns;cases m with
    |zero=>have hh:x.hn-(j+1)=0:=Zb;have HF:=Ag (show Xu x fl b1 b3 d1 d3 c w1 w2 (((wr.setCell ⟨w2.1.size,1,none⟩ (.i (x.floor+((j:Int)+1)))).setCell ⟨w2.1.size,3,none⟩ (.l (some ⟨wr.1.size,0,none⟩) 0 0)).alloc (.cells #[] 63))/\NA w2.1.size x.now (((wr.setCell ⟨w2.1.size,1,none⟩ (.i (x.floor+((j:Int)+1)))).setCell ⟨w2.1.size,3,none⟩ (.l (some ⟨wr.1.size,0,none⟩) 0 0)).alloc (.cells #[] 63))<NA w2.1.size x.now wr by
      have r:=((HR.set (o:=1) Zb (.i (x.floor+((j:Int)+1)))).set (o:=3) Zb (.l (some ⟨wr.1.size,0,none⟩) 0 0)).fr (Ap (P:=λ_=>False) (An _ (.cells #[] 63))) (λh=>h);have RF:AM (((wr.setCell ⟨w2.1.size,1,none⟩ (.i (x.floor+((j:Int)+1)))).setCell ⟨w2.1.size,3,none⟩ (.l (some ⟨wr.1.size,0,none⟩) 0 0)).alloc (.cells #[] 63)) w2.1.size 5 (A7 [.i x.now,.i (x.floor+((j+1:Nat):Int)),.l b1 x.on d1,.l (some ⟨wr.1.size,0,none⟩) (x.hn-(j+1):Nat) 0,.l b3 x.tn d3]):=by exact WB
      refine⟨⟨j+1,some ⟨wr.1.size,0,none⟩,0,Zb,by unfold cN;omega,Zb,?_,RF,λt ht=>by rw[hh]at ht;omega⟩,?_⟩;.exact hb.trans ((((Al w2.1.size wr).setCell (p:=⟨w2.1.size,1,none⟩) Bg _).setCell (p:=⟨w2.1.size,3,none⟩) Bg _).alloc Zd _)
      .have e1:=RF.cell 1 Zb;rw[Tq.out];unfold NA;rw[e1];show(x.now-(x.floor+((j+1:Nat):Int))).toNat<_;omega);clear hns hh;go_wp2_with (at_builtin;go_must(refine HJ rfl _ _ 24 rfl 63 i0 underlying24 hi0 _ _ 0 0 Bg rfl _ _ rfl ?_));exact HF
    |succ m=>
     have hh:x.hn-(j+1)=m+1:=Zb;have qC:=Ag (show∀t u,(Ay ((m+1)*9) (λt=>c (t+9+j*9)))[t]?=some u->((wr.setCell ⟨w2.1.size,1,none⟩ (.i (x.floor+((j:Int)+1)))).alloc (.cells #[] 63)).cell? ((⟨b,off+9,none⟩:Addr).add t)=some u from λt u hu=>by
      obtain⟨h1,rfl⟩:=Jn hu;have e:((⟨b,off+9,none⟩:Addr).add t)=⟨b,off+9+t,none⟩:=by unfold Addr.add;split<;>simp_all
      rw[e];exact pP t h1);have Se:=Ag (show∀u∈Ay ((m+1)*9) (λt=>c (t+9+j*9)),u.oneCell'=true from λu hu=>by
      obtain⟨t,ht,rfl⟩:=CI.1 hu;have ht':t<(m+1)*9:=by simpa using ht
      exact mW _ Zb);have hm2:m<=200:=Zb;have hd1:¬d2'=1:=Zb;clear pP;go_wp2_with (at_builtin;go_must(refine wpList_append_own_at _ rfl _ _ 24 rfl wr.1.size 63 i0 _ 9 112 underlying24 hi0 hz0 hz1 hz2 rfl Za _ 0 [] rfl hns ⟨b,off+9,none⟩ (m+1) _ (Ay ((m+1)*9) (λt=>c (t+9+j*9))) rfl (AK _ _) qC Se Zs Zb Zc ?_;intro v' w3 hown3 hgrow3 hnil3 hat3;simp only[Bq,Cu]at hown3;have mM:=Ag hown3;obtain⟨g',cap',rfl,hg3,hr3⟩:=OK hown3 (Nat.succ_pos m);have nH:=Ag (ZS mM (Nat.succ_pos m));have r3:=dB.fr (Bz hgrow3) (λe=>by have e2:some wr.1.size=some w2.1.size:=e;injection e2 with e2;omega);have k3b:=r3.cell 3 Zb;have k3f:=r3.free 3;have FG:=Ag (Bz hgrow3);have ZC:=Ag hr3;have qK:=Ag r3;clear hown3 hgrow3 hnil3 hat3 hr3 r3));have zw3:=FG.size;simp only[Au,Bi]at zw3;have r:=qK.set (o:=3) Zb (.l (some ⟨g',0,none⟩) (m+1:Nat) cap');have RF:AM (w3.setCell ⟨w2.1.size,3,none⟩ (.l (some ⟨g',0,none⟩) (m+1:Nat) cap')) w2.1.size 5 (A7 [.i x.now,.i (x.floor+((j+1:Nat):Int)),.l b1 x.on d1,.l (some ⟨g',0,none⟩) (x.hn-(j+1):Nat) cap',.l b3 x.tn d3]):=by exact WB
     refine⟨⟨j+1,some ⟨g',0,none⟩,cap',Zb,by unfold cN;omega,by rw[hh];exact nH,?_,RF,λt ht=>?_⟩,?_⟩;.exact((BW.trans (FG.below (λq hq e=>by have e2:some wr.1.size=some q:=e;injection e2 with e2;omega) Zd)).setCell (p:=⟨w2.1.size,3,none⟩) Bg _)
     .rw[hh]at ht;refine⟨g',0,rfl,Zb,by simpa using ZC.lt,Zb,?_⟩;rw[Bq,Bn _ _ _ _ (by intro e;injection e with e1;omega),ZC.cell t ht,show t+9+j*9=t+(j+1)*9 by omega]
     .have e1:=RF.cell 1 Zb;rw[Tq.out];unfold NA;rw[e1];show(x.now-(x.floor+((j+1:Nat):Int))).toNat<_;omega
   .exact We
  .exact We
structure DQ (w:World)(R n f:Nat)(x:Nat->Ch)(A:Nat->Option Addr)(C:Nat->Nat):Prop where
 room:Fk w R 1800
 at_:∀i,i<n->Do w R ((f+1+i)%200*9) (x i) (A i) (C i)
theorem Ou (x:Bk)(a1 a2 a3:OA)(c1 c2 c3:Nat)(fl:Int)(w:World)(lo hi:Nat)(hhi:hi<=w.1.size)(hf:Dm x)(hc:B7 w lo hi x a1 a2 a3)(hv:Be (Hw x) 7=false):Calls prog 35 #[.agg (vB x a1 a2 a3 c1 c2 c3),.i fl] w λe w'=>e=.returned (.agg #[.i 0,.i 0,.l none 0 0,.l none 0 0,.l none 0 0])/\Below w.1.size w w':=by go_enter func35,ntmps35;go_wp2_with (go_at_call 15;go_must(refine(Gp x a1 a2 a3 c1 c2 c3 _ lo hi Zd hf (hc.below ((An _ _).alloc Zc _) hhi)).mono ?_;rw[hv];rintro e w1 ⟨rfl,hb1⟩;have R1:=AM.new (l:=[.i 0,.i 0,.l none 0 0,.l none 0 0,.l none 0 0]) hb1;have r0:=R1.cell 0 Za;have r1:=R1.cell 1 Za;have r2:=R1.cell 2 Za;have r3:=R1.cell 3 Za;have r4:=R1.cell 4 Za;have rf:=R1.free;simp only[A7,Ae,Af,Au]at r0 r1 r2 r3 r4 rf;have RW:=Ag R1;clear R1));have rw:=Vu (v0:=.i 0) (v1:=.i 0) (v2:=.l none 0 0) (v3:=.l none 0 0) (v4:=.l none 0 0) (show AM w1 (w.1.size+1) 5 _ from by have h:=RW.out;rw[Au]at h;exact h);obtain⟨u0,u1,u2,u3,u4⟩:=VL rw;refine bodyPost_ret (v:=.agg #[.i 0,.i 0,.l none 0 0,.l none 0 0,.l none 0 0]) (by simp[results,results35,go_sem,u0,u1,u2,u3,u4]) rfl ⟨rfl,?_⟩;have FF:=(((((AB.refl (λq=>q=w.1.size+1) w1).setCell (p:=⟨w.1.size+1,0,none⟩) (by rfl) (.i 0)).setCell (p:=⟨w.1.size+1,1,none⟩) (by rfl) (.i 0)).setCell (p:=⟨w.1.size+1,2,none⟩) (by rfl) (.l none 0 0)).setCell (p:=⟨w.1.size+1,3,none⟩) (by rfl) (.l none 0 0)).setCell (p:=⟨w.1.size+1,4,none⟩) (by rfl) (.l none 0 0);have zb:=hb1.size;simp only[Au]at zb;exact(((An _ _).alloc Zc _).trans (hb1.mono Zd)).trans (FF.below (λq hq e=>by omega) Zb)
theorem lD (w:World)(lo hi:Nat)(a1 a2 a3:OA):B7 w lo hi ZH a1 a2 a3:=⟨λ_i hi'=>absurd hi' (Ai _),λ_i hi'=>absurd hi' (Ai _),λ_i hi'=>absurd hi' (Ai _)⟩
theorem UJ (x:Bk)(a1 a2 a3:OA)(c1 c2 c3:Nat)(fl:Int)(y:Bk)(hy:Yq x fl=y)(w:World)(lo hi:Nat)(hhi:hi<=w.1.size)(l1:(x.on:Int)<=1048576)(l2:(x.hn:Int)<=1048576)(l3:(x.tn:Int)<=1048576)(hf:Dm x)(hc:B7 w lo hi x a1 a2 a3):Calls prog 35 #[.agg (vB x a1 a2 a3 c1 c2 c3),.i fl] w λe w'=>pR y w e w':=by cases hv:Be (Hw x) 7 with
 |false=>
  have e:y=ZH:=by rw[<-hy];simp[Yq,hv]
  subst e;refine(Ou x a1 a2 a3 c1 c2 c3 fl w lo hi hhi hf hc hv).mono ?_;rintro e w' ⟨rfl,hb⟩;exact⟨none,none,none,0,0,0,rfl,lD _ _ _ _ _ _,⟨Az _,AO ⟨rfl,rfl,rfl⟩⟩,hb⟩
 |true=>
  have e:y=G6 x (cN x fl):=by rw[<-hy];simp[Yq,hv]
  subst e;exact Ni x a1 a2 a3 c1 c2 c3 fl w lo hi hhi l1 l2 l3 hf hc hv
end Go.Proofs.YtofencldleijcaaGreat
