import Derived.Test.YtdknjmgdgnmhjaaGreatPk23
set_option maxRecDepth 100000
set_option maxHeartbeats 4000000
namespace Go.Proofs.YtdknjmgdgnmhjaaGreat
open Go.RowKit Go.Maps Go.Proofs.Tryz
variable {P:Program}{w X Y W w':World}{Q:Exit→Act→World→Prop}{s C:Nat→Nat}{k m N0 d1 d2 d3 n lo hi lo2 hi2 j:Nat}{x:Bk}{p:Pl}{ad:OA}{c:Nat→Value}
theorem DG{o:Oper}{a:Act}{K:Act->World->Prop}(s x:Operand)(t tx:TypeId)(ho:o.op=.call {callee:=.builtin .append,args:=#[s,x],argTypes:=#[t,tx]})(v xv v2:Value)(w2:World)(hs:a.eval s=v)(hx:a.eval x=xv)(hr:(Builtin.append_ #[t,tx] o.type #[v,xv]).run P w=.ok v2 w2)(h:K (a.put o.dst v2) w2):o.wp P a w K Q:=by unfold Oper.wp execOp;simp only[ho,resolve,invoke,builtin,Sem.run_bind,Sem.run_pure,Ot,Qm,O8,List.map_nil,hs,hx,hr];exact h
def qd (s:Nat->Nat)(k m:Nat):Nat->Nat:=λi=>if i=k then m else s i
theorem Mk:qd s k m k=m:=if_pos rfl
theorem Mf{i:Nat}(h:¬i=k):qd s k m i=s i:=if_neg h
structure VS (x:Bk)(N0:Nat)(X:World)(p:Pl)(d1 d2 d3:Nat):Prop where
 d:Jv X x p
 lo:∀q,GA p x q->N0<=q
 ob:cu X p.g1 x.on d1 x.os p.A1 p.C1 p.h1
 h:x.hn<=d2
 c:Kw X x.tn p.a3 d3
 z:x.tn=0->d3=0
 t:0<x.tn->IR X p.g3 (d3*5)
theorem VS.fr{P:Nat->Prop}(h:VS x N0 X p d1 d2 d3)(hf:AB P X Y)(hp:∀q,GA p x q->¬P q):VS x N0 Y p d1 d2 d3:=⟨h.d.fr hf hp,h.lo,h.ob.fr hf (λk hk=>hp k (AA hk)),h.h,h.c.grow hf.size,h.z,λh0=>(h.t h0).frP hf (hp _ (Az (Az ⟨h0,rfl⟩)))⟩
theorem VS.grow (h:VS x N0 X p d1 d2 d3)(hb:Below X.1.size X Y):VS x N0 Y p d1 d2 d3:=h.fr (Aj (P:=λ_=>False) hb) (λ_ _ h=>h)
theorem VS.box{z:Nat}(h:VS x N0 X p d1 d2 d3)(hf:AB (λq=>q=z) X Y)(hz:z<N0):VS x N0 Y p d1 d2 d3:=h.fr hf (λq hq e=>by have:=h.lo q hq;omega)
theorem VS.low{N1:Nat}(h:VS x N0 X p d1 d2 d3)(hn:N1<=N0):VS x N1 X p d1 d2 d3:=⟨h.d,λq hq=>AJ hn (h.lo q hq),h.ob,h.h,h.c,h.z,h.t⟩
theorem Acv{Z:World}{cap g b:Nat}(Om:n<=cap)(hr:0<n->ad=some ⟨X.1.size,0,none⟩/\AE Z X.1.size m c)(hg:ad=some ⟨g,0,none⟩)(QM:n=0->g=b)(hb:b<Z.1.size):Kw Z n ad cap:=by
 refine⟨Om,Az ?_⟩;rcases Bi n with h0|h0;.exact⟨g,0,hg,by rw[QM h0];exact hb⟩
 .exact⟨_,0,(hr h0).1,(hr h0).2.lt⟩
def RGh (n:Nat)(mk:(Nat->Value)->Array Value)(W:World)(U:Nat->List Nat)(G:Nat->(Nat->Value)->(Nat->Nat)->World->Prop)(Fin:Act->World->Prop)(l:Array Bool)(a:Act)(X:World):Prop:=l.size=n+1/\((l.getD n false=true->(∀i,i<n+1->l.getD i false=true)/\Fin a X)/\(l.getD n false=false->∃(t:Nat->Value)(s:Nat->Nat),a=⟨mk t,[]⟩/\Below W.1.size W X/\∀i,i<n->l.getD i false=true->G i t s X/\s i<=X.1.size/\∀j∈U i,l.getD j false=true))
theorem dd{id:Nat}{ops:Array Oper}{a0:Act}(hm:P.follows .mixedOrders=true)(n:Nat)(mk:(Nat->Value)->Array Value)(t0:Nat->Value)(U:Nat->List Nat)(G:Nat->(Nat->Value)->(Nat->Nat)->World->Prop)(Fin:Act->World->Prop)(hn:ops.size=n+1)(Fj:((List.range ops.size).all λi=>match ops[i]? with|some o=>o.after.all (λe=>decide (e.on<i))|none=>true)=true)(Jq:((List.range n).all λj=>(match ops[n]? with|some o=>o.after.any (λe=>Region.binds .any e&&e.on==j)|none=>false)&&(U j).all (λm=>match ops[j]? with|some o=>o.after.any (λe=>Region.binds .any e&&e.on==m)|none=>false))=true)(st:∀i t s t' s' X Y,i<n->G i t s X->t' i=t i->s' i=s i->(∀j∈U i,s' j=s j)->Below X.1.size X Y->G i t' s' Y)(h0:a0=⟨mk t0,[]⟩)(sg:∀i,i<n->∀(t:Nat->Value)(s:Nat->Nat) X K,Below W.1.size W X->(∀j,Ci ops i j->G j t s X/\s j<=X.1.size)->(∀v Y,Below X.1.size X Y->G i (AX t i v) (qd s i Y.1.size) Y->K ⟨mk (AX t i v),[]⟩ Y)->wpOp P ops Q i K ⟨mk t,[]⟩ X)(sl:∀(t:Nat->Value)(s:Nat->Nat) X K,Below W.1.size W X->(∀j,j<n->G j t s X)->(∀a Y,Fin a Y->K a Y)->wpOp P ops Q n K ⟨mk t,[]⟩ X)(G7:∀a X,Fin a X->Q .normal a X):(Code.region id ops true).wp P Q a0 W:=by
 have BJ:∀i j,i<n+1->Ci ops i j->j<n:=by exact c_
 have wt:∀{i j:Nat}{o:Oper},ops[i]?=some o->o.after.any (λe=>Region.binds .any e&&e.on==j)=true->Ci ops i j:=by intro i j o ho h1;obtain⟨k,hk,h2⟩:=KC.1 h1;simp only[As,beq_iff_eq]at h2;exact⟨o,ho,o.after[k],KD hk,h2.1,h2.2⟩
 refine Dk hm (RGh n mk W U G Fin) ?_ ?_ ?_ ?_
 .have hz:∀i,(Array.replicate ops.size false).getD i false=false:=λi=>by simp[Array.getD]
  refine⟨by simp[hn],λh=>?_,λ_=>⟨t0,λ_=>0,h0,(Ap _ _).drew,λi _ h=>?_⟩⟩<;>(rw[hz]at h;cases h)
 .exact RH
 .rintro l a X ⟨hs,h6,_⟩ hr;exact yP
 .rintro l a X i ⟨hs,h6,hg⟩ hr';obtain⟨hu,o,ho,Bg⟩:=mem_ready.1 hr';have di:∀j,Ci ops i j->l.getD j false=true:=by exact WQ
  have LA:i<n+1:=by exact Z8
  have FH:l.getD i false=false:=by exact Vd
  have l6:l.getD n false=false:=by cases h:l.getD n false with
   |false=>rfl
   |true=>rw[(h6 h).1 i LA]at FH;cases FH
  obtain⟨t,s,rfl,hb,gg⟩:=hg l6;have kp:∀j,¬j=i->(l.setIfInBounds i true).getD j false=l.getD j false:=λj hj=>by rw[Cq Za,if_neg hj]
  have ki:(l.setIfInBounds i true).getD i false=true:=by rw[Cq Za,if_pos rfl]
  have hs':(l.setIfInBounds i true).size=n+1:=by simp[hs]
  have ku:∀j,l.getD j false=true->(l.setIfInBounds i true).getD j false=true:=λj h=>by exact Pm
  by_cases Cs:i=n
  .subst Cs;have al:∀j,j<i->l.getD j false=true:=λj hj=>by have h1:=Bz.1 Jq j (BF.2 hj);rw[As,ho]at h1;exact di j (wt ho h1.1)
   clear hr' hu ho h6 hg;refine sl t s X _ hb (λj hj=>(gg j hj (al j hj)).1) (λa Y hY=>⟨hs',λ_=>⟨λj hj=>?_,hY⟩,λh=>?_⟩);.exact XU
   .rw[ki]at h;cases h
  .have hUi:∀m∈U i,l.getD m false=true:=λm hm=>by have h1:=Bz.1 Jq i (BF.2 Za);rw[As]at h1;have h2:=Bz.1 h1.2 m hm;rw[ho]at h2;exact di m (wt ho h2)
   clear hr' hu ho h6 hg;have LI:(l.setIfInBounds i true).getD n false=false:=by rw[kp n (λe=>Cs e.symm)];exact l6
   refine sg i Za t s X _ hb (λj hj=>⟨(gg j (BJ i j LA hj) (di j hj)).1,(gg j (BJ i j LA hj) (di j hj)).2.1⟩) (λv Y hY hv=>⟨hs',λh=>?_,λ_=>⟨AX t i v,qd s i Y.1.size,rfl,hb.trans (hY.mono hb.size),λj j1 h=>?_⟩⟩);.rw[LI]at h;cases h
   .by_cases e:j=i;.subst e;exact⟨hv,by rw[Mk];exact AG _,λm hm=>ku m (hUi m hm)⟩
    .rw[kp j e]at h;obtain⟨g1,g2,g3⟩:=gg j j1 h;exact⟨st j t s _ _ X Y j1 g1 (BP e) (Mf e) (λm hm=>Mf (λq=>by have:=g3 m hm;rw[q,FH]at this;cases this)) hY,by rw[Mf e];exact AJ g2 hY.size,λm hm=>ku m (g3 m hm)⟩
def cpU (i:Nat):List Nat:=match i with|9=>[6]|13=>[9]|_=>[]
def cpG (x:Bk)(a1 a2 a3:OA)(c1 c2 c3 S N0:Nat)(i:Nat)(t:Nat->Value)(s:Nat->Nat)(X:World):Prop:=match i with
 |0=>t 0=.p S 0
 |1=>t 1=.i x.v
 |2=>t 2=.p S 1
 |3=>t 3=.i x.f
 |4=>t 4=.p S 2
 |5=>t 5=.l a1 x.on c1
 |6=>∃(b1:OA)(d1 g1:Nat)(A1:Nat->Option Addr)(C1 h1:Nat->Nat),t 6=.l b1 x.on d1/\D4 X b1 g1 x.on x.os A1 C1 h1/\(∀q,Fm g1 x.on (λi=>(x.os i).hn) h1 q->N0<=q/\q<s 6)/\cu X g1 x.on d1 x.os A1 C1 h1
 |7=>t 7=.p S 3
 |8=>t 8=.l a2 x.hn c2
 |9=>s 6<=s 9/\∃(b2:OA)(d2 g2:Nat)(A2:Nat->Option Addr)(C2 h2:Nat->Nat),t 9=.l b2 x.hn d2/\x.hn<=d2/\IQ X b2 g2 x.hn x.hs A2 C2 h2/\∀q,Fm g2 x.hn (λi=>(x.hs i).ob.hn) h2 q->s 6<=q/\q<s 9/\N0<=q
 |10=>∃g0:Nat,t 10=.l (some ⟨g0,0,none⟩) 0 0/\g0<X.1.size
 |11=>t 11=.p S 4
 |12=>t 12=.l a3 x.tn c3
 |13=>∃(b3:OA)(d3 g3:Nat),t 13=.l b3 x.tn d3/\K6 X b3 g3 x.tn x.ts/\(0<x.tn->s 9<=g3/\N0<=g3/\IR X g3 (d3*5))/\Kw X x.tn b3 d3/\(x.tn=0->d3=0)
 |14=>∃(p:Pl)(d1 d2 d3:Nat),t 14=.agg (vB x p.a1 p.a2 p.a3 d1 d2 d3)/\VS x N0 X p d1 d2 d3
 |_=>True
theorem Abh (t0:Nat->Value)(x:Bk)(a1 a2 a3:OA)(c1 c2 c3 S A N0:Nat)(W:World)(hN:N0<=W.1.size)(l1:(x.on:Int)<=1048576)(l2:(x.hn:Int)<=1048576)(l3:(x.tn:Int)<=1048576)(hf:BS x)(hi:BL W 0 W.1.size x a1 a2 a3)(hS:S<W.1.size)(By:AE W S 5 (AV (JR x a1 a2 a3 c1 c2 c3)))(hA:A<W.1.size)(hA0:N0<=A)(hz:AE W A 5 (AV [.i 0,.i 0,.l none 0 0,.l none 0 0,.l none 0 0]))(_hap:∀q,q=A->q<W.1.size)(Q:Exit->Act->World->Prop)(hQ:∀(t:Nat->Value)(p:Pl)(d1 d2 d3:Nat) X,VS x N0 X p d1 d2 d3->AE X A 5 (AV (JR x p.a1 p.a2 p.a3 d1 d2 d3))->Below N0 W X->Q .normal ⟨#[.agg (vB x a1 a2 a3 c1 c2 c3),.p S 0,.p A 0,t 0,t 1,t 2,t 3,t 4,t 5,t 6,t 7,t 8,t 9,t 10,t 11,t 12,t 13,t 14],[]⟩ X):Code.wp prog (rg Tryz.f33 1) Q ⟨#[.agg (vB x a1 a2 a3 c1 c2 c3),.p S 0,.p A 0,t0 0,t0 1,t0 2,t0 3,t0 4,t0 5,t0 6,t0 7,t0 8,t0 9,t0 10,t0 11,t0 12,t0 13,t0 14],[]⟩ W:=by
 refine dd Zc 15 (λt:Nat->Value=>#[.agg (vB x a1 a2 a3 c1 c2 c3),.p S 0,.p A 0,t 0,t 1,t 2,t 3,t 4,t 5,t 6,t 7,t 8,t 9,t 10,t 11,t 12,t 13,t 14]) t0 cpU (cpG x a1 a2 a3 c1 c2 c3 S W.1.size) (λa X=>∃(t:Nat->Value)(p:Pl)(d1 d2 d3:Nat),a=⟨#[.agg (vB x a1 a2 a3 c1 c2 c3),.p S 0,.p A 0,t 0,t 1,t 2,t 3,t 4,t 5,t 6,t 7,t 8,t 9,t 10,t 11,t 12,t 13,t 14],[]⟩/\VS x N0 X p d1 d2 d3/\AE X A 5 (AV (JR x p.a1 p.a2 p.a3 d1 d2 d3))/\Below N0 W X) Zc Zc Zc ?_ rfl ?_ ?_ ?_
 .intro i t s t' s' X Y hi h ht hs hu hB;rcases(dk i Za)with rfl|rfl|rfl|rfl|rfl|rfl|rfl|rfl|rfl|rfl|rfl|rfl|rfl|rfl|rfl;.exact ht.trans h
  .exact ht.trans h
  .exact ht.trans h
  .exact ht.trans h
  .exact ht.trans h
  .exact ht.trans h
  .obtain⟨b1,d1,g1,A1,C1,h1,e6,oa,qa,hor⟩:=h;exact⟨b1,d1,g1,A1,C1,h1,ht.trans e6,oa.grow hB,λq hq=>by rw[hs];exact qa q hq,hor.grow hB⟩
  .exact ht.trans h
  .exact ht.trans h
  .obtain⟨s69,b2,d2,g2,A2,C2,h2,e9,Eg,ob,qb⟩:=h;have hs6:=hu 6 (by simp[cpU]);exact⟨by rw[hs,hs6];exact s69,b2,d2,g2,A2,C2,h2,ht.trans e9,Eg,ob.grow hB,λq hq=>by rw[hs,hs6];exact qb q hq⟩
  .obtain⟨g0,e,hl⟩:=h;exact⟨g0,ht.trans e,Aa hl hB.size⟩
  .exact ht.trans h
  .exact ht.trans h
  .obtain⟨b3,d3,g3,lp,oc,qc,Mx,YG⟩:=h;have hs9:=hu 9 (by simp[cpU]);exact⟨b3,d3,g3,ht.trans lp,oc.grow hB,λh0=>by rw[hs9];exact⟨(qc h0).1,(qc h0).2.1,(qc h0).2.2.frP (Aj (P:=λ_=>False) hB) (λh=>h)⟩,Mx.grow hB.size,YG⟩
  .obtain⟨p,d1,d2,d3,e,h⟩:=h;exact⟨p,d1,d2,d3,ht.trans e,h.grow hB⟩
 .intro i hi' t s X K hb hg hK;have hN:=AG W.1.size;rcases(dk i Za)with rfl|rfl|rfl|rfl|rfl|rfl|rfl|rfl|rfl|rfl|rfl|rfl|rfl|rfl|rfl;.have h:=hK (.p S 0) X Dx (show AX t 0 (.p S 0) 0=.p S 0 from Cf);exact JC
  .have e0:t 0=.p S 0:=(hg 0 (AR rfl)).1;have q0:=(hb.cell (p:=⟨S,0,none⟩) hS).trans (By.cell 0 Zb);have q1:=(hb.cell (p:=⟨S,1,none⟩) hS).trans (By.cell 1 Zb);have q2:=(hb.cell (p:=⟨S,2,none⟩) hS).trans (By.cell 2 Zb);have q3:=(hb.cell (p:=⟨S,3,none⟩) hS).trans (By.cell 3 Zb);have q4:=(hb.cell (p:=⟨S,4,none⟩) hS).trans (By.cell 4 Zb);simp only[AV,Ac,Ad]at q0 q1 q2 q3 q4;have h:=hK (.i x.v) X Dx (show AX t 1 (.i x.v) 1=.i x.v from Cf);refine Au rfl rfl ?_;clear hK hg;go_simp;simpa[AX,e0]using h
  .have h:=hK (.p S 1) X Dx (show AX t 2 (.p S 1) 2=.p S 1 from Cf);exact JC
  .have e2:t 2=.p S 1:=(hg 2 (AR rfl)).1;have q0:=(hb.cell (p:=⟨S,0,none⟩) hS).trans (By.cell 0 Zb);have q1:=(hb.cell (p:=⟨S,1,none⟩) hS).trans (By.cell 1 Zb);have q2:=(hb.cell (p:=⟨S,2,none⟩) hS).trans (By.cell 2 Zb);have q3:=(hb.cell (p:=⟨S,3,none⟩) hS).trans (By.cell 3 Zb);have q4:=(hb.cell (p:=⟨S,4,none⟩) hS).trans (By.cell 4 Zb);simp only[AV,Ac,Ad]at q0 q1 q2 q3 q4;have h:=hK (.i x.f) X Dx (show AX t 3 (.i x.f) 3=.i x.f from Cf);refine Au rfl rfl ?_;clear hK hg;go_simp;simpa[AX,e2]using h
  .have h:=hK (.p S 2) X Dx (show AX t 4 (.p S 2) 4=.p S 2 from Cf);exact JC
  .have e4:t 4=.p S 2:=(hg 4 (AR rfl)).1;have q0:=(hb.cell (p:=⟨S,0,none⟩) hS).trans (By.cell 0 Zb);have q1:=(hb.cell (p:=⟨S,1,none⟩) hS).trans (By.cell 1 Zb);have q2:=(hb.cell (p:=⟨S,2,none⟩) hS).trans (By.cell 2 Zb);have q3:=(hb.cell (p:=⟨S,3,none⟩) hS).trans (By.cell 3 Zb);have q4:=(hb.cell (p:=⟨S,4,none⟩) hS).trans (By.cell 4 Zb);simp only[AV,Ac,Ad]at q0 q1 q2 q3 q4;have h:=hK (.l a1 x.on c1) X Dx (show AX t 5 (.l a1 x.on c1) 5=.l a1 x.on c1 from Cf);refine Au rfl rfl ?_;clear hK hg;go_simp;simpa[AX,e4]using h
  .have e5:t 5=.l a1 x.on c1:=(hg 5 (AR rfl)).1;have HI:=Ab (hi.below hb A9);have zb:=hb.size;refine Au rfl rfl ?_;have HK:=Ab hK;clear hK;go_simp;go_at_call 41;refine(Pp x.on x.os a1 c1 X 0 W.1.size zb l1 hf.os HI.o).mono ?_;rintro r Z ⟨b1,d1,g1,A1,C1,h1,rfl,oa,⟨qa,hor⟩,ba⟩;have h:=HK (.l b1 x.on d1) Z ba ⟨b1,d1,g1,A1,C1,h1,Cf,oa,λq hq=>⟨AJ (AJ hN zb) (qa q hq),by rw[Mk];exact oa.blt hq⟩,hor⟩;simpa[AX,e5]using h
  .have h:=hK (.p S 3) X Dx (show AX t 7 (.p S 3) 7=.p S 3 from Cf);exact JC
  .have e7:t 7=.p S 3:=(hg 7 (AR rfl)).1;have q0:=(hb.cell (p:=⟨S,0,none⟩) hS).trans (By.cell 0 Zb);have q1:=(hb.cell (p:=⟨S,1,none⟩) hS).trans (By.cell 1 Zb);have q2:=(hb.cell (p:=⟨S,2,none⟩) hS).trans (By.cell 2 Zb);have q3:=(hb.cell (p:=⟨S,3,none⟩) hS).trans (By.cell 3 Zb);have q4:=(hb.cell (p:=⟨S,4,none⟩) hS).trans (By.cell 4 Zb);simp only[AV,Ac,Ad]at q0 q1 q2 q3 q4;have h:=hK (.l a2 x.hn c2) X Dx (show AX t 8 (.l a2 x.hn c2) 8=.l a2 x.hn c2 from Cf);refine Au rfl rfl ?_;clear hK hg;go_simp;simpa[AX,e7]using h
  .have s6:=(hg 6 ⟨_,rfl,⟨6,.chain⟩,Ze,rfl,rfl⟩).2;have e8:t 8=.l a2 x.hn c2:=(hg 8 (AR rfl)).1;have HI:=Ab (hi.below hb A9);have zb:=hb.size;refine Au rfl rfl ?_;have HK:=Ab hK;clear hK;go_simp;go_at_call 61;refine(XF x.hn x.hs a2 c2 X 0 W.1.size zb l2 hf.hs HI.h).mono ?_;rintro r Z ⟨b2,d2,g2,A2,C2,h2,rfl,Eg,oa,qa,ba⟩;have h:=HK (.l b2 x.hn d2) Z ba ⟨by rw[Mk,Mf Zb];exact AJ s6 ba.size,b2,d2,g2,A2,C2,h2,Cf,Eg,oa,λq hq=>⟨by rw[Mf Zb];exact AJ s6 (qa q hq),by rw[Mk];exact oa.blt hq,AJ (AJ hN zb) (qa q hq)⟩⟩;simpa[AX,e8]using h
  .have h:=hK (.l (some ⟨X.1.size,0,none⟩) 0 0) (X.alloc (.cells #[] 132)) Do ⟨X.1.size,Cf,Ze⟩;exact JC
  .have h:=hK (.p S 4) X Dx (show AX t 11 (.p S 4) 11=.p S 4 from Cf);exact JC
  .have e11:t 11=.p S 4:=(hg 11 (AR rfl)).1;have q0:=(hb.cell (p:=⟨S,0,none⟩) hS).trans (By.cell 0 Zb);have q1:=(hb.cell (p:=⟨S,1,none⟩) hS).trans (By.cell 1 Zb);have q2:=(hb.cell (p:=⟨S,2,none⟩) hS).trans (By.cell 2 Zb);have q3:=(hb.cell (p:=⟨S,3,none⟩) hS).trans (By.cell 3 Zb);have q4:=(hb.cell (p:=⟨S,4,none⟩) hS).trans (By.cell 4 Zb);simp only[AV,Ac,Ad]at q0 q1 q2 q3 q4;have h:=hK (.l a3 x.tn c3) X Dx (show AX t 12 (.l a3 x.tn c3) 12=.l a3 x.tn c3 from Cf);refine Au rfl rfl ?_;clear hK hg;go_simp;simpa[AX,e11]using h
  .obtain⟨g0,e10,ks⟩:∃g0:Nat,t 10=.l (some ⟨g0,0,none⟩) 0 0/\g0<X.1.size:=(hg 10 (AR rfl)).1;have e12:t 12=.l a3 x.tn c3:=(hg 12 (AR rfl)).1;have s9:=(hg 9 ⟨_,rfl,⟨9,.chain⟩,Ze,rfl,rfl⟩).2;have zb:=hb.size;obtain⟨ct,stt,att⟩:=(hi.below hb A9).t.src;obtain⟨ad',cap',Z,CZ,FW,ba,Om,GH,bS,⟨gq,hgq,QM⟩⟩:=NH (P:=prog) X 34 34 132 5 56 _ underlying34 Gn Za 0 W.1.size g0 a3 x.tn c3 ct stt Za Za;have h:=hK (.l ad' x.tn cap') Z ba ⟨ad',cap',X.1.size,Cf,⟨λh0=>(FW h0).1,λh0=>⟨ct,(FW h0).2,att⟩⟩,λh0=>⟨by rw[Mf Zb];exact s9,AJ hN zb,bS h0 Zc⟩,Acv Om FW hgq QM (Aa ks ba.size),GH⟩;refine Au rfl rfl ?_;clear hK hg;refine DG (.tmp 13) (.tmp 15) 34 34 rfl _ _ _ _ (by simpa[Act.eval,go_sem]using e10) (by simpa[Act.eval,go_sem]using e12) CZ ?_;exact Rk
  .have e1:t 1=.i x.v:=(hg 1 (AR rfl)).1;have e3:t 3=.i x.f:=(hg 3 (AR rfl)).1;obtain⟨b1,d1,g1,A1,C1,h1,e6,oa,qa,hor⟩:∃(b1:OA)(d1 g1:Nat)(A1:Nat->Option Addr)(C1 h1:Nat->Nat),t 6=.l b1 x.on d1/\D4 X b1 g1 x.on x.os A1 C1 h1/\(∀q,Fm g1 x.on (λi=>(x.os i).hn) h1 q->W.1.size<=q/\q<s 6)/\cu X g1 x.on d1 x.os A1 C1 h1:=(hg 6 (AR rfl)).1;obtain⟨s69,b2,d2,g2,A2,C2,h2,e9,Eg,ob,qb⟩:s 6<=s 9/\∃(b2:OA)(d2 g2:Nat)(A2:Nat->Option Addr)(C2 h2:Nat->Nat),t 9=.l b2 x.hn d2/\x.hn<=d2/\IQ X b2 g2 x.hn x.hs A2 C2 h2/\∀q,Fm g2 x.hn (λi=>(x.hs i).ob.hn) h2 q->s 6<=q/\q<s 9/\W.1.size<=q:=(hg 9 (AR rfl)).1;obtain⟨b3,d3,g3,lp,oc,qc,Mx,YG⟩:∃(b3:OA)(d3 g3:Nat),t 13=.l b3 x.tn d3/\K6 X b3 g3 x.tn x.ts/\(0<x.tn->s 9<=g3/\W.1.size<=g3/\IR X g3 (d3*5))/\Kw X x.tn b3 d3/\(x.tn=0->d3=0):=(hg 13 (AR rfl)).1;have hP:VS x W.1.size X ⟨b1,b2,b3,g1,g2,g3,A1,C1,h1,A2,C2,h2⟩ d1 d2 d3:=⟨⟨oa,ob,oc,λq k1 k2=>by have z1:=(qa q k1).2;have z2:=(qb q k2).1;omega,λq k1 k3=>by have z1:=(qa q k1).2;have z2:=(qc k3.1).1;have z3:q=g3:=k3.2;omega,λq k2 k3=>by have z1:=(qb q k2).2.1;have z2:=(qc k3.1).1;have z3:q=g3:=k3.2;omega⟩,λq hq=>by rcases hq with h|h|h;exact(qa q h).1;exact(qb q h).2.2;exact h.2▸(qc h.1).2.1,hor,Eg,Mx,YG,λh0=>(qc h0).2.2⟩;have h:=hK (.agg (vB x b1 b2 b3 d1 d2 d3)) X Dx ⟨_,d1,d2,d3,Cf,hP⟩;refine Au rfl rfl ?_;clear hK hg;go_simp;simpa[AX,e1,e3,e6,e9,lp]using h
 .intro t s X K hb hg hK;obtain⟨p,d1,d2,d3,kD,hP⟩:=hg 14 Za;have rz:=hz.below hb hA;obtain⟨r0,r1,r2,r3,r4⟩:=JQ rz;have rf:=rz.free;have rl:=rz.lt;have R5:=(((((rz.set (o:=0) Za (.i x.v)).set (o:=1) Za (.i x.f)).set (o:=2) Za (.l p.a1 x.on d1)).set (o:=3) Za (.l p.a2 x.hn d2)).set (o:=4) Za (.l p.a3 x.tn d3));have F5:=((((((AB.refl (λq=>q=A) X).setCell (p:=⟨A,0,none⟩) rfl (.i x.v)).setCell (p:=⟨A,1,none⟩) rfl (.i x.f)).setCell (p:=⟨A,2,none⟩) rfl (.l p.a1 x.on d1)).setCell (p:=⟨A,3,none⟩) rfl (.l p.a2 x.hn d2)).setCell (p:=⟨A,4,none⟩) rfl (.l p.a3 x.tn d3));have h:=hK _ _ ⟨t,p,d1,d2,d3,rfl,(hP.box F5 hA).low hN,R5.congr (λj hj=>by rcases(VU j Za)with rfl|rfl|rfl|rfl|rfl<;>rfl),(hb.mono hN).trans (F5.below (λq hq e=>by have e':q=A:=e;omega) (AJ hN hb.size))⟩;have HK:=Ab h;clear hK hg h R5 F5 rz;refine Au rfl rfl ?_;go_simp;simpa[kD]using HK.out
 .rintro a X ⟨t,p,d1,d2,d3,rfl,z1,z2,z3⟩;exact hQ t p d1 d2 d3 X z1 z2 z3
theorem Tx (x:Bk)(a1 a2 a3:OA)(c1 c2 c3:Nat)(w:World)(lo hi:Nat)(CD:hi<=w.1.size)(l1:(x.on:Int)<=1048576)(l2:(x.hn:Int)<=1048576)(l3:(x.tn:Int)<=1048576)(hf:BS x)(hc:BL w lo hi x a1 a2 a3):Calls prog 33 #[.agg (vB x a1 a2 a3 c1 c2 c3)] w λe w'=>∃(p:Pl)(d1 d2 d3:Nat),e=.returned (.agg (vB x p.a1 p.a2 p.a3 d1 d2 d3))/\VS x w.1.size w' p d1 d2 d3/\Below w.1.size w w':=by have hb:Below w.1.size w ((w.alloc (.cells (vB x a1 a2 a3 c1 c2 c3) 36)).alloc (.cells #[.i 0,.i 0,.l none 0 0,.l none 0 0,.l none 0 0] 36)):=((Ap _ _).alloc A9 _).alloc Ze _;have Fq:BL ((w.alloc (.cells (vB x a1 a2 a3 c1 c2 c3) 36)).alloc (.cells #[.i 0,.i 0,.l none 0 0,.l none 0 0,.l none 0 0] 36)) 0 ((w.alloc (.cells (vB x a1 a2 a3 c1 c2 c3) 36)).alloc (.cells #[.i 0,.i 0,.l none 0 0,.l none 0 0,.l none 0 0] 36)).1.size x a1 a2 a3:=((hc.below hb CD).upTo (AJ CD hb.size)).lo0;have r1:=AE.new (w:=w) (l:=(JR x a1 a2 a3 c1 c2 c3)) (t:=36) (Ak _ (.cells #[.i 0,.i 0,.l none 0 0,.l none 0 0,.l none 0 0] 36));have r2:=AE.new (w:=w.alloc (.cells (vB x a1 a2 a3 c1 c2 c3) 36)) (l:=[.i 0,.i 0,.l none 0 0,.l none 0 0,.l none 0 0]) (t:=36) Dx;rw[Av]at r2;have HB:=Ab hb;have HI:=Ab Fq;have H1:=Ab r1;have H2:=Ab r2;have HF:=Ab hf;clear hb Fq r1 r2 hf hc;go_enter func33,ntmps33;go_wp2_with fail;generalize(w.alloc (.cells (vB x a1 a2 a3 c1 c2 c3) 36)).alloc (.cells #[.i 0,.i 0,.l none 0 0,.l none 0 0,.l none 0 0] 36)=W at HB HI H1 H2⊢;refine Abh (λ_=>undef) x a1 a2 a3 c1 c2 c3 w.1.size (w.1.size+1) w.1.size W HB.size l1 l2 l3 HF HI H1.lt H1 H2.lt Za H2 (λq e=>e▸H2.lt) _ ?_;intro t p d1 d2 d3 X hP By hB;obtain⟨z0,z1,z2,z3,z4⟩:=JQ By;have HP:=Ab hP;have HX:=Ab (HB.trans hB);clear hP hB By;go_wp2_with fail;refine bodyPost_ret (v:=.agg (vB x p.a1 p.a2 p.a3 d1 d2 d3)) (by simp[results,results33,go_sem,z0,z1,z2,z3,z4]) rfl ?_;exact⟨p,d1,d2,d3,rfl,HP,HX⟩
theorem QU (x:Bk)(a1 a2 a3:OA)(c1 c2 c3:Nat)(w:World)(lo hi:Nat)(CD:hi<=w.1.size)(l1:(x.on:Int)<=1048576)(l2:(x.hn:Int)<=1048576)(l3:(x.tn:Int)<=1048576)(hf:BS x)(hc:BL w lo hi x a1 a2 a3):Calls prog 33 #[.agg (vB x a1 a2 a3 c1 c2 c3)] w λe w'=>∃(b1 b2 b3:OA)(d1 d2 d3:Nat),e=.returned (.agg (vB x b1 b2 b3 d1 d2 d3))/\BL w' w.1.size w'.1.size x b1 b2 b3/\(x.hn<=d2/\Kw w' x.tn b3 d3)/\Below w.1.size w w':=by refine(Tx x a1 a2 a3 c1 c2 c3 w lo hi CD l1 l2 l3 hf hc).mono ?_;rintro e w' ⟨p,d1,d2,d3,rfl,hP,hB⟩;exact⟨_,_,_,d1,d2,d3,rfl,hP.d.isIn hP.lo,⟨hP.h,hP.c⟩,hB⟩
theorem E5 (w:World)(c:Array Value)(t:TypeId):Gp (w.alloc (.cells c t)) w.1.size c:=λi=>Al w c t i
theorem NM{B:Nat}{a1 a2 a3:OA}{c1 c2 c3:Nat}(h:Gp W B (IH x a1 a2 a3 c1 c2 c3)):W.cell? ⟨B,0,none⟩=some (.i x.v)/\W.cell? ⟨B,1,none⟩=some (.i x.f)/\W.cell? ⟨B,2,none⟩=some (.slice a1 x.on c1)/\W.cell? ⟨B,3,none⟩=some (.slice a2 x.hn c2)/\W.cell? ⟨B,4,none⟩=some (.slice a3 x.tn c3):=⟨h 0,h 1,h 2,h 3,h 4⟩
theorem JL{B:Bk}(hv:Bj (ID B) 7=true):0<=B.f/\B.f<=B.v/\B.v<=1000000/\B.hn<=200/\(B.hn:Int)=B.v-B.f/\∀i,i<B.hn->(B.hs i).t=B.f+1+i:=by have h0:=NW (AS.1 hv 0 Za);have h3:Ge B.v B.f B.hn B.hs=true:=AS.1 hv 3 Za;unfold Ge at h3;simp only[As,decide_eq_true_eq]at h3;refine⟨h0.1,h0.2.1,h0.2.2,h3.1,h3.2.1,λi hi=>?_⟩;have:=AS.1 h3.2.2 i hi;simp only[As,decide_eq_true_eq]at this;exact this.1
def Jm (x:Bk)(j:Nat):Bk:={x with f:=x.f+j,hn:=x.hn-j,hs:=λi=>x.hs (i+j)}
def ox (x:Bk)(fl:Int):Nat:=(min fl x.v-x.f).toNat
def dg (x:Bk)(fl:Int):Bk:=if Bj (ID x) 7 then Jm x (ox x fl)else bk0
theorem AK.to{s:Nat->ByteArray}(h:AK w lo hi ad n s)(e:∀q j,lo<=q->q<hi->w'.cell? ⟨q,j,none⟩=w.cell? ⟨q,j,none⟩):AK w' lo hi ad n s:=λi hi'=>by obtain⟨b,off,e1,e2,e3,e4⟩:=h i hi';exact⟨b,off,e1,e2,e3,(e _ _ e2 e3).trans e4⟩
theorem Bh.to{x:Nat->Ob}(h:Bh w lo hi ad n x)(e:∀q j,lo<=q->q<hi->w'.cell? ⟨q,j,none⟩=w.cell? ⟨q,j,none⟩)(h1:lo2<=lo)(h2:hi<=hi2):Bh w' lo2 hi2 ad n x:=λi hi'=>by obtain⟨b,off,ah,ch,e1,e2,e3,e4,e5⟩:=h i hi';exact⟨b,off,ah,ch,e1,Za,Za,⟨(e _ _ e2 e3).trans e4.c0,(e _ _ e2 e3).trans e4.c1,(e _ _ e2 e3).trans e4.c2,(e _ _ e2 e3).trans e4.c3,(e _ _ e2 e3).trans e4.c4,(e _ _ e2 e3).trans e4.c5,(e _ _ e2 e3).trans e4.c6⟩,λj hj=>by obtain⟨b',o',f1,f2,f3,f4⟩:=e5 j hj;exact⟨b',o',f1,Za,Za,(e _ _ f2 f3).trans f4⟩⟩
theorem Dv.to{x:Nat->Ch}(h:Dv w lo hi ad n x)(e:∀q j,lo<=q->q<hi->w'.cell? ⟨q,j,none⟩=w.cell? ⟨q,j,none⟩)(h1:lo2<=lo)(h2:hi<=hi2):Dv w' lo2 hi2 ad n x:=λi hi'=>by obtain⟨b,off,ah,ch,e1,e2,e3,e4,e5⟩:=h i hi';exact⟨b,off,ah,ch,e1,Za,Za,⟨(e _ _ e2 e3).trans e4.c0,(e _ _ e2 e3).trans e4.c1,(e _ _ e2 e3).trans e4.c2,(e _ _ e2 e3).trans e4.c3,(e _ _ e2 e3).trans e4.c4,(e _ _ e2 e3).trans e4.c5,(e _ _ e2 e3).trans e4.c6,(e _ _ e2 e3).trans e4.c7,(e _ _ e2 e3).trans e4.c8⟩,λj hj=>by obtain⟨b',o',f1,f2,f3,f4⟩:=e5 j hj;exact⟨b',o',f1,Za,Za,(e _ _ f2 f3).trans f4⟩⟩
theorem DD.to{x:Nat->Ti}(h:DD w lo hi ad n x)(e:∀q j,lo<=q->q<hi->w'.cell? ⟨q,j,none⟩=w.cell? ⟨q,j,none⟩)(h1:lo2<=lo)(h2:hi<=hi2):DD w' lo2 hi2 ad n x:=λi hi'=>by obtain⟨b,off,e1,e2,e3,e4⟩:=h i hi';exact⟨b,off,e1,Za,Za,⟨(e _ _ e2 e3).trans e4.c0,(e _ _ e2 e3).trans e4.c1,(e _ _ e2 e3).trans e4.c2,(e _ _ e2 e3).trans e4.c3,(e _ _ e2 e3).trans e4.c4⟩⟩
def Q5 (w:World)(lo X n j:Nat)(ad:OA)(c:Nat->Value):Prop:=∀t,t<(n-j)*9->∃b off,ad=some ⟨b,off,none⟩/\lo<=b/\b<w.1.size/\b≠X/\w.cell? ⟨b,off+t,none⟩=some (c (t+j*9))
theorem Q5.fr{X:Nat}{P:Nat->Prop}(h:Q5 w lo X n j ad c)(hf:AB P w w')(hp:∀q,lo<=q->q<w.1.size->q≠X->¬P q):Q5 w' lo X n j ad c:=λt ht=>by obtain⟨b,off,e1,e2,e3,e4,e5⟩:=h t ht;exact⟨b,off,e1,e2,Aa e3 hf.size,e4,(hf.cell (p:=⟨b,off+t,none⟩) e3 (hp b e2 e3 e4)).trans e5⟩
theorem Q5.chgs{X:Nat}{x:Nat->Ch}{A:Nat->Option Addr}(h:Q5 w lo X n j ad c)(hj:j<=n)(DR:∀i,i<n->OK c i (x i) (A i) (C i))(Df:∀i,i<n->AK w lo hi (A i) (x i).ob.hn (x i).ob.hs)(CD:hi<=w.1.size):Dv w lo w.1.size ad (n-j) (λi=>x (i+j)):=λi hi'=>by
 obtain⟨b,off,e1,e2,e3,e4,_⟩:=h (i*9) Za;obtain⟨a0,a1,a2,a3,a4,a5,a6,a7,a8⟩:=DR (i+j) Za;have f:∀t v,t<9->c ((i+j)*9+t)=v->w.cell? ⟨b,off+i*9+t,none⟩=some v:=λt v ht hv=>by obtain⟨b',off',g1,_,_,_,g5⟩:=h (i*9+t) Za;rw[e1]at g1;cases g1;rw[BN,g5,show i*9+t+j*9=(i+j)*9+t by omega,hv]
 refine⟨b,off,A (i+j),C (i+j),e1,e2,e3,⟨f 0 _ Za a0,f 1 _ Za a1,f 2 _ Za a2,f 3 _ Za a3,f 4 _ Za a4,f 5 _ Za a5,f 6 _ Za a6,f 7 _ Za a7,f 8 _ Za a8⟩,λq hq=>?_⟩;obtain⟨b',o',g1,g2,g3,g4⟩:=Df (i+j) Za q hq;exact⟨b',o',g1,g2,Za,g4⟩
def RT (Bx:Nat)(now:Int)(w:World):Nat:=match w.cell? ⟨Bx,1,none⟩with
 |some (.i v)=>(now-v).toNat
 |_=>0
def yG (x:Bk)(fl:Int)(b1 b3:OA)(d1 d3:Nat)(c:Nat->Value)(w1 w2 wr:World):Prop:=∃(j:Nat)(ug:OA)(Su:Nat),j<=x.hn/\j<=ox x fl/\x.hn-j<=Su/\Below w2.1.size w2 wr/\AE wr w2.1.size 5 (AV [.i x.v,.i (x.f+(j:Nat)),.l b1 x.on d1,.l ug (x.hn-j:Nat) Su,.l b3 x.tn d3])/\Q5 wr w1.1.size w2.1.size x.hn j ug c
def CtS (y:Bk)(w:World)(e:Ending)(w':World):Prop:=∃(b1 b2 b3:OA)(d1 d2 d3:Nat),e=.returned (.agg (vB y b1 b2 b3 d1 d2 d3))/\BL w' w.1.size w'.1.size y b1 b2 b3/\Kw w' y.tn b3 d3/\Below w.1.size w w'
theorem Q8 (x:Bk)(a1 a2 a3:OA)(c1 c2 c3:Nat)(fl:Int)(w:World)(lo hi:Nat)(CD:hi<=w.1.size)(l1:(x.on:Int)<=1048576)(l2:(x.hn:Int)<=1048576)(l3:(x.tn:Int)<=1048576)(hf:BS x)(hc:BL w lo hi x a1 a2 a3)(hv:Bj (ID x) 7=true):Calls prog 32 #[.agg (vB x a1 a2 a3 c1 c2 c3),.i fl] w λe w'=>CtS (Jm x (ox x fl)) w e w':=by
 obtain⟨i0,Fq,GH,C7,Fk⟩:=info_parts Gg;obtain⟨v0,v1,v2,v3,v4,v5⟩:=JL hv;go_enter func32,ntmps32;go_wp2_with (first
  |(go_at_call 34;go_must(refine(EE x a1 a2 a3 c1 c2 c3 _ lo hi Zd hf (hc.below ((Ak _ _).alloc Ze _) CD)).mono ?_;rw[hv];rintro e w1 ⟨rfl,AU⟩;have Fp:Below w.1.size w w1:=((Ak _ _).alloc Ze _).trans (AU.mono Zd);have H1:Gp w1 w.1.size (IH x a1 a2 a3 c1 c2 c3):=((E5 w _ 36).below Do Ze).below AU Zd;obtain⟨p0,p1,p2,p3,p4⟩:=NM H1))
  |(go_at_call 33;go_must(refine(QU x a1 a2 a3 c1 c2 c3 _ lo hi (by have:=Fp.size;omega) l1 l2 l3 hf (hc.below Fp CD)).mono ?_;rintro e w2 ⟨b1,b2,b3,d1,d2,d3,rfl,hx2,⟨Agx,Adt⟩,BT⟩)));have Ds:Below w.1.size w w2:=Fp.trans (BT.mono Fp.size);have zw1:w.1.size+1<w1.1.size:=by have:=AU.size;simp at this;omega
 have zw2:=BT.size;have Rr:AE w2 (w.1.size+1) 5 (AV [.i 0,.i 0,.l none 0 0,.l none 0 0,.l none 0 0]):=by have h:=AE.new (w:=w.alloc (.cells (vB x a1 a2 a3 c1 c2 c3) 36)) (l:=[.i 0,.i 0,.l none 0 0,.l none 0 0,.l none 0 0]) (t:=36) AU;rw[Av]at h;exact h.below BT Za
 have R0:AE (w2.alloc (.cells (vB x b1 b2 b3 d1 d2 d3) 36)) w2.1.size 5 (AV [.i x.v,.i (x.f+(0:Nat)),.l b1 x.on d1,.l b2 x.hn d2,.l b3 x.tn d3]):=by have h:=AE.new (w:=w2) (l:=(JR x b1 b2 b3 d1 d2 d3)) (t:=36) Dx;simpa using h
 have HX:=Ab hx2;have HCT:=Ab Adt;clear Adt;obtain⟨c,A,C,cH,DR,Df⟩:=hx2.h.src;have Ahn:=Ab cH.one;have Qw:=Ab DR;have Ig:=Ab Df;have H0:Q5 (w2.alloc (.cells (vB x b1 b2 b3 d1 d2 d3) 36)) w1.1.size w2.1.size x.hn 0 b2 c:=λt ht=>by obtain⟨b,off,e1,e2,e3,e4⟩:=cH.d t ht;exact⟨b,off,e1,e2,Zd,Za,by rw[KF,BU];exact((Ak w2 _).cell (p:=⟨b,off+t,none⟩) e3).trans e4⟩
 clear cH DR Df;clear H1 p0 p1 p2 p3 p4 AU BT hx2;go_loopw[12](λ_ wr=>yG x fl b1 b3 d1 d3 c w1 w2 wr)(λ_ wr=>RT w2.1.size x.v wr);case atStart=>exact⟨0,b2,d2,Ar _,Ar _,Agx,Ak _ _,R0,H0⟩
 case round=>
  obtain⟨j,ug,Su,hj,hjc,hdc,hb,By,Nq⟩:=hrel;clear R0 H0;obtain⟨y0,y1,y2,y3,y4⟩:=JQ By;have yf:=By.free;have HR:=Ab By;have HC:=Ab Nq;clear By Nq;by_cases hlt:x.f+(j:Nat)<fl
  .by_cases h0:j<x.hn
   .obtain⟨m,hm⟩:∃m,x.hn-j=m+1:=⟨x.hn-j-1,Za⟩;rw[hm]at y3;obtain⟨b,off,rfl,Gc,Ja,CF,Nr⟩:=HC.out 0 Za;have ju:c (0+j*9)=.i (x.f+((j:Int)+1)):=by have h1:=(Qw j Za).1;rw[A6,h1,v5 j Za];simp;omega
    rw[ju,BU]at Nr;clear ju;have zwr:=hb.size;have sF:=HR.lt;obtain⟨W1,Uv⟩:∃W1,wr.setCell ⟨w2.1.size,1,none⟩ (.i (x.f+((j:Int)+1)))=W1:=⟨_,rfl⟩;have R1:=HR.set (o:=1) Za (.i (x.f+((j:Int)+1)));rw[Uv]at R1;have F1:AB (λq=>q=w2.1.size) wr W1:=by rw[<-Uv];exact AB.setCell (AB.refl _ _) (p:=⟨w2.1.size,1,none⟩) KV _
    have R2:=R1.fr (Aj (P:=λ_=>False) (Ak W1 (.cells #[] 54))) (λh=>h);have k3:(W1.alloc (.cells #[] 54)).cell? ⟨w2.1.size,3,none⟩=some (.slice (some ⟨b,off,none⟩) (m+1:Nat) Su):=by rw[R2.cell 3 Za];show some (Value.slice (some ⟨b,off,none⟩) (x.hn-j:Nat) Su)=_;rw[hm]
    have z1:=F1.size;have M1:RT w2.1.size x.v wr=(x.v-(x.f+(j:Nat))).toNat:=by unfold RT;rw[y1]
    have VM:=Ab M1;have Ss:(W1.alloc (.cells #[] 54)).ownsRow wr.1.size 54 9 (.l (some ⟨W1.1.size,0,none⟩) 0 0) 0 []:=Dy (base:=wr.1.size) (e:=54) (size:=9) W1 #[] 0 z1 S4 rfl;have HNW:=Ab (show∀t,t<m*9->(W1.alloc (.cells #[] 54)).cell? ⟨b,off+9+t,none⟩=some (c (t+9+j*9))from λt ht=>by obtain⟨b',off',g1,g2,g3,g4,g5⟩:=HC (t+9) Za;cases g1;rw[BN,Nat.add_comm 9 t,(Ak W1 (.cells #[] 54)).cell (p:=⟨b,off+(t+9),none⟩) Zj,F1.cell (p:=⟨b,off+(t+9),none⟩) Ja CF,g5]);have hWz:W1.1.size=wr.1.size:=by rw[<-Uv];simp
    have BW:=Ab (hb.trans ((F1.below (B:=w2.1.size) (λq hq e=>by omega) Za).trans ((Ak W1 (.cells #[] 54)).mono Za)));have Uu:=Ab R2;clear M1 R1 R2 F1;subst Uv;rw[hWz]at Ss;cases m with
    |zero=>have hh:x.hn-(j+1)=0:=Za;have HF:=Ab (show yG x fl b1 b3 d1 d3 c w1 w2 (((wr.setCell ⟨w2.1.size,1,none⟩ (.i (x.f+((j:Int)+1)))).setCell ⟨w2.1.size,3,none⟩ (.l (some ⟨wr.1.size,0,none⟩) 0 0)).alloc (.cells #[] 54))/\RT w2.1.size x.v (((wr.setCell ⟨w2.1.size,1,none⟩ (.i (x.f+((j:Int)+1)))).setCell ⟨w2.1.size,3,none⟩ (.l (some ⟨wr.1.size,0,none⟩) 0 0)).alloc (.cells #[] 54))<RT w2.1.size x.v wr by
      have r:=((HR.set (o:=1) Za (.i (x.f+((j:Int)+1)))).set (o:=3) Za (.l (some ⟨wr.1.size,0,none⟩) 0 0)).fr (Aj (P:=λ_=>False) (Ak _ (.cells #[] 54))) (λh=>h);have RF:AE (((wr.setCell ⟨w2.1.size,1,none⟩ (.i (x.f+((j:Int)+1)))).setCell ⟨w2.1.size,3,none⟩ (.l (some ⟨wr.1.size,0,none⟩) 0 0)).alloc (.cells #[] 54)) w2.1.size 5 (AV [.i x.v,.i (x.f+((j+1:Nat):Int)),.l b1 x.on d1,.l (some ⟨wr.1.size,0,none⟩) (x.hn-(j+1):Nat) 0,.l b3 x.tn d3]):=by exact Z'
      refine⟨⟨j+1,some ⟨wr.1.size,0,none⟩,0,Za,by unfold ox;omega,Za,?_,RF,λt ht=>by rw[hh]at ht;omega⟩,?_⟩;.exact hb.trans ((((Ap w2.1.size wr).setCell (p:=⟨w2.1.size,1,none⟩) A9 _).setCell (p:=⟨w2.1.size,3,none⟩) A9 _).alloc Zd _)
      .have e1:=RF.cell 1 Za;rw[VM.out];unfold RT;rw[e1];show(x.v-(x.f+((j+1:Nat):Int))).toNat<_;omega);clear Ss hh;go_wp2_with (at_builtin;go_must(refine JB rfl _ _ 26 rfl 54 i0 underlying26 Fq _ _ 0 0 A9 rfl _ _ rfl ?_));exact HF
    |succ m=>
     have hh:x.hn-(j+1)=m+1:=Za;have VN:=Ab (show∀t u,(AN ((m+1)*9) (λt=>c (t+9+j*9)))[t]?=some u->((wr.setCell ⟨w2.1.size,1,none⟩ (.i (x.f+((j:Int)+1)))).alloc (.cells #[] 54)).cell? ((⟨b,off+9,none⟩:Addr).add t)=some u from λt u hu=>by
      obtain⟨h1,rfl⟩:=Jn hu;have e:((⟨b,off+9,none⟩:Addr).add t)=⟨b,off+9+t,none⟩:=by unfold Addr.add;split<;>simp_all
      rw[e];exact HNW t h1);have Y6:=Ab (show∀u∈AN ((m+1)*9) (λt=>c (t+9+j*9)),u.oneCell'=true from λu hu=>by
      obtain⟨t,ht,rfl⟩:=Ec.1 hu;have ht':t<(m+1)*9:=by simpa using ht
      exact Ahn _ Za);have cD:m<=200:=Za;have hd1:¬Su=1:=Za;clear HNW;go_wp2_with (at_builtin;go_must(refine wpList_append_own_at _ rfl _ _ 26 rfl wr.1.size 54 i0 _ 9 112 underlying26 Fq GH C7 Fk rfl Zb _ 0 [] rfl Ss ⟨b,off+9,none⟩ (m+1) _ (AN ((m+1)*9) (λt=>c (t+9+j*9))) rfl (Bq _ _) VN Y6 Zl Za Ze ?_;intro v' w3 IM Hl qJ kv;simp only[A6,Dt]at IM;have Ag8:=Ab IM;obtain⟨g',cap',rfl,ld,Gi⟩:=TV IM (Nat.succ_pos m);have HCP:=Ab (mg Ag8 (Nat.succ_pos m));have r3:=Uu.fr (BB Hl) (λe=>by have e2:some wr.1.size=some w2.1.size:=e;injection e2 with e2;omega);have k3b:=r3.cell 3 Za;have k3f:=r3.free 3;have FG:=Ab (BB Hl);have YA:=Ab Gi;have HRW:=Ab r3;clear IM Hl qJ kv Gi r3));have zw3:=FG.size;simp only[Av,Be]at zw3;have r:=HRW.set (o:=3) Za (.l (some ⟨g',0,none⟩) (m+1:Nat) cap');have RF:AE (w3.setCell ⟨w2.1.size,3,none⟩ (.l (some ⟨g',0,none⟩) (m+1:Nat) cap')) w2.1.size 5 (AV [.i x.v,.i (x.f+((j+1:Nat):Int)),.l b1 x.on d1,.l (some ⟨g',0,none⟩) (x.hn-(j+1):Nat) cap',.l b3 x.tn d3]):=by exact Z'
     refine⟨⟨j+1,some ⟨g',0,none⟩,cap',Za,by unfold ox;omega,by rw[hh];exact HCP,?_,RF,λt ht=>?_⟩,?_⟩;.exact((BW.trans (FG.below (λq hq e=>by have e2:some wr.1.size=some q:=e;injection e2 with e2;omega) Zd)).setCell (p:=⟨w2.1.size,3,none⟩) A9 _)
     .rw[hh]at ht;refine⟨g',0,rfl,Za,by simpa using YA.lt,Za,?_⟩;rw[A6,AI _ _ _ _ (by intro e;injection e with e1;omega),YA.cell t ht,show t+9+j*9=t+(j+1)*9 by omega]
     .have e1:=RF.cell 1 Za;rw[VM.out];unfold RT;rw[e1];show(x.v-(x.f+((j+1:Nat):Int))).toNat<_;omega
   .exact D'
  .exact D'
structure H9 (w:World)(R n f:Nat)(x:Nat->Ch)(A:Nat->Option Addr)(C:Nat->Nat):Prop where
 room:IR w R 1800
 d:∀i,i<n->Dz w R ((f+1+i)%200*9) (x i) (A i) (C i)
theorem S1 (x:Bk)(a1 a2 a3:OA)(c1 c2 c3:Nat)(fl:Int)(w:World)(lo hi:Nat)(CD:hi<=w.1.size)(hf:BS x)(hc:BL w lo hi x a1 a2 a3)(hv:Bj (ID x) 7=false):Calls prog 32 #[.agg (vB x a1 a2 a3 c1 c2 c3),.i fl] w λe w'=>e=.returned (.agg #[.i 0,.i 0,.l none 0 0,.l none 0 0,.l none 0 0])/\Below w.1.size w w':=by go_enter func32,ntmps32;go_wp2_with (go_at_call 34;go_must(refine(EE x a1 a2 a3 c1 c2 c3 _ lo hi Zd hf (hc.below ((Ak _ _).alloc Ze _) CD)).mono ?_;rw[hv];rintro e w1 ⟨rfl,AU⟩;have R1:=AE.new (l:=[.i 0,.i 0,.l none 0 0,.l none 0 0,.l none 0 0]) AU;have r0:=R1.cell 0 Zb;have r1:=R1.cell 1 Zb;have r2:=R1.cell 2 Zb;have r3:=R1.cell 3 Zb;have r4:=R1.cell 4 Zb;have rf:=R1.free;simp only[AV,Ac,Ad,Av]at r0 r1 r2 r3 r4 rf;have RW:=Ab R1;clear R1));have rw:=gZ (v0:=.i 0) (v1:=.i 0) (v2:=.l none 0 0) (v3:=.l none 0 0) (v4:=.l none 0 0) (show AE w1 (w.1.size+1) 5 _ from by have h:=RW.out;rw[Av]at h;exact h);obtain⟨u0,u1,u2,u3,u4⟩:=JQ rw;refine bodyPost_ret (v:=.agg #[.i 0,.i 0,.l none 0 0,.l none 0 0,.l none 0 0]) (by simp[results,results32,go_sem,u0,u1,u2,u3,u4]) rfl ⟨rfl,?_⟩;have FF:=(((((AB.refl (λq=>q=w.1.size+1) w1).setCell (p:=⟨w.1.size+1,0,none⟩) KV (.i 0)).setCell (p:=⟨w.1.size+1,1,none⟩) KV (.i 0)).setCell (p:=⟨w.1.size+1,2,none⟩) KV (.l none 0 0)).setCell (p:=⟨w.1.size+1,3,none⟩) KV (.l none 0 0)).setCell (p:=⟨w.1.size+1,4,none⟩) KV (.l none 0 0);have zb:=AU.size;simp only[Av]at zb;exact(((Ak _ _).alloc Ze _).trans (AU.mono Zd)).trans (FF.below (λq hq e=>by omega) Za)
theorem Afa (w:World)(lo hi:Nat)(a1 a2 a3:OA):BL w lo hi bk0 a1 a2 a3:=⟨λ_i hi'=>absurd hi' (Ae _),λ_i hi'=>absurd hi' (Ae _),λ_i hi'=>absurd hi' (Ae _)⟩
theorem i9 (x:Bk)(a1 a2 a3:OA)(c1 c2 c3:Nat)(fl:Int)(y:Bk)(hy:dg x fl=y)(w:World)(lo hi:Nat)(CD:hi<=w.1.size)(l1:(x.on:Int)<=1048576)(l2:(x.hn:Int)<=1048576)(l3:(x.tn:Int)<=1048576)(hf:BS x)(hc:BL w lo hi x a1 a2 a3):Calls prog 32 #[.agg (vB x a1 a2 a3 c1 c2 c3),.i fl] w λe w'=>CtS y w e w':=by cases hv:Bj (ID x) 7 with
 |false=>
  have e:y=bk0:=by rw[<-hy];simp[dg,hv]
  subst e;refine(S1 x a1 a2 a3 c1 c2 c3 fl w lo hi CD hf hc hv).mono ?_;rintro e w' ⟨rfl,hb⟩;exact⟨none,none,none,0,0,0,rfl,Afa _ _ _ _ _ _,⟨AG _,AA ⟨rfl,rfl,rfl⟩⟩,hb⟩
 |true=>
  have e:y=Jm x (ox x fl):=by rw[<-hy];simp[dg,hv]
  subst e;exact Q8 x a1 a2 a3 c1 c2 c3 fl w lo hi CD l1 l2 l3 hf hc hv
structure CS (W:World)(s0:Nat)(x:Bk)(a1 a2 a3:OA)(c1 c2 c3:Nat)(y:Bk)(zw zx zg:Nat)(b1 b2 b3:OA)(e1 e2 e3:Nat)(p:Pl)(d1 d2 d3:Nat)(g:Pl)(f1 f2 f3:Nat)(xm ym:Bk):Prop where
 bx:Gp W s0 (IH x a1 a2 a3 c1 c2 c3)arg:BL W 0 s0 x a1 a2 a3
 vw:Gp W zw (IH y b1 b2 b3 e1 e2 e3)ww:BL W (s0+1) zw y b1 b2 b3
 vx:Gp W zx (IH x p.a1 p.a2 p.a3 d1 d2 d3)xx:Jv W xm p
 xb:∀q,GA p xm q->zw<q/\q<zx
 vg:Gp W zg (IH y g.a1 g.a2 g.a3 f1 f2 f3)gg:Jv W ym g
 gb:∀q,GA g ym q->zx<q/\q<zg
 o1:s0<zw
 o2:zw<zx
 o3:zx<zg
 o4:zg<W.1.size
end Go.Proofs.YtdknjmgdgnmhjaaGreat
