import Derived.Test.YtdknjmgdgnmhjaaGreatPk37
import Derived.Test.YtdknjmgdgnmhjaaGreatPk36
set_option maxRecDepth 100000
set_option maxHeartbeats 4000000
namespace Go.Proofs.YtdknjmgdgnmhjaaGreat
open Go.RowKit Go.Proofs.Tryz
variable {p1 p2 p3 p5 p6 p8 p9 Ea Ee Em D1 DW DN DU DX DO DP DV DT D9 Ef EJ Ej El Ei Ed Eh Ek EH EI EV Er EB ER ES EQ EC ED Eo EW EU EK EL p7 Ey Ev Ew Ex EM:Value}{mk:(Nat→Value)→Array Value}{X Z:World}{A n:Nat}{s1 s2:ByteArray}
def qi (R:Nat) (_Bb:Nat) (Y:Bk) (b1 b2 b3:OA) (k1 k2 k3:Nat) (W:World) (i:Nat) (v:Value) (X:World):Prop:=match i with
 |0=>v=.agg (vB Y b1 b2 b3 k1 k2 k3)
 |1=>v=.p R 0
 |2=>v=.agg (vB Y b1 b2 b3 k1 k2 k3)
 |3=>∃y:Wr,v=.agg (vW y)/\aE y
 |4=>∃(cd:Int) (V:Bk) (f1 f2 f3:OA) (h1 h2 h3:Nat) (ve:Int),v=.agg #[.i cd,.i V.v,.i V.f,.l f1 V.on h1,.l f2 V.hn h2,.l f3 V.tn h3,.i ve]/\Ip X V f1 f2 f3 h3
 |5=>∃z:Nat,v=.p z 0/\W.1.size<=z/\AE X z 7 (AV [.i 0,.i 0,.i 0,.l none 0 0,.l none 0 0,.l none 0 0,.i 0])/\IC X z
 |_=>True
theorem Ab3 (t0:Nat->Value) (R:Nat) (ad:OA) (nn cap p:Nat) (Bb:Nat) (Y:Bk) (b1 b2 b3:OA) (k1 k2 k3:Nat) (W:World) (hr:Rd W R ad nn cap p) (hp:p<=600000) (Uw:Bb<W.1.size) (Ol:¬Bb=R) (By:AE W Bb 5 (AV (JR Y b1 b2 b3 k1 k2 k3))) (hY:Ip W Y b1 b2 b3 k3) (Dg:mk=λt=>#[.p R 0,p1,p2,p3,.p Bb 0,p5,p6,t 5,p8,p9,Ea,Ee,Em,D1,DW,DN,DU,DX,DO,DP,DV,DT,D9,Ef,EJ,Ej,El,Ei,Ed,Eh,Ek,t 0,t 1,t 2,t 3,t 4,EH,EI,EV,Er,EB,ER,ES,EQ,EC,ED,Eo,EW,EU,EK,EL]) (Q:Exit->Act->World->Prop) (hQ:∀(t:Nat->Value) (z:Nat) (cd:Int) (V:Bk) (f1 f2 f3:OA) (h1 h2 h3:Nat) (ve:Int) (pz:Nat) X,t 5=.p z 0->W.1.size<=z->AE X z 7 (AV [.i cd,.i V.v,.i V.f,.l f1 V.on h1,.l f2 V.hn h2,.l f3 V.tn h3,.i ve])->Ip X V f1 f2 f3 h3->AB (λq=>q=R) W X->p<=pz->pz<=p+360->Rd X R ad nn cap pz->Q .normal ⟨mk t,[]⟩ X):Code.wp prog (rg Tryz.f14 6) Q ⟨mk t0,[]⟩ W:=by
 have Le:=hr.lt;refine Hz Zc 6 11 60 mk t0 R ad nn cap p (qi R Bb Y b1 b2 b3 k1 k2 k3 W) (λa X=>∃(t:Nat->Value) (z:Nat) (cd:Int) (V:Bk) (f1 f2 f3:OA) (h1 h2 h3:Nat) (ve:Int) (pz:Nat),a=⟨mk t,[]⟩/\t 5=.p z 0/\W.1.size<=z/\AE X z 7 (AV [.i cd,.i V.v,.i V.f,.l f1 V.on h1,.l f2 V.hn h2,.l f3 V.tn h3,.i ve])/\Ip X V f1 f2 f3 h3/\AB (λq=>q=R) W X/\p<=pz/\pz<=p+360/\Rd X R ad nn cap pz) Zc Zc Zc ?_ rfl hr ?_ ?_ ?_ ?_;all_goals subst Dg
 .exact yv
 .intro i hi t X K p' hb CO Dj AW hg hK;rcases(ae i Za)with rfl|rfl|rfl|rfl|rfl|rfl;.exact jm
  .exact Di
  .exact jm
  .have AY:t 1=_:=hg 1 (AR rfl);have Ff:t 2=_:=hg 2 (AR rfl);have HY:=Ab (hY.pick hb hr.ns);refine Au rfl rfl ?_;have HK:=Ab hK;have HR:=Ab AW;clear hK hg AW;go_simp;go_at_call 31;refine(M8 Y R ad nn cap p' b1 b2 b3 k1 k2 k3 X HR Za HY.f (PM HY.v).1 (PM HY.v).2 HY.i).mono ?_;rintro r Z ⟨y,rfl,hy,hf,q3,z1,z2,Me⟩;have h:=HK (.agg (vW y)) Z q3 z1 Za ⟨y,rfl,hy⟩ hf Me;exact LN
  .exact Agh
  .exact xl
 .exact Agb
 .intro h;omega
 .exact U_
def pj (R:Nat) (Bb:Nat) (Y:Bk) (b1 b2 b3:OA) (k1 k2 k3:Nat) (_W:World) (i:Nat) (v:Value) (X:World):Prop:=match i with
 |0=>v=.agg (vB Y b1 b2 b3 k1 k2 k3)
 |1=>v=.p Bb 1
 |2=>v=.i Y.f
 |3=>v=.p R 0
 |4=>∃k:Nat,k<8/\v=.i k
 |5=>∃fl:Int,v=.i fl
 |6=>∃(V:Bk) (f1 f2 f3:OA) (h1 h2 h3:Nat),v=.agg (vB V f1 f2 f3 h1 h2 h3)/\Ip X V f1 f2 f3 h3
 |_=>True
theorem Ab4 (t0:Nat->Value) (R:Nat) (ad:OA) (nn cap p:Nat) (Bb:Nat) (Y:Bk) (b1 b2 b3:OA) (k1 k2 k3:Nat) (W:World) (hr:Rd W R ad nn cap p) (hp:p<=600000) (Uw:Bb<W.1.size) (Ol:¬Bb=R) (By:AE W Bb 5 (AV (JR Y b1 b2 b3 k1 k2 k3))) (hY:Ip W Y b1 b2 b3 k3) (Dg:mk=λt=>#[.p R 0,p1,p2,p3,.p Bb 0,p5,p6,p7,p8,p9,Ea,Ee,Em,D1,DW,DN,DU,DX,DO,DP,DV,DT,D9,Ef,EJ,Ej,El,Ei,Ed,Eh,Ek,Ey,Ev,Ew,Ex,EM,EH,EI,EV,Er,EB,t 0,t 1,t 2,t 3,t 4,t 5,t 6,EU,EK,EL]) (Q:Exit->Act->World->Prop) (hQ:∀(t:Nat->Value) (V:Bk) (f1 f2 f3:OA) (h1 h2 h3:Nat) (pz:Nat) (X0 X:World),X=(((((X0.setCell ⟨Bb,0,none⟩ (.i V.v)).setCell ⟨Bb,1,none⟩ (.i V.f)).setCell ⟨Bb,2,none⟩ (.l f1 V.on h1)).setCell ⟨Bb,3,none⟩ (.l f2 V.hn h2)).setCell ⟨Bb,4,none⟩ (.l f3 V.tn h3))->Ip X0 V f1 f2 f3 h3->AB (λq=>q=R) W X0->p<=pz->pz<=p+7->Rd X0 R ad nn cap pz->Q .normal ⟨mk t,[]⟩ X):Code.wp prog (rg Tryz.f14 9) Q ⟨mk t0,[]⟩ W:=by
 have Le:=hr.lt;refine Hz Zc 7 12 1 mk t0 R ad nn cap p (pj R Bb Y b1 b2 b3 k1 k2 k3 W) (λa X=>∃(t:Nat->Value) (V:Bk) (f1 f2 f3:OA) (h1 h2 h3:Nat) (pz:Nat) (X0:World),a=⟨mk t,[]⟩/\X=(((((X0.setCell ⟨Bb,0,none⟩ (.i V.v)).setCell ⟨Bb,1,none⟩ (.i V.f)).setCell ⟨Bb,2,none⟩ (.l f1 V.on h1)).setCell ⟨Bb,3,none⟩ (.l f2 V.hn h2)).setCell ⟨Bb,4,none⟩ (.l f3 V.tn h3))/\Ip X0 V f1 f2 f3 h3/\AB (λq=>q=R) W X0/\p<=pz/\pz<=p+7/\Rd X0 R ad nn cap pz) Zc Zc Zc ?_ rfl hr ?_ ?_ ?_ ?_;all_goals subst Dg
 .exact R'
 .intro i hi t X K p' hb CO Dj AW hg hK;rcases(YP i Za)with rfl|rfl|rfl|rfl|rfl|rfl|rfl;.exact jm
  .exact Di
  .exact Aga
  .exact Di
  .have AY:t 3=_:=hg 3 (AR rfl);refine Au rfl rfl ?_;have HK:=Ab hK;have HR:=Ab AW;clear hK hg AW;go_simp;go_at_call 16;refine(Bt R ad nn cap p' 8 X HR Za Zb Zb).mono ?_;exact nd
  .exact Agn
  .have AY:t 0=_:=hg 0 (AR rfl);obtain⟨fl,g5⟩:=hg 5 (AR rfl);have HY:=Ab (hY.pick hb hr.ns);refine Au rfl rfl ?_;have HK:=Ab hK;have HR:=Ab AW;clear hK hg AW;go_simp;go_at_call 32;refine(eB Y b1 b2 b3 k1 k2 k3 fl X HY).mono ?_;rintro r Z ⟨Nt,V,f1,f2,f3,h1,h2,h3,rfl,hV⟩;have h:=HK (.agg (vB V f1 f2 f3 h1 h2 h3)) Z p' A9 Za ⟨V,f1,f2,f3,h1,h2,h3,rfl,hV⟩ (Aj Nt) (HR.below Nt);simpa[AX,AY,g5]using h
 .exact Af9
 .intro h;omega
 .exact wl
theorem OQ (t:Nat->Value) (i:Nat):AX t i (t i)=t:=by funext j;unfold AX;cases e:(j==i)with
 |true=>
  have e2:j=i:=by simpa using e
  rw[e2];rfl
 |false=>rfl
theorem Rd.keep2{W Y:World}{R:Nat}{ad:OA}{cap p0 p:Nat}(_hW:Rd W R ad n cap p0) (hX:Rd X R ad n cap p) (hf:AB (λq=>q=A) X Y) (hA:¬R=A) (rK:∀b off,ad=some ⟨b,off,none⟩->¬b=A):Rd Y R ad n cap p:=by refine⟨(hf.cell (p:=⟨R,0,none⟩) hX.lt hA).trans hX.c0,(hf.cell (p:=⟨R,1,none⟩) hX.lt hA).trans hX.c1,(hf.frozen (p:=⟨R,1,none⟩) hX.lt hA).trans hX.f1,Aa hX.lt hf.size,hX.n2,λi hi=>?_,λj s e=>hX.ns j s (by rw[<-hf.cell (p:=⟨R,j,none⟩) hX.lt hA];exact e)⟩;obtain⟨b,off,v,e1,e2,e3,e4,e5⟩:=hX.bt i hi;exact⟨b,off,v,e1,Aa e2 hf.size,e3,(hf.cell (p:=⟨b,off+i,none⟩) e2 (rK b off e1)).trans e4,e5⟩
structure jD (X:World) (lo:Nat) (B:Bk) (a1 a2 a3:OA) (c3:Nat):Prop where
 v:VB B
 f:BS B
 i:BL X lo X.1.size B a1 a2 a3
 c:Kw X B.tn a3 c3
theorem jD.fr{lo:Nat}{B:Bk}{a1 a2 a3:OA}{c3:Nat}{U:Nat->Prop}(h:jD X lo B a1 a2 a3 c3) (hF:AB U X Z) (hU:∀q,lo<=q->¬U q):jD Z lo B a1 a2 a3 c3:=⟨h.v,h.f,h.i.frLo (hF.mono λq hq=>Nat.lt_of_not_le λe=>hU q e hq) A9 hF.size,h.c.grow hF.size⟩
structure L7J (A C Bb z:Nat) (Y:Bk) (b1 b2 b3:OA) (k1 k2 k3:Nat) (s1 s2:ByteArray) (nw sn:Int) (am:OA) (n cp:Nat) (X:World):Prop where
 a:∃l,AE X A 5 (AV l)an:IC X A
 c:∃l,AE X C 5 (AV l)b:AE X Bb 5 (AV (JR Y b1 b2 b3 k1 k2 k3))y:Ip X Y b1 b2 b3 k3
 z:AE X z 5 (AV [.s s1,.s s2,.i nw,.l am n cp,.i sn])
theorem L7J.below{C Bb z:Nat}{Y:Bk}{b1 b2 b3:OA}{k1 k2 k3:Nat}{nw sn:Int}{am:OA}{cp:Nat}(h:L7J A C Bb z Y b1 b2 b3 k1 k2 k3 s1 s2 nw sn am n cp X) (hb:Below X.1.size X Z):L7J A C Bb z Y b1 b2 b3 k1 k2 k3 s1 s2 nw sn am n cp Z:=by obtain⟨⟨l,hl⟩,an,⟨l2,Ut⟩,b,y,z⟩:=h;exact⟨⟨l,hl.below hb hl.lt⟩,an.below hb hl.lt,⟨l2,Ut.below hb Ut.lt⟩,b.below hb b.lt,y.below hb,z.below hb z.lt⟩
def vX (A C _Bb _z:Nat) (Y:Bk) (b1 b2 b3:OA) (k1 k2 k3:Nat) (s1 s2:ByteArray) (nw sn:Int) (am:OA) (n cp:Nat) (lo:Nat) (i:Nat) (v:Value) (X:World):Prop:=match i with
 |0=>v=.agg (vB Y b1 b2 b3 k1 k2 k3)
 |1=>∃(f1 f2 f3:OA) (e1 e2 e3:Nat),v=.agg (vB Y f1 f2 f3 e1 e2 e3)/\jD X lo Y f1 f2 f3 e3
 |2=>v=.agg #[.s s1,.s s2,.i nw,.l am n cp,.i sn]
 |3=>∃(f1 f2 f3:OA) (e1 e2 e3:Nat),AE X A 5 (AV (JR Y f1 f2 f3 e1 e2 e3))/\jD X lo Y f1 f2 f3 e3
 |4=>AE X C 5 (AV [.s s1,.s s2,.i nw,.l am n cp,.i sn])
 |_=>True
def Jw (A C i q:Nat):Prop:=match i with
 |3=>q=A
 |4=>q=C
 |_=>False
theorem ro{p0:Value}(t0:Nat->Value) (R:Nat) (ad:OA) (nn cap p:Nat) (A C Bb z:Nat) (Y:Bk) (b1 b2 b3:OA) (k1 k2 k3:Nat) (s1 s2:ByteArray) (nw sn:Int) (am:OA) (n cp:Nat) (W:World) (hr:Rd W R ad nn cap p) (hJ:L7J A C Bb z Y b1 b2 b3 k1 k2 k3 s1 s2 nw sn am n cp W) (qF:¬A=C) (hAB:¬A=Bb) (hAz:¬A=z) (hAR:¬A=R) (hCR:¬C=R) (FO:∀b off,ad=some ⟨b,off,none⟩->¬b=A/\¬b=C) (Dg:mk=λt=>#[p0,p1,.p A 0,.p C 0,.p Bb 0,.p z 0,p6,p7,p8,p9,Ea,Ee,Em,D1,DW,DN,DU,DX,DO,DP,DV,DT,D9,Ef,EJ,Ej,El,Ei,Ed,Eh,Ek,Ey,Ev,Ew,Ex,EM,EH,EI,EV,Er,EB,ER,ES,EQ,EC,ED,Eo,EW,t 0,t 1,t 2]) (Q:Exit->Act->World->Prop) (hQ:∀(t:Nat->Value) (X:World) (f1 f2 f3:OA) (e1 e2 e3:Nat),AB (λq=>q=A\/q=C) W X->AE X A 5 (AV (JR Y f1 f2 f3 e1 e2 e3))->jD X W.1.size Y f1 f2 f3 e3->AE X C 5 (AV [.s s1,.s s2,.i nw,.l am n cp,.i sn])->Rd X R ad nn cap p->Q .normal ⟨mk t,[]⟩ X):Code.wp prog (rg Tryz.f14 10) Q ⟨mk t0,[]⟩ W:=by
 have Le:=hr.lt;have hAW:A<W.1.size:=by obtain⟨l,h⟩:=hJ.a;exact h.lt
 have hCW:C<W.1.size:=by obtain⟨l,h⟩:=hJ.c;exact h.lt
 have hDW:∀i q,Jw A C i q->q<W.1.size:=λi q h=>by unfold Jw at h;split at h<;>first|exact h.elim|omega
 refine KW Zc 5 0 (λ_=>0) mk t0 R ad nn cap p (λq=>q=A\/q=C) (Jw A C) 4 (L7J A C Bb z Y b1 b2 b3 k1 k2 k3 s1 s2 nw sn am n cp) (vX A C Bb z Y b1 b2 b3 k1 k2 k3 s1 s2 nw sn am n cp W.1.size) (λ_ X=>∃(f1 f2 f3:OA) (e1 e2 e3:Nat),AE X A 5 (AV (JR Y f1 f2 f3 e1 e2 e3))/\jD X W.1.size Y f1 f2 f3 e3/\AE X C 5 (AV [.s s1,.s s2,.i nw,.l am n cp,.i sn])) Zc Zc Zc Zb ?_ ?_ rfl hr (hJ.below (Ap _ _).drew) ?_ ?_;all_goals subst Dg
 .intro i q h;unfold Jw at h;split at h<;>first|exact AA h|exact Az h|exact h.elim
 .intro i j v X Z p' hi hj P4 kC h gk hD Lb hX;have far:∀q,W.1.size<=q->¬Jw A C j q:=λq h1 h2=>by have:=hDW j q h2;omega
  rcases(VU i Za)with rfl|rfl|rfl|rfl|rfl;.exact h
  .obtain⟨f1,f2,f3,e1,e2,e3,e,hB⟩:=h;exact⟨f1,f2,f3,e1,e2,e3,e,hB.fr hD far⟩
  .exact h
  .obtain⟨f1,f2,f3,e1,e2,e3,e,hB⟩:=h;refine⟨f1,f2,f3,e1,e2,e3,e.fr hD (λq=>?_),hB.fr hD far⟩;unfold Jw at q;split at q;.exact P4 rfl
   .exact qF q
   .exact q
  .refine AE.fr h hD (λq=>?_);unfold Jw at q;split at q;.exact qF q.symm
   .exact P4 rfl
   .exact q
 .intro i hi t X K p' hb CO Dj AW hJ hg hK;rcases(VU i Za)with rfl|rfl|rfl|rfl|rfl;.exact dW
  .have AY:t 0=_:=hg 0 (AR rfl);have iv:=hb.size;refine Au rfl rfl ?_;have HK:=Ab hK;have HR:=Ab AW;have HJ:=Ab hJ;clear hK hg AW hJ;go_simp;go_at_call 33;refine(WX Y b1 b2 b3 k1 k2 k3 X HJ.y).mono ?_;rintro r Z ⟨Nt,f1,f2,f3,e1,e2,e3,rfl,Cs,hcg⟩;have h:=HK (.agg (vB Y f1 f2 f3 e1 e2 e3)) Z p' A9 A9 ⟨f1,f2,f3,e1,e2,e3,rfl,HJ.y.v,HJ.y.f,Cs.dn iv,hcg⟩ (Aj Nt) (HR.below Nt) (AA ⟨Zb,HJ.below Nt⟩);simpa[AX,AY]using h
  .exact XW
  .obtain⟨f1,f2,f3,e1,e2,e3,g1,hB⟩:=hg 1 (AR rfl);obtain⟨⟨l,hl⟩,an,⟨l2,Ut⟩,b,y,z⟩:=hJ;have c0:=hl.cell 0 Zb;have c1:=hl.cell 1 Zb;have c2:=hl.cell 2 Zb;have c3:=hl.cell 3 Zb;have c4:=hl.cell 4 Zb;have cf:=hl.free;have cl:=hl.lt;have F:=((((((AB.refl (λq=>q=A) X).setCell (p:=⟨A,0,none⟩) rfl (.i Y.v)).setCell (p:=⟨A,1,none⟩) rfl (.i Y.f)).setCell (p:=⟨A,2,none⟩) rfl (.l f1 Y.on e1)).setCell (p:=⟨A,3,none⟩) rfl (.l f2 Y.hn e2)).setCell (p:=⟨A,4,none⟩) rfl (.l f3 Y.tn e3));have Z:=(((((hl.set (o:=0) Zb (.i Y.v)).set (o:=1) Zb (.i Y.f)).set (o:=2) Zb (.l f1 Y.on e1)).set (o:=3) Zb (.l f2 Y.hn e2)).set (o:=4) Zb (.l f3 Y.tn e3));have Z2:AE _ A 5 (AV (JR Y f1 f2 f3 e1 e2 e3)):=Z.congr λj hj=>Zo;have N2:=Ye an hl Y f1 f2 f3 e1 e2 e3;have h:=hK (t 3) _ p' A9 A9 ⟨f1,f2,f3,e1,e2,e3,Z2,hB.fr F (λq h1 h2=>by have h2:q=A:=h2;omega)⟩ F (hr.keep2 AW F (λe=>hAR e.symm) (λb off e=>(FO b off e).1)) (AA ⟨Zb,⟨⟨_,Z2⟩,N2,⟨l2,Ut.fr F (λe=>qF e.symm)⟩,b.fr F (λe=>hAB e.symm),y.pick F an,z.fr F (λe=>hAz e.symm)⟩⟩);have HK:=Ab h;clear hK hg hl F Z Z2 N2 h AW hB b y z Ut an;refine Au rfl rfl ?_;go_simp;simpa[AX,g1,OQ]using HK.out
  .have AY:t 2=_:=hg 2 (AR rfl);obtain⟨f1,f2,f3,e1,e2,e3,bQ,hB⟩:=hg 3 ⟨_,rfl,⟨3,.chain⟩,Ze,rfl,rfl⟩;obtain⟨⟨l,hl⟩,an,⟨l2,Ut⟩,b,y,z⟩:=hJ;have c0:=Ut.cell 0 Zb;have c1:=Ut.cell 1 Zb;have c2:=Ut.cell 2 Zb;have c3:=Ut.cell 3 Zb;have c4:=Ut.cell 4 Zb;have cf:=Ut.free;have cl:=Ut.lt;have F:=((((((AB.refl (λq=>q=C) X).setCell (p:=⟨C,0,none⟩) rfl (.s s1)).setCell (p:=⟨C,1,none⟩) rfl (.s s2)).setCell (p:=⟨C,2,none⟩) rfl (.i nw)).setCell (p:=⟨C,3,none⟩) rfl (.l am n cp)).setCell (p:=⟨C,4,none⟩) rfl (.i sn));have Z:=(((((Ut.set (o:=0) Zb (.s s1)).set (o:=1) Zb (.s s2)).set (o:=2) Zb (.i nw)).set (o:=3) Zb (.l am n cp)).set (o:=4) Zb (.i sn));have Z2:AE _ C 5 (AV [.s s1,.s s2,.i nw,.l am n cp,.i sn]):=Z.congr λj hj=>Zo;have h:=hK (t 4) _ p' A9 A9 Z2 F (hr.keep2 AW F (λe=>hCR e.symm) (λb off e=>(FO b off e).2)) (Az ⟨rfl,f1,f2,f3,e1,e2,e3,bQ.fr F qF,hB.fr F (λq h1 h2=>by have h2:q=C:=h2;omega),Z2⟩);have HK:=Ab h;clear hK hg hl F Z Z2 h AW b y z Ut an bQ hB;exact Yk
 .intro t X p' hb CO Dj AW hF;rcases hF with⟨_,f1,f2,f3,e1,e2,e3,By,hB,hc⟩|⟨h,_⟩;.have e:p'=p:=Za;subst e;exact hQ t X f1 f2 f3 e1 e2 e3 hb By hB hc AW
  .omega
end Go.Proofs.YtdknjmgdgnmhjaaGreat
