import Derived.Test.YtdknjmgdgnmhjaaGreatPk41
set_option maxRecDepth 100000
set_option maxHeartbeats 4000000
namespace Go.Proofs.YtdknjmgdgnmhjaaGreat
open Go.RowKit Go.Proofs.Tryz
variable {p1 p2 p3 p4 p6 p7 Ea Ee Em D1 DW DN DU DX DO DP DV DT D9 Ef EJ Ej El Ei Ed Eh Ek Ey Ev Ew Ex EM EH EI EV Er EB ER ES EQ EC ED Eo EW EU EK EL F9 FY F8 Ga FM Fz Fy FN Fv Gy Gx GO GI GQ Gw Gv Fu G9 Ha Hf Hd Hb Hc GL GK Hg In Ik Im Hj He Jr Jp Lj Lh Lf J9 Kc KL KJ KM KN KI LJ FE Gb Fi EX E0 EZ EY Fg Fh Ho Hn Hm Hq GN GP GF GG Hr Hp IP IN IJ KO KQ KR JZ JV JY Mw J6 J3 JT J0 J5 J1 I8 I9 Jb J4 JX JW J7 JU P5 PW PR P9 PY P8 P2 Oz OH OG Ov OF Oy Wo Wg Wn V7 Wh WD V3 Wp Wf Wy V2 WB V9 V1 WA Wb WC V6 Wm VZ WH Wa V5 V8 WI WK VY WE Wz Wc Wi pM nE qU sR tF sC nC sU m7 rJ uC lK nK rO mE rE uF pZ rI sL mL oY oZ rP rU sJ lZ rM qA oX tK mP oE oI nO pA qE mV rA uW lV uH lO sG qK sY pI qX pE nJ oT tI pF lL nN sQ l9 uN mG uT oG oP uO vA pQ tU qM oJ qQ sM qN nG sS mT pT uG qY kZ mF uI mC uQ rG lB nI kW nL oW tR pC lT pY mZ sA rL pG mS oQ pW pO mJ nD rY pS uJ lR oC nS lQ oH nZ mN uA nV uL uD pN uS oL tP lX tS mY lD tY n7 lF uZ qZ n9 tT oO oU rD kX nX uV sK uP lN lJ lA tL oN lW mQ tD pU tJ pR vD oD qO sN oA tO mR qH pJ sD nP m8 uK qV tG pP sV sW lY mA sX qC rC mX rQ mW lI oF tA pV m9 mM uU qL rW qR tW tQ tN nW pX lM tV mO uX rR uB sH rT mK mI tM nU p9 G8 Hi Hh Ie J8:Value}{mk:(Nat→Value)→Array Value}
def zO (R:Nat)(T:Nat)(x:Bk)(_g1 _g2:Nat)(_a3:OA)(_d1 _d2 _d3 _o _h:Nat)(_y:Ob)(_z:Ch)(_ah _bh:OA)(_ch _eh:Nat)(_W:World)(i:Nat)(v:Value)(_X:World):Prop:=match i with
 |0=>v=.p T 1
 |1=>v=.i x.f
 |2=>v=.p R 0
 |3=>∃k:Nat,k<2/\v=.i k
 |4=>∃i:Int,v=.i i
 |5=>∃i:Int,v=.i i
 |_=>True
theorem nj{p8:Value}(t0:Nat->Value)(R:Nat)(ad:OA)(nn cap p:Nat)(T:Nat)(x:Bk)(g1 g2:Nat)(a3:OA)(d1 d2 d3 o h:Nat)(y:Ob)(z:Ch)(ah bh:OA)(ch eh:Nat)(W:World)(hr:Rd W R ad nn cap p)(hp:p<=600000)(H:SC W R T x g1 g2 a3 d1 d2 d3 o h y z ah bh ch eh)(Dg:mk=λt=>#[.pointer (some ⟨R,0,none⟩),p1,p2,p3,p4,.pointer (some ⟨T,0,none⟩),p6,p7,p8,t 5,Ea,Ee,Em,D1,DW,DN,DU,DX,DO,DP,DV,DT,D9,Ef,EJ,Ej,El,Ei,Ed,Eh,Ek,Ey,Ev,Ew,Ex,EM,EH,EI,EV,Er,EB,ER,ES,EQ,EC,ED,Eo,EW,EU,EK,EL,F9,FY,F8,Ga,FM,Fz,Fy,FN,Fv,Gy,Gx,GO,GI,GQ,Gw,Gv,Fu,G9,Ha,Hf,Hd,Hb,Hc,GL,GK,Hg,In,Ik,Im,Hj,He,t 0,t 1,t 2,t 3,t 4,Jr,Jp,Lj,Lh,Lf,J9,Kc,KL,KJ,KM,KN,KI,LJ,FE,Gb,Fi,EX,E0,EZ,EY,Fg,Fh,Ho,Hn,Hm,Hq,GN,GP,GF,GG,Hr,Hp,IP,IN,IJ,KO,KQ,KR,JZ,JV,JY,Mw,J6,J3,JT,J0,J5,J1,I8,I9,Jb,J4,JX,JW,J7,JU,P5,PW,PR,P9,PY,P8,P2,Oz,OH,OG,Ov,OF,Oy,Wo,Wg,Wn,V7,Wh,WD,V3,Wp,Wf,Wy,V2,WB,V9,V1,WA,Wb,WC,V6,Wm,VZ,WH,Wa,V5,V8,WI,WK,VY,WE,Wz,Wc,Wi,pM,nE,qU,sR,tF,sC,nC,sU,m7,rJ,uC,lK,nK,rO,mE,rE,uF,pZ,rI,sL,mL,oY,oZ,rP,rU,sJ,lZ,rM,qA,oX,tK,mP,oE,oI,nO,pA,qE,mV,rA,uW,lV,uH,lO,sG,qK,sY,pI,qX,pE,nJ,oT,tI,pF,lL,nN,sQ,l9,uN,mG,uT,oG,oP,uO,vA,pQ,tU,qM,oJ,qQ,sM,qN,nG,sS,mT,pT,uG,qY,kZ,mF,uI,mC,uQ,rG,lB,nI,kW,nL,oW,tR,pC,lT,pY,mZ,sA,rL,pG,mS,oQ,pW,pO,mJ,nD,rY,pS,uJ,lR,oC,nS,lQ,oH,nZ,mN,uA,nV,uL,uD,pN,uS,oL,tP,lX,tS,mY,lD,tY,n7,lF,uZ,qZ,n9,tT,oO,oU,rD,kX,nX,uV,sK,uP,lN,lJ,lA,tL,oN,lW,mQ,tD,pU,tJ,pR,vD,oD,qO,sN,oA,tO,mR,qH,pJ,sD,nP,m8,uK,qV,tG,pP,sV,sW,lY,mA,sX,qC,rC,mX,rQ,mW,lI,oF,tA,pV,m9,mM,uU,qL,rW,qR,tW,tQ,tN,nW,pX,lM,tV,mO,uX,rR,uB,sH,rT,mK,mI,tM,nU])(Q:Exit->Act->World->Prop)(hQ:∀(t:Nat->Value)(i:Int)(pz:Nat)(X:World),t 5=.i i->AB (λq=>q=R) W X->p<=pz->pz<=p+6->Rd X R ad nn cap pz->Q .normal ⟨mk t,[]⟩ X):Code.wp prog (rg Tryz.f44 16) Q ⟨mk t0,[]⟩ W:=by
 have Le:=hr.lt;refine NL Zc 6 1 mk t0 R ad nn cap p (zO R T x g1 g2 a3 d1 d2 d3 o h y z ah bh ch eh W) Zc Zc ?_ rfl hr ?_ ?_;all_goals subst Dg
 .exact dM
 .intro i hi t X K p' hb CO Dj AW hg hK;rcases(ae i Za)with rfl|rfl|rfl|rfl|rfl|rfl;.exact Di
  .have AY:t 0=_:=hg 0 (AR rfl);exact ga
  .exact Di
  .have AY:t 2=_:=hg 2 (AR rfl);exact sj
  .have AY:t 1=_:=hg 1 (AR rfl);obtain⟨k,hk,eq3⟩:=hg 3 (AR rfl);have hbf:=H.bf;have hw:=AQ (x.f+(k:Int)) ⟨Za,Za⟩;have h:=hK (.i (x.f+(k:Int))) X p' A9 Za ⟨_,rfl⟩ (AB.refl _ _) AW;refine Au rfl rfl ?_;clear hK hg;go_simp;simpa[AX,AY,eq3,hw]using h
  .obtain⟨i,eq4⟩:=hg 4 (AR rfl);have h:=hK (.i i) X p' A9 Za ⟨i,rfl⟩ (AB.refl _ _) AW;refine Au rfl rfl ?_;clear hK hg;go_simp;simpa[AX,eq4]using h
 .intro t X pz hf h1 h2 AW hg;obtain⟨i,sO⟩:=hg 5 Za;exact hQ t i pz X sO hf h1 Za AW
def yQ (_R:Nat)(T:Nat)(x:Bk)(_g1 g2:Nat)(_a3:OA)(_d1 d2 _d3 _o h:Nat)(_y:Ob)(z:Ch)(_ah bh:OA)(_ch eh:Nat)(_Kb:Nat)(k0:Ob)(ak:OA)(ck:Nat)(_W:World)(i:Nat)(v:Value)(_X:World):Prop:=match i with
 |0=>v=.p T 3
 |1=>v=.l (some ⟨g2,0,none⟩) x.hn d2
 |2=>v=.i (h:Nat)
 |3=>v=.pointer (some ⟨g2,h*9,none⟩)
 |4=>v=.pointer (some ⟨g2,h*9+2,none⟩)
 |5=>v=.agg #[.s z.ob.k,.s z.ob.n,.i z.ob.t,.i z.ob.b,.s z.ob.m,.bool z.ob.e,.l bh z.ob.hn eh]
 |6=>v=.agg #[.s k0.k,.s k0.n,.i k0.t,.i k0.b,.s k0.m,.bool k0.e,.l ak k0.hn ck]
 |7=>∃i:Int,v=.i i
 |8=>∃b:Bool,v=.bool b
 |_=>True
theorem qs (t0:Nat->Value)(R:Nat)(ad:OA)(nn cap p:Nat)(T:Nat)(x:Bk)(g1 g2:Nat)(a3:OA)(d1 d2 d3 o h:Nat)(y:Ob)(z:Ch)(ah bh:OA)(ch eh:Nat)(Kb:Nat)(k0:Ob)(ak:OA)(ck:Nat)(W:World)(hr:Rd W R ad nn cap p)(_hp:p<=600000)(H:SC W R T x g1 g2 a3 d1 d2 d3 o h y z ah bh ch eh)(Td:AE W Kb 7 (AV (oc k0 ak ck)))(vq:¬Kb=R)(Dg:mk=λt=>#[.pointer (some ⟨R,0,none⟩),p1,p2,p3,p4,.pointer (some ⟨T,0,none⟩),p6,p7,.pointer (some ⟨Kb,0,none⟩),p9,.int .i64 (h:Nat),Ee,Em,D1,DW,DN,DU,DX,DO,DP,DV,DT,D9,Ef,EJ,Ej,El,Ei,Ed,Eh,Ek,Ey,Ev,Ew,Ex,EM,EH,EI,EV,Er,EB,ER,ES,EQ,EC,ED,Eo,EW,EU,EK,EL,F9,FY,F8,Ga,FM,Fz,Fy,FN,Fv,Gy,Gx,GO,GI,GQ,Gw,Gv,Fu,G9,Ha,Hf,Hd,Hb,Hc,GL,GK,Hg,In,Ik,Im,Hj,He,G8,Hi,Hh,Ie,J8,Jr,Jp,Lj,Lh,Lf,J9,Kc,t 0,t 1,t 2,t 3,t 4,t 5,t 6,t 7,t 8,EX,E0,EZ,EY,Fg,Fh,Ho,Hn,Hm,Hq,GN,GP,GF,GG,Hr,Hp,IP,IN,IJ,KO,KQ,KR,JZ,JV,JY,Mw,J6,J3,JT,J0,J5,J1,I8,I9,Jb,J4,JX,JW,J7,JU,P5,PW,PR,P9,PY,P8,P2,Oz,OH,OG,Ov,OF,Oy,Wo,Wg,Wn,V7,Wh,WD,V3,Wp,Wf,Wy,V2,WB,V9,V1,WA,Wb,WC,V6,Wm,VZ,WH,Wa,V5,V8,WI,WK,VY,WE,Wz,Wc,Wi,pM,nE,qU,sR,tF,sC,nC,sU,m7,rJ,uC,lK,nK,rO,mE,rE,uF,pZ,rI,sL,mL,oY,oZ,rP,rU,sJ,lZ,rM,qA,oX,tK,mP,oE,oI,nO,pA,qE,mV,rA,uW,lV,uH,lO,sG,qK,sY,pI,qX,pE,nJ,oT,tI,pF,lL,nN,sQ,l9,uN,mG,uT,oG,oP,uO,vA,pQ,tU,qM,oJ,qQ,sM,qN,nG,sS,mT,pT,uG,qY,kZ,mF,uI,mC,uQ,rG,lB,nI,kW,nL,oW,tR,pC,lT,pY,mZ,sA,rL,pG,mS,oQ,pW,pO,mJ,nD,rY,pS,uJ,lR,oC,nS,lQ,oH,nZ,mN,uA,nV,uL,uD,pN,uS,oL,tP,lX,tS,mY,lD,tY,n7,lF,uZ,qZ,n9,tT,oO,oU,rD,kX,nX,uV,sK,uP,lN,lJ,lA,tL,oN,lW,mQ,tD,pU,tJ,pR,vD,oD,qO,sN,oA,tO,mR,qH,pJ,sD,nP,m8,uK,qV,tG,pP,sV,sW,lY,mA,sX,qC,rC,mX,rQ,mW,lI,oF,tA,pV,m9,mM,uU,qL,rW,qR,tW,tQ,tN,nW,pX,lM,tV,mO,uX,rR,uB,sH,rT,mK,mI,tM,nU])(Q:Exit->Act->World->Prop)(hQ:∀(t:Nat->Value)(b:Bool)(pz:Nat)(X:World),t 8=.bool b->AB (λq=>q=R) W X->p<=pz->pz<=p+9->Rd X R ad nn cap pz->Q .normal ⟨mk t,[]⟩ X):Code.wp prog (rg Tryz.f44 20) Q ⟨mk t0,[]⟩ W:=by
 have Le:=hr.lt;refine NL Zc 9 1 mk t0 R ad nn cap p (yQ R T x g1 g2 a3 d1 d2 d3 o h y z ah bh ch eh Kb k0 ak ck W) Zc Zc ?_ rfl hr ?_ ?_;all_goals subst Dg
 .exact dM
 .intro i hi t X K p' hb CO Dj AW hg hK;rcases(D_ i Za)with rfl|rfl|rfl|rfl|rfl|rfl|rfl|rfl|rfl;.exact Di
  .exact Tr
  .exact Di
  .exact iK
  .have AY:t 3=_:=hg 3 (AR rfl);exact MJ
  .have AY:t 4=_:=hg 4 (AR rfl);have q2:=(hb.cell (p:=⟨g2,h*9+2,none⟩) H.l2 H.n2).trans (H.c2 2 Zb);have q3:=(hb.cell (p:=⟨g2,h*9+3,none⟩) H.l2 H.n2).trans (H.c2 3 Zb);have q4:=(hb.cell (p:=⟨g2,h*9+4,none⟩) H.l2 H.n2).trans (H.c2 4 Zb);have q5:=(hb.cell (p:=⟨g2,h*9+5,none⟩) H.l2 H.n2).trans (H.c2 5 Zb);have q6:=(hb.cell (p:=⟨g2,h*9+6,none⟩) H.l2 H.n2).trans (H.c2 6 Zb);have q7:=(hb.cell (p:=⟨g2,h*9+7,none⟩) H.l2 H.n2).trans (H.c2 7 Zb);have q8:=(hb.cell (p:=⟨g2,h*9+8,none⟩) H.l2 H.n2).trans (H.c2 8 Zb);simp only[cc,AV,Ac,Ad]at q2 q3 q4 q5 q6 q7 q8;exact MJ
  .exact Ags
  .have AY:t 5=_:=hg 5 (AR rfl);have Ff:t 6=_:=hg 6 (AR rfl);refine Au rfl rfl ?_;have HK:=Ab hK;have HR:=Ab AW;clear hK hg AW;go_simp;go_at_call 42;refine(Mo z.ob k0 bh ak eh ck X).mono ?_;rintro r Z2 ⟨rfl,Nt⟩;have h:=HK (.i (ET z.ob k0)) Z2 p' A9 Za ⟨_,rfl⟩ (Aj Nt) (HR.below Nt);exact LN
  .obtain⟨i,Y8⟩:=hg 7 (AR rfl);by_cases Fq:i=0;.subst Fq;have h:=hK (.bool true) X p' A9 Za ⟨_,rfl⟩ (AB.refl _ _) AW;refine Au rfl rfl ?_;clear hK hg;go_simp;simpa[AX,Y8]using h
   .have FV:(i==0)=false:=by simpa using Fq
    have h:=hK (.bool false) X p' A9 Za ⟨_,rfl⟩ (AB.refl _ _) AW;refine Au rfl rfl ?_;clear hK hg;go_simp;simpa[AX,Y8,FV,Fq]using h
 .intro t X pz hf h1 h2 AW hg;obtain⟨b,eq8⟩:=hg 8 Za;exact hQ t b pz X eq8 hf h1 Za AW
def xQ (_R:Nat)(T:Nat)(x:Bk)(g1 _g2:Nat)(_a3:OA)(d1 _d2 _d3 o _h:Nat)(y:Ob)(_z:Ch)(ah _bh:OA)(ch _eh:Nat)(_Kb:Nat)(k0:Ob)(ak:OA)(ck:Nat)(_W:World)(i:Nat)(v:Value)(_X:World):Prop:=match i with
 |0=>v=.p T 2
 |1=>v=.l (some ⟨g1,0,none⟩) x.on d1
 |2=>v=.i (o:Nat)
 |3=>v=.pointer (some ⟨g1,o*7,none⟩)
 |4=>v=.agg #[.s y.k,.s y.n,.i y.t,.i y.b,.s y.m,.bool y.e,.l ah y.hn ch]
 |5=>v=.agg #[.s k0.k,.s k0.n,.i k0.t,.i k0.b,.s k0.m,.bool k0.e,.l ak k0.hn ck]
 |6=>∃i:Int,v=.i i
 |7=>∃b:Bool,v=.bool b
 |_=>True
theorem qk (t0:Nat->Value)(R:Nat)(ad:OA)(nn cap p:Nat)(T:Nat)(x:Bk)(g1 g2:Nat)(a3:OA)(d1 d2 d3 o h:Nat)(y:Ob)(z:Ch)(ah bh:OA)(ch eh:Nat)(Kb:Nat)(k0:Ob)(ak:OA)(ck:Nat)(W:World)(hr:Rd W R ad nn cap p)(_hp:p<=600000)(H:SC W R T x g1 g2 a3 d1 d2 d3 o h y z ah bh ch eh)(Td:AE W Kb 7 (AV (oc k0 ak ck)))(vq:¬Kb=R)(Dg:mk=λt=>#[.pointer (some ⟨R,0,none⟩),p1,p2,p3,p4,.pointer (some ⟨T,0,none⟩),p6,p7,.pointer (some ⟨Kb,0,none⟩),p9,Ea,.int .i64 (o:Nat),Em,D1,DW,DN,DU,DX,DO,DP,DV,DT,D9,Ef,EJ,Ej,El,Ei,Ed,Eh,Ek,Ey,Ev,Ew,Ex,EM,EH,EI,EV,Er,EB,ER,ES,EQ,EC,ED,Eo,EW,EU,EK,EL,F9,FY,F8,Ga,FM,Fz,Fy,FN,Fv,Gy,Gx,GO,GI,GQ,Gw,Gv,Fu,G9,Ha,Hf,Hd,Hb,Hc,GL,GK,Hg,In,Ik,Im,Hj,He,G8,Hi,Hh,Ie,J8,Jr,Jp,Lj,Lh,Lf,J9,Kc,KL,KJ,KM,KN,KI,LJ,FE,Gb,Fi,EX,E0,EZ,EY,Fg,Fh,Ho,Hn,Hm,Hq,GN,GP,GF,GG,t 0,t 1,t 2,t 3,t 4,t 5,t 6,t 7,JZ,JV,JY,Mw,J6,J3,JT,J0,J5,J1,I8,I9,Jb,J4,JX,JW,J7,JU,P5,PW,PR,P9,PY,P8,P2,Oz,OH,OG,Ov,OF,Oy,Wo,Wg,Wn,V7,Wh,WD,V3,Wp,Wf,Wy,V2,WB,V9,V1,WA,Wb,WC,V6,Wm,VZ,WH,Wa,V5,V8,WI,WK,VY,WE,Wz,Wc,Wi,pM,nE,qU,sR,tF,sC,nC,sU,m7,rJ,uC,lK,nK,rO,mE,rE,uF,pZ,rI,sL,mL,oY,oZ,rP,rU,sJ,lZ,rM,qA,oX,tK,mP,oE,oI,nO,pA,qE,mV,rA,uW,lV,uH,lO,sG,qK,sY,pI,qX,pE,nJ,oT,tI,pF,lL,nN,sQ,l9,uN,mG,uT,oG,oP,uO,vA,pQ,tU,qM,oJ,qQ,sM,qN,nG,sS,mT,pT,uG,qY,kZ,mF,uI,mC,uQ,rG,lB,nI,kW,nL,oW,tR,pC,lT,pY,mZ,sA,rL,pG,mS,oQ,pW,pO,mJ,nD,rY,pS,uJ,lR,oC,nS,lQ,oH,nZ,mN,uA,nV,uL,uD,pN,uS,oL,tP,lX,tS,mY,lD,tY,n7,lF,uZ,qZ,n9,tT,oO,oU,rD,kX,nX,uV,sK,uP,lN,lJ,lA,tL,oN,lW,mQ,tD,pU,tJ,pR,vD,oD,qO,sN,oA,tO,mR,qH,pJ,sD,nP,m8,uK,qV,tG,pP,sV,sW,lY,mA,sX,qC,rC,mX,rQ,mW,lI,oF,tA,pV,m9,mM,uU,qL,rW,qR,tW,tQ,tN,nW,pX,lM,tV,mO,uX,rR,uB,sH,rT,mK,mI,tM,nU])(Q:Exit->Act->World->Prop)(hQ:∀(t:Nat->Value)(b:Bool)(pz:Nat)(X:World),t 7=.bool b->AB (λq=>q=R) W X->p<=pz->pz<=p+8->Rd X R ad nn cap pz->Q .normal ⟨mk t,[]⟩ X):Code.wp prog (rg Tryz.f44 25) Q ⟨mk t0,[]⟩ W:=by
 have Le:=hr.lt;refine NL Zc 8 1 mk t0 R ad nn cap p (xQ R T x g1 g2 a3 d1 d2 d3 o h y z ah bh ch eh Kb k0 ak ck W) Zc Zc ?_ rfl hr ?_ ?_;all_goals subst Dg
 .exact dM
 .intro i hi t X K p' hb CO Dj AW hg hK;rcases(jh i Za)with rfl|rfl|rfl|rfl|rfl|rfl|rfl|rfl;.exact Di
  .exact TJ
  .exact Di
  .exact aD
  .have AY:t 3=_:=hg 3 (AR rfl);have q0:=(hb.cell (p:=⟨g1,o*7+0,none⟩) H.l1 H.n1).trans (H.c1 0 Zb);have q1:=(hb.cell (p:=⟨g1,o*7+1,none⟩) H.l1 H.n1).trans (H.c1 1 Zb);have q2:=(hb.cell (p:=⟨g1,o*7+2,none⟩) H.l1 H.n1).trans (H.c1 2 Zb);have q3:=(hb.cell (p:=⟨g1,o*7+3,none⟩) H.l1 H.n1).trans (H.c1 3 Zb);have q4:=(hb.cell (p:=⟨g1,o*7+4,none⟩) H.l1 H.n1).trans (H.c1 4 Zb);have q5:=(hb.cell (p:=⟨g1,o*7+5,none⟩) H.l1 H.n1).trans (H.c1 5 Zb);have q6:=(hb.cell (p:=⟨g1,o*7+6,none⟩) H.l1 H.n1).trans (H.c1 6 Zb);exact zd
  .exact Ags
  .have AY:t 4=_:=hg 4 (AR rfl);have Ff:t 5=_:=hg 5 (AR rfl);refine Au rfl rfl ?_;have HK:=Ab hK;have HR:=Ab AW;clear hK hg AW;go_simp;go_at_call 42;refine(Mo y k0 ah ak ch ck X).mono ?_;rintro r Z2 ⟨rfl,Nt⟩;have h:=HK (.i (ET y k0)) Z2 p' A9 Za ⟨_,rfl⟩ (Aj Nt) (HR.below Nt);exact LN
  .obtain⟨i,kq⟩:=hg 6 (AR rfl);by_cases Fq:i=0;.subst Fq;have h:=hK (.bool true) X p' A9 Za ⟨_,rfl⟩ (AB.refl _ _) AW;exact cP
   .have FV:(i==0)=false:=by simpa using Fq
    have h:=hK (.bool false) X p' A9 Za ⟨_,rfl⟩ (AB.refl _ _) AW;refine Au rfl rfl ?_;clear hK hg;go_simp;simpa[AX,kq,FV,Fq]using h
 .intro t X pz hf h1 h2 AW hg;obtain⟨b,Y8⟩:=hg 7 Za;exact hQ t b pz X Y8 hf h1 Za AW
end Go.Proofs.YtdknjmgdgnmhjaaGreat
