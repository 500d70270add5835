import Derived.Test.YtnnjcenacidceaaPk41
set_option maxRecDepth 100000
set_option maxHeartbeats 4000000
namespace Go.Proofs.Ytnnjcenacidceaa
open Go.RowKit Go.Proofs.Try
def RM (n Kk m:Nat)(Pw:Nat->Prop)(mk:(Nat->Value)->Array Value)(W:World)(R:Nat)(ad:OA)(nn cap p:Nat)(G:Nat->Value->World->Prop)(Fin:Act->World->Prop)(ops:Array Oper)(l:Array Bool)(a:Act)(X:World):Prop:=(l.size=n+1/\∀i j,l.getD i false=true->BE ops i j->l.getD j false=true)/\((l.getD n false=true->(∀i,i<n->l.getD i false=true)/\Fin a X)/\(l.getD n false=false->∃t:Nat->Value,a=⟨mk t,[]⟩/\Az Pw W X/\(l.getD m false=false->Az (λq=>q=R) W X)/\(∃p',p<=p'/\p'<=p+Kk*l.toList.count true/\Rd X R ad nn cap p')/\∀i,i<n->l.getD i false=true->G i (t i) X))
theorem NK{P:Program}{id:Nat}{ops:Array Oper}{Q:Exit->Act->World->Prop}{a0:Act}{W:World}(hm:P.follows .mixedOrders=true)(n Kk m:Nat)(par pm:Nat->Nat)(fl:Nat->Bool)(Pw:Nat->Prop)(mk:(Nat->Value)->Array Value)(t0:Nat->Value)(R:Nat)(ad:OA)(nn cap p:Nat)(G:Nat->Value->World->Prop)(Fin:Act->World->Prop)(hn:ops.size=n+1)(hord:((List.range ops.size).all λi=>match ops[i]? with|some o=>o.after.all (λe=>!(Region.binds .any e)||decide (e.on<i))|none=>true)=true)(hlast:((List.range n).all λj=>decide (j<par j/\par j<=n)&&match ops[par j]? with|some o=>o.after.any (λe=>Region.binds .any e&&e.on==j)|none=>false)=true)(hfl:((List.range n).all λj=>!(fl j)||(decide (j<pm j/\pm j<=m/\(pm j=m\/fl (pm j)=true))&&match ops[pm j]? with|some o=>o.after.any (λe=>Region.binds .any e&&e.on==j)|none=>false))=true)(st2:∀i v X Y p',i<n->¬i=m->G i v X->Az Pw X Y->Rd X R ad nn cap p'->R<W.1.size->W.1.size<=X.1.size->G i v Y)(st:∀i v X Y p',i<n->G i v X->Az (λq=>q=R) X Y->Rd X R ad nn cap p'->R<W.1.size->W.1.size<=X.1.size->G i v Y)(hPw:Pw R)(h0:a0=⟨mk t0,[]⟩)(hr:Rd W R ad nn cap p)(sg:∀i,i<n->¬i=m->∀(t:Nat->Value) X K p',Az Pw W X->(fl i=true->Az (λq=>q=R) W X)->p<=p'->p'<=p+Kk*n->Rd X R ad nn cap p'->(∀j,BE ops i j->G j (t j) X)->(∀v Y p2,p'<=p2->p2<=p'+Kk->G i v Y->Az (λq=>q=R) X Y->Rd Y R ad nn cap p2->K ⟨mk (Av t i v),[]⟩ Y)->wpOp P ops Q i K ⟨mk t,[]⟩ X)(sm:m<n->∀(t:Nat->Value) X K p',Az (λq=>q=R) W X->p<=p'->p'<=p+Kk*n->Rd X R ad nn cap p'->(∀j,BE ops m j->G j (t j) X)->(∀v Y p2,p'<=p2->p2<=p'+Kk->G m v Y->Az Pw X Y->Rd Y R ad nn cap p2->K ⟨mk (Av t m v),[]⟩ Y)->wpOp P ops Q m K ⟨mk t,[]⟩ X)(sl:∀(t:Nat->Value) X K p',Az Pw W X->p<=p'->p'<=p+Kk*n->Rd X R ad nn cap p'->(∀j,j<n->G j (t j) X)->(∀a Y,Fin a Y->K a Y)->wpOp P ops Q n K ⟨mk t,[]⟩ X)(hfin:∀a X,Fin a X->Q .normal a X):(Code.region id ops true).wp P Q a0 W:=by
 have hdep:∀i j,i<n+1->BE ops i j->j<n:=by
  rintro i j hi ⟨o,ho,e,he,hb,rfl⟩;have h1:=AZ.1 hord i (Bd.2 Za);rw[ho]at h1;have h2:=AU.1 h1 e he;rw[hb]at h2;have:e.on<i:=by simpa using h2
  omega
 refine Cs hm (RM n Kk m Pw mk W R ad nn cap p G Fin ops) ?_ ?_ ?_ ?_
 .have hz:∀i,(Array.replicate ops.size false).getD i false=false:=λi=>by simp[Array.getD]
  refine⟨⟨by simp[hn],λi j h=>by rw[hz]at h;cases h⟩,λh=>?_,λ_=>⟨t0,h0,Aq (Ao _ _).drew,λ_=>Aq (Ao _ _).drew,⟨p,AD _,Za,hr.below (Ao _ _).drew⟩,λi _ h=>?_⟩⟩<;>(rw[hz]at h;cases h)
 .rintro l a X ⟨⟨hs,_⟩,_⟩;rw[hs,hn]
 .rintro l a X ⟨⟨hs,_⟩,h6,_⟩ hr;have AL:=Mj hord (by rw[hs,hn]) hr;exact hfin a X (h6 (AL n Za)).2
 .rintro l a X i ⟨⟨hs,hcl⟩,h6,hg⟩ hr';obtain⟨hu,o,ho,hall⟩:=mem_ready.1 hr';have di:∀j,BE ops i j->l.getD j false=true:=by
   rintro j ⟨o',ho',e,he,hb,rfl⟩;rw[ho]at ho';obtain rfl:o=o':=by simpa using ho'
   exact hall e he hb
  have hi7:i<n+1:=by
   rcases Au i (n+1)with h|h;.exact h
   .rw[A9 Za]at ho;cases ho
  have hui:l.getD i false=false:=by have:l.getD i true=false:=hu;simpa[Array.getD,hs,hi7]using this
  have kp:∀j,¬j=i->(l.setIfInBounds i true).getD j false=l.getD j false:=λj hj=>by rw[BT Za,if_neg hj]
  have ki:(l.setIfInBounds i true).getD i false=true:=by rw[BT Za,if_pos rfl]
  have hs':(l.setIfInBounds i true).size=n+1:=by simp[hs]
  have ku:∀j,l.getD j false=true->(l.setIfInBounds i true).getD j false=true:=λj h=>by
   by_cases e:j=i;.subst e;exact ki
   .rw[kp j e];exact h
  have cl':∀a b,(l.setIfInBounds i true).getD a false=true->BE ops a b->(l.setIfInBounds i true).getD b false=true:=λa b ha hw=>by
   by_cases e:a=i;.subst e;exact ku b (di b hw)
   .rw[kp a e]at ha;exact ku b (hcl a b ha hw)
  have l6:l.getD n false=false:=by cases h:l.getD n false with
   |false=>rfl
   |true=>
    rcases Au i n with h1|h1;.rw[(h6 h).1 i h1]at hui;cases hui
    .obtain rfl:i=n:=Za;rw[h]at hui;cases hui
  obtain⟨t,rfl,hb,hst,⟨p',q1,q2,hrd⟩,gg⟩:=hg l6;have hc:=NN Za hui;have hc2:(l.setIfInBounds i true).toList.count true<=n+1:=by have:=LF (a:=true) (l:=(l.setIfInBounds i true).toList);simpa[hs]using this
  have hcn:Kk*l.toList.count true<=Kk*n:=N6 _ Za;have hck:Kk*(l.setIfInBounds i true).toList.count true=Kk*l.toList.count true+Kk:=by rw[hc,Nat.mul_add,My]
  by_cases hin:i=n
  .subst hin;have pa:∀j,j<i->j<par j/\par j<=i/\BE ops (par j) j:=λj hj=>by have h1:=AZ.1 hlast j (Bd.2 hj);rw[Al,decide_eq_true_eq]at h1;refine⟨h1.1.1,h1.1.2,?_⟩;have h3:=h1.2;cases hp:ops[par j]? with
    |none=>rw[hp]at h3;cases h3
    |some o2=>rw[hp]at h3;obtain⟨k,hk,h2⟩:=EY.1 h3;simp only[Al,beq_iff_eq]at h2;exact⟨o2,hp,o2.after[k],EZ hk,h2.1,h2.2⟩
   have al:∀d j,j<i->i-j<=d->l.getD j false=true:=λd=>by induction d with
    |zero=>intro j hj h;omega
    |succ d ih=>
     intro j hj h;obtain⟨h1,h2,h3⟩:=pa j hj;by_cases e:par j=i;.rw[e]at h3;exact di j h3
     .exact hcl _ _ (ih (par j) Za Za) h3
   clear hr' hu ho h6 hg;refine sl t X _ p' hb q1 Za hrd (λj hj=>gg j hj (al _ j hj uK)) (λa Y hY=>⟨⟨hs',cl'⟩,λ_=>⟨λj hj=>?_,hY⟩,λh=>?_⟩);.exact ku j (al _ j hj uK)
   .rw[ki]at h;cases h
  .have hno:(l.setIfInBounds i true).getD n false=false:=by rw[kp n (λe=>hin e.symm)];exact l6
   by_cases him:i=m
   .subst him;have hs0:=hst hui;clear hr' hu ho h6 hg;refine sm Za t X _ p' hs0 q1 Za hrd (λj hj=>gg j (hdep i j hi7 hj) (di j hj)) (λv Y p2 r1 r2 hv hY hrY=>⟨⟨hs',cl'⟩,λh=>?_,λ_=>⟨Av t i v,rfl,hb.trans hY,λh=>?_,⟨p2,Za,Za,hrY⟩,λj j1 h=>?_⟩⟩);.rw[hno]at h;cases h
    .rw[ki]at h;cases h
    .by_cases e:j=i;.subst e;rw[Bp];exact hv
     .rw[kp j e]at h;rw[BB e];exact st2 _ _ _ _ _ j1 e (gg j j1 h) hY hrd hr.lt hb.size
   .have hfs:fl i=true->Az (λq=>q=R) W X:=λhf=>hst (by cases hlm:l.getD m false with
     |false=>rfl
     |true=>
      exfalso;have up:∀d j,m-j<=d->j<n->fl j=true->l.getD j false=true:=λd=>by induction d with
       |zero=>intro j h1 h2 h3;have g1:=AZ.1 hfl j (Bd.2 h2);rw[h3]at g1;simp only[Bool.not_true,Bool.false_or,Al,decide_eq_true_eq]at g1;omega
       |succ d ih=>
        intro j h1 h2 h3;have g1:=AZ.1 hfl j (Bd.2 h2);rw[h3]at g1;simp only[Bool.not_true,Bool.false_or,Al,decide_eq_true_eq]at g1;have g2:BE ops (pm j) j:=by have h4:=g1.2;cases hp:ops[pm j]? with
         |none=>rw[hp]at h4;cases h4
         |some o2=>rw[hp]at h4;obtain⟨k,hk,h5⟩:=EY.1 h4;simp only[Al,beq_iff_eq]at h5;exact⟨o2,hp,o2.after[k],EZ hk,h5.1,h5.2⟩
        rcases g1.1.2.2 with e|e;.rw[e]at g2;exact hcl _ _ hlm g2
        .have hpn:pm j<n:=by
          rcases Au (pm j) n with h6|h6;.exact h6
          .have:=g1.1.2.1;by_cases hmn:m<n;.omega
           .have hz:l.getD m false=false:=by
             rcases Au m (n+1)with h7|h7;.have:m=n:=Za;rw[this];exact l6
             .simp[Array.getD,hs,show¬m<n+1 by omega]
            rw[hz]at hlm;cases hlm
         exact hcl _ _ (ih (pm j) Za hpn e) g2
      have:=up _ i uK Za hf;rw[this]at hui;cases hui);clear hr' hu ho h6 hg;refine sg i Za him t X _ p' hb hfs q1 Za hrd (λj hj=>gg j (hdep i j hi7 hj) (di j hj)) (λv Y p2 r1 r2 hv hY hrY=>⟨⟨hs',cl'⟩,λh=>?_,λ_=>⟨Av t i v,rfl,hb.trans (hY.mono (λq e=>e▸hPw)),λh=>?_,⟨p2,Za,Za,hrY⟩,λj j1 h=>?_⟩⟩);.rw[hno]at h;cases h
    .rw[kp m (λe=>him e.symm)]at h;exact(hst h).trans hY
    .by_cases e:j=i;.subst e;rw[Bp];exact hv
     .rw[kp j e]at h;rw[BB e];exact st _ _ _ _ _ j1 (gg j j1 h) hY hrd hr.lt hb.size
def tv (k:Ti):List Value:=(ax k)
theorem eX (k:Ti)(j:Nat)(h:j<5):(AR (tv k) j).oneCell'=true:=by rcases(show j=0\/j=1\/j=2\/j=3\/j=4 by omega)with rfl|rfl|rfl|rfl|rfl<;>rfl
theorem eB (y:Ob)(ah:OA)(ch:Nat)(j:Nat)(h:j<7):(AR (oc y ah ch) j).oneCell'=true:=by rcases(show j=0\/j=1\/j=2\/j=3\/j=4\/j=5\/j=6 by omega)with rfl|rfl|rfl|rfl|rfl|rfl|rfl<;>rfl
theorem Rd.app{X Y:World}{R gA d:Nat}{ad:OA}{n cap p:Nat}(hX:Rd X R ad n cap p)(hf:Az (λq=>0<d/\q=gA) X Y)(hne:¬gA=R)(hb:∀b off,ad=some ⟨b,off,none⟩->¬b=gA):Rd Y R ad n cap p:=by have nR:¬(0<d/\R=gA):=λe=>hne e.2.symm;refine⟨(hf.cell (p:=⟨R,0,none⟩) hX.lt nR).trans hX.c0,(hf.cell (p:=⟨R,1,none⟩) hX.lt nR).trans hX.c1,(hf.frozen (p:=⟨R,1,none⟩) hX.lt nR).trans hX.f1,Ac hX.lt hf.size,hX.n2,λi hi=>?_,λj s h=>hX.ns j s ((hf.cell (p:=⟨R,j,none⟩) hX.lt nR).symm.trans h)⟩;obtain⟨b,off,v,e1,e2,e3,e4,e5⟩:=hX.bt i hi;exact⟨b,off,v,e1,Ac e2 hf.size,e3,(hf.cell (p:=⟨b,off+i,none⟩) e2 (λe=>hb b off e1 e.2)).trans e4,e5⟩
structure wO (W:World)(R T:Nat)(ad:OA)(x:Bk)(gA:Nat)(a3:OA)(d3:Nat):Prop where
 rw:Rw W a3 gA x.tn d3 5 (K5 x.ts)ne:¬gA=R
 nT:¬(T=R\/(0<d3/\T=gA))bt:∀b off,ad=some ⟨b,off,none⟩->¬b=gA
 tn:x.tn<=50
 lt:0<d3->gA<W.1.size
structure yN (W:World)(R T:Nat)(ad:OA)(g1:Nat)(y:Ob)(gA:Nat)(ah:OA)(ch:Nat):Prop where
 rw:Rw W ah gA y.hn ch 1 (λj=>.s (y.hs j))ne:¬gA=R
 nT:¬(T=R\/(0<ch/\T=gA))n1:¬(g1=R\/(0<ch/\g1=gA))bt:∀b off,ad=some ⟨b,off,none⟩->¬b=gA
 hn:y.hn<=5
 lt:0<ch->gA<W.1.size
structure wR (W:World)(R T:Nat)(ad:OA)(x:Bk)(g1 d1:Nat)(cA:Nat->Value):Prop where
 rw:Rw W (some ⟨g1,0,none⟩) g1 x.on d1 7 cA
 one:∀j,j<x.on*7->(cA j).oneCell'=true
 nT:¬(T=R\/(0<d1/\T=g1))bt:∀b off,ad=some ⟨b,off,none⟩->¬b=g1
 on:x.on<=100
def fH (R:Nat)(T:Nat)(x:Bk)(_g1 _g2:Nat)(a3:OA)(_d1 _d2 d3 _o _h:Nat)(_y:Ob)(_z:Ch)(_ah _bh:OA)(_ch _eh:Nat)(gA:Nat)(W:World)(i:Nat)(v:Value)(X:World):Prop:=match i with
 |0=>v=.p T 4
 |1=>v=.l a3 x.tn d3
 |2=>∃g:Nat,v=.l (some ⟨g,0,none⟩) 3 3/\W.1.size<=g/\g<X.1.size/\∀k,k<3->∃s:ByteArray,X.cell? ⟨g,k,none⟩=some (.s s)/\s.size<=1000
 |3=>v=.p R 0
 |4=>∃k:Nat,k<3/\v=.i k
 |5=>∃(g k:Nat)(s:ByteArray),v=.pointer (some ⟨g,k,none⟩)/\(W.1.size<=g/\g<X.1.size)/\X.cell? ⟨g,k,none⟩=some (.s s)/\True/\s.size<=1000
 |6=>∃s:ByteArray,v=.s s/\s.size<=1000
 |7=>∃k:Ti,v=.agg (vT k)/\k.client.size<=1000/\k.print.size<=1000
 |8=>∃(g:Nat)(k:Ti),v=.l (some ⟨g,0,none⟩) 1 1/\W.1.size<=g/\g<X.1.size/\(∀f,f<5->X.cell? ⟨g,f,none⟩=some (AR (tv k) f))/\k.client.size<=1000/\k.print.size<=1000
 |9=>∃(k:Ti)(ad':OA)(cap' g':Nat),v=.l ad' (x.tn+1) cap'/\Rw X ad' g' (x.tn+1) cap' 5 (BO (K5 x.ts) (x.tn*5) (AR (tv k)))/\((0<d3/\g'=gA)\/W.1.size<=g')/\k.client.size<=1000/\k.print.size<=1000
 |10=>v=.p T 4
 |_=>True
theorem TX{P:Prop}(h:P:=by refine Ag rfl rfl ?_;clear hK hg;go_simp;simpa[Av]using h):P:=h
theorem lY{p1 p2 p3 p4 p8 p9 DX DK DV DF C9 CV CU C6 C8 CZ Df C7 C4 CY Dw Di Dj Dg Dh Dy Dx DC DB DA Dz DH Ek Eu EE Ej Em Er Eo En Ei Eh Ds DU DW DI DG D7 D4 D3 D8 D1 D0 D2 D5 DY EA Ey Ew Ex Ez El Ep DM Fk Fg Fo Fm Fp Fl Fq Ff Fj GR GU GT Fi Fh FK FA FM GZ KR KF KD KC KG KE GS GV G4 G7 G3 G5 G6 KH Cp Cu Cn Ci Cj Cg Ck Cm Co CF CJ CI CE Cy CB Cz CA CD CG CQ CS CR DT DP DN Dm Du Dp Ed Dr Dq Do Dt DQ DJ De Db Dc DO DL DR DS Dl EH ER EU EW ES EV ET EL EM EK EJ EN EP Fa Fb FO Gd Fx FU Gc FP Fy FN Gf FE Gb F8 FH FV Fz E9 Fc FR FT Ge FL FI FJ Ga FW FY FC FX FQ Kv Jj IR JX GH Gh JY IY Kj Hk Jc Jk IP Km Ko I6 Kd Jw Gz Gu I3 J2 Hm ID IW Ik JK Ju Ki Il Ha Hn Gi GC JD I1 Ka H9 Jp Hw Ji I5 Jh Is JN J3 Ii JT JR IU Hp JZ GD GF Jv G9 Jl IQ IM Kq JI J4 Jb Ht GN GJ Hx J7 IE Hu J6 J0 Im Jq Hr Kc If Gw GA Jo JM Hy Hg IC J8 Hq Ke IH J1 Jr Kr Gn Gr Je IS IN Ib Hb Iv Kn Hi JU Ku Ja Ho GK Gv Kg I0 Kw I7 Iy Iq Hh I4 IZ H7 Hz Ij Hd IX He JS Js JG Kh IV Gp Gl Jt H8 Jz IT IK I2 Ks Ie JO Iw JL Gm Gy Gs GL Gk GI Gt Gj GB GE IF Jd Iz H5 Jg Hc Kf Ir JP JW Hl Iu Jm Ic JC Kl Hj H6 Ip II Ih IA I8 Jf JE Kt IG I9 It Gq GG In IL JQ J9 Ig IJ Hv Io JV J5 Gx:Value}{mk:(Nat->Value)->Array Value}(t0:Nat->Value)(R:Nat)(ad:OA)(nn cap p:Nat)(T:Nat)(x:Bk)(g1 g2:Nat)(a3:OA)(d1 d2 d3 o h:Nat)(y:Ob)(z:Ch)(ah bh:OA)(ch eh:Nat)(gA:Nat)(W:World)(hr:Rd W R ad nn cap p)(hp:p<=600000)(H:Sg W R T x g1 g2 a3 d1 d2 d3 o h y z ah bh ch eh)(HA:wO W R T ad x gA a3 d3)(hmk:mk=λt=>#[.p R 0,p1,p2,p3,p4,.p T 0,.i (o:Nat),.i (h:Nat),p8,p9,DX,DK,DV,DF,C9,CV,CU,C6,C8,CZ,Df,C7,C4,CY,Dw,Di,Dj,Dg,Dh,Dy,Dx,DC,DB,DA,Dz,DH,Ek,Eu,EE,Ej,Em,Er,Eo,En,Ei,Eh,Ds,DU,DW,DI,DG,D7,D4,D3,D8,D1,D0,D2,D5,DY,EA,Ey,Ew,Ex,Ez,El,Ep,DM,Fk,Fg,Fo,Fm,Fp,Fl,Fq,Ff,Fj,GR,GU,GT,Fi,Fh,FK,FA,FM,GZ,KR,KF,KD,KC,KG,KE,GS,GV,G4,G7,G3,G5,G6,KH,Cp,Cu,Cn,Ci,Cj,Cg,Ck,Cm,Co,CF,CJ,CI,CE,Cy,CB,Cz,CA,CD,CG,CQ,CS,CR,DT,DP,DN,Dm,Du,Dp,Ed,Dr,Dq,Do,Dt,DQ,DJ,De,Db,Dc,DO,DL,DR,DS,Dl,EH,ER,EU,EW,ES,EV,ET,EL,EM,EK,EJ,EN,EP,Fa,Fb,FO,Gd,Fx,FU,Gc,FP,Fy,FN,Gf,FE,Gb,F8,FH,FV,Fz,E9,Fc,FR,FT,Ge,FL,FI,FJ,Ga,FW,FY,FC,FX,FQ,Kv,Jj,IR,JX,GH,Gh,JY,IY,Kj,Hk,Jc,Jk,IP,Km,Ko,I6,Kd,Jw,Gz,Gu,I3,J2,Hm,ID,IW,Ik,JK,Ju,Ki,Il,Ha,Hn,Gi,GC,JD,I1,Ka,H9,Jp,Hw,Ji,I5,Jh,Is,JN,J3,Ii,JT,JR,IU,Hp,JZ,GD,GF,Jv,G9,Jl,IQ,IM,Kq,JI,J4,Jb,Ht,GN,GJ,Hx,J7,IE,Hu,J6,J0,Im,Jq,Hr,Kc,If,Gw,GA,Jo,JM,Hy,Hg,IC,J8,Hq,Ke,IH,J1,Jr,Kr,Gn,Gr,Je,IS,IN,Ib,Hb,Iv,Kn,Hi,JU,Ku,Ja,Ho,GK,Gv,Kg,I0,Kw,I7,Iy,Iq,Hh,I4,IZ,H7,Hz,Ij,Hd,IX,He,JS,Js,JG,Kh,IV,Gp,Gl,Jt,H8,Jz,IT,IK,I2,Ks,Ie,JO,Iw,JL,Gm,Gy,Gs,GL,Gk,GI,Gt,Gj,t 0,t 1,t 2,t 3,t 4,t 5,t 6,t 7,t 8,t 9,t 10,GB,GE,IF,Jd,Iz,H5,Jg,Hc,Kf,Ir,JP,JW,Hl,Iu,Jm,Ic,JC,Kl,Hj,H6,Ip,II,Ih,IA,I8,Jf,JE,Kt,IG,I9,It,Gq,GG,In,IL,JQ,J9,Ig,IJ,Hv,Io,JV,J5,Gx])(Q:Exit->Act->World->Prop)(hQ:∀(t:Nat->Value)(k:Ti)(ad':OA)(cap' g' pz:Nat)(X0:World),(Rw X0 ad' g' (x.tn+1) cap' 5 (BO (K5 x.ts) (x.tn*5) (AR (tv k)))/\((0<d3/\g'=gA)\/W.1.size<=g')/\k.client.size<=1000/\k.print.size<=1000)->Az (λq=>q=R\/(0<d3/\q=gA)) W X0->p<=pz->pz<=p+11->Rd X0 R ad nn cap pz->Q .normal ⟨mk t,[]⟩ (X0.setCell ⟨T,4,none⟩ (.l ad' (x.tn+1) cap'))):Code.wp prog (rg Try.f44 56) Q ⟨mk t0,[]⟩ W:=by
 have hRW:=hr.lt;have hPl:∀q,(λq=>q=R\/(0<d3/\q=gA)) q->q<W.1.size:=λq e=>by
  rcases e with e|e;.omega
  .have:=HA.lt e.1;omega
 refine NK Ze 11 1 9 (λj=>match j with|_=>11) (λ_=>0) (λ_=>false) (λq=>q=R\/(0<d3/\q=gA)) mk t0 R ad nn cap p (fH R T x g1 g2 a3 d1 d2 d3 o h y z ah bh ch eh gA W) (λa X=>∃(t:Nat->Value)(k:Ti)(ad':OA)(cap' g' pz:Nat)(X0:World),a=⟨mk t,[]⟩/\X=(X0.setCell ⟨T,4,none⟩ (.l ad' (x.tn+1) cap'))/\(Rw X0 ad' g' (x.tn+1) cap' 5 (BO (K5 x.ts) (x.tn*5) (AR (tv k)))/\((0<d3/\g'=gA)\/W.1.size<=g')/\k.client.size<=1000/\k.print.size<=1000)/\Az (λq=>q=R\/(0<d3/\q=gA)) W X0/\p<=pz/\pz<=p+11/\Rd X0 R ad nn cap pz) Ze Ze Ze Ze ?_ ?_ (AA rfl) rfl hr ?_ ?_ ?_ ?_;all_goals subst hmk
 .intro i v X Z p' hi him h hF hRd hR hX;rcases(show i=0\/i=1\/i=2\/i=3\/i=4\/i=5\/i=6\/i=7\/i=8\/i=9\/i=10 by omega)with rfl|rfl|rfl|rfl|rfl|rfl|rfl|rfl|rfl|rfl|rfl;.exact h
  .exact h
  .obtain⟨g,e,y1,y2,y3⟩:=h;exact⟨g,e,y1,Ac y2 hF.size,λk hk=>by obtain⟨i,y4,y5⟩:=y3 k hk;exact⟨i,(hF.cell (p:=⟨g,k,none⟩) y2 (λq=>by have:=hPl g q;omega)).trans y4,y5⟩⟩
  .exact h
  .exact h
  .obtain⟨g,k,s,e,y1,y2,y3,y4⟩:=h;exact⟨g,k,s,e,⟨y1.1,Ac y1.2 hF.size⟩,(hF.cell (p:=⟨g,k,none⟩) y1.2 (λq=>by have:=hPl g q;omega)).trans y2,y3,y4⟩
  .exact h
  .exact h
  .obtain⟨g,k,e,y1,y2,y3,y4⟩:=h;exact⟨g,k,e,y1,Ac y2 hF.size,λf hf=>(hF.cell (p:=⟨g,f,none⟩) y2 (λq=>by have:=hPl g q;omega)).trans (y3 f hf),y4⟩
  .exact absurd rfl him
  .exact h
 .intro i v X Z p' hi h hF hRd hR hX;rcases(show i=0\/i=1\/i=2\/i=3\/i=4\/i=5\/i=6\/i=7\/i=8\/i=9\/i=10 by omega)with rfl|rfl|rfl|rfl|rfl|rfl|rfl|rfl|rfl|rfl|rfl;.exact h
  .exact h
  .obtain⟨g,e,y1,y2,y3⟩:=h;exact⟨g,e,y1,Ac y2 hF.size,λk hk=>by obtain⟨i,y4,y5⟩:=y3 k hk;exact⟨i,(hF.cell (p:=⟨g,k,none⟩) y2 (λq=>by have q:g=R:=q;omega)).trans y4,y5⟩⟩
  .exact h
  .exact h
  .obtain⟨g,k,s,e,y1,y2,y3,y4⟩:=h;exact⟨g,k,s,e,⟨y1.1,Ac y1.2 hF.size⟩,(hF.cell (p:=⟨g,k,none⟩) y1.2 (λq=>by have q:g=R:=q;omega)).trans y2,y3,y4⟩
  .exact h
  .exact h
  .obtain⟨g,k,e,y1,y2,y3,y4⟩:=h;exact⟨g,k,e,y1,Ac y2 hF.size,λf hf=>(hF.cell (p:=⟨g,f,none⟩) y2 (λq=>by have q:g=R:=q;omega)).trans (y3 f hf),y4⟩
  .obtain⟨k,ad',cap',g',e,y1,y2,y3⟩:=h;exact⟨k,ad',cap',g',e,y1.fr hF (λh0 q=>by have q:g'=R:=q;rcases y2 with y2|y2;exact HA.ne (y2.2▸q);omega),y2,y3⟩
  .exact h
 .intro i hi him t X K p' hb hfs hp1 hp2 hrd hg hK;rcases(show i=0\/i=1\/i=2\/i=3\/i=4\/i=5\/i=6\/i=7\/i=8\/i=9\/i=10 by omega)with rfl|rfl|rfl|rfl|rfl|rfl|rfl|rfl|rfl|rfl|rfl;.have h:=hK (.p T 4) X p' uK Za rfl (Az.refl _ _) hrd;exact TX
  .have eq0:t 0=.p T 4:=hg 0 (AQ rfl);have q:=(hb.cell (p:=⟨T,4,none⟩) H.lt HA.nT).trans (H.row.cell 4 Zb);simp only[AR,Aa,Ab]at q;have h:=hK (.l a3 x.tn d3) X p' uK Za rfl (Az.refl _ _) hrd;refine Ag rfl rfl ?_;clear hK hg;go_simp;simpa[Av,eq0]using h
  .have h:=hK (.l (some ⟨X.1.size,0,none⟩) 3 3) (X.alloc (.cells #[.s ⟨#[122,111,101]⟩,.s ⟨#[]⟩,.s ⟨#[97]⟩] 9)) p' uK Za ⟨X.1.size,rfl,hb.size,Zc,λk hk=>by rw[Ak X #[.s ⟨#[122,111,101]⟩,.s ⟨#[]⟩,.s ⟨#[97]⟩] 9 k];rcases(show k=0\/k=1\/k=2 by omega)with rfl|rfl|rfl;all_goals exact⟨_,rfl,Zb⟩⟩ (Aq AG) (hrd.below AG);exact TX
  .have h:=hK (.p R 0) X p' uK Za rfl (Az.refl _ _) hrd;exact TX
  .have eq3:t 3=.p R 0:=hg 3 (AQ rfl);refine Ag rfl rfl ?_;have HK:=Ah hK;have HR:=Ah hrd;clear hK hg hrd;go_simp;go_at_call 12;refine(A7 R ad nn cap p' 3 X HR Za Zb Zb).mono ?_;rintro r Z ⟨k,rfl,_,hv,hf,hr2⟩;have h:=HK (.i k) Z (p'+1) Za uK ⟨k,by have:=hv Zb;omega,rfl⟩ hf hr2;simpa[Av,eq3]using h
  .obtain⟨g,eq2,y1,y2,y3⟩:∃g:Nat,t 2=.l (some ⟨g,0,none⟩) 3 3/\W.1.size<=g/\g<X.1.size/\∀k,k<3->∃s:ByteArray,X.cell? ⟨g,k,none⟩=some (.s s)/\s.size<=1000:=hg 2 (AQ rfl);obtain⟨k,hk,eq4⟩:∃k:Nat,k<3/\t 4=.i k:=hg 4 (AQ rfl);obtain⟨s,y4,y5⟩:=y3 k hk;have h:=hK (.pointer (some ⟨g,k,none⟩)) X p' uK Za ⟨g,k,s,rfl,⟨y1,y2⟩,y4,trivial,y5⟩ (Az.refl _ _) hrd;refine Ag rfl rfl ?_;clear hK hg;go_simp;rw[if_pos Za,AI];go_simp;simpa[Av,eq2,eq4]using h
  .obtain⟨g,k,s,eq5,y1,y2,y3,y4⟩:∃(g k:Nat)(s:ByteArray),t 5=.pointer (some ⟨g,k,none⟩)/\(W.1.size<=g/\g<X.1.size)/\X.cell? ⟨g,k,none⟩=some (.s s)/\True/\s.size<=1000:=hg 5 (AQ rfl);have h:=hK (.s s) X p' uK Za ⟨s,rfl,y4⟩ (Az.refl _ _) hrd;refine Ag rfl rfl ?_;clear hK hg;go_simp;simpa[Av,eq5]using h
  .obtain⟨s6,eq6,z6⟩:∃s:ByteArray,t 6=.s s/\s.size<=1000:=hg 6 (AQ rfl);have h:=hK (.agg #[.s s6,.i (1),.s ⟨#[49,50,51,52,53,54,55,56]⟩,.i 0,.i 0]) X p' uK Za ⟨⟨s6,(1),⟨#[49,50,51,52,53,54,55,56]⟩,0,0⟩,rfl,z6,(by show(⟨#[49,50,51,52,53,54,55,56]⟩:ByteArray).size<=1000;decide)⟩ (Az.refl _ _) hrd;refine Ag rfl rfl ?_;clear hK hg;go_simp;simpa[Av,eq6]using h
  .obtain⟨k,eq7,z1,z2⟩:∃k:Ti,t 7=.agg (vT k)/\k.client.size<=1000/\k.print.size<=1000:=hg 7 (AQ rfl);have h:=hK (.l (some ⟨X.1.size,0,none⟩) 1 1) (X.alloc (.cells (vT k) 89)) p' uK Za ⟨X.1.size,k,rfl,hb.size,Zc,λf hf=>(AN.new (w:=X) (l:=tv k) (t:=89) EF).cell f hf,z1,z2⟩ (Aq AG) (hrd.below AG);refine Ag rfl rfl ?_;clear hK hg;go_simp;simpa[Av,eq7]using h
  .exact absurd rfl him
  .have h:=hK (.p T 4) X p' uK Za rfl (Az.refl _ _) hrd;exact TX
 .intro hmn t X K p' hb hp1 hp2 hrd hg hK;obtain⟨g,k,eq8,y1,y2,y3,y4⟩:∃(g:Nat)(k:Ti),t 8=.l (some ⟨g,0,none⟩) 1 1/\W.1.size<=g/\g<X.1.size/\(∀f,f<5->X.cell? ⟨g,f,none⟩=some (AR (tv k) f))/\k.client.size<=1000/\k.print.size<=1000:=hg 8 (AQ rfl);have eq1:t 1=.l a3 x.tn d3:=hg 1 (AQ rfl);have RW:=HA.rw.fr hb (λh0=>HA.ne);obtain⟨ad',cap',g',Y,hrun,hrw,hfY,hg'⟩:=LA (P:=prog) X 25 25 89 5 56 _ underlying25 LC Za Ze a3 gA x.tn d3 (K5 x.ts) RW (λj _=>L2 _ _) g (g+1) (some ⟨g,0,none⟩) 1 1 (AR (tv k)) ⟨λj hj=>⟨g,0,rfl,AD _,By _,by rw[A6];exact y3 j hj⟩,λj hj=>eX k j hj⟩ Za (by have:=HA.tn;omega) (by have:=HA.tn;omega);have hfA:Az (λq=>q=R\/(0<d3/\q=gA)) X Y:=hfY.mono (λq e=>AC e);have h:=hK (.l ad' (x.tn+1) cap') Y p' uK Za ⟨k,ad',cap',g',rfl,hrw,hg'.imp id (AT hb.size),y4.1,y4.2⟩ hfA (hrd.app hfY HA.ne HA.bt);refine Ag rfl rfl ?_;clear hK hg;refine EQ (.tmp 336) (.tmp 343) 25 25 rfl _ _ _ _ (by simpa[Act.eval,go_sem]using eq1) (by simpa[Act.eval,go_sem]using eq8) hrun ?_;simpa[Av,Act.put]using h
 .intro t X K p' hb hp1 hp2 hrd hg hK;have eq10:t 10=.p T 4:=hg 10 Za;obtain⟨k,ad',cap',g',eqm,hrw,hg',z1,z2⟩:∃(k:Ti)(ad':OA)(cap' g':Nat),t 9=.l ad' (x.tn+1) cap'/\Rw X ad' g' (x.tn+1) cap' 5 (BO (K5 x.ts) (x.tn*5) (AR (tv k)))/\((0<d3/\g'=gA)\/W.1.size<=g')/\k.client.size<=1000/\k.print.size<=1000:=hg 9 Za;have q:=(hb.cell (p:=⟨T,4,none⟩) H.lt HA.nT).trans (H.row.cell 4 Zb);have q2:=(hb.frozen (p:=⟨T,4,none⟩) H.lt HA.nT).trans (H.row.free _);simp only[AR,Aa,Ab]at q;have h:=hK _ _ ⟨t,k,ad',cap',g',p',X,rfl,rfl,⟨hrw,hg',z1,z2⟩,hb,hp1,Za,hrd⟩;have HK:=Ah h;clear hK hg h;refine Ag rfl rfl ?_;go_simp;simpa[eq10,eqm]using HK.out
 .rintro a X ⟨t,k,ad',cap',g',pz,X0,rfl,rfl,z2,z3,z4,z5,z6⟩;exact hQ t k ad' cap' g' pz X0 z2 z3 z4 z5 z6
end Go.Proofs.Ytnnjcenacidceaa
