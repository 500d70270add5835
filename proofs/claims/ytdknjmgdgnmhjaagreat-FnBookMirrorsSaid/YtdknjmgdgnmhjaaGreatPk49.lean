import Derived.Test.YtdknjmgdgnmhjaaGreatPk48
import Derived.Test.YtdknjmgdgnmhjaaGreatPk35
set_option maxRecDepth 100000
set_option maxHeartbeats 8000000
namespace Go.Proofs.YtdknjmgdgnmhjaaGreat
open Go.RowKit Go.Proofs.Tryz
variable {p0 p1 p2 p3 p5 p8 p9 Ea Ee Em D1 DW DN DU DX DO DP DV DT D9 Ef EJ Ej El Ei Ed Eh Ek Ey Ev Ew Ex EM EH EI EV Er EB ER ES EQ EC ED Eo EW EU EK EL F9 FY F8 Ga FM Fz Fy FN Fv Gy Gx GO GI GQ Gw Gv Fu G9 Ha Hf Hd Hb Hc GL GK G8 Hi Hh Ie J8 Jr Jp p6 Hg In Ik Im Hj He:Value}{mk:(Nat→Value)→Array Value}{X Z:World}{lo g m cn R k n hi nn cq zm zn cp p' m' cn' l2:Nat}{an ad am an':OA}{c:Nat→Value}{x:Nat→Ch}{An:Nat→Option Addr}{Cn:Nat→Nat}{U:Nat→Prop}{L:List Ob}{y z os:Nat→Ob}{at_ sn cd fv nw nw' cd' fv':Int}{B:Bk}{s1 s2:ByteArray}
def wF (R:Nat)(zm:Nat)(_s1 _s2:ByteArray)(nw _sn:Int)(_am:OA)(_n _cp:Nat)(i:Nat)(v:Value)(_X:World):Prop:=match i with
 |0=>v=.p zm 2
 |1=>v=.i nw
 |2=>v=.p R 0
 |3=>∃k:Nat,k<4/\v=.i k
 |4=>∃k:Nat,k<4/\v=.i (nw+k)
 |5=>v=.p zm 2
 |_=>True
theorem om{p7:Value}(t0:Nat->Value)(R:Nat)(ad:OA)(nn cap p:Nat)(zm:Nat)(s1 s2:ByteArray)(nw sn:Int)(am:OA)(n cp:Nat)(W:World)(hr:Rd W R ad nn cap p)(hp:p<=600000)(hmz:zm<W.1.size)(hmR:¬zm=R)(hmr:AE W zm 5 (AV [.s s1,.s s2,.i nw,.l am n cp,.i sn]))(hnw:0<=nw/\nw<=1000000)(Dg:mk=λt=>#[p0,p1,p2,p3,.p R 0,p5,.p zm 0,p7,p8,p9,Ea,Ee,Em,D1,DW,DN,DU,DX,DO,DP,DV,DT,D9,Ef,EJ,Ej,El,Ei,Ed,Eh,Ek,Ey,Ev,Ew,Ex,EM,EH,EI,EV,Er,EB,ER,ES,EQ,EC,ED,Eo,EW,EU,EK,EL,F9,FY,F8,Ga,FM,Fz,Fy,FN,Fv,Gy,Gx,GO,GI,GQ,Gw,Gv,Fu,G9,Ha,Hf,Hd,Hb,Hc,GL,GK,t 0,t 1,t 2,t 3,t 4,t 5,G8,Hi,Hh,Ie,J8,Jr,Jp])(Q:Exit->Act->World->Prop)(hQ:∀(t:Nat->Value)(k:Nat)(X0:World)(pz:Nat) X,k<4->X=X0.setCell ⟨zm,2,none⟩ (.i (nw+k))->AB (λq=>q=R) W X0->p<=pz->pz<=p+6->Rd X0 R ad nn cap pz->Q .normal ⟨mk t,[]⟩ X):Code.wp prog (rg Tryz.f4 15) Q ⟨mk t0,[]⟩ W:=by
 have Le:=hr.lt;refine Hz Zc 6 11 1 mk t0 R ad nn cap p (wF R zm s1 s2 nw sn am n cp) (λa X=>∃(t:Nat->Value)(k:Nat)(X0:World)(pz:Nat),a=⟨mk t,[]⟩/\k<4/\X=X0.setCell ⟨zm,2,none⟩ (.i (nw+k))/\AB (λq=>q=R) W X0/\p<=pz/\pz<=p+6/\Rd X0 R ad nn cap pz) Zc Zc Zc ?_ rfl hr ?_ ?_ ?_ ?_;all_goals subst Dg
 .intro i v X Z p' hi h hF Lb hR hX;rcases(ae i Za)with rfl|rfl|rfl|rfl|rfl|rfl<;>exact h
 .intro i hi t X K p' hb CO Dj AW hg hK;rcases(ae i Za)with rfl|rfl|rfl|rfl|rfl|rfl;.exact Di
  .have AY:t 0=_:=hg 0 (AR rfl);exact ny
  .exact Di
  .have AY:t 2=_:=hg 2 (AR rfl);refine Au rfl rfl ?_;have HK:=Ab hK;have HR:=Ab AW;clear hK hg AW;go_simp;go_at_call 16;refine(Bt R ad nn cap p' 4 X HR Za Zb Zb).mono ?_;exact qu
  .have AY:t 1=_:=hg 1 (AR rfl);obtain⟨k,hk,g3⟩:=hg 3 (AR rfl);have hw:=AQ (nw+(k:Int)) ⟨Za,Za⟩;have h:=hK (.i (nw+(k:Int))) X p' A9 Za ⟨k,hk,rfl⟩ (AB.refl _ _) AW;refine Au rfl rfl ?_;clear hK hg;go_simp;simpa[AX,AY,g3,hw]using h
  .exact Di
 .intro t X K p' hb CO Dj AW hg hK;obtain⟨k,hk,g4⟩:=hg 4 Za Za;have AY:t 5=_:=hg 5 Za Za;have bT:=hmr.fr hb (λe=>hmR e);have rf:=bT.free;have rl:=bT.lt;have r2:=bT.cell 2 Za;simp only[AV,Ac,Ad]at r2;have h:=hK _ _ ⟨t,k,X,p',rfl,hk,rfl,hb,CO,Za,AW⟩;have HK:=Ab h;clear hK hg h bT;refine Au rfl rfl ?_;go_simp;simpa[g4,AY]using HK.out
 .intro h;omega
 .rintro a X ⟨t,k,X0,pz,rfl,z1,z2,z3,z4,z5,z6⟩;exact hQ t k X0 pz X z1 z2 z3 z4 z5 z6
def eq (zn k:Nat)(_cd _fv:Int)(g m cn:Nat)(x:Nat->Ch)(_c:Nat->Value)(_An:Nat->Option Addr)(_Cn:Nat->Nat)(i:Nat)(v:Value)(_X:World):Prop:=match i with
 |0=>v=.p zn 1
 |1=>v=.l (some ⟨g,0,none⟩) m cn
 |2=>v=.i (k:Nat)
 |3=>v=.p zn 1
 |4=>v=.l (some ⟨g,0,none⟩) m cn
 |5=>v=.i (k:Nat)
 |6=>v=.pointer (some ⟨g,k*9,none⟩)
 |7=>v=.pointer (some ⟨g,k*9+1,none⟩)
 |8=>v=.bool (x k).g
 |9=>v=.bool (!(x k).g)
 |10=>v=.pointer (some ⟨g,k*9,none⟩)
 |11=>v=.pointer (some ⟨g,k*9+1,none⟩)
 |_=>True
theorem qe (t0:Nat->Value)(R:Nat)(ad:OA)(nn cap p:Nat)(zn k:Nat)(cd fv:Int)(g m cn:Nat)(x:Nat->Ch)(c:Nat->Value)(An:Nat->Option Addr)(Cn:Nat->Nat)(W:World)(hr:Rd W R ad nn cap p)(ux:zn<W.1.size)(hnR:¬zn=R)(hnr:AE W zn 3 (AV [.i cd,.l (some ⟨g,0,none⟩) m cn,.i fv]))(Uo:¬g=R)(FW:Rw W (some ⟨g,0,none⟩) g m cn 9 c)(DR:∀i,i<m->OK c i (x i) (An i) (Cn i))(hk:k<m)(Dg:mk=λt=>#[p0,p1,p2,p3,.p R 0,p5,p6,.p zn 0,.i (k:Nat),p9,Ea,Ee,Em,D1,DW,DN,DU,DX,DO,DP,DV,DT,D9,Ef,EJ,Ej,El,Ei,Ed,Eh,Ek,Ey,Ev,Ew,Ex,EM,EH,EI,EV,Er,EB,ER,ES,EQ,EC,ED,Eo,EW,EU,EK,EL,F9,FY,F8,Ga,FM,Fz,Fy,FN,Fv,Gy,Gx,t 0,t 1,t 2,t 3,t 4,t 5,t 6,t 7,t 8,t 9,t 10,t 11,GL,GK,Hg,In,Ik,Im,Hj,He,G8,Hi,Hh,Ie,J8,Jr,Jp])(Q:Exit->Act->World->Prop)(hQ:∀(t:Nat->Value)(X0:World)(pz:Nat) X,X=X0.setCell ⟨g,k*9+1,none⟩ (.bool (!(x k).g))->AB (λq=>q=R) W X0->p<=pz->pz<=p+12->Rd X0 R ad nn cap pz->Q .normal ⟨mk t,[]⟩ X):Code.wp prog (rg Tryz.f4 13) Q ⟨mk t0,[]⟩ W:=by
 have Le:=hr.lt;have h0:0<cn:=by have:=FW.le;omega
 have Ws:=(FW.room h0).lt;refine Hz Zc 12 10 1 mk t0 R ad nn cap p (eq zn k cd fv g m cn x c An Cn) (λa X=>∃(t:Nat->Value)(X0:World)(pz:Nat),a=⟨mk t,[]⟩/\X=X0.setCell ⟨g,k*9+1,none⟩ (.bool (!(x k).g))/\AB (λq=>q=R) W X0/\p<=pz/\pz<=p+12/\Rd X0 R ad nn cap pz/\t 1=.l (some ⟨g,0,none⟩) m cn/\t 2=.i (k:Nat)) Zc Zc Zc ?_ rfl hr ?_ ?_ ?_ ?_;all_goals subst Dg
 .intro i v X Z p' hi h hF Lb hR hX;rcases(ZV i Za)with rfl|rfl|rfl|rfl|rfl|rfl|rfl|rfl|rfl|rfl|rfl|rfl<;>exact h
 .intro i hi t X K p' hb CO Dj AW hg hK;rcases(ZV i Za)with rfl|rfl|rfl|rfl|rfl|rfl|rfl|rfl|rfl|rfl|rfl|rfl;.exact Di
  .have AY:t 0=_:=hg 0 (AR rfl);exact L_
  .exact Di
  .exact Di
  .have AY:t 3=_:=hg 3 (AR rfl);exact L_
  .exact Di
  .have AY:t 4=_:=hg 4 (AR rfl);have Ff:t 5=_:=hg 5 (AR rfl);exact wY
  .exact MO
  .have AY:t 7=_:=hg 7 (AR rfl);have q1:=(hb.cell (p:=⟨g,k*9+1,none⟩) Ws Uo).trans ((FW.cell _ Za).trans (congrArg some (DR k hk).2.1));exact MJ
  .have AY:t 8=_:=hg 8 (AR rfl);exact MJ
  .have AY:t 1=_:=hg 1 (AR rfl);have Ff:t 2=_:=hg 2 (AR rfl);exact wY
  .exact Yg
 .intro t X K p' hb CO Dj AW hg hK;have AY:t 9=_:=hg 9 Za Za;have Ff:t 11=_:=hg 11 Za Za;have UB:t 1=_:=hg 1 Za Za;have ev3:t 2=_:=hg 2 Za Za;have r1:=(hb.cell (p:=⟨g,k*9+1,none⟩) Ws Uo).trans ((FW.cell _ Za).trans (congrArg some (DR k hk).2.1));have rf:=((FW.fr hb (λ_=>Uo)).room h0).free;have h:=hK _ _ ⟨t,X,p',rfl,rfl,hb,CO,Za,AW,UB,ev3⟩;have HK:=Ab h;clear hK hg h;refine Au rfl rfl ?_;go_simp;simpa[UB,ev3,AY,Ff]using HK.out
 .intro _ a X K hF hK;obtain⟨t,X0,pz,rfl,z1,z2,z3,z4,z5,g1,g2⟩:=hF;have h:=hK _ ⟨AX t 10 (.pointer (some ⟨g,k*9,none⟩)),X0,pz,rfl,z1,z2,z3,z4,z5,(BP Zb).trans g1,(BP Zb).trans g2⟩;refine Au rfl rfl ?_;clear hK z1;go_simp;simpa[AX,g1,g2,hk]using h
 .rintro a X ⟨t,X0,pz,rfl,z1,z2,z3,z4,z5,_⟩;exact hQ t X0 pz X z1 z2 z3 z4 z5
theorem Nh:prog.underlying 26=some (.slice 54):=Zc
theorem oi (a:Int)(b:Bool)(s1 s2:ByteArray)(d e:Int)(s3:ByteArray)(f:Bool)(A:OA)(n C:Nat)(j:Nat)(h:j<9):(AV [.i a,.bool b,.s s1,.s s2,.i d,.i e,.s s3,.bool f,.l A n C] j).oneCell'=true:=by rcases(D_ j Za)with rfl|rfl|rfl|rfl|rfl|rfl|rfl|rfl|rfl<;>rfl
def yC (zn k:Nat)(_cd _fv:Int)(g m cn:Nat)(x:Nat->Ch)(c:Nat->Value)(An:Nat->Option Addr)(Cn:Nat->Nat)(W:World)(i:Nat)(v:Value)(X:World):Prop:=match i with
 |0=>v=.p zn 1
 |1=>v=.l (some ⟨g,0,none⟩) m cn
 |2=>v=.p zn 1
 |3=>v=.l (some ⟨g,0,none⟩) m cn
 |4=>v=.i (k:Nat)
 |5=>v=.pointer (some ⟨g,k*9,none⟩)
 |6=>v=.agg (vH (x k) (An k) (Cn k))
 |7=>∃q:Nat,v=.l (some ⟨q,0,none⟩) 1 1/\W.1.size<=q/\q<X.1.size/\∀f,f<9->X.cell? ⟨q,f,none⟩=some (AV (PE (x k) (An k) (Cn k)) f)
 |8=>∃(ad':OA)(cap' g':Nat),v=.l ad' (m+1) cap'/\Rw X ad' g' (m+1) cap' 9 (Cp c (m*9) (AV (PE (x k) (An k) (Cn k))))/\((0<cn/\g'=g)\/W.1.size<=g')
 |9=>v=.p zn 1
 |_=>True
theorem pt (t0:Nat->Value)(R:Nat)(ad:OA)(nn cap p:Nat)(zn k:Nat)(cd fv:Int)(g m cn:Nat)(x:Nat->Ch)(c:Nat->Value)(An:Nat->Option Addr)(Cn:Nat->Nat)(W:World)(hr:Rd W R ad nn cap p)(ux:zn<W.1.size)(hnR:¬zn=R)(hng:¬zn=g)(hnr:AE W zn 3 (AV [.i cd,.l (some ⟨g,0,none⟩) m cn,.i fv]))(Uo:¬g=R)(FW:Rw W (some ⟨g,0,none⟩) g m cn 9 c)(DR:∀i,i<m->OK c i (x i) (An i) (Cn i))(Ag7:∀j,j<m*9->(c j).oneCell'=true)(hk:k<m)(hm:m<=1000)(Yv:∀b off,ad=some ⟨b,off,none⟩->¬b=g)(Dg:mk=λt=>#[p0,p1,p2,p3,.p R 0,p5,p6,.p zn 0,.i (k:Nat),p9,Ea,Ee,Em,D1,DW,DN,DU,DX,DO,DP,DV,DT,D9,Ef,EJ,Ej,El,Ei,Ed,Eh,Ek,Ey,Ev,Ew,Ex,EM,EH,EI,EV,Er,EB,ER,ES,EQ,EC,ED,t 0,t 1,t 2,t 3,t 4,t 5,t 6,t 7,t 8,t 9,Fz,Fy,FN,Fv,Gy,Gx,GO,GI,GQ,Gw,Gv,Fu,G9,Ha,Hf,Hd,Hb,Hc,GL,GK,Hg,In,Ik,Im,Hj,He,G8,Hi,Hh,Ie,J8,Jr,Jp])(Q:Exit->Act->World->Prop)(hQ:∀(t:Nat->Value)(ad':OA)(cap' g':Nat)(pz:Nat)(X0:World) X,X=X0.setCell ⟨zn,1,none⟩ (.l ad' (m+1:Nat) cap')->(Rw X0 ad' g' (m+1) cap' 9 (Cp c (m*9) (AV (PE (x k) (An k) (Cn k))))/\((0<cn/\g'=g)\/W.1.size<=g'))->AB (λq=>q=R\/(0<cn/\q=g)) W X0->p<=pz->pz<=p+10->Rd X0 R ad nn cap pz->Q .normal ⟨mk t,[]⟩ X):Code.wp prog (rg Tryz.f4 10) Q ⟨mk t0,[]⟩ W:=by
 have Le:=hr.lt;have h0:0<cn:=by have:=FW.le;omega
 have Ws:=(FW.room h0).lt;have On:∀q,(λq=>q=R\/(0<cn/\q=g)) q->q<W.1.size:=λq e=>by rcases e with e|e<;>omega
 have Aad:¬(zn=R\/(0<cn/\zn=g)):=λe=>by
  rcases e with e|e;.exact hnR e
  .exact hng e.2
 refine JJ Zc 10 1 8 (λj=>match j with|_=>10) (λj=>match j with|0=>1|1=>8|2=>3|3=>5|4=>5|5=>6|6=>7|7=>8|_=>0) (λj=>decide (j<8)) (λq=>q=R\/(0<cn/\q=g)) mk t0 R ad nn cap p (yC zn k cd fv g m cn x c An Cn W) (λa X=>∃(t:Nat->Value)(ad':OA)(cap' g':Nat)(pz:Nat)(X0:World),a=⟨mk t,[]⟩/\X=X0.setCell ⟨zn,1,none⟩ (.l ad' (m+1:Nat) cap')/\(Rw X0 ad' g' (m+1) cap' 9 (Cp c (m*9) (AV (PE (x k) (An k) (Cn k))))/\((0<cn/\g'=g)\/W.1.size<=g'))/\AB (λq=>q=R\/(0<cn/\q=g)) W X0/\p<=pz/\pz<=p+10/\Rd X0 R ad nn cap pz) Zc Zc Zc Zc ?_ ?_ (AA rfl) rfl hr ?_ ?_ ?_ ?_;all_goals subst Dg
 .intro i v X Z p' hi Nu h hF Lb hR hX;iterate 10 (rcases i with _|i;.first|exact h|(obtain⟨q,e,y1,y2,y3⟩:=h;exact⟨q,e,y1,Aa y2 hF.size,λf hf=>(hF.cell (p:=⟨q,f,none⟩) y2 (λe=>by have:=On q e;omega)).trans (y3 f hf)⟩)|exact absurd rfl Nu)
  omega
 .intro i v X Z p' hi h hF Lb hR hX;iterate 10 (rcases i with _|i;.first|exact h|(obtain⟨q,e,y1,y2,y3⟩:=h;exact⟨q,e,y1,Aa y2 hF.size,λf hf=>(hF.cell (p:=⟨q,f,none⟩) y2 (λe=>by have e:q=R:=e;omega)).trans (y3 f hf)⟩)|(obtain⟨ad',cap',g',e,y1,y2⟩:=h;exact⟨ad',cap',g',e,y1.fr hF (λh0 q=>by have q:g'=R:=q;rcases y2 with y2|y2;exact Uo (y2.2▸q);omega),y2⟩))
  omega
 .intro i hi Nu t X K p' hb QP CO Dj AW hg hK;rcases(Va i Za)with rfl|rfl|rfl|rfl|rfl|rfl|rfl|rfl|rfl|rfl;.exact Di
  .have AY:t 0=_:=hg 0 (AR rfl);exact yw
  .exact Di
  .have AY:t 2=_:=hg 2 (AR rfl);exact yw
  .exact Di
  .have AY:t 3=_:=hg 3 (AR rfl);have Ff:t 4=_:=hg 4 (AR rfl);exact wY
  .have AY:t 5=_:=hg 5 (AR rfl);obtain⟨a0,a1,a2,a3,a4,a5,a6,a7,a8⟩:=DR k hk;have q0:=((QP KV).cell (p:=⟨g,k*9,none⟩) Ws Uo).trans ((FW.cell _ Za).trans (congrArg some a0));have q1:=((QP KV).cell (p:=⟨g,k*9+1,none⟩) Ws Uo).trans ((FW.cell _ Za).trans (congrArg some a1));have q2:=((QP KV).cell (p:=⟨g,k*9+2,none⟩) Ws Uo).trans ((FW.cell _ Za).trans (congrArg some a2));have q3:=((QP KV).cell (p:=⟨g,k*9+3,none⟩) Ws Uo).trans ((FW.cell _ Za).trans (congrArg some a3));have q4:=((QP KV).cell (p:=⟨g,k*9+4,none⟩) Ws Uo).trans ((FW.cell _ Za).trans (congrArg some a4));have q5:=((QP KV).cell (p:=⟨g,k*9+5,none⟩) Ws Uo).trans ((FW.cell _ Za).trans (congrArg some a5));have q6:=((QP KV).cell (p:=⟨g,k*9+6,none⟩) Ws Uo).trans ((FW.cell _ Za).trans (congrArg some a6));have q7:=((QP KV).cell (p:=⟨g,k*9+7,none⟩) Ws Uo).trans ((FW.cell _ Za).trans (congrArg some a7));have q8:=((QP KV).cell (p:=⟨g,k*9+8,none⟩) Ws Uo).trans ((FW.cell _ Za).trans (congrArg some a8));exact MJ
  .have AY:t 6=_:=hg 6 (AR rfl);have h:=hK (.l (some ⟨X.1.size,0,none⟩) 1 1) (X.alloc (.cells (vH (x k) (An k) (Cn k)) 54)) p' A9 Za ⟨X.1.size,rfl,hb.size,Ze,λf hf=>(AE.new (w:=X) (l:=(PE (x k) (An k) (Cn k))) (t:=54) Dx).cell f hf⟩ (Aj Do) (AW.below Do);exact Sd
  .exact absurd rfl Nu
  .exact Di
 .intro ll t X K p' hb CO Dj AW hg hK;obtain⟨q,g7,y1,y2,y3⟩:=hg 7 (AR rfl);have AY:t 1=_:=hg 1 (AR rfl);have RW:=FW.fr hb (λh0=>Uo);obtain⟨ad',cap',g',Y,CZ,Aam,Pg,hg'⟩:=It (P:=prog) X 26 26 54 9 112 _ Nh Gg Za Zc (some ⟨g,0,none⟩) g m cn c RW Ag7 q (q+1) (some ⟨q,0,none⟩) 1 1 (AV (PE (x k) (An k) (Cn k))) ⟨λj hj=>⟨q,0,rfl,AG _,BE _,by rw[A6];exact y3 j hj⟩,λj hj=>oi _ _ _ _ _ _ _ _ _ _ _ j hj⟩ Za Za Za;have uR:AB (λq=>q=R\/(0<cn/\q=g)) X Y:=Pg.mono (λq e=>Az e);have h:=hK (.l ad' (m+1) cap') Y p' A9 Za ⟨ad',cap',g',rfl,Aam,hg'.imp (λh=>h) (AJ hb.size)⟩ uR (AW.app Pg Uo Yv);refine Au rfl rfl ?_;clear hK hg;refine DG (.tmp 47) (.tmp 53) 26 26 rfl _ _ _ _ Zba (by simpa[Act.eval,go_sem]using g7) CZ ?_;exact Rk
 .intro t X K p' hb CO Dj AW hg hK;have AY:t 9=_:=hg 9 Za;obtain⟨ad',cap',g',g8,Aam,hg'⟩:=hg 8 Za;have q1:=(hb.cell (p:=⟨zn,1,none⟩) ux Aad).trans (hnr.cell 1 Zb);have q2:=(hb.frozen (p:=⟨zn,1,none⟩) ux Aad).trans (hnr.free _);simp only[AV,Ac,Ad]at q1;have h:=hK _ _ ⟨t,ad',cap',g',p',X,rfl,rfl,⟨Aam,hg'⟩,hb,CO,Za,AW⟩;have HK:=Ab h;clear hK hg h;refine Au rfl rfl ?_;go_simp;simpa[AY,g8]using HK.out
 .rintro a X ⟨t,ad',cap',g',pz,X0,rfl,z1,z2,z3,z4,z5,z6⟩;exact hQ t ad' cap' g' pz X0 X z1 z2 z3 z4 z5 z6
structure Sx (X:World)(lo:Nat)(an:OA)(m:Nat)(x:Nat->Ch):Prop where
 le:m<=201
 f:∀i,i<m->Cu (x i).ob
 i:Dv X lo X.1.size an m x
theorem Ul (hr:Rw X an g m cn 9 c)(hl:0<cn->lo<=g)(DR:∀i,i<m->OK c i (x i) (An i) (Cn i))(hold:∀i,i<m->AK X lo X.1.size (An i) (x i).ob.hn (x i).ob.hs)(Om:m<=201)(hf:∀i,i<m->Cu (x i).ob):Sx X lo an m x:=⟨Om,hf,λi hi=>by
 have h0:0<cn:=by have:=hr.le;omega
 obtain⟨a0,a1,a2,a3,a4,a5,a6,a7,a8⟩:=DR i hi;refine⟨g,0,An i,Cn i,hr.addr h0,hl h0,(hr.room h0).lt,?_,hold i hi⟩;rw[A6];exact⟨(hr.cell _ Za).trans (congrArg some a0),(hr.cell _ Za).trans (congrArg some a1),(hr.cell _ Za).trans (congrArg some a2),(hr.cell _ Za).trans (congrArg some a3),(hr.cell _ Za).trans (congrArg some a4),(hr.cell _ Za).trans (congrArg some a5),(hr.cell _ Za).trans (congrArg some a6),(hr.cell _ Za).trans (congrArg some a7),(hr.cell _ Za).trans (congrArg some a8)⟩⟩
theorem VV.w (h:VV X lo an g m cn x c An Cn):Sx X lo an m x:=Ul h.rw h.lg h.d h.hold (AJ h.le Zb) h.f
theorem Sx.fr (h:Sx X lo an m x)(hF:AB U X Z)(hU:∀q,lo<=q->¬U q):Sx Z lo an m x:=⟨h.le,h.f,λi hi=>by obtain⟨b,off,ah,ch,e1,e2,e3,e4,e5⟩:=h.i i hi;have e:∀j,Z.cell? ⟨b,j,none⟩=X.cell? ⟨b,j,none⟩:=λj=>hF.cell (p:=⟨b,j,none⟩) e3 (hU b e2);refine⟨b,off,ah,ch,e1,e2,Aa e3 hF.size,⟨(e _).trans e4.c0,(e _).trans e4.c1,(e _).trans e4.c2,(e _).trans e4.c3,(e _).trans e4.c4,(e _).trans e4.c5,(e _).trans e4.c6,(e _).trans e4.c7,(e _).trans e4.c8⟩,λj hj=>?_⟩;obtain⟨b2,off2,y1,y2,y3,y4⟩:=e5 j hj;exact⟨b2,off2,y1,y2,Aa y3 hF.size,(hF.cell (p:=⟨b2,off2+j,none⟩) y3 (hU b2 y2)).trans y4⟩⟩
theorem VV.app{W:World}(h:VV W lo an g m cn x c An Cn)(hk:k<m)(hR:R<lo)(zn:Nat)(hz:IC W zn)(hF:AB (λq=>q=R\/q=zn\/(0<cn/\q=g)) W X){ad':OA}{cap' g':Nat}(hr:Rw X ad' g' (m+1) cap' 9 (Cp c (m*9) (AV (PE (x k) (An k) (Cn k)))))(hg:(0<cn/\g'=g)\/lo<=g'):Sx X lo ad' (m+1) (Cl x m (x k)):=by
 have hold:∀i,i<m->AK X lo X.1.size (An i) (x i).ob.hn (x i).ob.hs:=λi hi j hj=>by obtain⟨b,off,e1,e2,e3,e4⟩:=h.hold i hi j hj;have nb:=h.ne i hi b off e1 Za;exact⟨b,off,e1,e2,Aa e3 hF.size,(hF.cell (p:=⟨b,off+j,none⟩) e3 (λe=>by rcases e with e|e|e;(have e:b=R:=e;omega);(have e:b=zn:=e;subst e;exact hz _ _ e4);exact nb e.2)).trans e4⟩
 have Om:=h.le;refine Ul (An:=Cl An m (An k)) (Cn:=Cl Cn m (Cn k)) hr (λh0=>?_) (λi hi=>?_) (λi hi=>?_) Za (λi hi=>?_)
 .rcases hg with⟨e1,e2⟩|e;.rw[e2];exact h.lg e1
  .exact e
 .by_cases e:i=m
  .subst e;simp only[Bf];have q:∀f,Cp c (i*9) (AV (PE (x k) (An k) (Cn k))) (i*9+f)=AV (PE (x k) (An k) (Cn k)) f:=λf=>Vq;exact⟨q 0,q 1,q 2,q 3,q 4,q 5,q 6,q 7,q 8⟩
  .simp only[BC _ _ e];obtain⟨a0,a1,a2,a3,a4,a5,a6,a7,a8⟩:=h.d i Za;exact⟨(H6 Za).trans a0,(H6 Za).trans a1,(H6 Za).trans a2,(H6 Za).trans a3,(H6 Za).trans a4,(H6 Za).trans a5,(H6 Za).trans a6,(H6 Za).trans a7,(H6 Za).trans a8⟩
 .by_cases e:i=m;.subst e;simp only[Bf];exact hold k hk
  .simp only[BC _ _ e];exact hold i Za
 .by_cases e:i=m;.subst e;simp only[Bf];exact h.f k hk
  .simp only[BC _ _ e];exact h.f i Za
theorem VV.flip (h:VV X lo an g m cn x c An Cn)(hk:k<m)(b:Bool):Sx (X.setCell ⟨g,k*9+1,none⟩ (.bool b)) lo an m (Cl x k {x k with g:=b}):=by
 have Om:=h.le;have h0:0<cn:=by have:=h.rw.le;omega
 have F:=(AB.refl (λq=>q=g) X).setCell (p:=⟨g,k*9+1,none⟩) rfl (.bool b);have r:AE X g (m*9) c:=⟨(h.rw.room h0).lt,(h.rw.room h0).free,h.rw.cell⟩;have r2:=r.set (o:=k*9+1) Za (.bool b);refine⟨Za,λi hi=>?_,λi hi=>?_⟩
 .by_cases e:i=k;.subst e;rw[Bf];exact h.f i hk
  .rw[BC _ _ e];exact h.f i hi
 .have hold:AK (X.setCell ⟨g,k*9+1,none⟩ (.bool b)) lo (X.setCell ⟨g,k*9+1,none⟩ (.bool b)).1.size (An i) (x i).ob.hn (x i).ob.hs:=λj hj=>by obtain⟨b,off,e1,e2,e3,e4⟩:=h.hold i hi j hj;exact⟨b,off,e1,e2,Aa e3 F.size,(F.cell (p:=⟨b,off+j,none⟩) e3 (λe=>h.ne i hi b off e1 Za e)).trans e4⟩
  obtain⟨a0,a1,a2,a3,a4,a5,a6,a7,a8⟩:=h.d i hi;have q:∀f,f<9->(X.setCell ⟨g,k*9+1,none⟩ (.bool b)).cell? ⟨g,i*9+f,none⟩=some (GR c (k*9+1) (.bool b) (i*9+f)):=λf hf=>r2.cell _ Za;by_cases e:i=k;.subst e;rw[Bf];refine⟨g,0,An i,Cn i,h.rw.addr h0,h.lg h0,r2.lt,?_,hold⟩;rw[A6];exact⟨(q 0 Zb).trans (congrArg some ((if_neg Za).trans a0)),(q 1 Zb).trans (congrArg some (if_pos rfl)),(q 2 Zb).trans (congrArg some ((if_neg Za).trans a2)),(q 3 Zb).trans (congrArg some ((if_neg Za).trans a3)),(q 4 Zb).trans (congrArg some ((if_neg Za).trans a4)),(q 5 Zb).trans (congrArg some ((if_neg Za).trans a5)),(q 6 Zb).trans (congrArg some ((if_neg Za).trans a6)),(q 7 Zb).trans (congrArg some ((if_neg Za).trans a7)),(q 8 Zb).trans (congrArg some ((if_neg Za).trans a8))⟩
  .rw[BC _ _ e];refine⟨g,0,An i,Cn i,h.rw.addr h0,h.lg h0,r2.lt,?_,hold⟩;rw[A6];exact⟨(q 0 Zb).trans (congrArg some ((if_neg Za).trans a0)),(q 1 Zb).trans (congrArg some ((if_neg Za).trans a1)),(q 2 Zb).trans (congrArg some ((if_neg Za).trans a2)),(q 3 Zb).trans (congrArg some ((if_neg Za).trans a3)),(q 4 Zb).trans (congrArg some ((if_neg Za).trans a4)),(q 5 Zb).trans (congrArg some ((if_neg Za).trans a5)),(q 6 Zb).trans (congrArg some ((if_neg Za).trans a6)),(q 7 Zb).trans (congrArg some ((if_neg Za).trans a7)),(q 8 Zb).trans (congrArg some ((if_neg Za).trans a8))⟩
theorem VV.one (h:VV X lo an g m cn x c An Cn):∀j,j<m*9->(c j).oneCell'=true:=λj hj=>by
 obtain⟨a0,a1,a2,a3,a4,a5,a6,a7,a8⟩:=h.d (j/9) Za;rcases(show j=j/9*9+0\/j=j/9*9+1\/j=j/9*9+2\/j=j/9*9+3\/j=j/9*9+4\/j=j/9*9+5\/j=j/9*9+6\/j=j/9*9+7\/j=j/9*9+8 by omega)with e|e|e|e|e|e|e|e|e<;>rw[e];.rw[show c (j/9*9+0)=_ from a0];rfl
 .rw[a1];rfl
 .rw[a2];rfl
 .rw[a3];rfl
 .rw[a4];rfl
 .rw[a5];rfl
 .rw[a6];rfl
 .rw[a7];rfl
 .rw[a8];rfl
def MG (X:World)(L:List Ob)(ad:OA)(n:Nat):Prop:=∃y,Fb n y=L/\Bh X 0 X.1.size ad n y
theorem MG.below (h:MG X L ad n)(hb:Below X.1.size X Z):MG Z L ad n:=by obtain⟨y,e,i⟩:=h;exact⟨y,e,i.up hb⟩
theorem bF (h:Bh X lo hi ad n y)(hh:hi<=X.1.size):MG X (Fb n y) ad n:=⟨y,rfl,h.wide S4 hh⟩
theorem Acu (L:List EO):Fb L.length (λi=>(Ii L i).ob)=L.map EO.ob:=by
 apply Qo;.simp[Fb]
 .intro i h1 h2;have hi:i<L.length:=by simpa[Fb]using h1
  simp[Fb,LZ hi]
theorem sy (h:Fb n y=Fb n z)(i:Nat)(hi:i<n):y i=z i:=List.map_inj_left.1 h i (BF.2 hi)
theorem MG.row{L:List EO}(h1:L≠[]->ad=some ⟨g,0,none⟩/\FX X g L)(h2:G0 X L):MG X (L.map EO.ob) ad L.length:=by
 refine⟨λi=>(Ii L i).ob,Acu L,λi hi=>?_⟩;obtain⟨rfl,r⟩:=h1 (λe=>by rw[e]at hi;exact absurd hi (Ae _));have hm:Ii L i∈L:=by rw[LZ hi];exact Fd hi
 exact⟨g,0,(Ii L i).A,(Ii L i).C,rfl,Ar _,r.lt,by rw[A6];exact r.ob i hi,(h2.hold _ hm).wide (h2.lt _ hm)⟩
theorem vR (L:List Ob)(s1 s2:ByteArray)(at_ sn:Int)(ad CY:OA)(n n2 c c2:Nat)(w:World)(h1:MG w L ad n)(h2:MG w L CY n2)(hl:L.length<=1000000)(hf:∀o,o∈L->Cu o):Calls prog 7 #[.agg #[.s s1,.s s2,.i at_,.l ad n c,.i sn],.agg #[.s s1,.s s2,.i at_,.l CY n2 c2,.i sn]] w λe w'=>e=.returned (.bool true)/\Below w.1.size w w':=by
 obtain⟨y,e1,i1⟩:=h1;obtain⟨y2,e2,i2⟩:=h2;obtain rfl:n=n2:=by rw[<-GE n y,<-GE n2 y2,e1,e2]
 have hn:n=L.length:=by rw[<-e1,GE]
 refine S9 s1 s2 at_ sn n y ad CY c c2 w Za (λi hi=>?_) i1 (i2.congr λi hi=>(sy (e1.trans e2.symm) i hi).symm);have:=(hf (y i) (by rw[<-e1];exact Ec.2 ⟨i,BF.2 hi,rfl⟩)).h;omega
def Qd (at_ sn:Int)(L:List Ob)(cd fv:Int)(n:Nat)(x:Nat->Ch):TS:=if Mp at_ cd fv n x=0 then⟨max (Et ⟨at_,sn,L⟩ x n).d fv,(Et ⟨at_,sn,L⟩ x n).s,(Et ⟨at_,sn,L⟩ x n).l⟩else⟨at_,sn,L⟩
def Lm (k:Nat)(L:List Ob):Prop:=L.length<=k/\∀o,o∈L->Cu o
theorem XO{k:Nat}{s:TS}{x:Nat->Ch}(h:Lm k s.l):∀n,(∀i,i<n->Cu (x i).ob)->Lm (k+n) (Et s x n).l
 |0,_=>h
 |n+1,hx=>by
  obtain⟨h1,h2⟩:=XO h n (λi hi=>hx i Za);show Lm (k+(n+1)) (FJ (x n) (Et s x n)).l;unfold FJ;split;.exact⟨Za,h2⟩
  .refine⟨?_,λo ho=>?_⟩;.have:=Xs (x n).ob (x n).g (Et s x n).l;show(K3 (x n).ob (x n).g (Et s x n).l).length<=_;omega
   .rcases TW ho with⟨e,_⟩|⟨e,_⟩;.rw[e];exact hx n (BE n)
    .exact h2 o e
theorem eR (h:Lm k L)(hx:∀i,i<n->Cu (x i).ob):Lm (k+n) (Qd at_ sn L cd fv n x).l:=by
 unfold Qd;split;.exact XO (s:=⟨at_,sn,L⟩) h n hx
 .exact⟨AJ h.1 (Nat.le_add_right _ _),h.2⟩
theorem xF (h:¬Mp at_ cd fv n x=0):Qd at_ sn L cd fv n x=⟨at_,sn,L⟩:=if_neg h
theorem jH (h0:Mp at_ cd fv n x=0)(h:Mp (Qd at_ sn L cd fv n x).d cd fv n x=0):Qd (Qd at_ sn L cd fv n x).d (Qd at_ sn L cd fv n x).s (Qd at_ sn L cd fv n x).l cd fv n x=Qd at_ sn L cd fv n x:=by
 have e:Qd at_ sn L cd fv n x=⟨max (Et ⟨at_,sn,L⟩ x n).d fv,(Et ⟨at_,sn,L⟩ x n).s,(Et ⟨at_,sn,L⟩ x n).l⟩:=if_pos h0;obtain⟨_,q⟩:=fD ⟨at_,sn,L⟩ x n;have hi:=TH (s:=Qd at_ sn L cd fv n x) (n:=n) (x:=x) (λj hj=>by rw[e];have:=q j hj;show(x j).t<=max (Et ⟨at_,sn,L⟩ x n).d fv;omega);have hf:max (Qd at_ sn L cd fv n x).d fv=(Qd at_ sn L cd fv n x).d:=by rw[e];show max (max (Et ⟨at_,sn,L⟩ x n).d fv) fv=max (Et ⟨at_,sn,L⟩ x n).d fv;omega
 generalize Qd at_ sn L cd fv n x=T at h hi hf⊢;unfold Qd;rw[if_pos h,hi,hf]
theorem aC (s1 s2:ByteArray)(at_ sn:Int)(L:List Ob)(a:OA)(n c:Nat)(cd fv:Int)(m:Nat)(x:Nat->Ch)(an:OA)(cn:Nat)(w:World)(hL:MG w L a n)(hf:Lm 100000 L)(hx:Sx w 0 an m x):Calls prog 5 #[.agg #[.s s1,.s s2,.i at_,.l a n c,.i sn],.agg #[.i cd,.l an m cn,.i fv]] w λr w'=>∃(ad':OA)(n' cap':Nat),r=.returned (.tuple #[.agg #[.s s1,.s s2,.i (Qd at_ sn L cd fv m x).d,.l ad' n' cap',.i (Qd at_ sn L cd fv m x).s],.i (Mp at_ cd fv m x)])/\MG w' (Qd at_ sn L cd fv m x).l ad' n'/\Below w.1.size w w':=by
 obtain⟨y,rfl,i1⟩:=hL;have hn:n<=100000:=by have:=hf.1;rwa[GE]at this
 have hm:=hx.le;refine(NG ⟨s1,s2,at_,n,y,sn⟩ a c cd fv m x an cn w 0 w.1.size A9 (by show(n:Int)<=1048576;omega) Za (λi hi=>hf.2 _ (Ec.2 ⟨i,BF.2 hi,rfl⟩)) hx.f i1 hx.i).mono ?_;exact zh
theorem aB (s1 s2:ByteArray)(at_ sn:Int)(L:List Ob)(a:OA)(n c:Nat)(cd fv:Int)(m:Nat)(x:Nat->Ch)(an:OA)(cn:Nat)(w:World)(hL:MG w L a n)(hf:Lm 100000 L)(hx:Sx w 0 an m x):Calls prog 6 #[.agg #[.s s1,.s s2,.i at_,.l a n c,.i sn],.agg #[.i cd,.l an m cn,.i fv]] w λr w'=>∃(ad':OA)(n' cap':Nat),r=.returned (.tuple #[.agg #[.s s1,.s s2,.i (Qd at_ sn L cd fv m x).d,.l ad' n' cap',.i (Qd at_ sn L cd fv m x).s],.i (Mp at_ cd fv m x)])/\MG w' (Qd at_ sn L cd fv m x).l ad' n'/\Below w.1.size w w':=by
 obtain⟨y,rfl,i1⟩:=hL;have hn:n<=100000:=by have:=hf.1;rwa[GE]at this
 have hm:=hx.le;refine(NQ ⟨s1,s2,at_,n,y,sn⟩ a c cd fv m x an cn w 0 w.1.size A9 (by show(n:Int)+m<=1048576;omega) (λi hi=>hf.2 _ (Ec.2 ⟨i,BF.2 hi,rfl⟩)) hx.f i1 hx.i).mono ?_;exact K_
def rlL (B:Bk)(ki pr:ByteArray):List Ob:=Fb (Dw B ki pr).length (CI B.os (Dw B ki pr))
theorem UX (hf:BS B)(hs:Sz B)(ki pr:ByteArray):Lm 100000 (rlL B ki pr):=⟨by have:=dD B ki pr;have:=hs.1;rw[rlL,GE];omega,λo ho=>by obtain⟨i,hi,rfl⟩:=Ec.1 ho;exact dH hf ki pr i (BF.1 hi)⟩
theorem ry{m:Mr}{most:Int}(hf:BS B)(hs:Sz B)(hm:Lm 100 (Fb m.n m.os)):Lm 100000 (SU B m most).l:=by
 unfold SU Xk;split;.exact UX hf hs m.k m.pre
 .have h:=eR (at_:=m.d) (sn:=m.s) (cd:=KY B m.d most) (fv:=rh B m.k m.pre m.d most) (n:=S7 B m.k m.pre m.d most) (x:=jK B m.k m.pre m.d most) hm (λi hi=>by obtain⟨j,hj,e⟩:=QA hi;rw[e];exact hf.hs j hj);have:=UK B m.k m.pre m.d most;have:=hs.2;exact⟨AJ h.1 Za,h.2⟩
theorem LK.lfit (h:LK X lo s1 s2 nw sn am n os):Lm 100 (Fb n os):=⟨by rw[GE];exact h.m,λo ho=>by obtain⟨i,hi,rfl⟩:=Ec.1 ho;exact h.f i (BF.1 hi)⟩
theorem ZI (B:Bk)(a1 a2 a3:OA)(c1 c2 c3:Nat)(s1 s2:ByteArray)(at_ sn:Int)(a:OA)(n c:Nat)(y:Nat->Ob)(most:Int)(lo:Nat)(w:World)(hB:N5 w B a1 a2 a3)(hM:LK w lo s1 s2 at_ sn a n y):Calls prog 9 #[.agg (vB B a1 a2 a3 c1 c2 c3),.agg #[.s s1,.s s2,.i at_,.l a n c,.i sn],.i most] w λr w'=>∃(ad':OA)(n' cap':Nat),r=.returned (.tuple #[.agg #[.s s1,.s s2,.i (SU B ⟨s1,s2,at_,n,y,sn⟩ most).d,.l ad' n' cap',.i (SU B ⟨s1,s2,at_,n,y,sn⟩ most).s],.i (Rt B ⟨s1,s2,at_,n,y,sn⟩ most)])/\MG w' (SU B ⟨s1,s2,at_,n,y,sn⟩ most).l ad' n'/\Below w.1.size w w':=by have z1:=hB.s.1;have z2:=hB.s.2;have z3:=hM.m;have z4:=hM.p;refine(Vl B a1 a2 a3 c1 c2 c3 ⟨s1,s2,at_,n,y,sn⟩ a c most w hB.f Za (by show(n:Int)+B.hn<=1048576;omega) Zbk hM.f hB.i (hM.i.wide S4 A9)).mono ?_;exact zh
theorem Z5 (B:Bk)(a1 a2 a3:OA)(c1 c2 c3:Nat)(s1 s2:ByteArray)(at_ sn:Int)(a:OA)(n c:Nat)(y:Nat->Ob)(most:Int)(lo:Nat)(w:World)(hB:N5 w B a1 a2 a3)(hM:LK w lo s1 s2 at_ sn a n y):Calls prog 10 #[.agg (vB B a1 a2 a3 c1 c2 c3),.agg #[.s s1,.s s2,.i at_,.l a n c,.i sn],.i most] w λr w'=>∃(ad':OA)(n' cap':Nat),r=.returned (.tuple #[.agg #[.s s1,.s s2,.i (SU B ⟨s1,s2,at_,n,y,sn⟩ most).d,.l ad' n' cap',.i (SU B ⟨s1,s2,at_,n,y,sn⟩ most).s],.i (Rt B ⟨s1,s2,at_,n,y,sn⟩ most)])/\MG w' (SU B ⟨s1,s2,at_,n,y,sn⟩ most).l ad' n'/\Below w.1.size w w':=by have z1:=hB.s.1;have z2:=hB.s.2;have z3:=hM.m;have z4:=hM.p;refine(UZ B a1 a2 a3 c1 c2 c3 ⟨s1,s2,at_,n,y,sn⟩ a c most w hB.f Za (by show(n:Int)+B.hn<=1048576;omega) Zbk hM.f hB.i (hM.i.wide S4 A9)).mono ?_;exact K_
theorem Vz (B:Bk)(a1 a2 a3:OA)(c1 c2 c3:Nat)(s1 s2:ByteArray)(at_ sn:Int)(a:OA)(n c:Nat)(y:Nat->Ob)(lo:Nat)(w:World)(hB:N5 w B a1 a2 a3)(hM:LK w lo s1 s2 at_ sn a n y):Calls prog 11 #[.agg (vB B a1 a2 a3 c1 c2 c3),.agg #[.s s1,.s s2,.i at_,.l a n c,.i sn]] w λr w'=>∃(ad':OA)(n' cap':Nat),r=.returned (.agg #[.s s1,.s s2,.i (Is B),.l ad' n' cap',.i sn])/\MG w' (rlL B s1 s2) ad' n'/\Below w.1.size w w':=by have z1:=hB.s.1;have z3:=hM.m;have z4:=hM.p;refine(Md B a1 a2 a3 c1 c2 c3 ⟨s1,s2,at_,n,y,sn⟩ a c _ _ _ rfl rfl rfl w 0 w.1.size A9 hB.f Za Zbk hB.i).mono ?_;exact yd
theorem Vo (B:Bk)(a1 a2 a3:OA)(c1 c2 c3:Nat)(s1 s2:ByteArray)(at_ sn:Int)(a:OA)(n c:Nat)(y:Nat->Ob)(lo:Nat)(w:World)(hB:N5 w B a1 a2 a3)(hM:LK w lo s1 s2 at_ sn a n y):Calls prog 12 #[.agg (vB B a1 a2 a3 c1 c2 c3),.agg #[.s s1,.s s2,.i at_,.l a n c,.i sn]] w λr w'=>∃(ad':OA)(n' cap':Nat),r=.returned (.agg #[.s s1,.s s2,.i (Is B),.l ad' n' cap',.i sn])/\MG w' (rlL B s1 s2) ad' n'/\Below w.1.size w w':=by have z1:=hB.s.1;have z3:=hM.m;have z4:=hM.p;refine(Jt B a1 a2 a3 c1 c2 c3 ⟨s1,s2,at_,n,y,sn⟩ a c _ _ _ rfl rfl rfl w 0 w.1.size A9 hB.f Za Zbk hB.i (by show(n:Int)<=1048576;omega) hM.f (hM.i.wide S4 A9)).mono ?_;exact yd
structure TkJ (A C zm zn:Nat)(s1 s2:ByteArray)(nw sn:Int)(am:OA)(n cp:Nat)(cd fv:Int)(an:OA)(m cn:Nat)(X:World):Prop where a:∃l,AE X A 5 (AV l)c:∃l,AE X C 3 (AV l)z:AE X zm 5 (AV [.s s1,.s s2,.i nw,.l am n cp,.i sn])n_:AE X zn 3 (AV [.i cd,.l an m cn,.i fv])
def vF (A _C _zm _zn:Nat)(s1 s2:ByteArray)(nw sn:Int)(am:OA)(n cp:Nat)(cd fv:Int)(an:OA)(m cn:Nat)(i:Nat)(v:Value)(X:World):Prop:=match i with
 |0=>v=.agg #[.s s1,.s s2,.i nw,.l am n cp,.i sn]
 |1=>v=.agg #[.i cd,.l an m cn,.i fv]
 |2=>AE X A 5 (AV [.s s1,.s s2,.i nw,.l am n cp,.i sn])
 |_=>True
def RX (A C i q:Nat):Prop:=match i with
 |2=>q=A
 |3=>q=C
 |_=>False
theorem qp{p4:Value}(t0:Nat->Value)(R:Nat)(ad:OA)(nn cap p:Nat)(A C zm zn:Nat)(s1 s2:ByteArray)(nw sn:Int)(am:OA)(n cp:Nat)(cd fv:Int)(an:OA)(m cn:Nat)(W:World)(hr:Rd W R ad nn cap p)(hJ:TkJ A C zm zn s1 s2 nw sn am n cp cd fv an m cn W)(hAR:¬A=R)(hCR:¬C=R)(qF:¬A=C)(hAz:¬A=zm)(hAn:¬A=zn)(FO:∀b off,ad=some ⟨b,off,none⟩->b<A/\b<C)(Dg:mk=λt=>#[p0,p1,.p A 0,.p C 0,p4,p5,.p zm 0,.p zn 0,p8,p9,Ea,Ee,Em,D1,DW,DN,DU,DX,DO,DP,DV,DT,D9,Ef,EJ,Ej,El,Ei,Ed,Eh,Ek,Ey,Ev,Ew,Ex,EM,EH,EI,EV,Er,EB,ER,ES,EQ,EC,ED,Eo,EW,EU,EK,EL,F9,FY,F8,Ga,FM,Fz,Fy,FN,Fv,Gy,Gx,GO,GI,GQ,Gw,Gv,Fu,G9,Ha,Hf,Hd,Hb,Hc,GL,GK,Hg,In,Ik,Im,Hj,He,G8,Hi,Hh,Ie,J8,t 0,t 1])(Q:Exit->Act->World->Prop)(hQ:∀(t:Nat->Value)(X:World),AB (λq=>q=A\/q=C) W X->AE X A 5 (AV [.s s1,.s s2,.i nw,.l am n cp,.i sn])->AE X C 3 (AV [.i cd,.l an m cn,.i fv])->Q .normal ⟨mk t,[]⟩ X):Code.wp prog (rg Tryz.f4 18) Q ⟨mk t0,[]⟩ W:=by
 have Le:=hr.lt;have hJW:TkJ A C zm zn s1 s2 nw sn am n cp cd fv an m cn W.drew:=by have b:Below W.1.size W W.drew:=(Ap _ _).drew;obtain⟨⟨l1,ha⟩,⟨l2,hc⟩,hz,hn⟩:=hJ;exact⟨⟨l1,ha.below b ha.lt⟩,⟨l2,hc.below b hc.lt⟩,hz.below b hz.lt,hn.below b hn.lt⟩
 refine KW Zc 4 0 (λ_=>0) mk t0 R ad nn cap p (λq=>q=A\/q=C) (RX A C) 3 (TkJ A C zm zn s1 s2 nw sn am n cp cd fv an m cn) (vF A C zm zn s1 s2 nw sn am n cp cd fv an m cn) (λ_ X=>AE X A 5 (AV [.s s1,.s s2,.i nw,.l am n cp,.i sn])/\AE X C 3 (AV [.i cd,.l an m cn,.i fv])) Zc Zc Zc Zb ?_ ?_ rfl hr hJW ?_ ?_;all_goals subst Dg
 .intro i q h;unfold RX at h;split at h<;>first|exact AA h|exact Az h|exact h.elim
 .intro i j v X Z p' hi hj P4 kC h gk hD Lb hX;iterate 4 (rcases i with _|i;.first|exact h|(refine AE.fr h hD (λq=>?_);unfold RX at q;split at q<;>first|exact P4 rfl|exact q|exact qF q))
  omega
 .intro i hi t X K p' hb CO Dj AW hJ hg hK;rcases(CS4 i Za)with rfl|rfl|rfl|rfl;.exact XW
  .obtain⟨q0,q1,q2⟩:=CT3 hJ.n_;exact bs
  .have AY:t 0=_:=hg 0 (AR rfl);obtain⟨⟨l1,ha⟩,⟨l2,hc⟩,hz,hn⟩:=hJ;have c0:=ha.cell 0 Zb;have c1:=ha.cell 1 Zb;have c2:=ha.cell 2 Zb;have c3:=ha.cell 3 Zb;have c4:=ha.cell 4 Zb;have cf:=ha.free;have cl:=ha.lt;have F:=((((((AB.refl (λq=>q=A) X).setCell (p:=⟨A,0,none⟩) rfl (.s s1)).setCell (p:=⟨A,1,none⟩) rfl (.s s2)).setCell (p:=⟨A,2,none⟩) rfl (.i nw)).setCell (p:=⟨A,3,none⟩) rfl (.l am n cp)).setCell (p:=⟨A,4,none⟩) rfl (.i sn));have Z:=(((((ha.set (o:=0) Zb (.s s1)).set (o:=1) Zb (.s s2)).set (o:=2) Zb (.i nw)).set (o:=3) Zb (.l am n cp)).set (o:=4) Zb (.i sn));have Z2:AE _ A 5 (AV [.s s1,.s s2,.i nw,.l am n cp,.i sn]):=Z.congr λj hj=>Zo;have h:=hK (t 2) _ p' A9 A9 Z2 F (hr.keep2 AW F (λe=>hAR e.symm) (λb off e=>by have:=FO b off e;omega)) (AA ⟨Zb,⟨_,Z2⟩,⟨l2,hc.fr F (λe=>qF e.symm)⟩,hz.fr F (λe=>hAz e.symm),hn.fr F (λe=>hAn e.symm)⟩);have HK:=Ab h;clear hK hg ha hc F Z Z2 h AW hz hn;exact Yk
  .have AY:t 1=_:=hg 1 (AR rfl);obtain⟨⟨l1,ha⟩,⟨l2,hc⟩,hz,hn⟩:=hJ;have c0:=hc.cell 0 Zb;have c1:=hc.cell 1 Zb;have c2:=hc.cell 2 Zb;have cf:=hc.free;have cl:=hc.lt;have F:=((((AB.refl (λq=>q=C) X).setCell (p:=⟨C,0,none⟩) rfl (.i cd)).setCell (p:=⟨C,1,none⟩) rfl (.l an m cn)).setCell (p:=⟨C,2,none⟩) rfl (.i fv));have Z:=(((hc.set (o:=0) Zb (.i cd)).set (o:=1) Zb (.l an m cn)).set (o:=2) Zb (.i fv));have Z2:AE _ C 3 (AV [.i cd,.l an m cn,.i fv]):=Z.congr λj hj=>(by rcases(show j=0\/j=1\/j=2 by omega)with rfl|rfl|rfl<;>rfl);have bQ:AE X A 5 (AV [.s s1,.s s2,.i nw,.l am n cp,.i sn]):=hg 2 ⟨_,rfl,⟨2,.chain⟩,Ze,rfl,rfl⟩;have h:=hK (t 3) _ p' A9 A9 trivial F (hr.keep2 AW F (λe=>hCR e.symm) (λb off e=>by have:=FO b off e;omega)) (Az ⟨rfl,bQ.fr F qF,Z2⟩);have HK:=Ab h;clear hK hg ha hc F Z Z2 h AW hz hn;exact Yk
 .intro t X p' hb CO Dj AW hF;rcases hF with⟨_,h1,h2⟩|⟨h,_⟩;.exact hQ t X hb h1 h2
  .omega
def Dr4 (w:World)(e:Ending)(w':World):Prop:=∃(s1 s2:ByteArray)(nw sn:Int)(am:OA)(n cp:Nat)(L:List Ob)(cd fv:Int)(an:OA)(m cn:Nat)(x:Nat->Ch),e=.returned (.tuple #[.agg #[.s s1,.s s2,.i nw,.l am n cp,.i sn],.agg #[.i cd,.l an m cn,.i fv]])/\MG w' L am n/\Lm 100 L/\Sx w' 0 an m x/\Below w.1.size w w'
theorem Sx.zero (h:Sx X lo an m x):Sx X 0 an m x:=⟨h.le,h.f,λi hi=>by obtain⟨b,off,ah,ch,e1,_,e3,e4,e5⟩:=h.i i hi;exact⟨b,off,ah,ch,e1,Ar _,e3,e4,e5.lo0⟩⟩
theorem Bh.fr4{x:Nat->Ob}(h:Bh X lo hi ad n x)(hF:AB U X Z)(hh:hi<=X.1.size)(hU:∀q,U q->q<lo\/hi<=q):Bh Z lo hi ad n x:=h.to (λq j e1 e2=>hF.cell (p:=⟨q,j,none⟩) (Aa e2 hh) (λu=>by rcases hU q u with e|e<;>omega)) A9 A9
structure OpT (w w1:World)(ad:OA)(nn cq:Nat):Prop where
 r:Rd w1 (w.1.size+1+1) ad nn cq 0
 b:Below w.1.size w w1
 a:AE w1 w.1.size 5 (AV [.s ⟨#[]⟩,.s ⟨#[]⟩,.i 0,.l none 0 0,.i 0])c:AE w1 (w.1.size+1) 3 (AV [.i 0,.l none 0 0,.i 0])
theorem OpT.new{w w1:World}(hr:Rd w1 ((w.alloc (.cells #[.s ⟨#[]⟩,.s ⟨#[]⟩,.i 0,.l none 0 0,.i 0] 25)).alloc (.cells #[.i 0,.l none 0 0,.i 0] 28)).1.size ad nn cq 0)(hb:Below ((w.alloc (.cells #[.s ⟨#[]⟩,.s ⟨#[]⟩,.i 0,.l none 0 0,.i 0] 25)).alloc (.cells #[.i 0,.l none 0 0,.i 0] 28)).1.size ((w.alloc (.cells #[.s ⟨#[]⟩,.s ⟨#[]⟩,.i 0,.l none 0 0,.i 0] 25)).alloc (.cells #[.i 0,.l none 0 0,.i 0] 28)) w1):OpT w w1 ad nn cq:=by have a:=AE.new (w:=w) (l:=[.s ⟨#[]⟩,.s ⟨#[]⟩,.i 0,.l none 0 0,.i 0]) (t:=25) (Ak (w.alloc (.cells #[.s ⟨#[]⟩,.s ⟨#[]⟩,.i 0,.l none 0 0,.i 0] 25)) (.cells #[.i 0,.l none 0 0,.i 0] 28));have c:=AE.new (w:=w.alloc (.cells #[.s ⟨#[]⟩,.s ⟨#[]⟩,.i 0,.l none 0 0,.i 0] 25)) (l:=[.i 0,.l none 0 0,.i 0]) (t:=28) Dx;rw[Av]at c;rw[Av,Av]at hr;exact⟨hr,(((Ap _ _).alloc A9 _).alloc Ze _).trans (hb.mono Zd),a.below hb a.lt,c.below hb c.lt⟩
structure xP (w:World)(ad:OA)(nn cq lo hi zm zn:Nat)(s1 s2:ByteArray)(nw sn:Int)(am:OA)(n cp:Nat)(os:Nat->Ob)(cd fv:Int)(an:OA)(m cn:Nat)(X:World):Prop where
 r:∃p',p'<=400000/\Rd X (w.1.size+1+1) ad nn cq p'
 ms:Bh X lo hi am n os
 a:∃l,AE X w.1.size 5 (AV l)c:∃l,AE X (w.1.size+1) 3 (AV l)z:AE X zm 5 (AV [.s s1,.s s2,.i nw,.l am n cp,.i sn])n_:AE X zn 3 (AV [.i cd,.l an m cn,.i fv])b:Below w.1.size w X
 o:w.1.size+1+1<lo/\lo<=hi/\hi<=zm/\zm<zn
theorem xP.fr{w:World}(h:xP w ad nn cq lo hi zm zn s1 s2 nw sn am n cp os cd fv an m cn X)(hF:AB U X Z)(hU:∀q,U q->q=(w.1.size+1+1)\/hi<=q)(hr:Rd Z (w.1.size+1+1) ad nn cq p')(hp:p'<=400000)(hz:AE Z zm 5 (AV [.s s1,.s s2,.i nw',.l am n cp,.i sn]))(hn:AE Z zn 3 (AV [.i cd',.l an' m' cn',.i fv'])):xP w ad nn cq lo hi zm zn s1 s2 nw' sn am n cp os cd' fv' an' m' cn' Z:=by obtain⟨h1,h2,h3,h4⟩:=h.o;have hs:=h.z.lt;obtain⟨l,ha⟩:=h.a;obtain⟨l2,hc⟩:=h.c;exact⟨⟨p',hp,hr⟩,h.ms.fr4 hF Za (λq u=>by rcases hU q u with e|e<;>omega),⟨l,ha.fr hF (λu=>by rcases hU _ u with e|e<;>omega)⟩,⟨l2,hc.fr hF (λu=>by rcases hU _ u with e|e<;>omega)⟩,hz,hn,h.b.trans (hF.below (λq hq u=>by rcases hU q u with e|e<;>omega) h.b.size),h.o⟩
theorem xP.pick{w:World}(h:xP w ad nn cq lo hi zm zn s1 s2 nw sn am n cp os cd fv an m cn X)(hF:AB (λq=>q=(w.1.size+1+1)) X Z)(hr:Rd Z (w.1.size+1+1) ad nn cq p')(hp:p'<=400000):xP w ad nn cq lo hi zm zn s1 s2 nw sn am n cp os cd fv an m cn Z:=by obtain⟨h1,h2,h3,h4⟩:=h.o;exact h.fr hF (λq e=>AA e) hr hp (h.z.fr hF Za) (h.n_.fr hF Za)
theorem xP.set{w:World}(h:xP w ad nn cq lo hi zm zn s1 s2 nw sn am n cp os cd fv an m cn X)(hF:AB (λq=>q=g) X Z)(hg:hi<=g)(FO:∀b off,ad=some ⟨b,off,none⟩->b<w.1.size)(hz:AE Z zm 5 (AV [.s s1,.s s2,.i nw',.l am n cp,.i sn]))(hn:AE Z zn 3 (AV [.i cd',.l an' m' cn',.i fv'])):xP w ad nn cq lo hi zm zn s1 s2 nw' sn am n cp os cd' fv' an' m' cn' Z:=by obtain⟨h1,h2,h3,h4⟩:=h.o;obtain⟨p',hp,hr⟩:=h.r;exact h.fr hF (λq e=>Az (by have e:q=g:=e;omega)) (hr.keep2 hr hF Za (λb off e=>by have:=FO b off e;omega)) hp hz hn
def TkC (w:World)(ad:OA)(nn cq lo hi zm zn l2:Nat)(s1 s2:ByteArray)(sn:Int)(am:OA)(n cp:Nat)(os:Nat->Ob)(X:World):Prop:=∃(nw cd fv:Int)(an:OA)(m cn:Nat)(x:Nat->Ch),xP w ad nn cq lo hi zm zn s1 s2 nw sn am n cp os cd fv an m cn X/\Sx X l2 an m x
structure NwB (X:World)(l2 zn:Nat)(an:OA)(g m cn:Nat)(x:Nat->Ch)(c:Nat->Value)(An:Nat->Option Addr)(Cn:Nat->Nat):Prop where
 i:VV X l2 an g m cn x c An Cn
 ne:0<cn->¬g=zn
 ns:IC X zn
 zl:l2<=zn/\zn<X.1.size
theorem NwB.pick (h:NwB X l2 zn an g m cn x c An Cn)(hF:AB (λq=>q=R) X Z)(hR:R<l2):NwB Z l2 zn an g m cn x c An Cn:=⟨h.i.fr hF (λq e=>AA (by have e:q=R:=e;omega)) (λh0 e=>by have:=h.i.lg h0;have e:g=R:=e;omega),h.ne,h.ns.fr hF h.zl.2 (λe=>by have:=h.zl.1;have e:zn=R:=e;omega),h.zl.1,Aa h.zl.2 hF.size⟩
theorem NwB.box (h:NwB X l2 zn an g m cn x c An Cn)(o:Nat)(v:Value):Sx (X.setCell ⟨zn,o,none⟩ v) l2 an m x:=(h.i.fr ((AB.refl (λq=>q=zn) X).setCell (p:=⟨zn,o,none⟩) rfl v) (λq e=>Az (by have e:q=zn:=e;rw[e];exact h.ns)) (λh0 e=>h.ne h0 e)).w
theorem UU (ad:OA)(nB cap:Nat)(w:World)(hn:(nB:Int)<=1048576)(hc:nB<=cap)(hb:FT w ad nB)(FO:∀b off,ad=some ⟨b,off,none⟩->b<w.1.size):Calls prog 4 #[.l ad nB cap] w λe w'=>Dr4 w e w':=by
 have MU:Below w.1.size w ((w.alloc (.cells #[.s ⟨#[]⟩,.s ⟨#[]⟩,.i 0,.l none 0 0,.i 0] 25)).alloc (.cells #[.i 0,.l none 0 0,.i 0] 28)):=((Ap _ _).alloc A9 _).alloc Ze _;have MA:=Ab (show FT ((w.alloc (.cells #[.s ⟨#[]⟩,.s ⟨#[]⟩,.i 0,.l none 0 0,.i 0] 25)).alloc (.cells #[.i 0,.l none 0 0,.i 0] 28)) ad nB from λi hi=>by obtain⟨b,off,v,e1,e2,e3,e4,e5⟩:=hb i hi;exact⟨b,off,v,e1,Aa e2 MU.size,(MU.cell (p:=⟨b,off+i,none⟩) e2).trans e3,e4,e5⟩);have MH:=Ab FO;clear hb FO MU;go_enter func4,ntmps4;go_upto_region 2 with(go_at_call 13;go_must(refine(Nc ad nB cap _ hn hc MA).mono ?_;rintro e w1 ⟨nn,cq,rfl,PT,Ds⟩));have HS:=Ab (OpT.new PT Ds);clear PT Ds MA hn hc;have hRl:=HS.r.lt;go_upto_region 3 with(go_at_call 14;go_must(refine(Sb (w.1.size+1+1) ad nn cq 0 _ HS.r Zb (λb off e=>by have:=MH b off e;omega)).mono ?_;rintro e w3 ⟨Y,b1,b2,b3,k1,k2,k3,s1,s2,nw,sn,am,n,cp,os,rfl,j7,hM,hf,p3,GM,Lz,Gi⟩));have Ks:=hM.k;have Qt:=hM.p;have hnw:=hM.a;have HF:=Ab hM.lfit;have VH:=hf.size;have C6:Below w3.1.size w3 ((w3.alloc (.cells (vB Y b1 b2 b3 k1 k2 k3) 36)).alloc (.cells #[.s s1,.s s2,.i nw,.l am n cp,.i sn] 25)):=((Ap _ _).alloc A9 _).alloc Ze _;have tE:=AE.new (w:=w3) (l:=(JR Y b1 b2 b3 k1 k2 k3)) (t:=36) (Ak (w3.alloc (.cells (vB Y b1 b2 b3 k1 k2 k3) 36)) (.cells #[.s s1,.s s2,.i nw,.l am n cp,.i sn] 25));have iw:=AE.new (w:=w3.alloc (.cells (vB Y b1 b2 b3 k1 k2 k3) 36)) (l:=[.s s1,.s s2,.i nw,.l am n cp,.i sn]) (t:=25) Dx;rw[Av]at iw;have HRB:=Ab tE;have HRZ:=Ab iw;have w_:=Ab (j7.bv.below C6);have YA:=Ab (Gi.below C6);have ky:=Ab (hf.trans (Aj (P:=λq=>q=(w.1.size+1+1)) C6));have HMI:=Ab (hM.i.fr4 (Aj (P:=λ_=>False) C6) A9 (λq e=>e.elim));clear tE iw j7 Gi hf hM C6;refine Aa3 (AV [_,_,_,_,_,_,_,_,_,_,_,_,_]) (w.1.size+1+1) ad nn cq p3 w3.1.size (w3.1.size+1) Y b1 b2 b3 k1 k2 k3 s1 s2 nw sn am n cp _ YA Za Zd Za HRB Ze Za HRZ w_ Qt rfl _ ?_;intro t zn cd fv an g m cn x c An Cn pz X ht hzl By hNI CF Ss hF CO Dj AW;have hW4:((w3.alloc (.cells (vB Y b1 b2 b3 k1 k2 k3) 36)).alloc (.cells #[.s s1,.s s2,.i nw,.l am n cp,.i sn] 25)).1.size=w3.1.size+1+1:=Ze;rw[ht];have HT:=Ab (show xP w ad nn cq w1.1.size w3.1.size (w3.1.size+1) zn s1 s2 nw sn am n cp os cd fv an m cn X from⟨⟨pz,Za,AW⟩,HMI.fr4 hF Za (λq e=>AA Za),⟨_,HS.a.fr (ky.trans hF) Za⟩,⟨_,HS.c.fr (ky.trans hF) Za⟩,HRZ.fr hF Za,By,HS.b.trans ((ky.trans hF).below (λq hq e=>by omega) HS.b.size),Za,Za,Za,Za⟩);have cD:=hNI.le;obtain⟨l2,Ut⟩:∃l2,((w3.alloc (.cells (vB Y b1 b2 b3 k1 k2 k3) 36)).alloc (.cells #[.s s1,.s s2,.i nw,.l am n cp,.i sn] 25)).1.size=l2:=⟨_,rfl⟩;have Ai6:l2=w3.1.size+1+1:=by rw[<-Ut];exact hW4
 rw[Ut]at hNI hzl;have HN:=Ab (show NwB X l2 zn an g m cn x c An Cn from⟨hNI,CF,Ss,hzl,By.lt⟩);have gH:=Ab AW;clear hNI CF Ss By hF AW ht HRB HRZ w_ YA ky HMI HS hW4 Ut;have q0:=HT.n_.cell 0 Zb;have q1:=HT.n_.cell 1 Zb;have q2:=HT.n_.cell 2 Zb;simp only[AV,Ac,Ad]at q0 q1 q2;have qf:=HT.n_.free;have ql:=HT.n_.lt;go_upto_region 5 with(go_at_call 16;go_must(refine(Bt (w.1.size+1+1) ad nn cq _ m _ gH Za Za Za).mono ?_;rintro e w5 ⟨k,rfl,hy0,hy1,gF,ka⟩));have Ph:=Ab (HT.pick gF ka Za);have HN5:=Ab (HN.pick gF Za);have jZ:=Ab ka;have ic:0<m->k<m:=λh0=>by have:=hy1 Za;omega
 clear q0 q1 q2 qf ql HT HN gH gF ka hy0 hy1;go_upto_block 0 with(go_at_call 16;go_must(refine(Bt (w.1.size+1+1) ad nn cq _ 10 _ jZ Za Zb Zb).mono ?_;rintro e w6 ⟨y,rfl,_,hy,gp,uo⟩));have Ajn:=hy Zb;have LC:=Ab (Ph.pick gp uo Za);have Pe:=Ab (HN5.pick gp Za);have kB:=Ab uo;clear Ph HN5 jZ gp uo hy;have hz6:=LC.o.2.2;have Aji:=Pe.zl;go_cut[](λwx=>TkC w ad nn cq w1.1.size w3.1.size (w3.1.size+1) zn l2 s1 s2 sn am n cp os wx);case first=>
  by_cases y0:y=0
  .subst y0;have q0:=LC.n_.cell 0 Zb;have q1:=LC.n_.cell 1 Zb;have q2:=LC.n_.cell 2 Zb;simp only[AV,Ac,Ad]at q0 q1 q2;have qf:=LC.n_.free;have ql:=LC.n_.lt;go_wp2_with (go_at_call 16;go_must(refine(Bt (w.1.size+1+1) ad nn cq _ 20 _ kB Za Zb Zb).mono ?_;rintro e w7 ⟨v,rfl,_,hv,hf7,hr7⟩;have OD:=Ab (LC.pick hf7 hr7 Za);have jo:=Ab (Pe.pick hf7 Za);clear q0 q1 q2 qf ql hv hf7 hr7;have q0:=OD.n_.cell 0 Zb;have q1:=OD.n_.cell 1 Zb;have q2:=OD.n_.cell 2 Zb;simp only[AV,Ac,Ad]at q0 q1 q2;have qf:=OD.n_.free;have ql:=OD.n_.lt));go_meet;case rel=>have F:=(AB.refl (λq=>q=zn) w7).setCell (p:=⟨zn,2,none⟩) rfl (.i (v:Int));exact⟨nw,cd,v,an,m,cn,x,OD.set F Za MH (OD.z.fr F Za) ((OD.n_.set (o:=2) Za (.i (v:Int))).congr (λj hj=>by rcases(show j=0\/j=1\/j=2 by omega)with rfl|rfl|rfl<;>rfl)),jo.box 2 _⟩
   --c0>
  by_cases y1:y=1
  .subst y1;have q0:=LC.n_.cell 0 Zb;have q1:=LC.n_.cell 1 Zb;have q2:=LC.n_.cell 2 Zb;simp only[AV,Ac,Ad]at q0 q1 q2;have qf:=LC.n_.free;have ql:=LC.n_.lt;by_cases m0:0<m
   .have iq:0<cn:=by have:=Pe.i.rw.le;omega
    obtain rfl:an=some ⟨g,0,none⟩:=Pe.i.rw.addr iq;have Ws:=Pe.i.lg iq;have hgz:=Pe.ne iq;have qD:=ic m0;go_upto_region 10 with fail;refine pt (AV [_,_,_,_,_,_,_,_,_,_]) (w.1.size+1+1) ad nn cq _ zn k cd fv g m cn x c An Cn _ kB Za Za (λe=>hgz e.symm) LC.n_ Za Pe.i.rw Pe.i.d Pe.i.one qD Za (λb off e=>by have:=MH b off e;omega) rfl _ ?_;rintro t ad' cap' g' pz' X0 X1 rfl ⟨FW,hg'⟩ hF _ _ AW;have F:=(hF.mono (Q:=λq=>q=(w.1.size+1+1)\/q=zn\/(0<cn/\q=g)) (λq u=>by rcases u with u|u;exact AA u;exact Az (Az u))).setCell (p:=⟨zn,1,none⟩) (Az (AA rfl)) (.l ad' (m+1:Nat) cap');have F0:=(AB.refl (λq=>q=zn) X0).setCell (p:=⟨zn,1,none⟩) rfl (.l ad' (m+1:Nat) cap');have LU:=(LC.n_.fr hF (λu=>by rcases u with u|u;(have u:zn=(w.1.size+1+1):=u;omega);exact hgz u.2.symm)).set (o:=1) Za (.l ad' (m+1:Nat) cap');have HZ:=Ab (show TkC w ad nn cq w1.1.size w3.1.size (w3.1.size+1) zn l2 s1 s2 sn am n cp os (X0.setCell ⟨zn,1,none⟩ (.l ad' (m+1:Nat) cap'))from⟨nw,cd,fv,ad',m+1,cap',_,LC.fr F (λq u=>by rcases u with u|u|u;exact AA u;(have u:q=zn:=u;right;omega);(have:=u.2;right;omega)) (AW.keep2 AW F0 Za (λb off e=>by have:=MH b off e;omega)) Za (LC.z.fr F (λu=>by rcases u with u|u|u;(have u:w3.1.size+1=(w.1.size+1+1):=u;omega);(have u:w3.1.size+1=zn:=u;omega);(have:=u.2;omega))) (LU.congr (λj hj=>by rcases(show j=0\/j=1\/j=2 by omega)with rfl|rfl|rfl<;>rfl)),Pe.i.app qD Za zn Pe.ns F (FW.fr F0 (λ_ e=>by rcases hg' with u|u;(exact hgz (u.2.symm.trans e));(have e:g'=zn:=e;omega))) (by rcases hg' with u|u;exact AA u;right;omega)⟩);clear FW hF AW F F0 LU q0 q1 q2 qf ql LC Pe kB;go_wp2_with fail;go_meet;case rel=>exact HZ
   .exact zo
   --c1>
  by_cases y2:y=2
  .subst y2;have q0:=LC.n_.cell 0 Zb;have q1:=LC.n_.cell 1 Zb;have q2:=LC.n_.cell 2 Zb;simp only[AV,Ac,Ad]at q0 q1 q2;have qf:=LC.n_.free;have ql:=LC.n_.lt;by_cases m0:0<m
   .have iq:0<cn:=by have:=Pe.i.rw.le;omega
    obtain rfl:an=some ⟨g,0,none⟩:=Pe.i.rw.addr iq;have Ws:=Pe.i.lg iq;have hgz:=Pe.ne iq;have qD:=ic m0;go_upto_region 13 with fail;refine qe (AV [_,_,_,_,_,_,_,_,_,_,_,_]) (w.1.size+1+1) ad nn cq _ zn k cd fv g m cn x c An Cn _ kB Za Za LC.n_ Za Pe.i.rw Pe.i.d qD rfl _ ?_;rintro t X0 pz' X1 rfl hF _ _ AW;have OD:=Ab (LC.pick hF AW Za);have jo:=Ab (Pe.pick hF Za);have F:=(AB.refl (λq=>q=g) X0).setCell (p:=⟨g,k*9+1,none⟩) rfl (.bool (!(x k).g));have HZ:=Ab (show TkC w ad nn cq w1.1.size w3.1.size (w3.1.size+1) zn l2 s1 s2 sn am n cp os (X0.setCell ⟨g,k*9+1,none⟩ (.bool (!(x k).g)))from⟨nw,cd,fv,_,m,cn,_,OD.set F Za MH (OD.z.fr F Za) (OD.n_.fr F (λe=>hgz e.symm)),jo.i.flip qD _⟩);clear hF AW F q0 q1 q2 qf ql LC Pe kB OD jo;go_wp2_with fail;go_meet;case rel=>exact HZ
   .exact zo
   --c2>
  by_cases y3:y=3
  .subst y3;go_upto_region 15 with fail;refine om (AV [_,_,_,_,_,_]) (w.1.size+1+1) ad nn cq _ (w3.1.size+1) s1 s2 nw sn am n cp _ kB Za LC.z.lt Za LC.z hnw rfl _ ?_;rintro t v X0 pz' X1 hv rfl hF _ _ AW;have OD:=Ab (LC.pick hF AW Za);have jo:=Ab (Pe.pick hF Za);have F:=(AB.refl (λq=>q=w3.1.size+1) X0).setCell (p:=⟨w3.1.size+1,2,none⟩) rfl (.i (nw+v));have HZ:=Ab (show TkC w ad nn cq w1.1.size w3.1.size (w3.1.size+1) zn l2 s1 s2 sn am n cp os (X0.setCell ⟨w3.1.size+1,2,none⟩ (.i (nw+v)))from⟨nw+v,cd,fv,an,m,cn,_,OD.set F Za MH ((OD.z.set (o:=2) Za (.i (nw+v))).congr (λj hj=>by rcases(VU j Za)with rfl|rfl|rfl|rfl|rfl<;>rfl)) (OD.n_.fr F Za),jo.i.w.fr F (λq hq e=>by omega)⟩);clear hF AW F LC Pe kB OD jo;go_wp2_with fail;go_meet;case rel=>exact HZ
   --c3>
  by_cases y4:y=4
  .subst y4;have q0:=LC.n_.cell 0 Zb;have q1:=LC.n_.cell 1 Zb;have q2:=LC.n_.cell 2 Zb;simp only[AV,Ac,Ad]at q0 q1 q2;have qf:=LC.n_.free;have ql:=LC.n_.lt;go_wp2_with (go_at_call 16;go_must(refine(Bt (w.1.size+1+1) ad nn cq _ 3 _ kB Za Zb Zb).mono ?_;rintro e w7 ⟨v,rfl,_,hv,hf7,hr7⟩;have OD:=Ab (LC.pick hf7 hr7 Za);have jo:=Ab (Pe.pick hf7 Za);clear q0 q1 q2 qf ql hv hf7 hr7;have q0:=OD.n_.cell 0 Zb;have q1:=OD.n_.cell 1 Zb;have q2:=OD.n_.cell 2 Zb;simp only[AV,Ac,Ad]at q0 q1 q2;have qf:=OD.n_.free;have ql:=OD.n_.lt));go_meet;case rel=>have F:=(AB.refl (λq=>q=zn) w7).setCell (p:=⟨zn,0,none⟩) rfl (.i (v:Int));exact⟨nw,v,fv,an,m,cn,x,OD.set F Za MH (OD.z.fr F Za) ((OD.n_.set (o:=0) Za (.i (v:Int))).congr (λj hj=>by rcases(show j=0\/j=1\/j=2 by omega)with rfl|rfl|rfl<;>rfl)),jo.box 0 _⟩
   --c4>
  --<c5
  go_wp2_with fail;go_meet;case rel=>exact⟨nw,cd,fv,an,m,cn,x,LC,Pe.i.w⟩
  --c5>
 case rest=>have HL:=Ab hcut;clear hcut kB LC Pe ic hnw cD hz6 cd fv an m cn x nw c An Cn g;obtain⟨nw,cd,fv,an,m,cn,x,hT,hN⟩:=HL.out;have HT:=Ab hT;have HN:=Ab hN;obtain⟨o1,o2,o3,o4⟩:=hT.o;obtain⟨p',CO,hr⟩:=hT.r;have HR:=Ab hr;clear HL hT hN hr;go_upto_region 18 with fail;refine qp (AV [_,_]) (w.1.size+1+1) ad nn cq p' w.1.size (w.1.size+1) (w3.1.size+1) zn s1 s2 nw sn am n cp cd fv an m cn _ HR ⟨HT.a,HT.c,HT.z,HT.n_⟩ Za Za Za Za Za (λb off e=>by have:=MH b off e;omega) rfl _ ?_;intro t X hf ha hc;obtain⟨a0,a1,a2,a3,a4⟩:=JQ ha;obtain⟨c0,c1,c2⟩:=CT3 hc;have hz:=HT.z.lt;have HZ:=Ab (show MG X (Fb n os) am n/\Lm 100 (Fb n os)/\Sx X 0 an m x/\Below w.1.size w X from⟨bF (HT.ms.fr4 hf Za (λq e=>by left;omega)) (by have:=hf.size;omega),HF,(HN.fr hf (λq hq e=>by omega)).zero,HT.b.trans (hf.below (λq hq e=>by omega) HT.b.size)⟩);clear hf ha hc HT HN HR HF;go_wp2_with fail;refine bodyPost_ret (v:=.tuple #[.agg #[.s s1,.s s2,.i nw,.l am n cp,.i sn],.agg #[.i cd,.l an m cn,.i fv]]) (by simp[results,results4,go_sem,a0,a1,a2,a3,a4,c0,c1,c2]) rfl ⟨s1,s2,nw,sn,am,n,cp,Fb n os,cd,fv,an,m,cn,x,rfl,HZ⟩
  --r1>
end Go.Proofs.YtdknjmgdgnmhjaaGreat
