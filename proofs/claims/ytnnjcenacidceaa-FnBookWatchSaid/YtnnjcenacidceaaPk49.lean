import Derived.Test.YtnnjcenacidceaaPk43
set_option maxRecDepth 100000
set_option maxHeartbeats 4000000
namespace Go.Proofs.Ytnnjcenacidceaa
open Go.RowKit Go.Proofs.Try
def ZT (_R:Nat)(T:Nat)(x:Bk)(g1 _g2:Nat)(_a3:OA)(d1 _d2 _d3 o _h:Nat)(y:Ob)(_z:Ch)(ah _bh:OA)(ch _eh:Nat)(cA:Nat->Value)(W:World)(i:Nat)(v:Value)(X:World):Prop:=match i with
 |0=>v=.p T 2
 |1=>v=.l (some ⟨g1,0,none⟩) x.on d1
 |2=>v=.p T 2
 |3=>v=.l (some ⟨g1,0,none⟩) x.on d1
 |4=>v=.i (o:Nat)
 |5=>v=.pointer (some ⟨g1,o*7,none⟩)
 |6=>v=.agg (vO y ah ch)
 |7=>∃g:Nat,v=.l (some ⟨g,0,none⟩) 1 1/\W.1.size<=g/\g<X.1.size/\∀f,f<7->X.cell? ⟨g,f,none⟩=some (AR (oc y ah ch) f)
 |8=>∃(ad':OA)(cap' g':Nat),v=.l ad' (x.on+1) cap'/\Rw X ad' g' (x.on+1) cap' 7 (BO cA (x.on*7) (AR (oc y ah ch)))/\((0<d1/\g'=g1)\/W.1.size<=g')
 |9=>v=.p T 2
 |_=>True
theorem Wl{P:Prop}(h:P:=by have h:=hK (.p T 2) X p' uK Za rfl (Az.refl _ _) hrd;refine Ag rfl rfl ?_;clear hK hg;go_simp;simpa[Av]using h):P:=h
theorem mV{p1 p2 p3 p4 p8 p9 DX DK DV DF C9 CV CU C6 C8 CZ Df C7 C4 CY Dw Di Dj Dg Dh Dy Dx DC DB DA Dz DH Ek Eu EE Ej Em Er Eo En Ei Eh Ds DU DW DI DG D7 D4 D3 D8 D1 D0 D2 D5 DY EA Ey Ew Ex Ez El Ep DM Fk Fg Fo Fm Fp Fl Fq Ff Fj GR GU GT Fi Fh FK FA FM GZ KR KF KD KC KG KE GS GV G4 G7 G3 G5 G6 KH Cp Cu Cn Ci Cj Cg Ck Cm Co CF CJ CI CE Cy CB Cz CA CD CG CQ CS CR DT DP DN Dm Du Dp Ed Dr Dq Do Dt DQ DJ De Db Dc DO DL DR DS Dl EH ER EU EW ES EV ET EL EM EK EJ EN EP Fa Fb FO Gd Fx FU Gc FP Fy FN Gf FE Gb F8 FH FV Fz E9 Fc FR FT Ge FL FI FJ Ga FW FY FC FX FQ Kv Jj IR JX GH Gh JY IY Kj Hk Jc Jk IP Km Ko I6 Kd Jw Gz Gu I3 J2 Hm ID IW Ik JK Ju Ki Il Ha Hn Gi GC JD I1 Ka H9 Jp Hw Ji I5 Jh Is JN J3 Ii JT JR IU Hp JZ GD GF GN GJ Hx J7 IE Hu J6 J0 Im Jq Hr Kc If Gw GA Jo JM Hy Hg IC J8 Hq Ke IH J1 Jr Kr Gn Gr Je IS IN Ib Hb Iv Kn Hi JU Ku Ja Ho GK Gv Kg I0 Kw I7 Iy Iq Hh I4 IZ H7 Hz Ij Hd IX He JS Js JG Kh IV Gp Gl Jt H8 Jz IT IK I2 Ks Ie JO Iw JL Gm Gy Gs GL Gk GI Gt Gj JF IB Hf Ia JB Hs JJ Jn JA JH Jy GB GE IF Jd Iz H5 Jg Hc Kf Ir JP JW Hl Iu Jm Ic JC Kl Hj H6 Ip II Ih IA I8 Jf JE Kt IG I9 It Gq GG In IL JQ J9 Ig IJ Hv Io JV J5 Gx:Value}{mk:(Nat->Value)->Array Value}(t0:Nat->Value)(R:Nat)(ad:OA)(nn cap p:Nat)(T:Nat)(x:Bk)(g1 g2:Nat)(a3:OA)(d1 d2 d3 o h:Nat)(y:Ob)(z:Ch)(ah bh:OA)(ch eh:Nat)(cA:Nat->Value)(W:World)(hr:Rd W R ad nn cap p)(_hp:p<=600000)(H:Sg W R T x g1 g2 a3 d1 d2 d3 o h y z ah bh ch eh)(HA:wR W R T ad x g1 d1 cA)(hmk:mk=λt=>#[.p R 0,p1,p2,p3,p4,.p T 0,.i (o:Nat),.i (h:Nat),p8,p9,DX,DK,DV,DF,C9,CV,CU,C6,C8,CZ,Df,C7,C4,CY,Dw,Di,Dj,Dg,Dh,Dy,Dx,DC,DB,DA,Dz,DH,Ek,Eu,EE,Ej,Em,Er,Eo,En,Ei,Eh,Ds,DU,DW,DI,DG,D7,D4,D3,D8,D1,D0,D2,D5,DY,EA,Ey,Ew,Ex,Ez,El,Ep,DM,Fk,Fg,Fo,Fm,Fp,Fl,Fq,Ff,Fj,GR,GU,GT,Fi,Fh,FK,FA,FM,GZ,KR,KF,KD,KC,KG,KE,GS,GV,G4,G7,G3,G5,G6,KH,Cp,Cu,Cn,Ci,Cj,Cg,Ck,Cm,Co,CF,CJ,CI,CE,Cy,CB,Cz,CA,CD,CG,CQ,CS,CR,DT,DP,DN,Dm,Du,Dp,Ed,Dr,Dq,Do,Dt,DQ,DJ,De,Db,Dc,DO,DL,DR,DS,Dl,EH,ER,EU,EW,ES,EV,ET,EL,EM,EK,EJ,EN,EP,Fa,Fb,FO,Gd,Fx,FU,Gc,FP,Fy,FN,Gf,FE,Gb,F8,FH,FV,Fz,E9,Fc,FR,FT,Ge,FL,FI,FJ,Ga,FW,FY,FC,FX,FQ,Kv,Jj,IR,JX,GH,Gh,JY,IY,Kj,Hk,Jc,Jk,IP,Km,Ko,I6,Kd,Jw,Gz,Gu,I3,J2,Hm,ID,IW,Ik,JK,Ju,Ki,Il,Ha,Hn,Gi,GC,JD,I1,Ka,H9,Jp,Hw,Ji,I5,Jh,Is,JN,J3,Ii,JT,JR,IU,Hp,JZ,GD,GF,t 0,t 1,t 2,t 3,t 4,t 5,t 6,t 7,t 8,t 9,GN,GJ,Hx,J7,IE,Hu,J6,J0,Im,Jq,Hr,Kc,If,Gw,GA,Jo,JM,Hy,Hg,IC,J8,Hq,Ke,IH,J1,Jr,Kr,Gn,Gr,Je,IS,IN,Ib,Hb,Iv,Kn,Hi,JU,Ku,Ja,Ho,GK,Gv,Kg,I0,Kw,I7,Iy,Iq,Hh,I4,IZ,H7,Hz,Ij,Hd,IX,He,JS,Js,JG,Kh,IV,Gp,Gl,Jt,H8,Jz,IT,IK,I2,Ks,Ie,JO,Iw,JL,Gm,Gy,Gs,GL,Gk,GI,Gt,Gj,JF,IB,Hf,Ia,JB,Hs,JJ,Jn,JA,JH,Jy,GB,GE,IF,Jd,Iz,H5,Jg,Hc,Kf,Ir,JP,JW,Hl,Iu,Jm,Ic,JC,Kl,Hj,H6,Ip,II,Ih,IA,I8,Jf,JE,Kt,IG,I9,It,Gq,GG,In,IL,JQ,J9,Ig,IJ,Hv,Io,JV,J5,Gx])(Q:Exit->Act->World->Prop)(hQ:∀(t:Nat->Value)(ad':OA)(cap' g' pz:Nat)(X0:World),(Rw X0 ad' g' (x.on+1) cap' 7 (BO cA (x.on*7) (AR (oc y ah ch)))/\((0<d1/\g'=g1)\/W.1.size<=g'))->Az (λq=>q=R\/(0<d1/\q=g1)) W X0->p<=pz->pz<=p+10->Rd X0 R ad nn cap pz->Q .normal ⟨mk t,[]⟩ (X0.setCell ⟨T,2,none⟩ (.l ad' (x.on+1) cap'))):Code.wp prog (rg Try.f44 42) Q ⟨mk t0,[]⟩ W:=by
 have hRW:=hr.lt;have hPl:∀q,(λq=>q=R\/(0<d1/\q=g1)) q->q<W.1.size:=λq e=>by
  rcases e with e|e;.omega
  .have:=H.l1;omega
 refine NK Ze 10 1 8 (λj=>match j with|_=>10) (λj=>match j with|0=>1|1=>8|2=>3|3=>5|4=>5|5=>6|6=>7|7=>8|_=>0) (λj=>decide (j<8)) (λq=>q=R\/(0<d1/\q=g1)) mk t0 R ad nn cap p (ZT R T x g1 g2 a3 d1 d2 d3 o h y z ah bh ch eh cA W) (λa X=>∃(t:Nat->Value)(ad':OA)(cap' g' pz:Nat)(X0:World),a=⟨mk t,[]⟩/\X=(X0.setCell ⟨T,2,none⟩ (.l ad' (x.on+1) cap'))/\(Rw X0 ad' g' (x.on+1) cap' 7 (BO cA (x.on*7) (AR (oc y ah ch)))/\((0<d1/\g'=g1)\/W.1.size<=g'))/\Az (λq=>q=R\/(0<d1/\q=g1)) W X0/\p<=pz/\pz<=p+10/\Rd X0 R ad nn cap pz) Ze Ze Ze Ze ?_ ?_ (AA rfl) rfl hr ?_ ?_ ?_ ?_;all_goals subst hmk
 .intro i v X Z p' hi him h hF hRd hR hX;rcases(show i=0\/i=1\/i=2\/i=3\/i=4\/i=5\/i=6\/i=7\/i=8\/i=9 by omega)with rfl|rfl|rfl|rfl|rfl|rfl|rfl|rfl|rfl|rfl;.exact h
  .exact h
  .exact h
  .exact h
  .exact h
  .exact h
  .exact h
  .obtain⟨g,e,y1,y2,y3⟩:=h;exact⟨g,e,y1,Ac y2 hF.size,λf hf=>(hF.cell (p:=⟨g,f,none⟩) y2 (λq=>by have:=hPl g q;omega)).trans (y3 f hf)⟩
  .exact absurd rfl him
  .exact h
 .intro i v X Z p' hi h hF hRd hR hX;rcases(show i=0\/i=1\/i=2\/i=3\/i=4\/i=5\/i=6\/i=7\/i=8\/i=9 by omega)with rfl|rfl|rfl|rfl|rfl|rfl|rfl|rfl|rfl|rfl;.exact h
  .exact h
  .exact h
  .exact h
  .exact h
  .exact h
  .exact h
  .obtain⟨g,e,y1,y2,y3⟩:=h;exact⟨g,e,y1,Ac y2 hF.size,λf hf=>(hF.cell (p:=⟨g,f,none⟩) y2 (λq=>by have q:g=R:=q;omega)).trans (y3 f hf)⟩
  .obtain⟨ad',cap',g',e,y1,y2⟩:=h;exact⟨ad',cap',g',e,y1.fr hF (λh0 q=>by have q:g'=R:=q;rcases y2 with y2|y2;exact H.n1 (y2.2▸q);omega),y2⟩
  .exact h
 .intro i hi him t X K p' hb hfs hp1 hp2 hrd hg hK;rcases(show i=0\/i=1\/i=2\/i=3\/i=4\/i=5\/i=6\/i=7\/i=8\/i=9 by omega)with rfl|rfl|rfl|rfl|rfl|rfl|rfl|rfl|rfl|rfl;.exact Wl
  .have eq0:t 0=.p T 2:=hg 0 (AQ rfl);have q:=(hb.cell (p:=⟨T,2,none⟩) H.lt HA.nT).trans (H.row.cell 2 Zb);simp only[AR,Aa,Ab]at q;have h:=hK (.l (some ⟨g1,0,none⟩) x.on d1) X p' uK Za rfl (Az.refl _ _) hrd;refine Ag rfl rfl ?_;clear hK hg;go_simp;simpa[Av,eq0]using h
  .exact Wl
  .have eq2:t 2=.p T 2:=hg 2 (AQ rfl);have q:=(hb.cell (p:=⟨T,2,none⟩) H.lt HA.nT).trans (H.row.cell 2 Zb);simp only[AR,Aa,Ab]at q;have h:=hK (.l (some ⟨g1,0,none⟩) x.on d1) X p' uK Za rfl (Az.refl _ _) hrd;refine Ag rfl rfl ?_;clear hK hg;go_simp;simpa[Av,eq2]using h
  .have h:=hK (.i (o:Nat)) X p' uK Za rfl (Az.refl _ _) hrd;refine Ag rfl rfl ?_;clear hK hg;go_simp;simpa[Av]using h
  .have eq3:t 3=.l (some ⟨g1,0,none⟩) x.on d1:=hg 3 (AQ rfl);have eq4:t 4=.i (o:Nat):=hg 4 (AQ rfl);have hlt:=H.ho;have h:=hK (.pointer (some ⟨g1,o*7,none⟩)) X p' uK Za rfl (Az.refl _ _) hrd;refine Ag rfl rfl ?_;clear hK hg;go_simp;simpa[Av,eq3,eq4,hlt]using h
  .have eq5:t 5=.pointer (some ⟨g1,o*7,none⟩):=hg 5 (AQ rfl);have q0:=((hfs rK).cell (p:=⟨g1,o*7+0,none⟩) H.l1 H.n1).trans (H.c1 0 Zb);have q1:=((hfs rK).cell (p:=⟨g1,o*7+1,none⟩) H.l1 H.n1).trans (H.c1 1 Zb);have q2:=((hfs rK).cell (p:=⟨g1,o*7+2,none⟩) H.l1 H.n1).trans (H.c1 2 Zb);have q3:=((hfs rK).cell (p:=⟨g1,o*7+3,none⟩) H.l1 H.n1).trans (H.c1 3 Zb);have q4:=((hfs rK).cell (p:=⟨g1,o*7+4,none⟩) H.l1 H.n1).trans (H.c1 4 Zb);have q5:=((hfs rK).cell (p:=⟨g1,o*7+5,none⟩) H.l1 H.n1).trans (H.c1 5 Zb);have q6:=((hfs rK).cell (p:=⟨g1,o*7+6,none⟩) H.l1 H.n1).trans (H.c1 6 Zb);simp only[oc,AR,Aa,Ab,Bi]at q0 q1 q2 q3 q4 q5 q6;have h:=hK (.agg (vO y ah ch)) X p' uK Za rfl (Az.refl _ _) hrd;refine Ag rfl rfl ?_;clear hK hg;go_simp;simpa[Av,eq5]using h
  .have eq6:t 6=.agg (vO y ah ch):=hg 6 (AQ rfl);have h:=hK (.l (some ⟨X.1.size,0,none⟩) 1 1) (X.alloc (.cells (vO y ah ch) 38)) p' uK Za ⟨X.1.size,rfl,hb.size,Zc,λf hf=>(AN.new (w:=X) (l:=oc y ah ch) (t:=38) EF).cell f hf⟩ (Aq AG) (hrd.below AG);refine Ag rfl rfl ?_;clear hK hg;go_simp;simpa[Av,eq6]using h
  .exact absurd rfl him
  .exact Wl
 .intro hmn t X K p' hb hp1 hp2 hrd hg hK;obtain⟨g,eq7,y1,y2,y3⟩:∃g:Nat,t 7=.l (some ⟨g,0,none⟩) 1 1/\W.1.size<=g/\g<X.1.size/\∀f,f<7->X.cell? ⟨g,f,none⟩=some (AR (oc y ah ch) f):=hg 7 (AQ rfl);have eq1:t 1=.l (some ⟨g1,0,none⟩) x.on d1:=hg 1 (AQ rfl);have RW:=HA.rw.fr hb (λh0=>H.n1);obtain⟨ad',cap',g',Y,hrun,hrw,hfY,hg'⟩:=LA (P:=prog) X 23 23 38 7 96 _ underlying23 Ms Za Ze (some ⟨g1,0,none⟩) g1 x.on d1 cA RW HA.one g (g+1) (some ⟨g,0,none⟩) 1 1 (AR (oc y ah ch)) ⟨λj hj=>⟨g,0,rfl,AD _,By _,by rw[A6];exact y3 j hj⟩,λj hj=>eB _ _ _ j hj⟩ Za (by have:=HA.on;omega) (by have:=HA.on;omega);have hfA:Az (λq=>q=R\/(0<d1/\q=g1)) X Y:=hfY.mono (λq e=>AC e);have h:=hK (.l ad' (x.on+1) cap') Y p' uK Za ⟨ad',cap',g',rfl,hrw,hg'.imp id (AT hb.size)⟩ hfA (hrd.app hfY H.n1 HA.bt);refine Ag rfl rfl ?_;clear hK hg;refine EQ (.tmp 242) (.tmp 248) 23 23 rfl _ _ _ _ (by simpa[Act.eval,go_sem]using eq1) (by simpa[Act.eval,go_sem]using eq7) hrun ?_;simpa[Av,Act.put]using h
 .intro t X K p' hb hp1 hp2 hrd hg hK;have eq9:t 9=.p T 2:=hg 9 Za;obtain⟨ad',cap',g',eqm,hrw,hg'⟩:∃(ad':OA)(cap' g':Nat),t 8=.l ad' (x.on+1) cap'/\Rw X ad' g' (x.on+1) cap' 7 (BO cA (x.on*7) (AR (oc y ah ch)))/\((0<d1/\g'=g1)\/W.1.size<=g'):=hg 8 Za;have q:=(hb.cell (p:=⟨T,2,none⟩) H.lt HA.nT).trans (H.row.cell 2 Zb);have q2:=(hb.frozen (p:=⟨T,2,none⟩) H.lt HA.nT).trans (H.row.free _);simp only[AR,Aa,Ab]at q;have h:=hK _ _ ⟨t,ad',cap',g',p',X,rfl,rfl,⟨hrw,hg'⟩,hb,hp1,Za,hrd⟩;have HK:=Ah h;clear hK hg h;refine Ag rfl rfl ?_;go_simp;simpa[eq9,eqm]using HK.out
 .rintro a X ⟨t,ad',cap',g',pz,X0,rfl,rfl,z2,z3,z4,z5,z6⟩;exact hQ t ad' cap' g' pz X0 z2 z3 z4 z5 z6
end Go.Proofs.Ytnnjcenacidceaa
