import Derived.Test.YtnnjcenacidceaaPk41
set_option maxRecDepth 100000
set_option maxHeartbeats 4000000
namespace Go.Proofs.Ytnnjcenacidceaa
open Go.RowKit Go.Proofs.Try
def aK (R:Nat)(T:Nat)(x:Bk)(_g1 g2:Nat)(_a3:OA)(_d1 d2 _d3 _o h:Nat)(_y:Ob)(_z:Ch)(_ah _bh:OA)(_ch _eh:Nat)(W:World)(i:Nat)(v:Value)(X:World):Prop:=match i with
 |0=>v=.p T 3
 |1=>v=.l (some ⟨g2,0,none⟩) x.hn d2
 |2=>v=.i (h:Nat)
 |3=>∃g:Nat,v=.l (some ⟨g,0,none⟩) 3 3/\W.1.size<=g/\g<X.1.size/\∀k,k<3->∃s:ByteArray,X.cell? ⟨g,k,none⟩=some (.s s)/\s.size<=1000
 |4=>v=.p R 0
 |5=>∃k:Nat,k<3/\v=.i k
 |6=>∃(g k:Nat)(s:ByteArray),v=.pointer (some ⟨g,k,none⟩)/\(W.1.size<=g/\g<X.1.size)/\X.cell? ⟨g,k,none⟩=some (.s s)/\True/\s.size<=1000
 |7=>∃s:ByteArray,v=.s s/\s.size<=1000
 |8=>v=.pointer (some ⟨g2,h*9,none⟩)
 |9=>v=.pointer (some ⟨g2,h*9+2,none⟩)
 |10=>v=.pointer (some ⟨g2,h*9+3,none⟩)
 |_=>True
theorem NF{P:Prop}(h:P:=by refine Ag rfl rfl ?_;clear hK hg;go_simp;simpa[Av]using h):P:=h
theorem dC{P:Prop}(h:P:=by obtain⟨g,eq3,y1,y2,y3⟩:∃g:Nat,t 3=.l (some ⟨g,0,none⟩) 3 3/\W.1.size<=g/\g<X.1.size/\∀k,k<3->∃s:ByteArray,X.cell? ⟨g,k,none⟩=some (.s s)/\s.size<=1000:=hg 3 (AQ rfl);obtain⟨k,hk,eq5⟩:∃k:Nat,k<3/\t 5=.i k:=hg 5 (AQ rfl);obtain⟨s,y4,y5⟩:=y3 k hk;have h:=hK (.pointer (some ⟨g,k,none⟩)) X p' uK Za ⟨g,k,s,rfl,⟨y1,y2⟩,y4,trivial,y5⟩ (Az.refl _ _) hrd;refine Ag rfl rfl ?_;clear hK hg;go_simp;rw[if_pos Za,AI];go_simp;simpa[Av,eq3,eq5]using h):P:=h
theorem cY{P:Prop}(h:P:=by have eq4:t 4=.p R 0:=hg 4 (AQ rfl);refine Ag rfl rfl ?_;have HK:=Ah hK;have HR:=Ah hrd;clear hK hg hrd;go_simp;go_at_call 12;refine(A7 R ad nn cap p' 3 X HR Za Zb Zb).mono ?_;rintro r Z ⟨k,rfl,_,hv,hf,hr2⟩;have h:=HK (.i k) Z (p'+1) Za uK ⟨k,by have:=hv Zb;omega,rfl⟩ hf hr2;simpa[Av,eq4]using h):P:=h
theorem aV{P:Prop}(h:P:=by obtain⟨g,k,s,eq6,y1,y2,y3,y4⟩:∃(g k:Nat)(s:ByteArray),t 6=.pointer (some ⟨g,k,none⟩)/\(W.1.size<=g/\g<X.1.size)/\X.cell? ⟨g,k,none⟩=some (.s s)/\True/\s.size<=1000:=hg 6 (AQ rfl);have h:=hK (.s s) X p' uK Za ⟨s,rfl,y4⟩ (Az.refl _ _) hrd;refine Ag rfl rfl ?_;clear hK hg;go_simp;simpa[Av,eq6]using h):P:=h
theorem ZS{P:Prop}(h:P:=by have eq0:t 0=.p T 3:=hg 0 (AQ rfl);have q:=(hb.cell (p:=⟨T,3,none⟩) H.lt H.ne).trans (H.row.cell 3 Zb);simp only[AR,Aa,Ab]at q;have h:=hK (.l (some ⟨g2,0,none⟩) x.hn d2) X p' uK Za rfl (Az.refl _ _) hrd;refine Ag rfl rfl ?_;clear hK hg;go_simp;simpa[Av,eq0]using h):P:=h
theorem fX{P:Prop}(h:P:=by have eq1:t 1=.l (some ⟨g2,0,none⟩) x.hn d2:=hg 1 (AQ rfl);have eq2:t 2=.i (h:Nat):=hg 2 (AQ rfl);have hlt:=H.hh;have h:=hK (.pointer (some ⟨g2,h*9,none⟩)) X p' uK Za rfl (Az.refl _ _) hrd;refine Ag rfl rfl ?_;clear hK hg;go_simp;simpa[Av,eq1,eq2,hlt]using h):P:=h
theorem eP{P:Prop}(h:P:=by obtain⟨g,e,y1,y2,y3⟩:=h;exact⟨g,e,y1,Ac y2 hF.size,λk hk=>by obtain⟨i,y4,y5⟩:=y3 k hk;exact⟨i,(hF.cell (p:=⟨g,k,none⟩) y2 (λq=>by have q:g=R:=q;omega)).trans y4,y5⟩⟩):P:=h
theorem dX{P:Prop}(h:P:=by obtain⟨g,k,s,e,y1,y2,y3,y4⟩:=h;exact⟨g,k,s,e,⟨y1.1,Ac y1.2 hF.size⟩,(hF.cell (p:=⟨g,k,none⟩) y1.2 (λq=>by have q:g=R:=q;omega)).trans y2,y3,y4⟩):P:=h
theorem V7{P:Prop}(h:P:=by have h:=hK (.i (h:Nat)) X p' uK Za rfl (Az.refl _ _) hrd;exact NF):P:=h
theorem Wp{P:Prop}(h:P:=by have h:=hK (.p T 3) X p' uK Za rfl (Az.refl _ _) hrd;exact NF):P:=h
theorem mW{p1 p2 p3 p4 p8 p9 DX DK DV DF C9 CV CU C6 C8 CZ Df C7 C4 CY Dw Di Dj Dg Dh Dy Dx DC DB DA Dz DH Ek Eu EE Ej Em Er Eo En Ei Eh Ds DU DW DI DG D7 D4 D3 D8 D1 D0 D2 D5 DY EA Ey Ew Ex Ez El Ep DM Fk Fg Fo Fm Fp Fl Fq Ff Fj GR GU GT Fi Fh FK FA FM GZ KR KF KD KC KG KE GS GV G4 G7 G3 G5 G6 KH Cp Cu Cn Ci Cj Cg Ck Cm Co CF CJ CI CE Cy CB Cz CA CD CG CQ CS CR DT DP DN Dm Du Dp Ed Dr Dq Do Dt DQ DJ De Db Dc DO DL DR DS Dl EH ER EU EW ES EV ET EL EM EK EJ EN EP Fa Fb FO Gd Fx FU Gc FP Fy FN Gf FE Gb F8 FH FV Fz E9 Fc FR FT Ge FL FI FJ Ga FW FY FC FX FQ Kv Jj IR JX GH Gh JY IY Kj Hk Jc Jk IP Km Ko I6 Kd Jw Gz Gu I3 J2 Hm ID IW Ik JK Ju Ki Il Ha Hn Gi GC JD I1 Ka H9 Jp Hw Ji I5 Jh Is JN J3 Ii JT JR IU Hp JZ GD GF Jv G9 Jl IQ IM Kq JI J4 Jb Ht GN GJ Hx J7 IE Hu J6 J0 Im Jq Hr Kc If Gw GA Jo JM Hy Hg IC J8 Hq Ke IH J1 Jr Kr Gn Gr Je IS IN Ib Hb Iv Kn Hi JU Ku Ja Ho GK Gv Kg I0 Kw I7 Iy Iq Hh I4 IZ H7 Hz Ij Hd IX He JS Js JG Kh IV Gp Gl Gm Gy Gs GL Gk GI Gt Gj JF IB Hf Ia JB Hs JJ Jn JA JH Jy GB GE IF Jd Iz H5 Jg Hc Kf Ir JP JW Hl Iu Jm Ic JC Kl Hj H6 Ip II Ih IA I8 Jf JE Kt IG I9 It Gq GG In IL JQ J9 Ig IJ Hv Io JV J5 Gx:Value}{mk:(Nat->Value)->Array Value}(t0:Nat->Value)(R:Nat)(ad:OA)(nn cap p:Nat)(T:Nat)(x:Bk)(g1 g2:Nat)(a3:OA)(d1 d2 d3 o h:Nat)(y:Ob)(z:Ch)(ah bh:OA)(ch eh:Nat)(W:World)(hr:Rd W R ad nn cap p)(hp:p<=600000)(H:Sg W R T x g1 g2 a3 d1 d2 d3 o h y z ah bh ch eh)(hmk:mk=λt=>#[.p R 0,p1,p2,p3,p4,.p T 0,.i (o:Nat),.i (h:Nat),p8,p9,DX,DK,DV,DF,C9,CV,CU,C6,C8,CZ,Df,C7,C4,CY,Dw,Di,Dj,Dg,Dh,Dy,Dx,DC,DB,DA,Dz,DH,Ek,Eu,EE,Ej,Em,Er,Eo,En,Ei,Eh,Ds,DU,DW,DI,DG,D7,D4,D3,D8,D1,D0,D2,D5,DY,EA,Ey,Ew,Ex,Ez,El,Ep,DM,Fk,Fg,Fo,Fm,Fp,Fl,Fq,Ff,Fj,GR,GU,GT,Fi,Fh,FK,FA,FM,GZ,KR,KF,KD,KC,KG,KE,GS,GV,G4,G7,G3,G5,G6,KH,Cp,Cu,Cn,Ci,Cj,Cg,Ck,Cm,Co,CF,CJ,CI,CE,Cy,CB,Cz,CA,CD,CG,CQ,CS,CR,DT,DP,DN,Dm,Du,Dp,Ed,Dr,Dq,Do,Dt,DQ,DJ,De,Db,Dc,DO,DL,DR,DS,Dl,EH,ER,EU,EW,ES,EV,ET,EL,EM,EK,EJ,EN,EP,Fa,Fb,FO,Gd,Fx,FU,Gc,FP,Fy,FN,Gf,FE,Gb,F8,FH,FV,Fz,E9,Fc,FR,FT,Ge,FL,FI,FJ,Ga,FW,FY,FC,FX,FQ,Kv,Jj,IR,JX,GH,Gh,JY,IY,Kj,Hk,Jc,Jk,IP,Km,Ko,I6,Kd,Jw,Gz,Gu,I3,J2,Hm,ID,IW,Ik,JK,Ju,Ki,Il,Ha,Hn,Gi,GC,JD,I1,Ka,H9,Jp,Hw,Ji,I5,Jh,Is,JN,J3,Ii,JT,JR,IU,Hp,JZ,GD,GF,Jv,G9,Jl,IQ,IM,Kq,JI,J4,Jb,Ht,GN,GJ,Hx,J7,IE,Hu,J6,J0,Im,Jq,Hr,Kc,If,Gw,GA,Jo,JM,Hy,Hg,IC,J8,Hq,Ke,IH,J1,Jr,Kr,Gn,Gr,Je,IS,IN,Ib,Hb,Iv,Kn,Hi,JU,Ku,Ja,Ho,GK,Gv,Kg,I0,Kw,I7,Iy,Iq,Hh,I4,IZ,H7,Hz,Ij,Hd,IX,He,JS,Js,JG,Kh,IV,Gp,Gl,t 0,t 1,t 2,t 3,t 4,t 5,t 6,t 7,t 8,t 9,t 10,Gm,Gy,Gs,GL,Gk,GI,Gt,Gj,JF,IB,Hf,Ia,JB,Hs,JJ,Jn,JA,JH,Jy,GB,GE,IF,Jd,Iz,H5,Jg,Hc,Kf,Ir,JP,JW,Hl,Iu,Jm,Ic,JC,Kl,Hj,H6,Ip,II,Ih,IA,I8,Jf,JE,Kt,IG,I9,It,Gq,GG,In,IL,JQ,J9,Ig,IJ,Hv,Io,JV,J5,Gx])(Q:Exit->Act->World->Prop)(hQ:∀(t:Nat->Value)(s:ByteArray)(pz:Nat)(X0:World),s.size<=1000->Az (λq=>q=R) W X0->p<=pz->pz<=p+11->Rd X0 R ad nn cap pz->Q .normal ⟨mk t,[]⟩ (X0.setCell ⟨g2,h*9+3,none⟩ (.s s))):Code.wp prog (rg Try.f44 52) Q ⟨mk t0,[]⟩ W:=by
 have hRW:=hr.lt;refine G0 Ze 11 1 (λj=>match j with|8=>9|9=>10|_=>11) mk t0 R ad nn cap p (aK R T x g1 g2 a3 d1 d2 d3 o h y z ah bh ch eh W) (λa X=>∃(t:Nat->Value)(s:ByteArray)(pz:Nat)(X0:World),a=⟨mk t,[]⟩/\X=(X0.setCell ⟨g2,h*9+3,none⟩ (.s s))/\(s.size<=1000)/\Az (λq=>q=R) W X0/\p<=pz/\pz<=p+11/\Rd X0 R ad nn cap pz) Ze Ze Ze ?_ rfl hr ?_ ?_ ?_;all_goals subst hmk
 .intro i v X Z p' hi h hF hRd hR hX;rcases(show i=0\/i=1\/i=2\/i=3\/i=4\/i=5\/i=6\/i=7\/i=8\/i=9\/i=10 by omega)with rfl|rfl|rfl|rfl|rfl|rfl|rfl|rfl|rfl|rfl|rfl;.exact h
  .exact h
  .exact h
  .exact eP
  .exact h
  .exact h
  .exact dX
  .exact h
  .exact h
  .exact h
  .exact h
 .intro i hi t X K p' hb hp1 hp2 hrd hg hK;rcases(show i=0\/i=1\/i=2\/i=3\/i=4\/i=5\/i=6\/i=7\/i=8\/i=9\/i=10 by omega)with rfl|rfl|rfl|rfl|rfl|rfl|rfl|rfl|rfl|rfl|rfl;.exact Wp
  .exact ZS
  .exact V7
  .have h:=hK (.l (some ⟨X.1.size,0,none⟩) 3 3) (X.alloc (.cells #[.s ⟨#[120]⟩,.s ⟨#[121]⟩,.s ⟨#[]⟩] 9)) p' uK Za ⟨X.1.size,rfl,hb.size,Zc,λk hk=>by rw[Ak X #[.s ⟨#[120]⟩,.s ⟨#[121]⟩,.s ⟨#[]⟩] 9 k];rcases(show k=0\/k=1\/k=2 by omega)with rfl|rfl|rfl;all_goals exact⟨_,rfl,Zb⟩⟩ (Aq AG) (hrd.below AG);exact NF
  .have h:=hK (.p R 0) X p' uK Za rfl (Az.refl _ _) hrd;exact NF
  .exact cY
  .exact dC
  .exact aV
  .exact fX
  .have eq8:t 8=.pointer (some ⟨g2,h*9,none⟩):=hg 8 (AQ rfl);have h:=hK (.pointer (some ⟨g2,h*9+2,none⟩)) X p' uK Za rfl (Az.refl _ _) hrd;refine Ag rfl rfl ?_;clear hK hg;go_simp;simpa[Av,eq8]using h
  .have eq9:t 9=.pointer (some ⟨g2,h*9+2,none⟩):=hg 9 (AQ rfl);have h:=hK (.pointer (some ⟨g2,h*9+3,none⟩)) X p' uK Za rfl (Az.refl _ _) hrd;refine Ag rfl rfl ?_;clear hK hg;go_simp;simpa[Av,eq9]using h
 .intro t X K p' hb hp1 hp2 hrd hg hK;have eq10:t 10=.pointer (some ⟨g2,h*9+3,none⟩):=hg 10 Za;obtain⟨s,eq7,y1⟩:∃s:ByteArray,t 7=.s s/\s.size<=1000:=hg 7 Za;have q:=(hb.cell (p:=⟨g2,h*9+3,none⟩) H.l2 H.n2).trans (H.c2 3 Zb);have q2:=(hb.frozen (p:=⟨g2,h*9+3,none⟩) H.l2 H.n2).trans (H.f2 _);simp only[cc,AR,Aa,Ab]at q;have h:=hK _ _ ⟨t,s,p',X,rfl,rfl,y1,hb,hp1,Za,hrd⟩;have HK:=Ah h;clear hK hg h;refine Ag rfl rfl ?_;go_simp;simpa[eq10,eq7]using HK.out
 .rintro a X ⟨t,s,pz,X0,rfl,rfl,z2,z3,z4,z5,z6⟩;exact hQ t s pz X0 z2 z3 z4 z5 z6
def iI (R:Nat)(T:Nat)(x:Bk)(g1 _g2:Nat)(_a3:OA)(d1 _d2 _d3 o _h:Nat)(_y:Ob)(_z:Ch)(_ah _bh:OA)(_ch _eh:Nat)(W:World)(i:Nat)(v:Value)(X:World):Prop:=match i with
 |0=>v=.p T 2
 |1=>v=.l (some ⟨g1,0,none⟩) x.on d1
 |2=>v=.i (o:Nat)
 |3=>∃g:Nat,v=.l (some ⟨g,0,none⟩) 3 3/\W.1.size<=g/\g<X.1.size/\∀k,k<3->∃s:ByteArray,X.cell? ⟨g,k,none⟩=some (.s s)/\s.size<=1000
 |4=>v=.p R 0
 |5=>∃k:Nat,k<3/\v=.i k
 |6=>∃(g k:Nat)(s:ByteArray),v=.pointer (some ⟨g,k,none⟩)/\(W.1.size<=g/\g<X.1.size)/\X.cell? ⟨g,k,none⟩=some (.s s)/\True/\s.size<=1000
 |7=>∃s:ByteArray,v=.s s/\s.size<=1000
 |8=>v=.pointer (some ⟨g1,o*7,none⟩)
 |9=>v=.pointer (some ⟨g1,o*7,none⟩)
 |_=>True
theorem lS{p1 p2 p3 p4 p8 p9 DX DK DV DF C9 CV CU C6 C8 CZ Df C7 C4 CY Dw Di Dj Dg Dh Dy Dx DC DB DA Dz DH Ek Eu EE Ej Em Er Eo En Ei Eh Ds DU DW DI DG D7 D4 D3 D8 D1 D0 D2 D5 DY EA Ey Ew Ex Ez El Ep DM Fk Fg Fo Fm Fp Fl Fq Ff Fj GR GU GT Fi Fh FK FA FM GZ KR KF KD KC KG KE GS GV G4 G7 G3 G5 G6 KH Cp Cu Cn Ci Cj Cg Ck Cm Co CF CJ CI CE Cy CB Cz CA CD CG CQ CS CR DT DP DN Dm Du Dp Ed Dr Dq Do Dt DQ DJ De Db Dc DO DL DR DS Dl EH ER EU EW ES EV ET EL EM EK EJ EN EP Fa Fb FO Gd Fx FU Gc FP Fy FN Gf FE Gb F8 FH FV Fz E9 Fc FR FT Ge FL FI FJ Ga FW FY FC FX FQ Kv Jj IR JX GH Gh JY IY Kj Hk Jc Jk IP Km Ko I6 Kd Jw Gz Gu I3 J2 Hm ID IW Ik JK Ju Ki Il Ha Hn Gi GC JD I1 Ka H9 Jp Hw Ji I5 Jh Is JN J3 Ii JT JR IU Hp JZ GD GF Jv G9 Jl IQ IM Kq JI J4 Jb Ht GN GJ Hx J7 IE Hu J6 J0 Im Jq Hr Kc If Gw GA Jo JM Hy Hg IC J8 Hq Ke IH J1 Jr Kr Gn Gr Je IS IN Ib Hb Iv Kn Hi JU Ku Ja Ho GK Gv Kg I0 Kw I7 Iy Iq Hh I4 IZ H7 Hz Ij Hd IX He JS Js JG Kh IV Gp Gl Jt H8 Jz IT IK I2 Ks Ie JO Iw JL Gm Gy Gs GL Gk GI Gt Gj JF IB Hf Ia JB Hs JJ Jn JA JH Jy GB GE IF Jd Iz H5 Jg Hc Kf Ir JP JW Hl Iu Jm Ic JC Kl Hj H6 Ip II Ih IA I8 Jf JE Kt IG I9 It Gq GG Gx:Value}{mk:(Nat->Value)->Array Value}(t0:Nat->Value)(R:Nat)(ad:OA)(nn cap p:Nat)(T:Nat)(x:Bk)(g1 g2:Nat)(a3:OA)(d1 d2 d3 o h:Nat)(y:Ob)(z:Ch)(ah bh:OA)(ch eh:Nat)(W:World)(hr:Rd W R ad nn cap p)(hp:p<=600000)(H:Sg W R T x g1 g2 a3 d1 d2 d3 o h y z ah bh ch eh)(hmk:mk=λt=>#[.p R 0,p1,p2,p3,p4,.p T 0,.i (o:Nat),.i (h:Nat),p8,p9,DX,DK,DV,DF,C9,CV,CU,C6,C8,CZ,Df,C7,C4,CY,Dw,Di,Dj,Dg,Dh,Dy,Dx,DC,DB,DA,Dz,DH,Ek,Eu,EE,Ej,Em,Er,Eo,En,Ei,Eh,Ds,DU,DW,DI,DG,D7,D4,D3,D8,D1,D0,D2,D5,DY,EA,Ey,Ew,Ex,Ez,El,Ep,DM,Fk,Fg,Fo,Fm,Fp,Fl,Fq,Ff,Fj,GR,GU,GT,Fi,Fh,FK,FA,FM,GZ,KR,KF,KD,KC,KG,KE,GS,GV,G4,G7,G3,G5,G6,KH,Cp,Cu,Cn,Ci,Cj,Cg,Ck,Cm,Co,CF,CJ,CI,CE,Cy,CB,Cz,CA,CD,CG,CQ,CS,CR,DT,DP,DN,Dm,Du,Dp,Ed,Dr,Dq,Do,Dt,DQ,DJ,De,Db,Dc,DO,DL,DR,DS,Dl,EH,ER,EU,EW,ES,EV,ET,EL,EM,EK,EJ,EN,EP,Fa,Fb,FO,Gd,Fx,FU,Gc,FP,Fy,FN,Gf,FE,Gb,F8,FH,FV,Fz,E9,Fc,FR,FT,Ge,FL,FI,FJ,Ga,FW,FY,FC,FX,FQ,Kv,Jj,IR,JX,GH,Gh,JY,IY,Kj,Hk,Jc,Jk,IP,Km,Ko,I6,Kd,Jw,Gz,Gu,I3,J2,Hm,ID,IW,Ik,JK,Ju,Ki,Il,Ha,Hn,Gi,GC,JD,I1,Ka,H9,Jp,Hw,Ji,I5,Jh,Is,JN,J3,Ii,JT,JR,IU,Hp,JZ,GD,GF,Jv,G9,Jl,IQ,IM,Kq,JI,J4,Jb,Ht,GN,GJ,Hx,J7,IE,Hu,J6,J0,Im,Jq,Hr,Kc,If,Gw,GA,Jo,JM,Hy,Hg,IC,J8,Hq,Ke,IH,J1,Jr,Kr,Gn,Gr,Je,IS,IN,Ib,Hb,Iv,Kn,Hi,JU,Ku,Ja,Ho,GK,Gv,Kg,I0,Kw,I7,Iy,Iq,Hh,I4,IZ,H7,Hz,Ij,Hd,IX,He,JS,Js,JG,Kh,IV,Gp,Gl,Jt,H8,Jz,IT,IK,I2,Ks,Ie,JO,Iw,JL,Gm,Gy,Gs,GL,Gk,GI,Gt,Gj,JF,IB,Hf,Ia,JB,Hs,JJ,Jn,JA,JH,Jy,GB,GE,IF,Jd,Iz,H5,Jg,Hc,Kf,Ir,JP,JW,Hl,Iu,Jm,Ic,JC,Kl,Hj,H6,Ip,II,Ih,IA,I8,Jf,JE,Kt,IG,I9,It,Gq,GG,t 0,t 1,t 2,t 3,t 4,t 5,t 6,t 7,t 8,t 9,Gx])(Q:Exit->Act->World->Prop)(hQ:∀(t:Nat->Value)(s:ByteArray)(pz:Nat)(X0:World),s.size<=1000->Az (λq=>q=R) W X0->p<=pz->pz<=p+10->Rd X0 R ad nn cap pz->Q .normal ⟨mk t,[]⟩ (X0.setCell ⟨g1,o*7,none⟩ (.s s))):Code.wp prog (rg Try.f44 60) Q ⟨mk t0,[]⟩ W:=by
 have hRW:=hr.lt;refine G0 Ze 10 1 (λj=>match j with|8=>9|_=>10) mk t0 R ad nn cap p (iI R T x g1 g2 a3 d1 d2 d3 o h y z ah bh ch eh W) (λa X=>∃(t:Nat->Value)(s:ByteArray)(pz:Nat)(X0:World),a=⟨mk t,[]⟩/\X=(X0.setCell ⟨g1,o*7,none⟩ (.s s))/\(s.size<=1000)/\Az (λq=>q=R) W X0/\p<=pz/\pz<=p+10/\Rd X0 R ad nn cap pz) Ze Ze Ze ?_ rfl hr ?_ ?_ ?_;all_goals subst hmk
 .intro i v X Z p' hi h hF hRd hR hX;rcases(show i=0\/i=1\/i=2\/i=3\/i=4\/i=5\/i=6\/i=7\/i=8\/i=9 by omega)with rfl|rfl|rfl|rfl|rfl|rfl|rfl|rfl|rfl|rfl;.exact h
  .exact h
  .exact h
  .exact eP
  .exact h
  .exact h
  .exact dX
  .exact h
  .exact h
  .exact h
 .intro i hi t X K p' hb hp1 hp2 hrd hg hK;rcases(show i=0\/i=1\/i=2\/i=3\/i=4\/i=5\/i=6\/i=7\/i=8\/i=9 by omega)with rfl|rfl|rfl|rfl|rfl|rfl|rfl|rfl|rfl|rfl;.have h:=hK (.p T 2) X p' uK Za rfl (Az.refl _ _) hrd;exact NF
  .have eq0:t 0=.p T 2:=hg 0 (AQ rfl);have q:=(hb.cell (p:=⟨T,2,none⟩) H.lt H.ne).trans (H.row.cell 2 Zb);simp only[AR,Aa,Ab]at q;have h:=hK (.l (some ⟨g1,0,none⟩) x.on d1) X p' uK Za rfl (Az.refl _ _) hrd;refine Ag rfl rfl ?_;clear hK hg;go_simp;simpa[Av,eq0]using h
  .have h:=hK (.i (o:Nat)) X p' uK Za rfl (Az.refl _ _) hrd;exact NF
  .have h:=hK (.l (some ⟨X.1.size,0,none⟩) 3 3) (X.alloc (.cells #[.s ⟨#[65]⟩,.s ⟨#[98,101,114,116,104]⟩,.s ⟨#[122,122,122]⟩] 9)) p' uK Za ⟨X.1.size,rfl,hb.size,Zc,λk hk=>by rw[Ak X #[.s ⟨#[65]⟩,.s ⟨#[98,101,114,116,104]⟩,.s ⟨#[122,122,122]⟩] 9 k];rcases(show k=0\/k=1\/k=2 by omega)with rfl|rfl|rfl;all_goals exact⟨_,rfl,Zb⟩⟩ (Aq AG) (hrd.below AG);exact NF
  .have h:=hK (.p R 0) X p' uK Za rfl (Az.refl _ _) hrd;exact NF
  .exact cY
  .exact dC
  .exact aV
  .have eq1:t 1=.l (some ⟨g1,0,none⟩) x.on d1:=hg 1 (AQ rfl);have eq2:t 2=.i (o:Nat):=hg 2 (AQ rfl);have hlt:=H.ho;have h:=hK (.pointer (some ⟨g1,o*7,none⟩)) X p' uK Za rfl (Az.refl _ _) hrd;refine Ag rfl rfl ?_;clear hK hg;go_simp;simpa[Av,eq1,eq2,hlt]using h
  .have eq8:t 8=.pointer (some ⟨g1,o*7,none⟩):=hg 8 (AQ rfl);have h:=hK (.pointer (some ⟨g1,o*7,none⟩)) X p' uK Za rfl (Az.refl _ _) hrd;refine Ag rfl rfl ?_;clear hK hg;go_simp;simpa[Av,eq8]using h
 .intro t X K p' hb hp1 hp2 hrd hg hK;have eq9:t 9=.pointer (some ⟨g1,o*7,none⟩):=hg 9 Za;obtain⟨s,eq7,y1⟩:∃s:ByteArray,t 7=.s s/\s.size<=1000:=hg 7 Za;have q:=(hb.cell (p:=⟨g1,o*7,none⟩) H.l1 H.n1).trans (H.c1 0 Zb);have q2:=(hb.frozen (p:=⟨g1,o*7,none⟩) H.l1 H.n1).trans (H.f1 _);simp only[oc,AR,Aa]at q;have h:=hK _ _ ⟨t,s,p',X,rfl,rfl,y1,hb,hp1,Za,hrd⟩;have HK:=Ah h;clear hK hg h;refine Ag rfl rfl ?_;go_simp;simpa[eq9,eq7]using HK.out
 .rintro a X ⟨t,s,pz,X0,rfl,rfl,z2,z3,z4,z5,z6⟩;exact hQ t s pz X0 z2 z3 z4 z5 z6
def kM (_R:Nat)(T:Nat)(x:Bk)(_g1 g2:Nat)(_a3:OA)(_d1 d2 _d3 _o h:Nat)(_y:Ob)(z:Ch)(_ah _bh:OA)(_ch _eh:Nat)(_W:World)(i:Nat)(v:Value)(_X:World):Prop:=match i with
 |0=>v=.p T 3
 |1=>v=.l (some ⟨g2,0,none⟩) x.hn d2
 |2=>v=.i (h:Nat)
 |3=>v=.p T 3
 |4=>v=.l (some ⟨g2,0,none⟩) x.hn d2
 |5=>v=.i (h:Nat)
 |6=>v=.pointer (some ⟨g2,h*9,none⟩)
 |7=>v=.pointer (some ⟨g2,h*9+2,none⟩)
 |8=>v=.pointer (some ⟨g2,h*9+7,none⟩)
 |9=>v=.bool z.ob.ending
 |10=>∃b:Bool,v=.bool b
 |11=>v=.pointer (some ⟨g2,h*9,none⟩)
 |12=>v=.pointer (some ⟨g2,h*9+2,none⟩)
 |13=>v=.pointer (some ⟨g2,h*9+7,none⟩)
 |_=>True
theorem oA{p1 p2 p3 p4 p8 p9 DX DK DV DF C9 CV CU C6 C8 CZ Df C7 C4 CY Dw Di Dj Dg Dh Dy Dx DC DB DA Dz DH Ek D7 D4 D3 D8 D1 D0 D2 D5 DY EA Ey Ew Ex Ez El Ep DM Fk Fg Fo Fm Fp Fl Fq Ff Fj GR GU GT Fi Fh FK FA FM GZ KR KF KD KC KG KE GS GV G4 G7 G3 G5 G6 KH Cp Cu Cn Ci Cj Cg Ck Cm Co CF CJ CI CE Cy CB Cz CA CD CG CQ CS CR DT DP DN Dm Du Dp Ed Dr Dq Do Dt DQ DJ De Db Dc DO DL DR DS Dl EH ER EU EW ES EV ET EL EM EK EJ EN EP Fa Fb FO Gd Fx FU Gc FP Fy FN Gf FE Gb F8 FH FV Fz E9 Fc FR FT Ge FL FI FJ Ga FW FY FC FX FQ Kv Jj IR JX GH Gh JY IY Kj Hk Jc Jk IP Km Ko I6 Kd Jw Gz Gu I3 J2 Hm ID IW Ik JK Ju Ki Il Ha Hn Gi GC JD I1 Ka H9 Jp Hw Ji I5 Jh Is JN J3 Ii JT JR IU Hp JZ GD GF Jv G9 Jl IQ IM Kq JI J4 Jb Ht GN GJ Hx J7 IE Hu J6 J0 Im Jq Hr Kc If Gw GA Jo JM Hy Hg IC J8 Hq Ke IH J1 Jr Kr Gn Gr Je IS IN Ib Hb Iv Kn Hi JU Ku Ja Ho GK Gv Kg I0 Kw I7 Iy Iq Hh I4 IZ H7 Hz Ij Hd IX He JS Js JG Kh IV Gp Gl Jt H8 Jz IT IK I2 Ks Ie JO Iw JL Gm Gy Gs GL Gk GI Gt Gj JF IB Hf Ia JB Hs JJ Jn JA JH Jy GB GE IF Jd Iz H5 Jg Hc Kf Ir JP JW Hl Iu Jm Ic JC Kl Hj H6 Ip II Ih IA I8 Jf JE Kt IG I9 It Gq GG In IL JQ J9 Ig IJ Hv Io JV J5 Gx:Value}{mk:(Nat->Value)->Array Value}(t0:Nat->Value)(R:Nat)(ad:OA)(nn cap p:Nat)(T:Nat)(x:Bk)(g1 g2:Nat)(a3:OA)(d1 d2 d3 o h:Nat)(y:Ob)(z:Ch)(ah bh:OA)(ch eh:Nat)(W:World)(hr:Rd W R ad nn cap p)(_hp:p<=600000)(H:Sg W R T x g1 g2 a3 d1 d2 d3 o h y z ah bh ch eh)(hmk:mk=λt=>#[.p R 0,p1,p2,p3,p4,.p T 0,.i (o:Nat),.i (h:Nat),p8,p9,DX,DK,DV,DF,C9,CV,CU,C6,C8,CZ,Df,C7,C4,CY,Dw,Di,Dj,Dg,Dh,Dy,Dx,DC,DB,DA,Dz,DH,Ek,t 0,t 1,t 2,t 3,t 4,t 5,t 6,t 7,t 8,t 9,t 10,t 11,t 12,t 13,D7,D4,D3,D8,D1,D0,D2,D5,DY,EA,Ey,Ew,Ex,Ez,El,Ep,DM,Fk,Fg,Fo,Fm,Fp,Fl,Fq,Ff,Fj,GR,GU,GT,Fi,Fh,FK,FA,FM,GZ,KR,KF,KD,KC,KG,KE,GS,GV,G4,G7,G3,G5,G6,KH,Cp,Cu,Cn,Ci,Cj,Cg,Ck,Cm,Co,CF,CJ,CI,CE,Cy,CB,Cz,CA,CD,CG,CQ,CS,CR,DT,DP,DN,Dm,Du,Dp,Ed,Dr,Dq,Do,Dt,DQ,DJ,De,Db,Dc,DO,DL,DR,DS,Dl,EH,ER,EU,EW,ES,EV,ET,EL,EM,EK,EJ,EN,EP,Fa,Fb,FO,Gd,Fx,FU,Gc,FP,Fy,FN,Gf,FE,Gb,F8,FH,FV,Fz,E9,Fc,FR,FT,Ge,FL,FI,FJ,Ga,FW,FY,FC,FX,FQ,Kv,Jj,IR,JX,GH,Gh,JY,IY,Kj,Hk,Jc,Jk,IP,Km,Ko,I6,Kd,Jw,Gz,Gu,I3,J2,Hm,ID,IW,Ik,JK,Ju,Ki,Il,Ha,Hn,Gi,GC,JD,I1,Ka,H9,Jp,Hw,Ji,I5,Jh,Is,JN,J3,Ii,JT,JR,IU,Hp,JZ,GD,GF,Jv,G9,Jl,IQ,IM,Kq,JI,J4,Jb,Ht,GN,GJ,Hx,J7,IE,Hu,J6,J0,Im,Jq,Hr,Kc,If,Gw,GA,Jo,JM,Hy,Hg,IC,J8,Hq,Ke,IH,J1,Jr,Kr,Gn,Gr,Je,IS,IN,Ib,Hb,Iv,Kn,Hi,JU,Ku,Ja,Ho,GK,Gv,Kg,I0,Kw,I7,Iy,Iq,Hh,I4,IZ,H7,Hz,Ij,Hd,IX,He,JS,Js,JG,Kh,IV,Gp,Gl,Jt,H8,Jz,IT,IK,I2,Ks,Ie,JO,Iw,JL,Gm,Gy,Gs,GL,Gk,GI,Gt,Gj,JF,IB,Hf,Ia,JB,Hs,JJ,Jn,JA,JH,Jy,GB,GE,IF,Jd,Iz,H5,Jg,Hc,Kf,Ir,JP,JW,Hl,Iu,Jm,Ic,JC,Kl,Hj,H6,Ip,II,Ih,IA,I8,Jf,JE,Kt,IG,I9,It,Gq,GG,In,IL,JQ,J9,Ig,IJ,Hv,Io,JV,J5,Gx])(Q:Exit->Act->World->Prop)(hQ:∀(t:Nat->Value)(b:Bool)(pz:Nat)(X0:World),True->Az (λq=>q=R) W X0->p<=pz->pz<=p+14->Rd X0 R ad nn cap pz->Q .normal ⟨mk t,[]⟩ (X0.setCell ⟨g2,h*9+7,none⟩ (.bool b))):Code.wp prog (rg Try.f44 7) Q ⟨mk t0,[]⟩ W:=by
 have hRW:=hr.lt;refine G0 Ze 14 1 (λj=>match j with|11=>12|12=>13|_=>14) mk t0 R ad nn cap p (kM R T x g1 g2 a3 d1 d2 d3 o h y z ah bh ch eh W) (λa X=>∃(t:Nat->Value)(b:Bool)(pz:Nat)(X0:World),a=⟨mk t,[]⟩/\X=(X0.setCell ⟨g2,h*9+7,none⟩ (.bool b))/\(True)/\Az (λq=>q=R) W X0/\p<=pz/\pz<=p+14/\Rd X0 R ad nn cap pz) Ze Ze Ze ?_ rfl hr ?_ ?_ ?_;all_goals subst hmk
 .intro i v X Z p' hi h hF hRd hR hX;rcases(show i=0\/i=1\/i=2\/i=3\/i=4\/i=5\/i=6\/i=7\/i=8\/i=9\/i=10\/i=11\/i=12\/i=13 by omega)with rfl|rfl|rfl|rfl|rfl|rfl|rfl|rfl|rfl|rfl|rfl|rfl|rfl|rfl;.exact h
  .exact h
  .exact h
  .exact h
  .exact h
  .exact h
  .exact h
  .exact h
  .exact h
  .exact h
  .exact h
  .exact h
  .exact h
  .exact h
 .intro i hi t X K p' hb hp1 hp2 hrd hg hK;rcases(show i=0\/i=1\/i=2\/i=3\/i=4\/i=5\/i=6\/i=7\/i=8\/i=9\/i=10\/i=11\/i=12\/i=13 by omega)with rfl|rfl|rfl|rfl|rfl|rfl|rfl|rfl|rfl|rfl|rfl|rfl|rfl|rfl;.exact Wp
  .exact ZS
  .exact V7
  .exact Wp
  .have eq3:t 3=.p T 3:=hg 3 (AQ rfl);have q:=(hb.cell (p:=⟨T,3,none⟩) H.lt H.ne).trans (H.row.cell 3 Zb);simp only[AR,Aa,Ab]at q;have h:=hK (.l (some ⟨g2,0,none⟩) x.hn d2) X p' uK Za rfl (Az.refl _ _) hrd;refine Ag rfl rfl ?_;clear hK hg;go_simp;simpa[Av,eq3]using h
  .exact V7
  .have eq4:t 4=.l (some ⟨g2,0,none⟩) x.hn d2:=hg 4 (AQ rfl);have eq5:t 5=.i (h:Nat):=hg 5 (AQ rfl);have hlt:=H.hh;have h:=hK (.pointer (some ⟨g2,h*9,none⟩)) X p' uK Za rfl (Az.refl _ _) hrd;refine Ag rfl rfl ?_;clear hK hg;go_simp;simpa[Av,eq4,eq5,hlt]using h
  .have eq6:t 6=.pointer (some ⟨g2,h*9,none⟩):=hg 6 (AQ rfl);have h:=hK (.pointer (some ⟨g2,h*9+2,none⟩)) X p' uK Za rfl (Az.refl _ _) hrd;refine Ag rfl rfl ?_;clear hK hg;go_simp;simpa[Av,eq6]using h
  .have eq7:t 7=.pointer (some ⟨g2,h*9+2,none⟩):=hg 7 (AQ rfl);have h:=hK (.pointer (some ⟨g2,h*9+7,none⟩)) X p' uK Za rfl (Az.refl _ _) hrd;refine Ag rfl rfl ?_;clear hK hg;go_simp;simpa[Av,eq7]using h
  .have eq8:t 8=.pointer (some ⟨g2,h*9+7,none⟩):=hg 8 (AQ rfl);have q:=(hb.cell (p:=⟨g2,h*9+7,none⟩) H.l2 H.n2).trans (H.c2 7 Zb);simp only[cc,AR,Aa,Ab]at q;have h:=hK (.bool z.ob.ending) X p' uK Za rfl (Az.refl _ _) hrd;refine Ag rfl rfl ?_;clear hK hg;go_simp;simpa[Av,eq8]using h
  .have eq9:t 9=.bool z.ob.ending:=hg 9 (AQ rfl);have h:=hK (.bool (!z.ob.ending)) X p' uK Za ⟨_,rfl⟩ (Az.refl _ _) hrd;refine Ag rfl rfl ?_;clear hK hg;go_simp;simpa[Av,eq9]using h
  .exact fX
  .have eq11:t 11=.pointer (some ⟨g2,h*9,none⟩):=hg 11 (AQ rfl);have h:=hK (.pointer (some ⟨g2,h*9+2,none⟩)) X p' uK Za rfl (Az.refl _ _) hrd;refine Ag rfl rfl ?_;clear hK hg;go_simp;simpa[Av,eq11]using h
  .have eq12:t 12=.pointer (some ⟨g2,h*9+2,none⟩):=hg 12 (AQ rfl);have h:=hK (.pointer (some ⟨g2,h*9+7,none⟩)) X p' uK Za rfl (Az.refl _ _) hrd;refine Ag rfl rfl ?_;clear hK hg;go_simp;simpa[Av,eq12]using h
 .intro t X K p' hb hp1 hp2 hrd hg hK;have eq13:t 13=.pointer (some ⟨g2,h*9+7,none⟩):=hg 13 Za;obtain⟨b,eq10⟩:∃b:Bool,t 10=.bool b:=hg 10 Za;have q:=(hb.cell (p:=⟨g2,h*9+7,none⟩) H.l2 H.n2).trans (H.c2 7 Zb);have q2:=(hb.frozen (p:=⟨g2,h*9+7,none⟩) H.l2 H.n2).trans (H.f2 _);simp only[cc,AR,Aa,Ab]at q;have h:=hK _ _ ⟨t,b,p',X,rfl,rfl,trivial,hb,hp1,Za,hrd⟩;have HK:=Ah h;clear hK hg h;refine Ag rfl rfl ?_;go_simp;simpa[eq13,eq10]using HK.out
 .rintro a X ⟨t,b,pz,X0,rfl,rfl,z2,z3,z4,z5,z6⟩;exact hQ t b pz X0 z2 z3 z4 z5 z6
end Go.Proofs.Ytnnjcenacidceaa
