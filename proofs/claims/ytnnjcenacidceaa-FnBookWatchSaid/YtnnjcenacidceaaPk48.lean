import Derived.Test.YtnnjcenacidceaaPk43
set_option maxRecDepth 100000
set_option maxHeartbeats 4000000
namespace Go.Proofs.Ytnnjcenacidceaa
open Go.RowKit Go.Proofs.Try
def aI (R:Nat)(T:Nat)(x:Bk)(_g1 _g2:Nat)(a3:OA)(_d1 _d2 d3 _o _h:Nat)(_y:Ob)(_z:Ch)(_ah _bh:OA)(_ch _eh:Nat)(gA:Nat)(W:World)(i:Nat)(v:Value)(X:World):Prop:=match i with
 |0=>v=.p T 4
 |1=>v=.l a3 x.tn d3
 |2=>∃g:Nat,v=.l (some ⟨g,0,none⟩) 3 3/\W.1.size<=g/\g<X.1.size/\∀k,k<3->∃i:Int,X.cell? ⟨g,k,none⟩=some (.i i)/\-1000001<=i/\i<=1000001
 |3=>v=.p R 0
 |4=>∃k:Nat,k<3/\v=.i k
 |5=>∃(g k:Nat)(i:Int),v=.pointer (some ⟨g,k,none⟩)/\(W.1.size<=g/\g<X.1.size)/\X.cell? ⟨g,k,none⟩=some (.i i)/\True/\(-1000001<=i/\i<=1000001)
 |6=>∃i:Int,v=.i i/\-1000001<=i/\i<=1000001
 |7=>∃g:Nat,v=.l (some ⟨g,0,none⟩) 2 2/\W.1.size<=g/\g<X.1.size/\∀k,k<2->∃s:ByteArray,X.cell? ⟨g,k,none⟩=some (.s s)/\s.size<=1000
 |8=>v=.p R 0
 |9=>∃k:Nat,k<2/\v=.i k
 |10=>∃(g k:Nat)(s:ByteArray),v=.pointer (some ⟨g,k,none⟩)/\(W.1.size<=g/\g<X.1.size)/\X.cell? ⟨g,k,none⟩=some (.s s)/\True/\s.size<=1000
 |11=>∃s:ByteArray,v=.s s/\s.size<=1000
 |12=>v=.p R 0
 |13=>∃k:Nat,k<12/\v=.i k
 |14=>∃i:Int,v=.i i/\-13<=i/\i<=13
 |15=>v=.p T 0
 |16=>v=.i x.now
 |17=>v=.p T 0
 |18=>v=.i x.now
 |19=>∃i:Int,v=.i i/\-1000001<=i/\i<=1000001
 |20=>∃g:Nat,v=.l (some ⟨g,0,none⟩) 3 3/\W.1.size<=g/\g<X.1.size/\∀k,k<3->∃i:Int,X.cell? ⟨g,k,none⟩=some (.i i)/\-1000001<=i/\i<=1000001
 |21=>v=.p R 0
 |22=>∃k:Nat,k<3/\v=.i k
 |23=>∃(g k:Nat)(i:Int),v=.pointer (some ⟨g,k,none⟩)/\(W.1.size<=g/\g<X.1.size)/\X.cell? ⟨g,k,none⟩=some (.i i)/\True/\(-1000001<=i/\i<=1000001)
 |24=>∃i:Int,v=.i i/\-1000001<=i/\i<=1000001
 |25=>∃k:Ti,v=.agg (vT k)/\k.client.size<=1000/\k.print.size<=1000
 |26=>∃(g:Nat)(k:Ti),v=.l (some ⟨g,0,none⟩) 1 1/\W.1.size<=g/\g<X.1.size/\(∀f,f<5->X.cell? ⟨g,f,none⟩=some (AR (tv k) f))/\k.client.size<=1000/\k.print.size<=1000
 |27=>∃(k:Ti)(ad':OA)(cap' g':Nat),v=.l ad' (x.tn+1) cap'/\Rw X ad' g' (x.tn+1) cap' 5 (BO (K5 x.ts) (x.tn*5) (AR (tv k)))/\((0<d3/\g'=gA)\/W.1.size<=g')/\k.client.size<=1000/\k.print.size<=1000
 |28=>v=.p T 4
 |_=>True
theorem Ol{P:Prop}(h:P:=by refine Ag rfl rfl ?_;clear hK hg;go_simp;simpa[Av]using h):P:=h
theorem WJ{P:Prop}(h:P:=by obtain⟨g,e,y1,y2,y3⟩:=h;exact⟨g,e,y1,Ac y2 hF.size,λk hk=>by obtain⟨i,y4,y5⟩:=y3 k hk;exact⟨i,(hF.cell (p:=⟨g,k,none⟩) y2 (λq=>by have:=hPl g q;omega)).trans y4,y5⟩⟩):P:=h
theorem VN{P:Prop}(h:P:=by obtain⟨g,e,y1,y2,y3⟩:=h;exact⟨g,e,y1,Ac y2 hF.size,λk hk=>by obtain⟨i,y4,y5⟩:=y3 k hk;exact⟨i,(hF.cell (p:=⟨g,k,none⟩) y2 (λq=>by have q:g=R:=q;omega)).trans y4,y5⟩⟩):P:=h
theorem Tw{P:Prop}(h:P:=by have h:=hK (.p R 0) X p' uK Za rfl (Az.refl _ _) hrd;exact Ol):P:=h
theorem cG{P:Prop}(h:P:=by obtain⟨g,k,i,e,y1,y2,y3,y4⟩:=h;exact⟨g,k,i,e,⟨y1.1,Ac y1.2 hF.size⟩,(hF.cell (p:=⟨g,k,none⟩) y1.2 (λq=>by have:=hPl g q;omega)).trans y2,y3,y4⟩):P:=h
theorem aB{P:Prop}(h:P:=by obtain⟨g,k,i,e,y1,y2,y3,y4⟩:=h;exact⟨g,k,i,e,⟨y1.1,Ac y1.2 hF.size⟩,(hF.cell (p:=⟨g,k,none⟩) y1.2 (λq=>by have q:g=R:=q;omega)).trans y2,y3,y4⟩):P:=h
theorem kR{p1 p2 p3 p4 p8 p9 DX DK DV DF C9 CV CU C6 C8 CZ Df C7 C4 CY Dw Di Dj Dg Dh Dy Dx DC DB DA Dz DH Ek Eu EE Ej Em Er Eo En Ei Eh Ds DU DW DI DG D7 D4 D3 D8 D1 D0 D2 D5 DY EA Ey Ew Ex Ez El Ep DM Fk Fg Fo Fm Fp Fl Fq Ff Fj GR GU GT Fi Fh FK FA FM GZ KR KF KD KC KG KE GS GV G4 G7 G3 G5 G6 KH Cp Cu Cn Ci Cj Cg Ck Cm Co CF CJ CI CE Cy CB Cz CA CD CG CQ CS CR DT DP DN Dm Du Dp Ed Dr Dq Do Dt DQ DJ De Db Dc DO DL DR DS Dl EH ER EU EW ES EV ET EL EM EK EJ EN EP Fa Fb FO Gd Fx FU Gc FP Fy FN Gf FE Gb F8 FH FV Fz E9 Fc FR FT Ge FL FI FJ Ga FW FY FC FX FQ Kv Jj IR JX GH Gh JY IY Kj Hk Jc Jk IP Km Ko I6 Kd Jw Gz Gu I3 J2 Hm ID IW Ik JK Ju Ki Il Ha Hn Gi GC JD I1 Ka H9 Jp Hw Ji I5 Jh Is JN J3 Ii JT JR IU Hp JZ GD GF Jv G9 Jl IQ IM Kq JI J4 Jb Ht GN GJ Hx J7 IE Hu J6 J0 Im Jq Hr Kc If Gw GA Jo JM Hy Hg IC J8 Hq Ke IH J1 Jr Kr Gn Gr Je IS IN Ib Hb Iv Kn Hi JU Ku Ja Ho GK Gv Kg I0 Kw I7 Iy Iq Hh I4 IZ H7 Hz Ij Hd IX He JS Js JG Kh IV Gp Gl Jt H8 Jz IT IK I2 Ks Ie JO Iw JL Gm Gy Gs GL Gk GI Gt Gj JF IB Hf Ia JB Hs JJ Jn JA JH Jy GB GE Gq GG In IL JQ J9 Ig IJ Hv Io JV J5 Gx:Value}{mk:(Nat->Value)->Array Value}(t0:Nat->Value)(R:Nat)(ad:OA)(nn cap p:Nat)(T:Nat)(x:Bk)(g1 g2:Nat)(a3:OA)(d1 d2 d3 o h:Nat)(y:Ob)(z:Ch)(ah bh:OA)(ch eh:Nat)(gA:Nat)(W:World)(hr:Rd W R ad nn cap p)(hp:p<=600000)(H:Sg W R T x g1 g2 a3 d1 d2 d3 o h y z ah bh ch eh)(HA:wO W R T ad x gA a3 d3)(hmk:mk=λt=>#[.p R 0,p1,p2,p3,p4,.p T 0,.i (o:Nat),.i (h:Nat),p8,p9,DX,DK,DV,DF,C9,CV,CU,C6,C8,CZ,Df,C7,C4,CY,Dw,Di,Dj,Dg,Dh,Dy,Dx,DC,DB,DA,Dz,DH,Ek,Eu,EE,Ej,Em,Er,Eo,En,Ei,Eh,Ds,DU,DW,DI,DG,D7,D4,D3,D8,D1,D0,D2,D5,DY,EA,Ey,Ew,Ex,Ez,El,Ep,DM,Fk,Fg,Fo,Fm,Fp,Fl,Fq,Ff,Fj,GR,GU,GT,Fi,Fh,FK,FA,FM,GZ,KR,KF,KD,KC,KG,KE,GS,GV,G4,G7,G3,G5,G6,KH,Cp,Cu,Cn,Ci,Cj,Cg,Ck,Cm,Co,CF,CJ,CI,CE,Cy,CB,Cz,CA,CD,CG,CQ,CS,CR,DT,DP,DN,Dm,Du,Dp,Ed,Dr,Dq,Do,Dt,DQ,DJ,De,Db,Dc,DO,DL,DR,DS,Dl,EH,ER,EU,EW,ES,EV,ET,EL,EM,EK,EJ,EN,EP,Fa,Fb,FO,Gd,Fx,FU,Gc,FP,Fy,FN,Gf,FE,Gb,F8,FH,FV,Fz,E9,Fc,FR,FT,Ge,FL,FI,FJ,Ga,FW,FY,FC,FX,FQ,Kv,Jj,IR,JX,GH,Gh,JY,IY,Kj,Hk,Jc,Jk,IP,Km,Ko,I6,Kd,Jw,Gz,Gu,I3,J2,Hm,ID,IW,Ik,JK,Ju,Ki,Il,Ha,Hn,Gi,GC,JD,I1,Ka,H9,Jp,Hw,Ji,I5,Jh,Is,JN,J3,Ii,JT,JR,IU,Hp,JZ,GD,GF,Jv,G9,Jl,IQ,IM,Kq,JI,J4,Jb,Ht,GN,GJ,Hx,J7,IE,Hu,J6,J0,Im,Jq,Hr,Kc,If,Gw,GA,Jo,JM,Hy,Hg,IC,J8,Hq,Ke,IH,J1,Jr,Kr,Gn,Gr,Je,IS,IN,Ib,Hb,Iv,Kn,Hi,JU,Ku,Ja,Ho,GK,Gv,Kg,I0,Kw,I7,Iy,Iq,Hh,I4,IZ,H7,Hz,Ij,Hd,IX,He,JS,Js,JG,Kh,IV,Gp,Gl,Jt,H8,Jz,IT,IK,I2,Ks,Ie,JO,Iw,JL,Gm,Gy,Gs,GL,Gk,GI,Gt,Gj,JF,IB,Hf,Ia,JB,Hs,JJ,Jn,JA,JH,Jy,GB,GE,t 0,t 1,t 2,t 3,t 4,t 5,t 6,t 7,t 8,t 9,t 10,t 11,t 12,t 13,t 14,t 15,t 16,t 17,t 18,t 19,t 20,t 21,t 22,t 23,t 24,t 25,t 26,t 27,t 28,Gq,GG,In,IL,JQ,J9,Ig,IJ,Hv,Io,JV,J5,Gx])(Q:Exit->Act->World->Prop)(hQ:∀(t:Nat->Value)(k:Ti)(ad':OA)(cap' g' pz:Nat)(X0:World),(Rw X0 ad' g' (x.tn+1) cap' 5 (BO (K5 x.ts) (x.tn*5) (AR (tv k)))/\((0<d3/\g'=gA)\/W.1.size<=g')/\k.client.size<=1000/\k.print.size<=1000)->Az (λq=>q=R\/(0<d3/\q=gA)) W X0->p<=pz->pz<=p+29->Rd X0 R ad nn cap pz->Q .normal ⟨mk t,[]⟩ (X0.setCell ⟨T,4,none⟩ (.l ad' (x.tn+1) cap'))):Code.wp prog (rg Try.f44 58) Q ⟨mk t0,[]⟩ W:=by
 have hRW:=hr.lt;have hPl:∀q,(λq=>q=R\/(0<d3/\q=gA)) q->q<W.1.size:=λq e=>by
  rcases e with e|e;.omega
  .have:=HA.lt e.1;omega
 refine NK Ze 29 1 27 (λj=>match j with|_=>29) (λ_=>0) (λ_=>false) (λq=>q=R\/(0<d3/\q=gA)) mk t0 R ad nn cap p (aI R T x g1 g2 a3 d1 d2 d3 o h y z ah bh ch eh gA W) (λa X=>∃(t:Nat->Value)(k:Ti)(ad':OA)(cap' g' pz:Nat)(X0:World),a=⟨mk t,[]⟩/\X=(X0.setCell ⟨T,4,none⟩ (.l ad' (x.tn+1) cap'))/\(Rw X0 ad' g' (x.tn+1) cap' 5 (BO (K5 x.ts) (x.tn*5) (AR (tv k)))/\((0<d3/\g'=gA)\/W.1.size<=g')/\k.client.size<=1000/\k.print.size<=1000)/\Az (λq=>q=R\/(0<d3/\q=gA)) W X0/\p<=pz/\pz<=p+29/\Rd X0 R ad nn cap pz) Ze Ze Ze Ze ?_ ?_ (AA rfl) rfl hr ?_ ?_ ?_ ?_;all_goals subst hmk
 .intro i v X Z p' hi him h hF hRd hR hX;rcases(show i=0\/i=1\/i=2\/i=3\/i=4\/i=5\/i=6\/i=7\/i=8\/i=9\/i=10\/i=11\/i=12\/i=13\/i=14\/i=15\/i=16\/i=17\/i=18\/i=19\/i=20\/i=21\/i=22\/i=23\/i=24\/i=25\/i=26\/i=27\/i=28 by omega)with rfl|rfl|rfl|rfl|rfl|rfl|rfl|rfl|rfl|rfl|rfl|rfl|rfl|rfl|rfl|rfl|rfl|rfl|rfl|rfl|rfl|rfl|rfl|rfl|rfl|rfl|rfl|rfl|rfl;.exact h
  .exact h
  .exact WJ
  .exact h
  .exact h
  .exact cG
  .exact h
  .exact WJ
  .exact h
  .exact h
  .obtain⟨g,k,s,e,y1,y2,y3,y4⟩:=h;exact⟨g,k,s,e,⟨y1.1,Ac y1.2 hF.size⟩,(hF.cell (p:=⟨g,k,none⟩) y1.2 (λq=>by have:=hPl g q;omega)).trans y2,y3,y4⟩
  .exact h
  .exact h
  .exact h
  .exact h
  .exact h
  .exact h
  .exact h
  .exact h
  .exact h
  .exact WJ
  .exact h
  .exact h
  .exact cG
  .exact h
  .exact h
  .obtain⟨g,k,e,y1,y2,y3,y4⟩:=h;exact⟨g,k,e,y1,Ac y2 hF.size,λf hf=>(hF.cell (p:=⟨g,f,none⟩) y2 (λq=>by have:=hPl g q;omega)).trans (y3 f hf),y4⟩
  .exact absurd rfl him
  .exact h
 .intro i v X Z p' hi h hF hRd hR hX;rcases(show i=0\/i=1\/i=2\/i=3\/i=4\/i=5\/i=6\/i=7\/i=8\/i=9\/i=10\/i=11\/i=12\/i=13\/i=14\/i=15\/i=16\/i=17\/i=18\/i=19\/i=20\/i=21\/i=22\/i=23\/i=24\/i=25\/i=26\/i=27\/i=28 by omega)with rfl|rfl|rfl|rfl|rfl|rfl|rfl|rfl|rfl|rfl|rfl|rfl|rfl|rfl|rfl|rfl|rfl|rfl|rfl|rfl|rfl|rfl|rfl|rfl|rfl|rfl|rfl|rfl|rfl;.exact h
  .exact h
  .exact VN
  .exact h
  .exact h
  .exact aB
  .exact h
  .exact VN
  .exact h
  .exact h
  .obtain⟨g,k,s,e,y1,y2,y3,y4⟩:=h;exact⟨g,k,s,e,⟨y1.1,Ac y1.2 hF.size⟩,(hF.cell (p:=⟨g,k,none⟩) y1.2 (λq=>by have q:g=R:=q;omega)).trans y2,y3,y4⟩
  .exact h
  .exact h
  .exact h
  .exact h
  .exact h
  .exact h
  .exact h
  .exact h
  .exact h
  .exact VN
  .exact h
  .exact h
  .exact aB
  .exact h
  .exact h
  .obtain⟨g,k,e,y1,y2,y3,y4⟩:=h;exact⟨g,k,e,y1,Ac y2 hF.size,λf hf=>(hF.cell (p:=⟨g,f,none⟩) y2 (λq=>by have q:g=R:=q;omega)).trans (y3 f hf),y4⟩
  .obtain⟨k,ad',cap',g',e,y1,y2,y3⟩:=h;exact⟨k,ad',cap',g',e,y1.fr hF (λh0 q=>by have q:g'=R:=q;rcases y2 with y2|y2;exact HA.ne (y2.2▸q);omega),y2,y3⟩
  .exact h
 .intro i hi him t X K p' hb hfs hp1 hp2 hrd hg hK;rcases(show i=0\/i=1\/i=2\/i=3\/i=4\/i=5\/i=6\/i=7\/i=8\/i=9\/i=10\/i=11\/i=12\/i=13\/i=14\/i=15\/i=16\/i=17\/i=18\/i=19\/i=20\/i=21\/i=22\/i=23\/i=24\/i=25\/i=26\/i=27\/i=28 by omega)with rfl|rfl|rfl|rfl|rfl|rfl|rfl|rfl|rfl|rfl|rfl|rfl|rfl|rfl|rfl|rfl|rfl|rfl|rfl|rfl|rfl|rfl|rfl|rfl|rfl|rfl|rfl|rfl|rfl;.have h:=hK (.p T 4) X p' uK Za rfl (Az.refl _ _) hrd;exact Ol
  .have eq0:t 0=.p T 4:=hg 0 (AQ rfl);have q:=(hb.cell (p:=⟨T,4,none⟩) H.lt HA.nT).trans (H.row.cell 4 Zb);simp only[AR,Aa,Ab]at q;have h:=hK (.l a3 x.tn d3) X p' uK Za rfl (Az.refl _ _) hrd;refine Ag rfl rfl ?_;clear hK hg;go_simp;simpa[Av,eq0]using h
  .have h:=hK (.l (some ⟨X.1.size,0,none⟩) 3 3) (X.alloc (.cells #[.i 0,.i 1,.i 1000001] 3)) p' uK Za ⟨X.1.size,rfl,hb.size,Zc,λk hk=>by rw[Ak X #[.i 0,.i 1,.i 1000001] 3 k];rcases(show k=0\/k=1\/k=2 by omega)with rfl|rfl|rfl;all_goals exact⟨_,rfl,Za,Za⟩⟩ (Aq AG) (hrd.below AG);exact Ol
  .exact Tw
  .have eq3:t 3=.p R 0:=hg 3 (AQ rfl);refine Ag rfl rfl ?_;have HK:=Ah hK;have HR:=Ah hrd;clear hK hg hrd;go_simp;go_at_call 12;refine(A7 R ad nn cap p' 3 X HR Za Zb Zb).mono ?_;rintro r Z ⟨k,rfl,_,hv,hf,hr2⟩;have h:=HK (.i k) Z (p'+1) Za uK ⟨k,by have:=hv Zb;omega,rfl⟩ hf hr2;simpa[Av,eq3]using h
  .obtain⟨g,eq2,y1,y2,y3⟩:∃g:Nat,t 2=.l (some ⟨g,0,none⟩) 3 3/\W.1.size<=g/\g<X.1.size/\∀k,k<3->∃i:Int,X.cell? ⟨g,k,none⟩=some (.i i)/\-1000001<=i/\i<=1000001:=hg 2 (AQ rfl);obtain⟨k,hk,eq4⟩:∃k:Nat,k<3/\t 4=.i k:=hg 4 (AQ rfl);obtain⟨i,y4,y5,y6⟩:=y3 k hk;have h:=hK (.pointer (some ⟨g,k,none⟩)) X p' uK Za ⟨g,k,i,rfl,⟨y1,y2⟩,y4,trivial,y5,y6⟩ (Az.refl _ _) hrd;refine Ag rfl rfl ?_;clear hK hg;go_simp;rw[if_pos Za,AI];go_simp;simpa[Av,eq2,eq4]using h
  .obtain⟨g,k,i,eq5,y1,y2,y3,y4⟩:∃(g k:Nat)(i:Int),t 5=.pointer (some ⟨g,k,none⟩)/\(W.1.size<=g/\g<X.1.size)/\X.cell? ⟨g,k,none⟩=some (.i i)/\True/\(-1000001<=i/\i<=1000001):=hg 5 (AQ rfl);have h:=hK (.i i) X p' uK Za ⟨i,rfl,y4.1,y4.2⟩ (Az.refl _ _) hrd;refine Ag rfl rfl ?_;clear hK hg;go_simp;simpa[Av,eq5]using h
  .have h:=hK (.l (some ⟨X.1.size,0,none⟩) 2 2) (X.alloc (.cells #[.s ⟨#[49,50,51,52,53,54,55,56]⟩,.s ⟨#[49]⟩] 9)) p' uK Za ⟨X.1.size,rfl,hb.size,Zc,λk hk=>by rw[Ak X #[.s ⟨#[49,50,51,52,53,54,55,56]⟩,.s ⟨#[49]⟩] 9 k];rcases(show k=0\/k=1 by omega)with rfl|rfl;all_goals exact⟨_,rfl,Zb⟩⟩ (Aq AG) (hrd.below AG);exact Ol
  .exact Tw
  .have eq8:t 8=.p R 0:=hg 8 (AQ rfl);refine Ag rfl rfl ?_;have HK:=Ah hK;have HR:=Ah hrd;clear hK hg hrd;go_simp;go_at_call 12;refine(A7 R ad nn cap p' 2 X HR Za Zb Zb).mono ?_;rintro r Z ⟨k,rfl,_,hv,hf,hr2⟩;have h:=HK (.i k) Z (p'+1) Za uK ⟨k,by have:=hv Zb;omega,rfl⟩ hf hr2;simpa[Av,eq8]using h
  .obtain⟨g,eq7,y1,y2,y3⟩:∃g:Nat,t 7=.l (some ⟨g,0,none⟩) 2 2/\W.1.size<=g/\g<X.1.size/\∀k,k<2->∃s:ByteArray,X.cell? ⟨g,k,none⟩=some (.s s)/\s.size<=1000:=hg 7 (AQ rfl);obtain⟨k,hk,eq9⟩:∃k:Nat,k<2/\t 9=.i k:=hg 9 (AQ rfl);obtain⟨s,y4,y5⟩:=y3 k hk;have h:=hK (.pointer (some ⟨g,k,none⟩)) X p' uK Za ⟨g,k,s,rfl,⟨y1,y2⟩,y4,trivial,y5⟩ (Az.refl _ _) hrd;refine Ag rfl rfl ?_;clear hK hg;go_simp;rw[if_pos Za,AI];go_simp;simpa[Av,eq7,eq9]using h
  .obtain⟨g,k,s,eq10,y1,y2,y3,y4⟩:∃(g k:Nat)(s:ByteArray),t 10=.pointer (some ⟨g,k,none⟩)/\(W.1.size<=g/\g<X.1.size)/\X.cell? ⟨g,k,none⟩=some (.s s)/\True/\s.size<=1000:=hg 10 (AQ rfl);have h:=hK (.s s) X p' uK Za ⟨s,rfl,y4⟩ (Az.refl _ _) hrd;refine Ag rfl rfl ?_;clear hK hg;go_simp;simpa[Av,eq10]using h
  .exact Tw
  .have eq12:t 12=.p R 0:=hg 12 (AQ rfl);refine Ag rfl rfl ?_;have HK:=Ah hK;have HR:=Ah hrd;clear hK hg hrd;go_simp;go_at_call 12;refine(A7 R ad nn cap p' 12 X HR Za Zb Zb).mono ?_;rintro r Z ⟨k,rfl,_,hv,hf,hr2⟩;have h:=HK (.i k) Z (p'+1) Za uK ⟨k,by have:=hv Zb;omega,rfl⟩ hf hr2;simpa[Av,eq12]using h
  .obtain⟨ia,iah,eq13⟩:∃k:Nat,k<12/\t 13=.i k:=hg 13 (AQ rfl);have hw:=AJ ((ia:Int)-1) ⟨Za,Za⟩;have h:=hK (.i ((ia:Int)-1)) X p' uK Za ⟨_,rfl,Za,Za⟩ (Az.refl _ _) hrd;refine Ag rfl rfl ?_;clear hK hg;go_simp;simpa[Av,eq13,hw]using h
  .have h:=hK (.p T 0) X p' uK Za rfl (Az.refl _ _) hrd;exact Ol
  .have eq15:t 15=.p T 0:=hg 15 (AQ rfl);have q:=(hb.cell (p:=⟨T,0,none⟩) H.lt HA.nT).trans (H.row.cell 0 Zb);simp only[AR,Aa]at q;have h:=hK (.i x.now) X p' uK Za rfl (Az.refl _ _) hrd;refine Ag rfl rfl ?_;clear hK hg;go_simp;simpa[Av,eq15]using h
  .have h:=hK (.p T 0) X p' uK Za rfl (Az.refl _ _) hrd;exact Ol
  .have eq17:t 17=.p T 0:=hg 17 (AQ rfl);have q:=(hb.cell (p:=⟨T,0,none⟩) H.lt HA.nT).trans (H.row.cell 0 Zb);simp only[AR,Aa]at q;have h:=hK (.i x.now) X p' uK Za rfl (Az.refl _ _) hrd;refine Ag rfl rfl ?_;clear hK hg;go_simp;simpa[Av,eq17]using h
  .have eq18:t 18=.i x.now:=hg 18 (AQ rfl);have eq18b:=H.bn;have hw:=AJ (x.now+1) ⟨Za,Za⟩;have h:=hK (.i (x.now+1)) X p' uK Za ⟨_,rfl,Za,Za⟩ (Az.refl _ _) hrd;refine Ag rfl rfl ?_;clear hK hg;go_simp;simpa[Av,eq18,hw]using h
  .have eq16:t 16=.i x.now:=hg 16 (AQ rfl);have eq16b:=H.bn;obtain⟨i19,eq19,eq191,eq192⟩:∃i:Int,t 19=.i i/\-1000001<=i/\i<=1000001:=hg 19 (AQ rfl);have h:=hK (.l (some ⟨X.1.size,0,none⟩) 3 3) (X.alloc (.cells #[.i 0,.i x.now,.i i19] 3)) p' uK Za ⟨X.1.size,rfl,hb.size,Zc,λk hk=>by rw[Ak X #[.i 0,.i x.now,.i i19] 3 k];rcases(show k=0\/k=1\/k=2 by omega)with rfl|rfl|rfl;all_goals exact⟨_,rfl,Za,Za⟩⟩ (Aq AG) (hrd.below AG);refine Ag rfl rfl ?_;clear hK hg;go_simp;simpa[Av,eq16,eq19]using h
  .exact Tw
  .have eq21:t 21=.p R 0:=hg 21 (AQ rfl);refine Ag rfl rfl ?_;have HK:=Ah hK;have HR:=Ah hrd;clear hK hg hrd;go_simp;go_at_call 12;refine(A7 R ad nn cap p' 3 X HR Za Zb Zb).mono ?_;rintro r Z ⟨k,rfl,_,hv,hf,hr2⟩;have h:=HK (.i k) Z (p'+1) Za uK ⟨k,by have:=hv Zb;omega,rfl⟩ hf hr2;simpa[Av,eq21]using h
  .obtain⟨g,eq20,y1,y2,y3⟩:∃g:Nat,t 20=.l (some ⟨g,0,none⟩) 3 3/\W.1.size<=g/\g<X.1.size/\∀k,k<3->∃i:Int,X.cell? ⟨g,k,none⟩=some (.i i)/\-1000001<=i/\i<=1000001:=hg 20 (AQ rfl);obtain⟨k,hk,eq22⟩:∃k:Nat,k<3/\t 22=.i k:=hg 22 (AQ rfl);obtain⟨i,y4,y5,y6⟩:=y3 k hk;have h:=hK (.pointer (some ⟨g,k,none⟩)) X p' uK Za ⟨g,k,i,rfl,⟨y1,y2⟩,y4,trivial,y5,y6⟩ (Az.refl _ _) hrd;refine Ag rfl rfl ?_;clear hK hg;go_simp;rw[if_pos Za,AI];go_simp;simpa[Av,eq20,eq22]using h
  .obtain⟨g,k,i,eq23,y1,y2,y3,y4⟩:∃(g k:Nat)(i:Int),t 23=.pointer (some ⟨g,k,none⟩)/\(W.1.size<=g/\g<X.1.size)/\X.cell? ⟨g,k,none⟩=some (.i i)/\True/\(-1000001<=i/\i<=1000001):=hg 23 (AQ rfl);have h:=hK (.i i) X p' uK Za ⟨i,rfl,y4.1,y4.2⟩ (Az.refl _ _) hrd;refine Ag rfl rfl ?_;clear hK hg;go_simp;simpa[Av,eq23]using h
  .obtain⟨i6,eq6,_,_⟩:∃i:Int,t 6=.i i/\-1000001<=i/\i<=1000001:=hg 6 (AQ rfl);obtain⟨s11,eq11,z11⟩:∃s:ByteArray,t 11=.s s/\s.size<=1000:=hg 11 (AQ rfl);obtain⟨i14,eq14,_,_⟩:∃i:Int,t 14=.i i/\-13<=i/\i<=13:=hg 14 (AQ rfl);obtain⟨i24,eq24,_,_⟩:∃i:Int,t 24=.i i/\-1000001<=i/\i<=1000001:=hg 24 (AQ rfl);have h:=hK (.agg #[.s ⟨#[122,111,101]⟩,.i i6,.s s11,.i i14,.i i24]) X p' uK Za ⟨⟨⟨#[122,111,101]⟩,i6,s11,i14,i24⟩,rfl,(by show(⟨#[122,111,101]⟩:ByteArray).size<=1000;decide),z11⟩ (Az.refl _ _) hrd;refine Ag rfl rfl ?_;clear hK hg;go_simp;simpa[Av,eq6,eq11,eq14,eq24]using h
  .obtain⟨k,eq25,z1,z2⟩:∃k:Ti,t 25=.agg (vT k)/\k.client.size<=1000/\k.print.size<=1000:=hg 25 (AQ rfl);have h:=hK (.l (some ⟨X.1.size,0,none⟩) 1 1) (X.alloc (.cells (vT k) 89)) p' uK Za ⟨X.1.size,k,rfl,hb.size,Zc,λf hf=>(AN.new (w:=X) (l:=tv k) (t:=89) EF).cell f hf,z1,z2⟩ (Aq AG) (hrd.below AG);refine Ag rfl rfl ?_;clear hK hg;go_simp;simpa[Av,eq25]using h
  .exact absurd rfl him
  .have h:=hK (.p T 4) X p' uK Za rfl (Az.refl _ _) hrd;exact Ol
 .intro hmn t X K p' hb hp1 hp2 hrd hg hK;obtain⟨g,k,eq26,y1,y2,y3,y4⟩:∃(g:Nat)(k:Ti),t 26=.l (some ⟨g,0,none⟩) 1 1/\W.1.size<=g/\g<X.1.size/\(∀f,f<5->X.cell? ⟨g,f,none⟩=some (AR (tv k) f))/\k.client.size<=1000/\k.print.size<=1000:=hg 26 (AQ rfl);have eq1:t 1=.l a3 x.tn d3:=hg 1 (AQ rfl);have RW:=HA.rw.fr hb (λh0=>HA.ne);obtain⟨ad',cap',g',Y,hrun,hrw,hfY,hg'⟩:=LA (P:=prog) X 25 25 89 5 56 _ underlying25 LC Za Ze a3 gA x.tn d3 (K5 x.ts) RW (λj _=>L2 _ _) g (g+1) (some ⟨g,0,none⟩) 1 1 (AR (tv k)) ⟨λj hj=>⟨g,0,rfl,AD _,By _,by rw[A6];exact y3 j hj⟩,λj hj=>eX k j hj⟩ Za (by have:=HA.tn;omega) (by have:=HA.tn;omega);have hfA:Az (λq=>q=R\/(0<d3/\q=gA)) X Y:=hfY.mono (λq e=>AC e);have h:=hK (.l ad' (x.tn+1) cap') Y p' uK Za ⟨k,ad',cap',g',rfl,hrw,hg'.imp id (AT hb.size),y4.1,y4.2⟩ hfA (hrd.app hfY HA.ne HA.bt);refine Ag rfl rfl ?_;clear hK hg;refine EQ (.tmp 349) (.tmp 374) 25 25 rfl _ _ _ _ (by simpa[Act.eval,go_sem]using eq1) (by simpa[Act.eval,go_sem]using eq26) hrun ?_;simpa[Av,Act.put]using h
 .intro t X K p' hb hp1 hp2 hrd hg hK;have eq28:t 28=.p T 4:=hg 28 Za;obtain⟨k,ad',cap',g',eqm,hrw,hg',z1,z2⟩:∃(k:Ti)(ad':OA)(cap' g':Nat),t 27=.l ad' (x.tn+1) cap'/\Rw X ad' g' (x.tn+1) cap' 5 (BO (K5 x.ts) (x.tn*5) (AR (tv k)))/\((0<d3/\g'=gA)\/W.1.size<=g')/\k.client.size<=1000/\k.print.size<=1000:=hg 27 Za;have q:=(hb.cell (p:=⟨T,4,none⟩) H.lt HA.nT).trans (H.row.cell 4 Zb);have q2:=(hb.frozen (p:=⟨T,4,none⟩) H.lt HA.nT).trans (H.row.free _);simp only[AR,Aa,Ab]at q;have h:=hK _ _ ⟨t,k,ad',cap',g',p',X,rfl,rfl,⟨hrw,hg',z1,z2⟩,hb,hp1,Za,hrd⟩;have HK:=Ah h;clear hK hg h;refine Ag rfl rfl ?_;go_simp;simpa[eq28,eqm]using HK.out
 .rintro a X ⟨t,k,ad',cap',g',pz,X0,rfl,rfl,z2,z3,z4,z5,z6⟩;exact hQ t k ad' cap' g' pz X0 z2 z3 z4 z5 z6
end Go.Proofs.Ytnnjcenacidceaa
