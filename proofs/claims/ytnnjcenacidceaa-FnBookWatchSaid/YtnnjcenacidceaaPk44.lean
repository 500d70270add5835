import Derived.Test.YtnnjcenacidceaaPk43
set_option maxRecDepth 100000
set_option maxHeartbeats 4000000
namespace Go.Proofs.Ytnnjcenacidceaa
open Go.RowKit Go.Proofs.Try
def Su (c:Nat->Value)(o:Nat)(j:Nat):Value:=if j<o*7 then c j else c (j+7)
theorem V8 (w:World)(ty:TypeId)(g n cap o:Nat)(c:Nat->Value)(h:Rw w (some ⟨g,0,none⟩) g n cap 7 c)(h1:∀j,j<n*7->(c j).oneCell'=true)(ho:o<n)(a2:OA)(e2:Nat)(ha:0<n-(o+1)->a2=some ⟨g,(o+1)*7,none⟩)(hn:n<=100):∃Y,(Builtin.append_ #[23,23] ty #[.l (some ⟨g,0,none⟩) o cap,.l a2 (n-(o+1):Nat) e2]).run prog w=.ok (.l (some ⟨g,0,none⟩) (n-1:Nat) cap) Y/\Rw Y (some ⟨g,0,none⟩) g (n-1) cap 7 (Su c o)/\Az (λq=>0<cap/\q=g) w Y:=by
 have hle:=h.le;have hc0:0<cap:=Za;have rm:=h.room hc0;obtain⟨i0,hi0,hz0,hz1,hz2⟩:=info_parts Ms;have hd:BS w g (g+1) a2 ((n-(o+1))*7) (λj=>c ((o+1)*7+j)):=⟨λj hj=>⟨g,(o+1)*7,ha Za,AD _,By _,h.cell _ Za⟩,λj hj=>h1 _ Za⟩;have hrun:=run_append_room_src (P:=prog) w 23 23 ty 38 i0 underlying23 hi0 g 0 o cap (.l a2 (n-(o+1):Nat) e2) (n-(o+1)) (AM ((n-(o+1))*7) (λj=>c ((o+1)*7+j))) (by rw[hz1];exact hd.src Za underlying23) Za (λj hj=>by rw[AW]at hj;obtain⟨u,hu⟩:=rm.has (o*7+j) Za;rw[hz1,show 0+o*7+j=o*7+j by omega,hu];rfl) (λj hj=>rm.free _);rw[hz1,show 0+o*7=o*7 by omega,show o+(n-(o+1))=n-1 by omega]at hrun;have hin:∀j,j<(n-(o+1))*7->(w.setCells g (o*7) (AM ((n-(o+1))*7) (λj=>c ((o+1)*7+j)))).cell? ⟨g,o*7+j,none⟩=some (c ((o+1)*7+j)):=λj hj=>by have:=E1 g (AM ((n-(o+1))*7) (λj=>c ((o+1)*7+j))) (o*7) w (λj hj=>by rw[AW]at hj;obtain⟨u,hu⟩:=rm.has (o*7+j) Za;rw[hu];rfl) j (by rw[AW];exact hj);rw[Da]at this;exact this
 have hout:∀j,(j<o*7\/o*7+(n-(o+1))*7<=j)->(w.setCells g (o*7) (AM ((n-(o+1))*7) (λj=>c ((o+1)*7+j)))).cell? ⟨g,j,none⟩=w.cell? ⟨g,j,none⟩:=λj hj=>KP g _ (o*7) w ⟨g,j,none⟩ (λ_ _=>by rw[AW];rcases hj with hj|hj;exact AA hj;exact AC hj);refine⟨_,hrun,⟨λ_=>rfl,Za,λ_=>⟨λj hj=>?_,λj=>by rw[La];exact rm.free _,by rw[G8];exact rm.lt⟩,λj hj=>?_⟩,PM (Lb g _ (o*7) w) (λk h1 h2=>⟨hc0,Za⟩)⟩
 .by_cases hj1:j<o*7\/o*7+(n-(o+1))*7<=j;.rw[hout j hj1];exact rm.has j hj
  .obtain⟨q,rfl⟩:∃q,j=o*7+q:=⟨j-o*7,Za⟩;exact⟨_,hin q Za⟩
 .unfold Su;by_cases hj1:j<o*7;.rw[if_pos hj1,hout j (AA hj1)];exact h.cell j Za
  .obtain⟨q,rfl⟩:∃q,j=o*7+q:=⟨j-o*7,Za⟩;rw[if_neg hj1,hin q Za,show(o+1)*7+q=o*7+q+7 by omega]
def cJ (_R:Nat)(T:Nat)(x:Bk)(g1 _g2:Nat)(_a3:OA)(d1 _d2 _d3 o _h:Nat)(_y:Ob)(_z:Ch)(_ah _bh:OA)(_ch _eh:Nat)(cA:Nat->Value)(_W:World)(i:Nat)(v:Value)(X:World):Prop:=match i with
 |0=>v=.p T 2
 |1=>v=.l (some ⟨g1,0,none⟩) x.on d1
 |2=>v=.i (o:Nat)
 |3=>v=.l (some ⟨g1,0,none⟩) o d1
 |4=>v=.p T 2
 |5=>v=.l (some ⟨g1,0,none⟩) x.on d1
 |6=>v=.i (o:Nat)
 |7=>v=.i ((o+1:Nat):Int)
 |8=>∃(a2:OA)(e2:Nat),v=.l a2 (x.on-(o+1):Nat) e2/\(0<x.on-(o+1)->a2=some ⟨g1,(o+1)*7,none⟩)
 |9=>v=.l (some ⟨g1,0,none⟩) (x.on-1:Nat) d1/\Rw X (some ⟨g1,0,none⟩) g1 (x.on-1) d1 7 (Su cA o)
 |10=>v=.p T 2
 |_=>True
theorem Tt{P:Prop}(h:P:=by refine Ag rfl rfl ?_;clear hK hg;go_simp;simpa[Av]using h):P:=h
theorem dB{P:Prop}(h:P:=by have eq0:t 0=.p T 2:=hg 0 (AQ rfl);have q:=(hb.cell (p:=⟨T,2,none⟩) H.lt HA.nT).trans (H.row.cell 2 Zb);simp only[AR,Aa,Ab]at q;have h:=hK (.l (some ⟨g1,0,none⟩) x.on d1) X p' uK Za rfl (Az.refl _ _) hrd;refine Ag rfl rfl ?_;clear hK hg;go_simp;simpa[Av,eq0]using h):P:=h
theorem Rp{P:Prop}(h:P:=by have h:=hK (.p T 2) X p' uK Za rfl (Az.refl _ _) hrd;exact Tt):P:=h
theorem TV{P:Prop}(h:P:=by have h:=hK (.i (o:Nat)) X p' uK Za rfl (Az.refl _ _) hrd;exact Tt):P:=h
theorem kK{p1 p2 p3 p4 p8 p9 DX DK DV DF C9 CV CU C6 C8 CZ Df C7 C4 CY Dw Di Dj Dg Dh Dy Dx DC DB DA Dz DH Ek Eu EE Ej Em Er Eo En Ei Eh Ds DU DW DI DG D7 D4 D3 D8 D1 D0 D2 D5 DY EA Ey Ew Ex Ez El Ep DM Fk Fg Fo Fm Fp Fl Fq Ff Fj GR GU GT Fi Fh FK FA FM GZ KR KF KD KC KG KE GS GV G4 G7 G3 G5 G6 KH Cp Cu Cn Ci Cj Cg Ck Cm Co CF CJ CI CE Cy CB Cz CA CD CG CQ CS CR DT DP DN Dm Du Dp Ed Dr Dq Do Dt DQ DJ De Db Dc DO DL DR DS Dl EH ER EU EW ES EV ET EL EM EK EJ EN EP Fa Fb FO Gd Fx FU Gc FP Fy FN Gf FE Gb F8 FH FV Fz E9 Fc FR FT Ge FL FI FJ Ga FW FY FC FX FQ Kv Jj IR JX GH Gh JY IY Kj Hk Jc Jk IP Km Ko I6 Kd Jw Gz Gu I3 J2 Hm ID IW Ik JK Ju Ki Il Ha Hn Gi GC JD I1 Ka H9 Jp Hw Ji I5 Jh Is JN J3 Ii JT JR IU Hp JZ GD GF Jv G9 Jl IQ IM Kq JI J4 Jb Ht GN GJ Gw GA Jo JM Hy Hg IC J8 Hq Ke IH J1 Jr Kr Gn Gr Je IS IN Ib Hb Iv Kn Hi JU Ku Ja Ho GK Gv Kg I0 Kw I7 Iy Iq Hh I4 IZ H7 Hz Ij Hd IX He JS Js JG Kh IV Gp Gl Jt H8 Jz IT IK I2 Ks Ie JO Iw JL Gm Gy Gs GL Gk GI Gt Gj JF IB Hf Ia JB Hs JJ Jn JA JH Jy GB GE IF Jd Iz H5 Jg Hc Kf Ir JP JW Hl Iu Jm Ic JC Kl Hj H6 Ip II Ih IA I8 Jf JE Kt IG I9 It Gq GG In IL JQ J9 Ig IJ Hv Io JV J5 Gx:Value}{mk:(Nat->Value)->Array Value}(t0:Nat->Value)(R:Nat)(ad:OA)(nn cap p:Nat)(T:Nat)(x:Bk)(g1 g2:Nat)(a3:OA)(d1 d2 d3 o h:Nat)(y:Ob)(z:Ch)(ah bh:OA)(ch eh:Nat)(cA:Nat->Value)(W:World)(hr:Rd W R ad nn cap p)(_hp:p<=600000)(H:Sg W R T x g1 g2 a3 d1 d2 d3 o h y z ah bh ch eh)(HA:wR W R T ad x g1 d1 cA)(hmk:mk=λt=>#[.p R 0,p1,p2,p3,p4,.p T 0,.i (o:Nat),.i (h:Nat),p8,p9,DX,DK,DV,DF,C9,CV,CU,C6,C8,CZ,Df,C7,C4,CY,Dw,Di,Dj,Dg,Dh,Dy,Dx,DC,DB,DA,Dz,DH,Ek,Eu,EE,Ej,Em,Er,Eo,En,Ei,Eh,Ds,DU,DW,DI,DG,D7,D4,D3,D8,D1,D0,D2,D5,DY,EA,Ey,Ew,Ex,Ez,El,Ep,DM,Fk,Fg,Fo,Fm,Fp,Fl,Fq,Ff,Fj,GR,GU,GT,Fi,Fh,FK,FA,FM,GZ,KR,KF,KD,KC,KG,KE,GS,GV,G4,G7,G3,G5,G6,KH,Cp,Cu,Cn,Ci,Cj,Cg,Ck,Cm,Co,CF,CJ,CI,CE,Cy,CB,Cz,CA,CD,CG,CQ,CS,CR,DT,DP,DN,Dm,Du,Dp,Ed,Dr,Dq,Do,Dt,DQ,DJ,De,Db,Dc,DO,DL,DR,DS,Dl,EH,ER,EU,EW,ES,EV,ET,EL,EM,EK,EJ,EN,EP,Fa,Fb,FO,Gd,Fx,FU,Gc,FP,Fy,FN,Gf,FE,Gb,F8,FH,FV,Fz,E9,Fc,FR,FT,Ge,FL,FI,FJ,Ga,FW,FY,FC,FX,FQ,Kv,Jj,IR,JX,GH,Gh,JY,IY,Kj,Hk,Jc,Jk,IP,Km,Ko,I6,Kd,Jw,Gz,Gu,I3,J2,Hm,ID,IW,Ik,JK,Ju,Ki,Il,Ha,Hn,Gi,GC,JD,I1,Ka,H9,Jp,Hw,Ji,I5,Jh,Is,JN,J3,Ii,JT,JR,IU,Hp,JZ,GD,GF,Jv,G9,Jl,IQ,IM,Kq,JI,J4,Jb,Ht,GN,GJ,t 0,t 1,t 2,t 3,t 4,t 5,t 6,t 7,t 8,t 9,t 10,Gw,GA,Jo,JM,Hy,Hg,IC,J8,Hq,Ke,IH,J1,Jr,Kr,Gn,Gr,Je,IS,IN,Ib,Hb,Iv,Kn,Hi,JU,Ku,Ja,Ho,GK,Gv,Kg,I0,Kw,I7,Iy,Iq,Hh,I4,IZ,H7,Hz,Ij,Hd,IX,He,JS,Js,JG,Kh,IV,Gp,Gl,Jt,H8,Jz,IT,IK,I2,Ks,Ie,JO,Iw,JL,Gm,Gy,Gs,GL,Gk,GI,Gt,Gj,JF,IB,Hf,Ia,JB,Hs,JJ,Jn,JA,JH,Jy,GB,GE,IF,Jd,Iz,H5,Jg,Hc,Kf,Ir,JP,JW,Hl,Iu,Jm,Ic,JC,Kl,Hj,H6,Ip,II,Ih,IA,I8,Jf,JE,Kt,IG,I9,It,Gq,GG,In,IL,JQ,J9,Ig,IJ,Hv,Io,JV,J5,Gx])(Q:Exit->Act->World->Prop)(hQ:∀(t:Nat->Value)(pz:Nat)(X0:World),(Rw X0 (some ⟨g1,0,none⟩) g1 (x.on-1) d1 7 (Su cA o))->Az (λq=>q=R\/(0<d1/\q=g1)) W X0->p<=pz->pz<=p+11->Rd X0 R ad nn cap pz->Q .normal ⟨mk t,[]⟩ (X0.setCell ⟨T,2,none⟩ (.l (some ⟨g1,0,none⟩) (x.on-1:Nat) d1))):Code.wp prog (rg Try.f44 44) Q ⟨mk t0,[]⟩ W:=by
 have hRW:=hr.lt;have hPl:∀q,(λq=>q=R\/(0<d1/\q=g1)) q->q<W.1.size:=λq e=>by
  rcases e with e|e;.omega
  .have:=H.l1;omega
 refine NK Ze 11 1 9 (λj=>match j with|_=>11) (λ_=>0) (λ_=>false) (λq=>q=R\/(0<d1/\q=g1)) mk t0 R ad nn cap p (cJ R T x g1 g2 a3 d1 d2 d3 o h y z ah bh ch eh cA W) (λa X=>∃(t:Nat->Value)(pz:Nat)(X0:World),a=⟨mk t,[]⟩/\X=(X0.setCell ⟨T,2,none⟩ (.l (some ⟨g1,0,none⟩) (x.on-1:Nat) d1))/\(Rw X0 (some ⟨g1,0,none⟩) g1 (x.on-1) d1 7 (Su cA o))/\Az (λq=>q=R\/(0<d1/\q=g1)) W X0/\p<=pz/\pz<=p+11/\Rd X0 R ad nn cap pz) Ze Ze Ze Ze ?_ ?_ (AA rfl) rfl hr ?_ ?_ ?_ ?_;all_goals subst hmk
 .intro i v X Z p' hi him h hF hRd hR hX;rcases(show i=0\/i=1\/i=2\/i=3\/i=4\/i=5\/i=6\/i=7\/i=8\/i=9\/i=10 by omega)with rfl|rfl|rfl|rfl|rfl|rfl|rfl|rfl|rfl|rfl|rfl;.exact h
  .exact h
  .exact h
  .exact h
  .exact h
  .exact h
  .exact h
  .exact h
  .exact h
  .exact absurd rfl him
  .exact h
 .intro i v X Z p' hi h hF hRd hR hX;rcases(show i=0\/i=1\/i=2\/i=3\/i=4\/i=5\/i=6\/i=7\/i=8\/i=9\/i=10 by omega)with rfl|rfl|rfl|rfl|rfl|rfl|rfl|rfl|rfl|rfl|rfl;.exact h
  .exact h
  .exact h
  .exact h
  .exact h
  .exact h
  .exact h
  .exact h
  .exact h
  .exact⟨h.1,h.2.fr hF (λh0 q=>H.n1 q)⟩
  .exact h
 .intro i hi him t X K p' hb hfs hp1 hp2 hrd hg hK;rcases(show i=0\/i=1\/i=2\/i=3\/i=4\/i=5\/i=6\/i=7\/i=8\/i=9\/i=10 by omega)with rfl|rfl|rfl|rfl|rfl|rfl|rfl|rfl|rfl|rfl|rfl;.exact Rp
  .exact dB
  .exact TV
  .have eq1:t 1=.l (some ⟨g1,0,none⟩) x.on d1:=hg 1 (AQ rfl);have eq2:t 2=.i (o:Nat):=hg 2 (AQ rfl);have hlo:=H.ho;have hle:=HA.rw.le;have h:=hK (.l (some ⟨g1,0,none⟩) o d1) X p' uK Za rfl (Az.refl _ _) hrd;refine Ag rfl rfl ?_;clear hK hg;go_simp;rw[if_pos Za,AI];go_simp;simpa[Av,eq1,eq2]using h
  .exact Rp
  .have eq4:t 4=.p T 2:=hg 4 (AQ rfl);have q:=(hb.cell (p:=⟨T,2,none⟩) H.lt HA.nT).trans (H.row.cell 2 Zb);simp only[AR,Aa,Ab]at q;have h:=hK (.l (some ⟨g1,0,none⟩) x.on d1) X p' uK Za rfl (Az.refl _ _) hrd;refine Ag rfl rfl ?_;clear hK hg;go_simp;simpa[Av,eq4]using h
  .exact TV
  .have eq6:t 6=.i (o:Nat):=hg 6 (AQ rfl);have hlo:=H.ho;have hon:=HA.on;have hw:IntKind.i64.wrap ((o:Int)+1)=((o+1:Nat):Int):=by rw[AJ _ ⟨Za,Za⟩];omega
   have h:=hK (.i ((o+1:Nat):Int)) X p' uK Za rfl (Az.refl _ _) hrd;refine Ag rfl rfl ?_;clear hK hg;go_simp;simpa[Av,eq6,hw]using h
  .have eq5:t 5=.l (some ⟨g1,0,none⟩) x.on d1:=hg 5 (AQ rfl);have eq7:t 7=.i ((o+1:Nat):Int):=hg 7 (AQ rfl);have hlo:=H.ho;have hle:=HA.rw.le;have h:=hK (.l (if d1=o+1 then some ⟨g1,0,none⟩else some ⟨g1,(o+1)*7,none⟩) (x.on-(o+1):Nat) (d1-(o+1))) X p' uK Za ⟨_,_,rfl,λh0=>if_neg Za⟩ (Az.refl _ _) hrd;refine Ag rfl rfl ?_;clear hK hg;go_simp;rw[if_pos Za,AI];go_simp;simpa[Av,eq5,eq7]using h
  .exact absurd rfl him
  .exact Rp
 .intro hmn t X K p' hb hp1 hp2 hrd hg hK;obtain⟨a2,e2,eq8,y1⟩:∃(a2:OA)(e2:Nat),t 8=.l a2 (x.on-(o+1):Nat) e2/\(0<x.on-(o+1)->a2=some ⟨g1,(o+1)*7,none⟩):=hg 8 (AQ rfl);have eq3:t 3=.l (some ⟨g1,0,none⟩) o d1:=hg 3 (AQ rfl);have RW:=HA.rw.fr hb (λh0=>H.n1);obtain⟨Y,hrun,hrw,hfY⟩:=V8 X 23 g1 x.on d1 o cA RW HA.one H.ho a2 e2 y1 HA.on;have hfA:Az (λq=>q=R\/(0<d1/\q=g1)) X Y:=hfY.mono (λq e=>AC e);have h:=hK (.l (some ⟨g1,0,none⟩) (x.on-1:Nat) d1) Y p' uK Za ⟨rfl,hrw⟩ hfA (hrd.app hfY H.n1 HA.bt);refine Ag rfl rfl ?_;clear hK hg;refine EQ (.tmp 256) (.tmp 261) 23 23 rfl _ _ _ _ (by simpa[Act.eval,go_sem]using eq3) (by simpa[Act.eval,go_sem]using eq8) hrun ?_;simpa[Av,Act.put]using h
 .intro t X K p' hb hp1 hp2 hrd hg hK;have eq10:t 10=.p T 2:=hg 10 Za;obtain⟨eqm,hrw⟩:t 9=.l (some ⟨g1,0,none⟩) (x.on-1:Nat) d1/\Rw X (some ⟨g1,0,none⟩) g1 (x.on-1) d1 7 (Su cA o):=hg 9 Za;have q:=(hb.cell (p:=⟨T,2,none⟩) H.lt HA.nT).trans (H.row.cell 2 Zb);have q2:=(hb.frozen (p:=⟨T,2,none⟩) H.lt HA.nT).trans (H.row.free _);simp only[AR,Aa,Ab]at q;have h:=hK _ _ ⟨t,p',X,rfl,rfl,hrw,hb,hp1,Za,hrd⟩;have HK:=Ah h;clear hK hg h;refine Ag rfl rfl ?_;go_simp;simpa[eq10,eqm]using HK.out
 .rintro a X ⟨t,pz,X0,rfl,rfl,z2,z3,z4,z5,z6⟩;exact hQ t pz X0 z2 z3 z4 z5 z6
def bI (R:Nat)(T:Nat)(x:Bk)(g1 _g2:Nat)(_a3:OA)(d1 _d2 _d3 o _h:Nat)(y:Ob)(_z:Ch)(ah _bh:OA)(ch _eh:Nat)(gA:Nat)(W:World)(i:Nat)(v:Value)(X:World):Prop:=match i with
 |0=>v=.p T 2
 |1=>v=.l (some ⟨g1,0,none⟩) x.on d1
 |2=>v=.i (o:Nat)
 |3=>v=.p T 2
 |4=>v=.l (some ⟨g1,0,none⟩) x.on d1
 |5=>v=.i (o:Nat)
 |6=>v=.pointer (some ⟨g1,o*7,none⟩)
 |7=>v=.pointer (some ⟨g1,o*7+6,none⟩)
 |8=>v=.l ah y.hn ch
 |9=>∃g:Nat,v=.l (some ⟨g,0,none⟩) 2 2/\W.1.size<=g/\g<X.1.size/\∀k,k<2->∃s:ByteArray,X.cell? ⟨g,k,none⟩=some (.s s)/\s.size<=1000
 |10=>v=.p R 0
 |11=>∃k:Nat,k<2/\v=.i k
 |12=>∃(g k:Nat)(s:ByteArray),v=.pointer (some ⟨g,k,none⟩)/\(W.1.size<=g/\g<X.1.size)/\X.cell? ⟨g,k,none⟩=some (.s s)/\True/\s.size<=1000
 |13=>∃s:ByteArray,v=.s s/\s.size<=1000
 |14=>∃(g:Nat)(s:ByteArray),v=.l (some ⟨g,0,none⟩) 1 1/\W.1.size<=g/\g<X.1.size/\X.cell? ⟨g,0,none⟩=some (.s s)/\s.size<=1000
 |15=>∃(s:ByteArray)(ad':OA)(cap' g':Nat),v=.l ad' (y.hn+1) cap'/\Rw X ad' g' (y.hn+1) cap' 1 (BO (λj=>.s (y.hs j)) (y.hn*1) (λ_=>.s s))/\((0<ch/\g'=gA)\/W.1.size<=g')/\s.size<=1000
 |16=>v=.pointer (some ⟨g1,o*7,none⟩)
 |17=>v=.pointer (some ⟨g1,o*7+6,none⟩)
 |_=>True
theorem kE{p1 p2 p3 p4 p8 p9 DX DK DV DF C9 CV CU C6 C8 CZ Df C7 C4 CY Dw Di Dj Dg Dh Dy Dx DC DB DA Dz DH Ek Eu EE Ej Em Er Eo En Ei Eh Ds DU DW DI DG D7 D4 D3 D8 D1 D0 D2 D5 DY EA Ey Ew Ex Ez El Ep DM Fk Fg Fo Fm Fp Fl Fq Ff Fj GR GU GT Fi Fh FK FA FM GZ KR KF KD KC KG KE GS GV G4 G7 G3 G5 G6 KH Cp Cu Cn Ci Cj Cg Ck Cm Co CF CJ CI CE Cy CB Cz CA CD CG CQ CS CR DT DP DN Dm Du Dp Ed Dr Dq Do Dt DQ DJ De Db Dc DO DL DR DS Dl EH ER EU EW ES EV ET EL EM EK EJ EN EP Fa Fb FO Gd Fx FU Gc FP Fy FN Gf FE Gb F8 FH FV Fz E9 Fc FR FT Ge FL FI FJ Ga FW FY FC FX FQ Kv Jj IR JX GH Gh JY IY Kj Hk Jc Jk IP Km Ko I6 Kd Jw Gz Gu I3 J2 Hm ID IW Ik JK Ju Ki Il Ha Hn Gi GC GD GF Jv G9 Jl IQ IM Kq JI J4 Jb Ht GN GJ Hx J7 IE Hu J6 J0 Im Jq Hr Kc If Gw GA Jo JM Hy Hg IC J8 Hq Ke IH J1 Jr Kr Gn Gr Je IS IN Ib Hb Iv Kn Hi JU Ku Ja Ho GK Gv Kg I0 Kw I7 Iy Iq Hh I4 IZ H7 Hz Ij Hd IX He JS Js JG Kh IV Gp Gl Jt H8 Jz IT IK I2 Ks Ie JO Iw JL Gm Gy Gs GL Gk GI Gt Gj JF IB Hf Ia JB Hs JJ Jn JA JH Jy GB GE IF Jd Iz H5 Jg Hc Kf Ir JP JW Hl Iu Jm Ic JC Kl Hj H6 Ip II Ih IA I8 Jf JE Kt IG I9 It Gq GG In IL JQ J9 Ig IJ Hv Io JV J5 Gx:Value}{mk:(Nat->Value)->Array Value}(t0:Nat->Value)(R:Nat)(ad:OA)(nn cap p:Nat)(T:Nat)(x:Bk)(g1 g2:Nat)(a3:OA)(d1 d2 d3 o h:Nat)(y:Ob)(z:Ch)(ah bh:OA)(ch eh:Nat)(gA:Nat)(W:World)(hr:Rd W R ad nn cap p)(hp:p<=600000)(H:Sg W R T x g1 g2 a3 d1 d2 d3 o h y z ah bh ch eh)(HA:yN W R T ad g1 y gA ah ch)(hmk:mk=λt=>#[.p R 0,p1,p2,p3,p4,.p T 0,.i (o:Nat),.i (h:Nat),p8,p9,DX,DK,DV,DF,C9,CV,CU,C6,C8,CZ,Df,C7,C4,CY,Dw,Di,Dj,Dg,Dh,Dy,Dx,DC,DB,DA,Dz,DH,Ek,Eu,EE,Ej,Em,Er,Eo,En,Ei,Eh,Ds,DU,DW,DI,DG,D7,D4,D3,D8,D1,D0,D2,D5,DY,EA,Ey,Ew,Ex,Ez,El,Ep,DM,Fk,Fg,Fo,Fm,Fp,Fl,Fq,Ff,Fj,GR,GU,GT,Fi,Fh,FK,FA,FM,GZ,KR,KF,KD,KC,KG,KE,GS,GV,G4,G7,G3,G5,G6,KH,Cp,Cu,Cn,Ci,Cj,Cg,Ck,Cm,Co,CF,CJ,CI,CE,Cy,CB,Cz,CA,CD,CG,CQ,CS,CR,DT,DP,DN,Dm,Du,Dp,Ed,Dr,Dq,Do,Dt,DQ,DJ,De,Db,Dc,DO,DL,DR,DS,Dl,EH,ER,EU,EW,ES,EV,ET,EL,EM,EK,EJ,EN,EP,Fa,Fb,FO,Gd,Fx,FU,Gc,FP,Fy,FN,Gf,FE,Gb,F8,FH,FV,Fz,E9,Fc,FR,FT,Ge,FL,FI,FJ,Ga,FW,FY,FC,FX,FQ,Kv,Jj,IR,JX,GH,Gh,JY,IY,Kj,Hk,Jc,Jk,IP,Km,Ko,I6,Kd,Jw,Gz,Gu,I3,J2,Hm,ID,IW,Ik,JK,Ju,Ki,Il,Ha,Hn,Gi,GC,t 0,t 1,t 2,t 3,t 4,t 5,t 6,t 7,t 8,t 9,t 10,t 11,t 12,t 13,t 14,t 15,t 16,t 17,GD,GF,Jv,G9,Jl,IQ,IM,Kq,JI,J4,Jb,Ht,GN,GJ,Hx,J7,IE,Hu,J6,J0,Im,Jq,Hr,Kc,If,Gw,GA,Jo,JM,Hy,Hg,IC,J8,Hq,Ke,IH,J1,Jr,Kr,Gn,Gr,Je,IS,IN,Ib,Hb,Iv,Kn,Hi,JU,Ku,Ja,Ho,GK,Gv,Kg,I0,Kw,I7,Iy,Iq,Hh,I4,IZ,H7,Hz,Ij,Hd,IX,He,JS,Js,JG,Kh,IV,Gp,Gl,Jt,H8,Jz,IT,IK,I2,Ks,Ie,JO,Iw,JL,Gm,Gy,Gs,GL,Gk,GI,Gt,Gj,JF,IB,Hf,Ia,JB,Hs,JJ,Jn,JA,JH,Jy,GB,GE,IF,Jd,Iz,H5,Jg,Hc,Kf,Ir,JP,JW,Hl,Iu,Jm,Ic,JC,Kl,Hj,H6,Ip,II,Ih,IA,I8,Jf,JE,Kt,IG,I9,It,Gq,GG,In,IL,JQ,J9,Ig,IJ,Hv,Io,JV,J5,Gx])(Q:Exit->Act->World->Prop)(hQ:∀(t:Nat->Value)(s:ByteArray)(ad':OA)(cap' g' pz:Nat)(X0:World),(Rw X0 ad' g' (y.hn+1) cap' 1 (BO (λj=>.s (y.hs j)) (y.hn*1) (λ_=>.s s))/\((0<ch/\g'=gA)\/W.1.size<=g')/\s.size<=1000)->Az (λq=>q=R\/(0<ch/\q=gA)) W X0->p<=pz->pz<=p+18->Rd X0 R ad nn cap pz->Q .normal ⟨mk t,[]⟩ (X0.setCell ⟨g1,o*7+6,none⟩ (.l ad' (y.hn+1) cap'))):Code.wp prog (rg Try.f44 40) Q ⟨mk t0,[]⟩ W:=by
 have hRW:=hr.lt;have hPl:∀q,(λq=>q=R\/(0<ch/\q=gA)) q->q<W.1.size:=λq e=>by
  rcases e with e|e;.omega
  .have:=HA.lt e.1;omega
 refine NK Ze 18 1 15 (λj=>match j with|16=>17|_=>18) (λ_=>0) (λ_=>false) (λq=>q=R\/(0<ch/\q=gA)) mk t0 R ad nn cap p (bI R T x g1 g2 a3 d1 d2 d3 o h y z ah bh ch eh gA W) (λa X=>∃(t:Nat->Value)(s:ByteArray)(ad':OA)(cap' g' pz:Nat)(X0:World),a=⟨mk t,[]⟩/\X=(X0.setCell ⟨g1,o*7+6,none⟩ (.l ad' (y.hn+1) cap'))/\(Rw X0 ad' g' (y.hn+1) cap' 1 (BO (λj=>.s (y.hs j)) (y.hn*1) (λ_=>.s s))/\((0<ch/\g'=gA)\/W.1.size<=g')/\s.size<=1000)/\Az (λq=>q=R\/(0<ch/\q=gA)) W X0/\p<=pz/\pz<=p+18/\Rd X0 R ad nn cap pz) Ze Ze Ze Ze ?_ ?_ (AA rfl) rfl hr ?_ ?_ ?_ ?_;all_goals subst hmk
 .intro i v X Z p' hi him h hF hRd hR hX;rcases(show i=0\/i=1\/i=2\/i=3\/i=4\/i=5\/i=6\/i=7\/i=8\/i=9\/i=10\/i=11\/i=12\/i=13\/i=14\/i=15\/i=16\/i=17 by omega)with rfl|rfl|rfl|rfl|rfl|rfl|rfl|rfl|rfl|rfl|rfl|rfl|rfl|rfl|rfl|rfl|rfl|rfl;.exact h
  .exact h
  .exact h
  .exact h
  .exact h
  .exact h
  .exact h
  .exact h
  .exact h
  .obtain⟨g,e,y1,y2,y3⟩:=h;exact⟨g,e,y1,Ac y2 hF.size,λk hk=>by obtain⟨i,y4,y5⟩:=y3 k hk;exact⟨i,(hF.cell (p:=⟨g,k,none⟩) y2 (λq=>by have:=hPl g q;omega)).trans y4,y5⟩⟩
  .exact h
  .exact h
  .obtain⟨g,k,s,e,y1,y2,y3,y4⟩:=h;exact⟨g,k,s,e,⟨y1.1,Ac y1.2 hF.size⟩,(hF.cell (p:=⟨g,k,none⟩) y1.2 (λq=>by have:=hPl g q;omega)).trans y2,y3,y4⟩
  .exact h
  .obtain⟨g,s,e,y1,y2,y3,y4⟩:=h;exact⟨g,s,e,y1,Ac y2 hF.size,(hF.cell (p:=⟨g,0,none⟩) y2 (λq=>by have:=hPl g q;omega)).trans y3,y4⟩
  .exact absurd rfl him
  .exact h
  .exact h
 .intro i v X Z p' hi h hF hRd hR hX;rcases(show i=0\/i=1\/i=2\/i=3\/i=4\/i=5\/i=6\/i=7\/i=8\/i=9\/i=10\/i=11\/i=12\/i=13\/i=14\/i=15\/i=16\/i=17 by omega)with rfl|rfl|rfl|rfl|rfl|rfl|rfl|rfl|rfl|rfl|rfl|rfl|rfl|rfl|rfl|rfl|rfl|rfl;.exact h
  .exact h
  .exact h
  .exact h
  .exact h
  .exact h
  .exact h
  .exact h
  .exact h
  .obtain⟨g,e,y1,y2,y3⟩:=h;exact⟨g,e,y1,Ac y2 hF.size,λk hk=>by obtain⟨i,y4,y5⟩:=y3 k hk;exact⟨i,(hF.cell (p:=⟨g,k,none⟩) y2 (λq=>by have q:g=R:=q;omega)).trans y4,y5⟩⟩
  .exact h
  .exact h
  .obtain⟨g,k,s,e,y1,y2,y3,y4⟩:=h;exact⟨g,k,s,e,⟨y1.1,Ac y1.2 hF.size⟩,(hF.cell (p:=⟨g,k,none⟩) y1.2 (λq=>by have q:g=R:=q;omega)).trans y2,y3,y4⟩
  .exact h
  .obtain⟨g,s,e,y1,y2,y3,y4⟩:=h;exact⟨g,s,e,y1,Ac y2 hF.size,(hF.cell (p:=⟨g,0,none⟩) y2 (λq=>by have q:g=R:=q;omega)).trans y3,y4⟩
  .obtain⟨s,ad',cap',g',e,y1,y2,y3⟩:=h;exact⟨s,ad',cap',g',e,y1.fr hF (λh0 q=>by have q:g'=R:=q;rcases y2 with y2|y2;exact HA.ne (y2.2▸q);omega),y2,y3⟩
  .exact h
  .exact h
 .intro i hi him t X K p' hb hfs hp1 hp2 hrd hg hK;rcases(show i=0\/i=1\/i=2\/i=3\/i=4\/i=5\/i=6\/i=7\/i=8\/i=9\/i=10\/i=11\/i=12\/i=13\/i=14\/i=15\/i=16\/i=17 by omega)with rfl|rfl|rfl|rfl|rfl|rfl|rfl|rfl|rfl|rfl|rfl|rfl|rfl|rfl|rfl|rfl|rfl|rfl;.exact Rp
  .exact dB
  .exact TV
  .exact Rp
  .have eq3:t 3=.p T 2:=hg 3 (AQ rfl);have q:=(hb.cell (p:=⟨T,2,none⟩) H.lt HA.nT).trans (H.row.cell 2 Zb);simp only[AR,Aa,Ab]at q;have h:=hK (.l (some ⟨g1,0,none⟩) x.on d1) X p' uK Za rfl (Az.refl _ _) hrd;refine Ag rfl rfl ?_;clear hK hg;go_simp;simpa[Av,eq3]using h
  .exact TV
  .have eq4:t 4=.l (some ⟨g1,0,none⟩) x.on d1:=hg 4 (AQ rfl);have eq5:t 5=.i (o:Nat):=hg 5 (AQ rfl);have hlt:=H.ho;have h:=hK (.pointer (some ⟨g1,o*7,none⟩)) X p' uK Za rfl (Az.refl _ _) hrd;refine Ag rfl rfl ?_;clear hK hg;go_simp;simpa[Av,eq4,eq5,hlt]using h
  .have eq6:t 6=.pointer (some ⟨g1,o*7,none⟩):=hg 6 (AQ rfl);have h:=hK (.pointer (some ⟨g1,o*7+6,none⟩)) X p' uK Za rfl (Az.refl _ _) hrd;refine Ag rfl rfl ?_;clear hK hg;go_simp;simpa[Av,eq6]using h
  .have eq7:t 7=.pointer (some ⟨g1,o*7+6,none⟩):=hg 7 (AQ rfl);have q:=(hb.cell (p:=⟨g1,o*7+6,none⟩) H.l1 HA.n1).trans (H.c1 6 Zb);simp only[oc,AR,Aa,Ab]at q;have h:=hK (.l ah y.hn ch) X p' uK Za rfl (Az.refl _ _) hrd;refine Ag rfl rfl ?_;clear hK hg;go_simp;simpa[Av,eq7]using h
  .have h:=hK (.l (some ⟨X.1.size,0,none⟩) 2 2) (X.alloc (.cells #[.s ⟨#[]⟩,.s ⟨#[122,122]⟩] 9)) p' uK Za ⟨X.1.size,rfl,hb.size,Zc,λk hk=>by rw[Ak X #[.s ⟨#[]⟩,.s ⟨#[122,122]⟩] 9 k];rcases(show k=0\/k=1 by omega)with rfl|rfl;all_goals exact⟨_,rfl,Zb⟩⟩ (Aq AG) (hrd.below AG);exact Tt
  .have h:=hK (.p R 0) X p' uK Za rfl (Az.refl _ _) hrd;exact Tt
  .have eq10:t 10=.p R 0:=hg 10 (AQ rfl);refine Ag rfl rfl ?_;have HK:=Ah hK;have HR:=Ah hrd;clear hK hg hrd;go_simp;go_at_call 12;refine(A7 R ad nn cap p' 2 X HR Za Zb Zb).mono ?_;rintro r Z ⟨k,rfl,_,hv,hf,hr2⟩;have h:=HK (.i k) Z (p'+1) Za uK ⟨k,by have:=hv Zb;omega,rfl⟩ hf hr2;simpa[Av,eq10]using h
  .obtain⟨g,eq9,y1,y2,y3⟩:∃g:Nat,t 9=.l (some ⟨g,0,none⟩) 2 2/\W.1.size<=g/\g<X.1.size/\∀k,k<2->∃s:ByteArray,X.cell? ⟨g,k,none⟩=some (.s s)/\s.size<=1000:=hg 9 (AQ rfl);obtain⟨k,hk,eq11⟩:∃k:Nat,k<2/\t 11=.i k:=hg 11 (AQ rfl);obtain⟨s,y4,y5⟩:=y3 k hk;have h:=hK (.pointer (some ⟨g,k,none⟩)) X p' uK Za ⟨g,k,s,rfl,⟨y1,y2⟩,y4,trivial,y5⟩ (Az.refl _ _) hrd;refine Ag rfl rfl ?_;clear hK hg;go_simp;rw[if_pos Za,AI];go_simp;simpa[Av,eq9,eq11]using h
  .obtain⟨g,k,s,eq12,y1,y2,y3,y4⟩:∃(g k:Nat)(s:ByteArray),t 12=.pointer (some ⟨g,k,none⟩)/\(W.1.size<=g/\g<X.1.size)/\X.cell? ⟨g,k,none⟩=some (.s s)/\True/\s.size<=1000:=hg 12 (AQ rfl);have h:=hK (.s s) X p' uK Za ⟨s,rfl,y4⟩ (Az.refl _ _) hrd;refine Ag rfl rfl ?_;clear hK hg;go_simp;simpa[Av,eq12]using h
  .obtain⟨s,eq13,z1⟩:∃s:ByteArray,t 13=.s s/\s.size<=1000:=hg 13 (AQ rfl);have h:=hK (.l (some ⟨X.1.size,0,none⟩) 1 1) (X.alloc (.cells #[.s s] 9)) p' uK Za ⟨X.1.size,s,rfl,hb.size,Zc,(AN.new (w:=X) (l:=[.s s]) (t:=9) EF).cell 0 Zc,z1⟩ (Aq AG) (hrd.below AG);refine Ag rfl rfl ?_;clear hK hg;go_simp;simpa[Av,eq13]using h
  .exact absurd rfl him
  .have eq1:t 1=.l (some ⟨g1,0,none⟩) x.on d1:=hg 1 (AQ rfl);have eq2:t 2=.i (o:Nat):=hg 2 (AQ rfl);have hlt:=H.ho;have h:=hK (.pointer (some ⟨g1,o*7,none⟩)) X p' uK Za rfl (Az.refl _ _) hrd;refine Ag rfl rfl ?_;clear hK hg;go_simp;simpa[Av,eq1,eq2,hlt]using h
  .have eq16:t 16=.pointer (some ⟨g1,o*7,none⟩):=hg 16 (AQ rfl);have h:=hK (.pointer (some ⟨g1,o*7+6,none⟩)) X p' uK Za rfl (Az.refl _ _) hrd;refine Ag rfl rfl ?_;clear hK hg;go_simp;simpa[Av,eq16]using h
 .intro hmn t X K p' hb hp1 hp2 hrd hg hK;obtain⟨g,s,eq14,y1,y2,y3,y4⟩:∃(g:Nat)(s:ByteArray),t 14=.l (some ⟨g,0,none⟩) 1 1/\W.1.size<=g/\g<X.1.size/\X.cell? ⟨g,0,none⟩=some (.s s)/\s.size<=1000:=hg 14 (AQ rfl);have eq8:t 8=.l ah y.hn ch:=hg 8 (AQ rfl);have RW:=HA.rw.fr hb (λh0=>HA.ne);obtain⟨ad',cap',g',Y,hrun,hrw,hfY,hg'⟩:=LA (P:=prog) X 36 36 9 1 16 _ underlying36 Lf Za Ze ah gA y.hn ch (λj=>.s (y.hs j)) RW (λj _=>rfl) g (g+1) (some ⟨g,0,none⟩) 1 1 (λ_=>.s s) ⟨λj hj=>⟨g,0,rfl,AD _,By _,by rw[show 0+j=0 by omega];exact y3⟩,λj hj=>rfl⟩ Za (by have:=HA.hn;omega) (by have:=HA.hn;omega);have hfA:Az (λq=>q=R\/(0<ch/\q=gA)) X Y:=hfY.mono (λq e=>AC e);have h:=hK (.l ad' (y.hn+1) cap') Y p' uK Za ⟨s,ad',cap',g',rfl,hrw,hg'.imp id (AT hb.size),y4⟩ hfA (hrd.app hfY HA.ne HA.bt);refine Ag rfl rfl ?_;clear hK hg;refine EQ (.tmp 229) (.tmp 235) 36 36 rfl _ _ _ _ (by simpa[Act.eval,go_sem]using eq8) (by simpa[Act.eval,go_sem]using eq14) hrun ?_;simpa[Av,Act.put]using h
 .intro t X K p' hb hp1 hp2 hrd hg hK;have eq17:t 17=.pointer (some ⟨g1,o*7+6,none⟩):=hg 17 Za;obtain⟨s,ad',cap',g',eqm,hrw,hg',z1⟩:∃(s:ByteArray)(ad':OA)(cap' g':Nat),t 15=.l ad' (y.hn+1) cap'/\Rw X ad' g' (y.hn+1) cap' 1 (BO (λj=>.s (y.hs j)) (y.hn*1) (λ_=>.s s))/\((0<ch/\g'=gA)\/W.1.size<=g')/\s.size<=1000:=hg 15 Za;have q:=(hb.cell (p:=⟨g1,o*7+6,none⟩) H.l1 HA.n1).trans (H.c1 6 Zb);have q2:=(hb.frozen (p:=⟨g1,o*7+6,none⟩) H.l1 HA.n1).trans (H.f1 _);simp only[oc,AR,Aa,Ab]at q;have h:=hK _ _ ⟨t,s,ad',cap',g',p',X,rfl,rfl,⟨hrw,hg',z1⟩,hb,hp1,Za,hrd⟩;have HK:=Ah h;clear hK hg h;refine Ag rfl rfl ?_;go_simp;simpa[eq17,eqm]using HK.out
 .rintro a X ⟨t,s,ad',cap',g',pz,X0,rfl,rfl,z2,z3,z4,z5,z6⟩;exact hQ t s ad' cap' g' pz X0 z2 z3 z4 z5 z6
end Go.Proofs.Ytnnjcenacidceaa
