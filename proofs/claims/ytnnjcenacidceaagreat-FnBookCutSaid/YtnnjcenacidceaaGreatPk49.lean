import Derived.Test.YtnnjcenacidceaaGreatPk43
set_option maxRecDepth 100000
set_option maxHeartbeats 4000000
namespace Go.Proofs.YtnnjcenacidceaaGreat
open Go.RowKit Go.Proofs.Tryz
def bH (_R:Nat)(T:Nat)(x:Bk)(g1 _g2:Nat)(_a3:OA)(d1 _d2 _d3 o _h:Nat)(y:Ob)(_z:Ch)(ah _bh:OA)(ch _eh:Nat)(cA:Nat->Value)(W:World)(i:Nat)(v:Value)(X:World):Prop:=match i with
 |0=>v=.p T 2
 |1=>v=.l (some ⟨g1,0,none⟩) x.on d1
 |2=>v=.p T 2
 |3=>v=.l (some ⟨g1,0,none⟩) x.on d1
 |4=>v=.i (o:Nat)
 |5=>v=.pointer (some ⟨g1,o*7,none⟩)
 |6=>v=.agg (vO y ah ch)
 |7=>∃g:Nat,v=.l (some ⟨g,0,none⟩) 1 1/\W.1.size<=g/\g<X.1.size/\∀f,f<7->X.cell? ⟨g,f,none⟩=some (AW (oc y ah ch) f)
 |8=>∃(ad':OA)(cap' g':Nat),v=.l ad' (x.on+1) cap'/\Rw X ad' g' (x.on+1) cap' 7 (BT cA (x.on*7) (AW (oc y ah ch)))/\((0<d1/\g'=g1)\/W.1.size<=g')
 |9=>v=.p T 2
 |_=>True
theorem Xe{P:Prop}(h:P:=by have h:=hK (.p T 2) X p' AQ Za rfl (Ay.refl _ _) hrd;refine Ah rfl rfl ?_;clear hK hg;go_simp;simpa[AA]using h):P:=h
theorem kT{p1 p2 p3 p4 p8 p9 D8 D9 Ea DZ Dl Di Dg Dh De Db Dk Da Df Dc DH Du Ds DA Dw DG DD DE DF DI DJ DU Ev EF EN Eu ED EB EE EC Es Et DC D2 D1 DO DN Ej Eg Ei Ek D5 D4 Eb Eh D7 EK EL EH EJ EI EA Ez D0 FP FJ FO FN FK FH FL FI FM He Hg Hc FC Fz GA GZ Ge Ib Le KT KQ KP KR KS Hd Hf KN KJ KL KM KI K5 Cx Cy Cr Ck Cn Cl Cm Cq Cs CU CR CQ CS CE CF CG CI CO CN CZ CY CW DX DP DV Dq DB Dz En Dx Dp Dm Dy DW DM Dv Dt Do DQ DT DS DR Dr EM E3 Fe Fc E6 Fb E9 Fa E4 E1 E7 E5 E8 Fq Fs Gd GO GK Gc Gj Gu GE GT Gb G3 Gh F9 G0 Gz GL Fu Ft GM Gf Gq FT Ga G4 FU G5 GC GS GQ GG Jo Jy Jl Hx Gp GI JV IV H6 H9 IU Iu Ir Kl Jk Hn Kc IS Gv GH Hj I0 ID JU J5 Ii IK Ig IQ IM Jw Hr GD Gt JR Ko HJ Hk JJ I6 J4 Ji Kx Hu Jb Kz Jr Jg Ja IG Jd IX GV Gm Gr GU Jf Ip Jh Kd Ik JM Ka Iv Kq Iz Ho GR GN Ki In IT H7 Hl II IA Hv Jm Kh IW KA FW GP H5 JZ Jp Jv Ht Io HZ Ku JI JY JS J3 FX Gw Kn J1 JE Kj Jq JC Ju J8 IF JN JB Jn Hy JG Km IY JD IC JL IE GJ Gy JQ J2 J9 Hp JH Jt IB Jj Ia Kw JW FY Gn Gl Gs GB GF Gk GX JK Ie IH IR KC Hi Kt Im Jz Kg Ic Gi GY IL KD H8 J6 IZ Is Ij J0 Ky JP Iw Kr IJ JX J7 JA Ks Hq I2 Iq I8 I5 Hz KB IP Ih If IN Iy Gx FR I4 Hw Js Ke Hm Il KE JT Hs Je Gg:Value}{mk:(Nat->Value)->Array Value}(t0:Nat->Value)(R:Nat)(ad:OA)(nn cap p:Nat)(T:Nat)(x:Bk)(g1 g2:Nat)(a3:OA)(d1 d2 d3 o h:Nat)(y:Ob)(z:Ch)(ah bh:OA)(ch eh:Nat)(cA:Nat->Value)(W:World)(hr:Rd W R ad nn cap p)(_hp:p<=600000)(H:SD W R T x g1 g2 a3 d1 d2 d3 o h y z ah bh ch eh)(HA:wX W R T ad x g1 d1 cA)(hmk:mk=λt=>#[.p R 0,p1,p2,p3,p4,.p T 0,.i (o:Nat),.i (h:Nat),p8,p9,D8,D9,Ea,DZ,Dl,Di,Dg,Dh,De,Db,Dk,Da,Df,Dc,DH,Du,Ds,DA,Dw,DG,DD,DE,DF,DI,DJ,DU,Ev,EF,EN,Eu,ED,EB,EE,EC,Es,Et,DC,D2,D1,DO,DN,Ej,Eg,Ei,Ek,D5,D4,Eb,Eh,D7,EK,EL,EH,EJ,EI,EA,Ez,D0,FP,FJ,FO,FN,FK,FH,FL,FI,FM,He,Hg,Hc,FC,Fz,GA,GZ,Ge,Ib,Le,KT,KQ,KP,KR,KS,Hd,Hf,KN,KJ,KL,KM,KI,K5,Cx,Cy,Cr,Ck,Cn,Cl,Cm,Cq,Cs,CU,CR,CQ,CS,CE,CF,CG,CI,CO,CN,CZ,CY,CW,DX,DP,DV,Dq,DB,Dz,En,Dx,Dp,Dm,Dy,DW,DM,Dv,Dt,Do,DQ,DT,DS,DR,Dr,EM,E3,Fe,Fc,E6,Fb,E9,Fa,E4,E1,E7,E5,E8,Fq,Fs,Gd,GO,GK,Gc,Gj,Gu,GE,GT,Gb,G3,Gh,F9,G0,Gz,GL,Fu,Ft,GM,Gf,Gq,FT,Ga,G4,FU,G5,GC,GS,GQ,GG,Jo,Jy,Jl,Hx,Gp,GI,JV,IV,H6,H9,IU,Iu,Ir,Kl,Jk,Hn,Kc,IS,Gv,GH,Hj,I0,ID,JU,J5,Ii,IK,Ig,IQ,IM,Jw,Hr,GD,Gt,JR,Ko,HJ,Hk,JJ,I6,J4,Ji,Kx,Hu,Jb,Kz,Jr,Jg,Ja,IG,Jd,IX,GV,Gm,t 0,t 1,t 2,t 3,t 4,t 5,t 6,t 7,t 8,t 9,Gr,GU,Jf,Ip,Jh,Kd,Ik,JM,Ka,Iv,Kq,Iz,Ho,GR,GN,Ki,In,IT,H7,Hl,II,IA,Hv,Jm,Kh,IW,KA,FW,GP,H5,JZ,Jp,Jv,Ht,Io,HZ,Ku,JI,JY,JS,J3,FX,Gw,Kn,J1,JE,Kj,Jq,JC,Ju,J8,IF,JN,JB,Jn,Hy,JG,Km,IY,JD,IC,JL,IE,GJ,Gy,JQ,J2,J9,Hp,JH,Jt,IB,Jj,Ia,Kw,JW,FY,Gn,Gl,Gs,GB,GF,Gk,GX,JK,Ie,IH,IR,KC,Hi,Kt,Im,Jz,Kg,Ic,Gi,GY,IL,KD,H8,J6,IZ,Is,Ij,J0,Ky,JP,Iw,Kr,IJ,JX,J7,JA,Ks,Hq,I2,Iq,I8,I5,Hz,KB,IP,Ih,If,IN,Iy,Gx,FR,I4,Hw,Js,Ke,Hm,Il,KE,JT,Hs,Je,Gg])(Q:Exit->Act->World->Prop)(hQ:∀(t:Nat->Value)(ad':OA)(cap' g' pz:Nat)(X0:World),(Rw X0 ad' g' (x.on+1) cap' 7 (BT cA (x.on*7) (AW (oc y ah ch)))/\((0<d1/\g'=g1)\/W.1.size<=g'))->Ay (λq=>q=R\/(0<d1/\q=g1)) W X0->p<=pz->pz<=p+10->Rd X0 R ad nn cap pz->Q .normal ⟨mk t,[]⟩ (X0.setCell ⟨T,2,none⟩ (.l ad' (x.on+1) cap'))):Code.wp prog (rg Tryz.f40 42) Q ⟨mk t0,[]⟩ W:=by
 have hRW:=hr.lt;have hPl:∀q,(λq=>q=R\/(0<d1/\q=g1)) q->q<W.1.size:=λq e=>by
  rcases e with e|e;.omega
  .have:=H.l1;omega
 refine NM Ze 10 1 8 (λj=>match j with|_=>10) (λj=>match j with|0=>1|1=>8|2=>3|3=>5|4=>5|5=>6|6=>7|7=>8|_=>0) (λj=>decide (j<8)) (λq=>q=R\/(0<d1/\q=g1)) mk t0 R ad nn cap p (bH R T x g1 g2 a3 d1 d2 d3 o h y z ah bh ch eh cA W) (λa X=>∃(t:Nat->Value)(ad':OA)(cap' g' pz:Nat)(X0:World),a=⟨mk t,[]⟩/\X=(X0.setCell ⟨T,2,none⟩ (.l ad' (x.on+1) cap'))/\(Rw X0 ad' g' (x.on+1) cap' 7 (BT cA (x.on*7) (AW (oc y ah ch)))/\((0<d1/\g'=g1)\/W.1.size<=g'))/\Ay (λq=>q=R\/(0<d1/\q=g1)) W X0/\p<=pz/\pz<=p+10/\Rd X0 R ad nn cap pz) Ze Ze Ze Ze ?_ ?_ (AB rfl) rfl hr ?_ ?_ ?_ ?_;all_goals subst hmk
 .intro i v X Z p' hi him h hF hRd hR hX;rcases(show i=0\/i=1\/i=2\/i=3\/i=4\/i=5\/i=6\/i=7\/i=8\/i=9 by omega)with rfl|rfl|rfl|rfl|rfl|rfl|rfl|rfl|rfl|rfl;.exact h
  .exact h
  .exact h
  .exact h
  .exact h
  .exact h
  .exact h
  .obtain⟨g,e,y1,y2,y3⟩:=h;exact⟨g,e,y1,Ad y2 hF.size,λf hf=>(hF.cell (p:=⟨g,f,none⟩) y2 (λq=>by have:=hPl g q;omega)).trans (y3 f hf)⟩
  .exact absurd rfl him
  .exact h
 .intro i v X Z p' hi h hF hRd hR hX;rcases(show i=0\/i=1\/i=2\/i=3\/i=4\/i=5\/i=6\/i=7\/i=8\/i=9 by omega)with rfl|rfl|rfl|rfl|rfl|rfl|rfl|rfl|rfl|rfl;.exact h
  .exact h
  .exact h
  .exact h
  .exact h
  .exact h
  .exact h
  .obtain⟨g,e,y1,y2,y3⟩:=h;exact⟨g,e,y1,Ad y2 hF.size,λf hf=>(hF.cell (p:=⟨g,f,none⟩) y2 (λq=>by have q:g=R:=q;omega)).trans (y3 f hf)⟩
  .obtain⟨ad',cap',g',e,y1,y2⟩:=h;exact⟨ad',cap',g',e,y1.fr hF (λh0 q=>by have q:g'=R:=q;rcases y2 with y2|y2;exact H.n1 (y2.2▸q);omega),y2⟩
  .exact h
 .intro i hi him t X K p' hb hfs hp1 hp2 hrd hg hK;rcases(show i=0\/i=1\/i=2\/i=3\/i=4\/i=5\/i=6\/i=7\/i=8\/i=9 by omega)with rfl|rfl|rfl|rfl|rfl|rfl|rfl|rfl|rfl|rfl;.exact Xe
  .have eq0:t 0=.p T 2:=hg 0 (AZ rfl);have q:=(hb.cell (p:=⟨T,2,none⟩) H.lt HA.nT).trans (H.row.cell 2 Zb);simp only[AW,Aa,Ab]at q;have h:=hK (.l (some ⟨g1,0,none⟩) x.on d1) X p' AQ Za rfl (Ay.refl _ _) hrd;refine Ah rfl rfl ?_;clear hK hg;go_simp;simpa[AA,eq0]using h
  .exact Xe
  .have eq2:t 2=.p T 2:=hg 2 (AZ rfl);have q:=(hb.cell (p:=⟨T,2,none⟩) H.lt HA.nT).trans (H.row.cell 2 Zb);simp only[AW,Aa,Ab]at q;have h:=hK (.l (some ⟨g1,0,none⟩) x.on d1) X p' AQ Za rfl (Ay.refl _ _) hrd;refine Ah rfl rfl ?_;clear hK hg;go_simp;simpa[AA,eq2]using h
  .have h:=hK (.i (o:Nat)) X p' AQ Za rfl (Ay.refl _ _) hrd;refine Ah rfl rfl ?_;clear hK hg;go_simp;simpa[AA]using h
  .have eq3:t 3=.l (some ⟨g1,0,none⟩) x.on d1:=hg 3 (AZ rfl);have eq4:t 4=.i (o:Nat):=hg 4 (AZ rfl);have hlt:=H.ho;have h:=hK (.pointer (some ⟨g1,o*7,none⟩)) X p' AQ Za rfl (Ay.refl _ _) hrd;refine Ah rfl rfl ?_;clear hK hg;go_simp;simpa[AA,eq3,eq4,hlt]using h
  .have eq5:t 5=.pointer (some ⟨g1,o*7,none⟩):=hg 5 (AZ rfl);have q0:=((hfs Nm).cell (p:=⟨g1,o*7+0,none⟩) H.l1 H.n1).trans (H.c1 0 Zb);have q1:=((hfs Nm).cell (p:=⟨g1,o*7+1,none⟩) H.l1 H.n1).trans (H.c1 1 Zb);have q2:=((hfs Nm).cell (p:=⟨g1,o*7+2,none⟩) H.l1 H.n1).trans (H.c1 2 Zb);have q3:=((hfs Nm).cell (p:=⟨g1,o*7+3,none⟩) H.l1 H.n1).trans (H.c1 3 Zb);have q4:=((hfs Nm).cell (p:=⟨g1,o*7+4,none⟩) H.l1 H.n1).trans (H.c1 4 Zb);have q5:=((hfs Nm).cell (p:=⟨g1,o*7+5,none⟩) H.l1 H.n1).trans (H.c1 5 Zb);have q6:=((hfs Nm).cell (p:=⟨g1,o*7+6,none⟩) H.l1 H.n1).trans (H.c1 6 Zb);simp only[oc,AW,Aa,Ab,Bs]at q0 q1 q2 q3 q4 q5 q6;have h:=hK (.agg (vO y ah ch)) X p' AQ Za rfl (Ay.refl _ _) hrd;refine Ah rfl rfl ?_;clear hK hg;go_simp;simpa[AA,eq5]using h
  .have eq6:t 6=.agg (vO y ah ch):=hg 6 (AZ rfl);have h:=hK (.l (some ⟨X.1.size,0,none⟩) 1 1) (X.alloc (.cells (vO y ah ch) 51)) p' AQ Za ⟨X.1.size,rfl,hb.size,Zc,λf hf=>(AN.new (w:=X) (l:=oc y ah ch) (t:=51) Ci).cell f hf⟩ (Ar ET) (hrd.below ET);refine Ah rfl rfl ?_;clear hK hg;go_simp;simpa[AA,eq6]using h
  .exact absurd rfl him
  .exact Xe
 .intro hmn t X K p' hb hp1 hp2 hrd hg hK;obtain⟨g,eq7,y1,y2,y3⟩:∃g:Nat,t 7=.l (some ⟨g,0,none⟩) 1 1/\W.1.size<=g/\g<X.1.size/\∀f,f<7->X.cell? ⟨g,f,none⟩=some (AW (oc y ah ch) f):=hg 7 (AZ rfl);have eq1:t 1=.l (some ⟨g1,0,none⟩) x.on d1:=hg 1 (AZ rfl);have RW:=HA.rw.fr hb (λh0=>H.n1);obtain⟨ad',cap',g',Y,hrun,hrw,hfY,hg'⟩:=Mr (P:=prog) X 23 23 51 7 96 _ underlying23 Mh Za Ze (some ⟨g1,0,none⟩) g1 x.on d1 cA RW HA.one g (g+1) (some ⟨g,0,none⟩) 1 1 (AW (oc y ah ch)) ⟨λj hj=>⟨g,0,rfl,AG _,BE _,by rw[Bd];exact y3 j hj⟩,λj hj=>iN _ _ _ j hj⟩ Za (by have:=HA.on;omega) (by have:=HA.on;omega);have hfA:Ay (λq=>q=R\/(0<d1/\q=g1)) X Y:=hfY.mono (λq e=>AE e);have h:=hK (.l ad' (x.on+1) cap') Y p' AQ Za ⟨ad',cap',g',rfl,hrw,hg'.imp id (AS hb.size)⟩ hfA (hrd.app hfY H.n1 HA.bt);refine Ah rfl rfl ?_;clear hK hg;refine ES (.tmp 242) (.tmp 248) 23 23 rfl _ _ _ _ (by simpa[Act.eval,go_sem]using eq1) (by simpa[Act.eval,go_sem]using eq7) hrun ?_;simpa[AA,Act.put]using h
 .intro t X K p' hb hp1 hp2 hrd hg hK;have eq9:t 9=.p T 2:=hg 9 Za;obtain⟨ad',cap',g',eqm,hrw,hg'⟩:∃(ad':OA)(cap' g':Nat),t 8=.l ad' (x.on+1) cap'/\Rw X ad' g' (x.on+1) cap' 7 (BT cA (x.on*7) (AW (oc y ah ch)))/\((0<d1/\g'=g1)\/W.1.size<=g'):=hg 8 Za;have q:=(hb.cell (p:=⟨T,2,none⟩) H.lt HA.nT).trans (H.row.cell 2 Zb);have q2:=(hb.frozen (p:=⟨T,2,none⟩) H.lt HA.nT).trans (H.row.free _);simp only[AW,Aa,Ab,]at q;have h:=hK _ _ ⟨t,ad',cap',g',p',X,rfl,rfl,⟨hrw,hg'⟩,hb,hp1,Za,hrd⟩;have HK:=Aj h;clear hK hg h;refine Ah rfl rfl ?_;go_simp;simpa[eq9,eqm]using HK.out
 .rintro a X ⟨t,ad',cap',g',pz,X0,rfl,rfl,z2,z3,z4,z5,z6⟩;exact hQ t ad' cap' g' pz X0 z2 z3 z4 z5 z6
end Go.Proofs.YtnnjcenacidceaaGreat
