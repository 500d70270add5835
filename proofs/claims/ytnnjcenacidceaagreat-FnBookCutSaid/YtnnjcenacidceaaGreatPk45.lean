import Derived.Test.YtnnjcenacidceaaGreatPk41
set_option maxRecDepth 100000
set_option maxHeartbeats 4000000
namespace Go.Proofs.YtnnjcenacidceaaGreat
open Go.RowKit Go.Proofs.Tryz
def fK (R:Nat)(T:Nat)(x:Bk)(_g1 _g2:Nat)(_a3:OA)(_d1 _d2 _d3 _o _h:Nat)(_y:Ob)(_z:Ch)(_ah _bh:OA)(_ch _eh:Nat)(W:World)(i:Nat)(v:Value)(X:World):Prop:=match i with
 |0=>v=.p T 1
 |1=>v=.i x.floor
 |2=>∃i:Int,v=.i i/\-1000001<=i/\i<=1000001
 |3=>v=.p T 0
 |4=>v=.i x.now
 |5=>∃i:Int,v=.i i/\-1000001<=i/\i<=1000001
 |6=>∃g:Nat,v=.l (some ⟨g,0,none⟩) 3 3/\W.1.size<=g/\g<X.1.size/\∀k,k<3->∃i:Int,X.cell? ⟨g,k,none⟩=some (.i i)/\-1000001<=i/\i<=1000001
 |7=>v=.p R 0
 |8=>∃k:Nat,k<3/\v=.i k
 |9=>∃(g k:Nat)(i:Int),v=.pointer (some ⟨g,k,none⟩)/\(W.1.size<=g/\g<X.1.size)/\X.cell? ⟨g,k,none⟩=some (.i i)/\True/\(-1000001<=i/\i<=1000001)
 |10=>∃i:Int,v=.i i/\-1000001<=i/\i<=1000001
 |11=>v=.p T 1
 |_=>True
theorem Qj{P:Prop}(h:P:=by refine Ah rfl rfl ?_;clear hK hg;go_simp;simpa[AA]using h):P:=h
theorem cE{P:Prop}(h:P:=by obtain⟨g,e,y1,y2,y3⟩:=h;exact⟨g,e,y1,Ad y2 hF.size,λk hk=>by obtain⟨i,y4,y5⟩:=y3 k hk;exact⟨i,(hF.cell (p:=⟨g,k,none⟩) y2 (λq=>by have q:g=R:=q;omega)).trans y4,y5⟩⟩):P:=h
theorem Ya{P:Prop}(h:P:=by obtain⟨g,k,i,e,y1,y2,y3,y4⟩:=h;exact⟨g,k,i,e,⟨y1.1,Ad y1.2 hF.size⟩,(hF.cell (p:=⟨g,k,none⟩) y1.2 (λq=>by have q:g=R:=q;omega)).trans y2,y3,y4⟩):P:=h
theorem Um{P:Prop}(h:P:=by have h:=hK (.p R 0) X p' AQ Za rfl (Ay.refl _ _) hrd;exact Qj):P:=h
theorem TY{P:Prop}(h:P:=by rintro a X ⟨t,i,pz,X0,rfl,rfl,z2,z3,z4,z5,z6⟩;exact hQ t i pz X0 z2 z3 z4 z5 z6):P:=h
theorem nC{p1 p2 p3 p4 p8 p9 D8 D9 Ea DZ Dl Di Dg Dh De Db Dk Da Df Dc DH Du Ds DA Dw DG DD DE DF DI DJ DU Ev EF EN Eu ED EB EE EC Es Et DC D2 D1 DO DN Ej Eg Ei Ek D5 D4 Eb Eh D7 EK EL EH EJ EI EA Ez D0 FP FJ FO FN FK FH FL FI FM He Hg Hc FC Fz GA GZ Ge Ib Le KT KQ KP KR KS Hd Hf KN KJ KL KM KI K5 Cx Cy Cr Ck Cn Cl Cm Cq Cs CU CR CQ CS CE CF CG CI CO CN CZ CY CW DX DP DV Dq DB Dz En Dx Dp Dm Dy DW DM Dv Dt Do DQ DT DS DR Dr EM Fq Fs Gd GO GK Gc Gj Gu GE GT Gb G3 Gh F9 G0 Gz GL Fu Ft GM Gf Gq FT Ga G4 FU G5 GC GS GQ GG Jo Jy Jl Hx Gp GI JV IV H6 H9 IU Iu Ir Kl Jk Hn Kc IS Gv GH Hj I0 ID JU J5 Ii IK Ig IQ IM Jw Hr GD Gt JR Ko HJ Hk JJ I6 J4 Ji Kx Hu Jb Kz Jr Jg Ja IG Jd IX GV Gm Jc I9 It JO I7 Kv I1 JF I3 Kf Gr GU Jf Ip Jh Kd Ik JM Ka Iv Kq Iz Ho GR GN Ki In IT H7 Hl II IA Hv Jm Kh IW KA FW GP H5 JZ Jp Jv Ht Io HZ Ku JI JY JS J3 FX Gw Kn J1 JE Kj Jq JC Ju J8 IF JN JB Jn Hy JG Km IY JD IC JL IE GJ Gy JQ J2 J9 Hp JH Jt IB Jj Ia Kw JW FY Gn Gl Gs GB GF Gk GX JK Ie IH IR KC Hi Kt Im Jz Kg Ic Gi GY IL KD H8 J6 IZ Is Ij J0 Ky JP Iw Kr IJ JX J7 JA Ks Hq I2 Iq I8 I5 Hz KB IP Ih If IN Iy Gx FR I4 Hw Js Ke Hm Il KE JT Hs Je Gg:Value}{mk:(Nat->Value)->Array Value}(t0:Nat->Value)(R:Nat)(ad:OA)(nn cap p:Nat)(T:Nat)(x:Bk)(g1 g2:Nat)(a3:OA)(d1 d2 d3 o h:Nat)(y:Ob)(z:Ch)(ah bh:OA)(ch eh:Nat)(W:World)(hr:Rd W R ad nn cap p)(hp:p<=600000)(H:SD W R T x g1 g2 a3 d1 d2 d3 o h y z ah bh ch eh)(hmk:mk=λt=>#[.p R 0,p1,p2,p3,p4,.p T 0,.i (o:Nat),.i (h:Nat),p8,p9,D8,D9,Ea,DZ,Dl,Di,Dg,Dh,De,Db,Dk,Da,Df,Dc,DH,Du,Ds,DA,Dw,DG,DD,DE,DF,DI,DJ,DU,Ev,EF,EN,Eu,ED,EB,EE,EC,Es,Et,DC,D2,D1,DO,DN,Ej,Eg,Ei,Ek,D5,D4,Eb,Eh,D7,EK,EL,EH,EJ,EI,EA,Ez,D0,FP,FJ,FO,FN,FK,FH,FL,FI,FM,He,Hg,Hc,FC,Fz,GA,GZ,Ge,Ib,Le,KT,KQ,KP,KR,KS,Hd,Hf,KN,KJ,KL,KM,KI,K5,Cx,Cy,Cr,Ck,Cn,Cl,Cm,Cq,Cs,CU,CR,CQ,CS,CE,CF,CG,CI,CO,CN,CZ,CY,CW,DX,DP,DV,Dq,DB,Dz,En,Dx,Dp,Dm,Dy,DW,DM,Dv,Dt,Do,DQ,DT,DS,DR,Dr,EM,t 0,t 1,t 2,t 3,t 4,t 5,t 6,t 7,t 8,t 9,t 10,t 11,Fq,Fs,Gd,GO,GK,Gc,Gj,Gu,GE,GT,Gb,G3,Gh,F9,G0,Gz,GL,Fu,Ft,GM,Gf,Gq,FT,Ga,G4,FU,G5,GC,GS,GQ,GG,Jo,Jy,Jl,Hx,Gp,GI,JV,IV,H6,H9,IU,Iu,Ir,Kl,Jk,Hn,Kc,IS,Gv,GH,Hj,I0,ID,JU,J5,Ii,IK,Ig,IQ,IM,Jw,Hr,GD,Gt,JR,Ko,HJ,Hk,JJ,I6,J4,Ji,Kx,Hu,Jb,Kz,Jr,Jg,Ja,IG,Jd,IX,GV,Gm,Jc,I9,It,JO,I7,Kv,I1,JF,I3,Kf,Gr,GU,Jf,Ip,Jh,Kd,Ik,JM,Ka,Iv,Kq,Iz,Ho,GR,GN,Ki,In,IT,H7,Hl,II,IA,Hv,Jm,Kh,IW,KA,FW,GP,H5,JZ,Jp,Jv,Ht,Io,HZ,Ku,JI,JY,JS,J3,FX,Gw,Kn,J1,JE,Kj,Jq,JC,Ju,J8,IF,JN,JB,Jn,Hy,JG,Km,IY,JD,IC,JL,IE,GJ,Gy,JQ,J2,J9,Hp,JH,Jt,IB,Jj,Ia,Kw,JW,FY,Gn,Gl,Gs,GB,GF,Gk,GX,JK,Ie,IH,IR,KC,Hi,Kt,Im,Jz,Kg,Ic,Gi,GY,IL,KD,H8,J6,IZ,Is,Ij,J0,Ky,JP,Iw,Kr,IJ,JX,J7,JA,Ks,Hq,I2,Iq,I8,I5,Hz,KB,IP,Ih,If,IN,Iy,Gx,FR,I4,Hw,Js,Ke,Hm,Il,KE,JT,Hs,Je,Gg])(Q:Exit->Act->World->Prop)(hQ:∀(t:Nat->Value)(i:Int)(pz:Nat)(X0:World),-1000001<=i/\i<=1000001->Ay (λq=>q=R) W X0->p<=pz->pz<=p+12->Rd X0 R ad nn cap pz->Q .normal ⟨mk t,[]⟩ (X0.setCell ⟨T,1,none⟩ (.i i))):Code.wp prog (rg Tryz.f40 30) Q ⟨mk t0,[]⟩ W:=by
 have hRW:=hr.lt;refine Hb Ze 12 1 (λj=>match j with|_=>12) mk t0 R ad nn cap p (fK R T x g1 g2 a3 d1 d2 d3 o h y z ah bh ch eh W) (λa X=>∃(t:Nat->Value)(i:Int)(pz:Nat)(X0:World),a=⟨mk t,[]⟩/\X=(X0.setCell ⟨T,1,none⟩ (.i i))/\(-1000001<=i/\i<=1000001)/\Ay (λq=>q=R) W X0/\p<=pz/\pz<=p+12/\Rd X0 R ad nn cap pz) Ze Ze Ze ?_ rfl hr ?_ ?_ ?_;all_goals subst hmk
 .intro i v X Z p' hi h hF hRd hR hX;rcases(show i=0\/i=1\/i=2\/i=3\/i=4\/i=5\/i=6\/i=7\/i=8\/i=9\/i=10\/i=11 by omega)with rfl|rfl|rfl|rfl|rfl|rfl|rfl|rfl|rfl|rfl|rfl|rfl;.exact h
  .exact h
  .exact h
  .exact h
  .exact h
  .exact h
  .exact cE
  .exact h
  .exact h
  .exact Ya
  .exact h
  .exact h
 .intro i hi t X K p' hb hp1 hp2 hrd hg hK;rcases(show i=0\/i=1\/i=2\/i=3\/i=4\/i=5\/i=6\/i=7\/i=8\/i=9\/i=10\/i=11 by omega)with rfl|rfl|rfl|rfl|rfl|rfl|rfl|rfl|rfl|rfl|rfl|rfl;.have h:=hK (.p T 1) X p' AQ Za rfl (Ay.refl _ _) hrd;exact Qj
  .have eq0:t 0=.p T 1:=hg 0 (AZ rfl);have q:=(hb.cell (p:=⟨T,1,none⟩) H.lt H.ne).trans (H.row.cell 1 Zb);simp only[AW,Aa,Ab]at q;have h:=hK (.i x.floor) X p' AQ Za rfl (Ay.refl _ _) hrd;refine Ah rfl rfl ?_;clear hK hg;go_simp;simpa[AA,eq0]using h
  .have eq1:t 1=.i x.floor:=hg 1 (AZ rfl);have eq1b:=H.bf;have hw:=AK (x.floor+1) ⟨Za,Za⟩;have h:=hK (.i (x.floor+1)) X p' AQ Za ⟨_,rfl,Za,Za⟩ (Ay.refl _ _) hrd;refine Ah rfl rfl ?_;clear hK hg;go_simp;simpa[AA,eq1,hw]using h
  .have h:=hK (.p T 0) X p' AQ Za rfl (Ay.refl _ _) hrd;exact Qj
  .have eq3:t 3=.p T 0:=hg 3 (AZ rfl);have q:=(hb.cell (p:=⟨T,0,none⟩) H.lt H.ne).trans (H.row.cell 0 Zb);simp only[AW,Aa,]at q;have h:=hK (.i x.now) X p' AQ Za rfl (Ay.refl _ _) hrd;refine Ah rfl rfl ?_;clear hK hg;go_simp;simpa[AA,eq3]using h
  .have eq4:t 4=.i x.now:=hg 4 (AZ rfl);have eq4b:=H.bn;have hw:=AK (x.now+1) ⟨Za,Za⟩;have h:=hK (.i (x.now+1)) X p' AQ Za ⟨_,rfl,Za,Za⟩ (Ay.refl _ _) hrd;refine Ah rfl rfl ?_;clear hK hg;go_simp;simpa[AA,eq4,hw]using h
  .obtain⟨i2,eq2,eq21,eq22⟩:∃i:Int,t 2=.i i/\-1000001<=i/\i<=1000001:=hg 2 (AZ rfl);obtain⟨i5,eq5,eq51,eq52⟩:∃i:Int,t 5=.i i/\-1000001<=i/\i<=1000001:=hg 5 (AZ rfl);have h:=hK (.l (some ⟨X.1.size,0,none⟩) 3 3) (X.alloc (.cells #[.i (-1),.i i2,.i i5] 3)) p' AQ Za ⟨X.1.size,rfl,hb.size,Zc,λk hk=>by rw[Al X #[.i (-1),.i i2,.i i5] 3 k];rcases(show k=0\/k=1\/k=2 by omega)with rfl|rfl|rfl;all_goals exact⟨_,rfl,Za,Za⟩⟩ (Ar ET) (hrd.below ET);refine Ah rfl rfl ?_;clear hK hg;go_simp;simpa[AA,eq2,eq5]using h
  .exact Um
  .have eq7:t 7=.p R 0:=hg 7 (AZ rfl);refine Ah rfl rfl ?_;have HK:=Aj hK;have HR:=Aj hrd;clear hK hg hrd;go_simp;go_at_call 15;refine(Bj R ad nn cap p' 3 X HR Za Zb Zb).mono ?_;rintro r Z ⟨k,rfl,_,hv,hf,hr2⟩;have h:=HK (.i k) Z (p'+1) Za AQ ⟨k,by have:=hv Zb;omega,rfl⟩ hf hr2;simpa[AA,eq7]using h
  .obtain⟨g,eq6,y1,y2,y3⟩:∃g:Nat,t 6=.l (some ⟨g,0,none⟩) 3 3/\W.1.size<=g/\g<X.1.size/\∀k,k<3->∃i:Int,X.cell? ⟨g,k,none⟩=some (.i i)/\-1000001<=i/\i<=1000001:=hg 6 (AZ rfl);obtain⟨k,hk,eq8⟩:∃k:Nat,k<3/\t 8=.i k:=hg 8 (AZ rfl);obtain⟨i,y4,y5,y6⟩:=y3 k hk;have h:=hK (.pointer (some ⟨g,k,none⟩)) X p' AQ Za ⟨g,k,i,rfl,⟨y1,y2⟩,y4,trivial,y5,y6⟩ (Ay.refl _ _) hrd;refine Ah rfl rfl ?_;clear hK hg;go_simp;rw[if_pos Za,AM];go_simp;simpa[AA,eq6,eq8]using h
  .obtain⟨g,k,i,eq9,y1,y2,y3,y4⟩:∃(g k:Nat)(i:Int),t 9=.pointer (some ⟨g,k,none⟩)/\(W.1.size<=g/\g<X.1.size)/\X.cell? ⟨g,k,none⟩=some (.i i)/\True/\(-1000001<=i/\i<=1000001):=hg 9 (AZ rfl);have h:=hK (.i i) X p' AQ Za ⟨i,rfl,y4.1,y4.2⟩ (Ay.refl _ _) hrd;refine Ah rfl rfl ?_;clear hK hg;go_simp;simpa[AA,eq9]using h
  .have h:=hK (.p T 1) X p' AQ Za rfl (Ay.refl _ _) hrd;exact Qj
 .intro t X K p' hb hp1 hp2 hrd hg hK;have eq11:t 11=.p T 1:=hg 11 Za;obtain⟨i,eq10,y1,y2⟩:∃i:Int,t 10=.i i/\-1000001<=i/\i<=1000001:=hg 10 Za;have q:=(hb.cell (p:=⟨T,1,none⟩) H.lt H.ne).trans (H.row.cell 1 Zb);have q2:=(hb.frozen (p:=⟨T,1,none⟩) H.lt H.ne).trans (H.row.free _);simp only[AW,Aa,Ab,]at q;have h:=hK _ _ ⟨t,i,p',X,rfl,rfl,⟨y1,y2⟩,hb,hp1,Za,hrd⟩;have HK:=Aj h;clear hK hg h;refine Ah rfl rfl ?_;go_simp;simpa[eq11,eq10]using HK.out
 .exact TY
def gS (R:Nat)(T:Nat)(x:Bk)(g1 _g2:Nat)(_a3:OA)(d1 _d2 _d3 o _h:Nat)(y:Ob)(_z:Ch)(_ah _bh:OA)(_ch _eh:Nat)(_W:World)(i:Nat)(v:Value)(_X:World):Prop:=match i with
 |0=>v=.p T 2
 |1=>v=.l (some ⟨g1,0,none⟩) x.on d1
 |2=>v=.i (o:Nat)
 |3=>v=.p T 2
 |4=>v=.l (some ⟨g1,0,none⟩) x.on d1
 |5=>v=.i (o:Nat)
 |6=>v=.pointer (some ⟨g1,o*7,none⟩)
 |7=>v=.pointer (some ⟨g1,o*7+2,none⟩)
 |8=>v=.i y.ver
 |9=>v=.p R 0
 |10=>∃k:Nat,k<3/\v=.i k
 |11=>∃i:Int,v=.i i/\-1000003<=i/\i<=1000003
 |12=>∃i:Int,v=.i i/\-1000004<=i/\i<=1000004
 |13=>v=.pointer (some ⟨g1,o*7,none⟩)
 |14=>v=.pointer (some ⟨g1,o*7+2,none⟩)
 |_=>True
theorem Wx{P:Prop}(h:P:=by have eq0:t 0=.p T 2:=hg 0 (AZ rfl);have q:=(hb.cell (p:=⟨T,2,none⟩) H.lt H.ne).trans (H.row.cell 2 Zb);simp only[AW,Aa,Ab]at q;have h:=hK (.l (some ⟨g1,0,none⟩) x.on d1) X p' AQ Za rfl (Ay.refl _ _) hrd;refine Ah rfl rfl ?_;clear hK hg;go_simp;simpa[AA,eq0]using h):P:=h
theorem Xa{P:Prop}(h:P:=by have eq3:t 3=.p T 2:=hg 3 (AZ rfl);have q:=(hb.cell (p:=⟨T,2,none⟩) H.lt H.ne).trans (H.row.cell 2 Zb);simp only[AW,Aa,Ab]at q;have h:=hK (.l (some ⟨g1,0,none⟩) x.on d1) X p' AQ Za rfl (Ay.refl _ _) hrd;refine Ah rfl rfl ?_;clear hK hg;go_simp;simpa[AA,eq3]using h):P:=h
theorem WA{P:Prop}(h:P:=by have eq4:t 4=.l (some ⟨g1,0,none⟩) x.on d1:=hg 4 (AZ rfl);have eq5:t 5=.i (o:Nat):=hg 5 (AZ rfl);have hlt:=H.ho;have h:=hK (.pointer (some ⟨g1,o*7,none⟩)) X p' AQ Za rfl (Ay.refl _ _) hrd;refine Ah rfl rfl ?_;clear hK hg;go_simp;simpa[AA,eq4,eq5,hlt]using h):P:=h
theorem Xd{P:Prop}(h:P:=by have eq1:t 1=.l (some ⟨g1,0,none⟩) x.on d1:=hg 1 (AZ rfl);have eq2:t 2=.i (o:Nat):=hg 2 (AZ rfl);have hlt:=H.ho;have h:=hK (.pointer (some ⟨g1,o*7,none⟩)) X p' AQ Za rfl (Ay.refl _ _) hrd;refine Ah rfl rfl ?_;clear hK hg;go_simp;simpa[AA,eq1,eq2,hlt]using h):P:=h
theorem P5{P:Prop}(h:P:=by have h:=hK (.i (o:Nat)) X p' AQ Za rfl (Ay.refl _ _) hrd;exact Qj):P:=h
theorem PR{P:Prop}(h:P:=by have h:=hK (.p T 2) X p' AQ Za rfl (Ay.refl _ _) hrd;exact Qj):P:=h
theorem jJ{P:Prop}(h:P:=by have eq7:t 7=.pointer (some ⟨g1,o*7+2,none⟩):=hg 7 (AZ rfl);have q:=(hb.cell (p:=⟨g1,o*7+2,none⟩) H.l1 H.n1).trans (H.c1 2 Zb);simp only[oc,cc,AW,Aa,Ab,Bs]at q;have h:=hK (.i y.ver) X p' AQ Za rfl (Ay.refl _ _) hrd;refine Ah rfl rfl ?_;clear hK hg;go_simp;simpa[AA,eq7]using h):P:=h
theorem cX{P:Prop}(h:P:=by have eq6:t 6=.pointer (some ⟨g1,o*7,none⟩):=hg 6 (AZ rfl);have h:=hK (.pointer (some ⟨g1,o*7+2,none⟩)) X p' AQ Za rfl (Ay.refl _ _) hrd;refine Ah rfl rfl ?_;clear hK hg;go_simp;simpa[AA,eq6]using h):P:=h
theorem kG{p1 p2 p3 p4 p8 p9 D8 D9 Ea DZ Dl Di Dg Dh De Db Dk Da Df Dc DH Du Ds DA Dw DG DD DE DF DI DJ DU Ev EF EN Eu ED EB EE EC Es Et DC D2 D1 DO DN Ej Eg Ei Ek D5 D4 Eb Eh D7 EK EL EH EJ EI EA Ez D0 FP FJ FO FN FK FH FL FI FM He Hg Hc FC Fz GA GZ Ge Ib Le KT KQ KP KR KS Hd Hf KN KJ KL KM KI K5 Cx Cy Cr Ck Cn Cl Cm Cq Cs CU CR CQ CS CE CF CG CI CO CN CZ CY CW DX DP DV Dq DB Dz En Dx Dp Dm Dy DW DM Dv Dt Do DQ DT DS DR Dr EM E3 Fe Fc E6 Fb E9 Fa E4 E1 E7 E5 E8 Fq Fs Fu Ft GM Gf Gq FT Ga G4 FU G5 GC GS GQ GG Jo Jy Jl Hx Gp GI JV IV H6 H9 IU Iu Ir Kl Jk Hn Kc IS Gv GH Hj I0 ID JU J5 Ii IK Ig IQ IM Jw Hr GD Gt JR Ko HJ Hk JJ I6 J4 Ji Kx Hu Jb Kz Jr Jg Ja IG Jd IX GV Gm Jc I9 It JO I7 Kv I1 JF I3 Kf Gr GU Jf Ip Jh Kd Ik JM Ka Iv Kq Iz Ho GR GN Ki In IT H7 Hl II IA Hv Jm Kh IW KA FW GP H5 JZ Jp Jv Ht Io HZ Ku JI JY JS J3 FX Gw Kn J1 JE Kj Jq JC Ju J8 IF JN JB Jn Hy JG Km IY JD IC JL IE GJ Gy JQ J2 J9 Hp JH Jt IB Jj Ia Kw JW FY Gn Gl Gs GB GF Gk GX JK Ie IH IR KC Hi Kt Im Jz Kg Ic Gi GY IL KD H8 J6 IZ Is Ij J0 Ky JP Iw Kr IJ JX J7 JA Ks Hq I2 Iq I8 I5 Hz KB IP Ih If IN Iy Gx FR I4 Hw Js Ke Hm Il KE JT Hs Je Gg:Value}{mk:(Nat->Value)->Array Value}(t0:Nat->Value)(R:Nat)(ad:OA)(nn cap p:Nat)(T:Nat)(x:Bk)(g1 g2:Nat)(a3:OA)(d1 d2 d3 o h:Nat)(y:Ob)(z:Ch)(ah bh:OA)(ch eh:Nat)(W:World)(hr:Rd W R ad nn cap p)(hp:p<=600000)(H:SD W R T x g1 g2 a3 d1 d2 d3 o h y z ah bh ch eh)(hmk:mk=λt=>#[.p R 0,p1,p2,p3,p4,.p T 0,.i (o:Nat),.i (h:Nat),p8,p9,D8,D9,Ea,DZ,Dl,Di,Dg,Dh,De,Db,Dk,Da,Df,Dc,DH,Du,Ds,DA,Dw,DG,DD,DE,DF,DI,DJ,DU,Ev,EF,EN,Eu,ED,EB,EE,EC,Es,Et,DC,D2,D1,DO,DN,Ej,Eg,Ei,Ek,D5,D4,Eb,Eh,D7,EK,EL,EH,EJ,EI,EA,Ez,D0,FP,FJ,FO,FN,FK,FH,FL,FI,FM,He,Hg,Hc,FC,Fz,GA,GZ,Ge,Ib,Le,KT,KQ,KP,KR,KS,Hd,Hf,KN,KJ,KL,KM,KI,K5,Cx,Cy,Cr,Ck,Cn,Cl,Cm,Cq,Cs,CU,CR,CQ,CS,CE,CF,CG,CI,CO,CN,CZ,CY,CW,DX,DP,DV,Dq,DB,Dz,En,Dx,Dp,Dm,Dy,DW,DM,Dv,Dt,Do,DQ,DT,DS,DR,Dr,EM,E3,Fe,Fc,E6,Fb,E9,Fa,E4,E1,E7,E5,E8,Fq,Fs,t 0,t 1,t 2,t 3,t 4,t 5,t 6,t 7,t 8,t 9,t 10,t 11,t 12,t 13,t 14,Fu,Ft,GM,Gf,Gq,FT,Ga,G4,FU,G5,GC,GS,GQ,GG,Jo,Jy,Jl,Hx,Gp,GI,JV,IV,H6,H9,IU,Iu,Ir,Kl,Jk,Hn,Kc,IS,Gv,GH,Hj,I0,ID,JU,J5,Ii,IK,Ig,IQ,IM,Jw,Hr,GD,Gt,JR,Ko,HJ,Hk,JJ,I6,J4,Ji,Kx,Hu,Jb,Kz,Jr,Jg,Ja,IG,Jd,IX,GV,Gm,Jc,I9,It,JO,I7,Kv,I1,JF,I3,Kf,Gr,GU,Jf,Ip,Jh,Kd,Ik,JM,Ka,Iv,Kq,Iz,Ho,GR,GN,Ki,In,IT,H7,Hl,II,IA,Hv,Jm,Kh,IW,KA,FW,GP,H5,JZ,Jp,Jv,Ht,Io,HZ,Ku,JI,JY,JS,J3,FX,Gw,Kn,J1,JE,Kj,Jq,JC,Ju,J8,IF,JN,JB,Jn,Hy,JG,Km,IY,JD,IC,JL,IE,GJ,Gy,JQ,J2,J9,Hp,JH,Jt,IB,Jj,Ia,Kw,JW,FY,Gn,Gl,Gs,GB,GF,Gk,GX,JK,Ie,IH,IR,KC,Hi,Kt,Im,Jz,Kg,Ic,Gi,GY,IL,KD,H8,J6,IZ,Is,Ij,J0,Ky,JP,Iw,Kr,IJ,JX,J7,JA,Ks,Hq,I2,Iq,I8,I5,Hz,KB,IP,Ih,If,IN,Iy,Gx,FR,I4,Hw,Js,Ke,Hm,Il,KE,JT,Hs,Je,Gg])(Q:Exit->Act->World->Prop)(hQ:∀(t:Nat->Value)(i:Int)(pz:Nat)(X0:World),-1000004<=i/\i<=1000004->Ay (λq=>q=R) W X0->p<=pz->pz<=p+15->Rd X0 R ad nn cap pz->Q .normal ⟨mk t,[]⟩ (X0.setCell ⟨g1,o*7+2,none⟩ (.i i))):Code.wp prog (rg Tryz.f40 32) Q ⟨mk t0,[]⟩ W:=by
 have hRW:=hr.lt;refine Hb Ze 15 1 (λj=>match j with|13=>14|_=>15) mk t0 R ad nn cap p (gS R T x g1 g2 a3 d1 d2 d3 o h y z ah bh ch eh W) (λa X=>∃(t:Nat->Value)(i:Int)(pz:Nat)(X0:World),a=⟨mk t,[]⟩/\X=(X0.setCell ⟨g1,o*7+2,none⟩ (.i i))/\(-1000004<=i/\i<=1000004)/\Ay (λq=>q=R) W X0/\p<=pz/\pz<=p+15/\Rd X0 R ad nn cap pz) Ze Ze Ze ?_ rfl hr ?_ ?_ ?_;all_goals subst hmk
 .intro i v X Z p' hi h hF hRd hR hX;rcases(show i=0\/i=1\/i=2\/i=3\/i=4\/i=5\/i=6\/i=7\/i=8\/i=9\/i=10\/i=11\/i=12\/i=13\/i=14 by omega)with rfl|rfl|rfl|rfl|rfl|rfl|rfl|rfl|rfl|rfl|rfl|rfl|rfl|rfl|rfl;.exact h
  .exact h
  .exact h
  .exact h
  .exact h
  .exact h
  .exact h
  .exact h
  .exact h
  .exact h
  .exact h
  .exact h
  .exact h
  .exact h
  .exact h
 .intro i hi t X K p' hb hp1 hp2 hrd hg hK;rcases(show i=0\/i=1\/i=2\/i=3\/i=4\/i=5\/i=6\/i=7\/i=8\/i=9\/i=10\/i=11\/i=12\/i=13\/i=14 by omega)with rfl|rfl|rfl|rfl|rfl|rfl|rfl|rfl|rfl|rfl|rfl|rfl|rfl|rfl|rfl;.exact PR
  .exact Wx
  .exact P5
  .exact PR
  .exact Xa
  .exact P5
  .exact WA
  .exact cX
  .exact jJ
  .exact Um
  .have eq9:t 9=.p R 0:=hg 9 (AZ rfl);refine Ah rfl rfl ?_;have HK:=Aj hK;have HR:=Aj hrd;clear hK hg hrd;go_simp;go_at_call 15;refine(Bj R ad nn cap p' 3 X HR Za Zb Zb).mono ?_;rintro r Z ⟨k,rfl,_,hv,hf,hr2⟩;have h:=HK (.i k) Z (p'+1) Za AQ ⟨k,by have:=hv Zb;omega,rfl⟩ hf hr2;simpa[AA,eq9]using h
  .have eq8:t 8=.i y.ver:=hg 8 (AZ rfl);have eq8b:=H.bv;obtain⟨ib,ibh,eq10⟩:∃k:Nat,k<3/\t 10=.i k:=hg 10 (AZ rfl);have hw:=AK (y.ver+(ib:Int)) ⟨Za,Za⟩;have h:=hK (.i (y.ver+(ib:Int))) X p' AQ Za ⟨_,rfl,Za,Za⟩ (Ay.refl _ _) hrd;refine Ah rfl rfl ?_;clear hK hg;go_simp;simpa[AA,eq8,eq10,hw]using h
  .obtain⟨ia,eq11,ia1,ia2⟩:∃i:Int,t 11=.i i/\-1000003<=i/\i<=1000003:=hg 11 (AZ rfl);have hw:=AK (ia-1) ⟨Za,Za⟩;have h:=hK (.i (ia-1)) X p' AQ Za ⟨_,rfl,Za,Za⟩ (Ay.refl _ _) hrd;refine Ah rfl rfl ?_;clear hK hg;go_simp;simpa[AA,eq11,hw]using h
  .exact Xd
  .have eq13:t 13=.pointer (some ⟨g1,o*7,none⟩):=hg 13 (AZ rfl);have h:=hK (.pointer (some ⟨g1,o*7+2,none⟩)) X p' AQ Za rfl (Ay.refl _ _) hrd;refine Ah rfl rfl ?_;clear hK hg;go_simp;simpa[AA,eq13]using h
 .intro t X K p' hb hp1 hp2 hrd hg hK;have eq14:t 14=.pointer (some ⟨g1,o*7+2,none⟩):=hg 14 Za;obtain⟨i,eq12,y1,y2⟩:∃i:Int,t 12=.i i/\-1000004<=i/\i<=1000004:=hg 12 Za;have q:=(hb.cell (p:=⟨g1,o*7+2,none⟩) H.l1 H.n1).trans (H.c1 2 Zb);have q2:=(hb.frozen (p:=⟨g1,o*7+2,none⟩) H.l1 H.n1).trans (H.f1 _);simp only[oc,AW,Aa,Ab,]at q;have h:=hK _ _ ⟨t,i,p',X,rfl,rfl,⟨y1,y2⟩,hb,hp1,Za,hrd⟩;have HK:=Aj h;clear hK hg h;refine Ah rfl rfl ?_;go_simp;simpa[eq14,eq12]using HK.out
 .exact TY
def dH (R:Nat)(T:Nat)(x:Bk)(g1 _g2:Nat)(_a3:OA)(d1 _d2 _d3 o _h:Nat)(y:Ob)(_z:Ch)(_ah _bh:OA)(_ch _eh:Nat)(W:World)(i:Nat)(v:Value)(X:World):Prop:=match i with
 |0=>v=.p T 2
 |1=>v=.l (some ⟨g1,0,none⟩) x.on d1
 |2=>v=.i (o:Nat)
 |3=>v=.p T 2
 |4=>v=.l (some ⟨g1,0,none⟩) x.on d1
 |5=>v=.i (o:Nat)
 |6=>v=.pointer (some ⟨g1,o*7,none⟩)
 |7=>v=.pointer (some ⟨g1,o*7+2,none⟩)
 |8=>v=.i y.ver
 |9=>∃g:Nat,v=.l (some ⟨g,0,none⟩) 3 3/\W.1.size<=g/\g<X.1.size/\∀k,k<3->∃i:Int,X.cell? ⟨g,k,none⟩=some (.i i)/\-1000000<=i/\i<=1000000
 |10=>v=.p R 0
 |11=>∃k:Nat,k<3/\v=.i k
 |12=>∃(g k:Nat)(i:Int),v=.pointer (some ⟨g,k,none⟩)/\(W.1.size<=g/\g<X.1.size)/\X.cell? ⟨g,k,none⟩=some (.i i)/\True/\(-1000000<=i/\i<=1000000)
 |13=>∃i:Int,v=.i i/\-1000000<=i/\i<=1000000
 |14=>v=.pointer (some ⟨g1,o*7,none⟩)
 |15=>v=.pointer (some ⟨g1,o*7+3,none⟩)
 |_=>True
theorem lR{p1 p2 p3 p4 p8 p9 D8 D9 Ea DZ Dl Di Dg Dh De Db Dk Da Df Dc DH Du Ds DA Dw DG DD DE DF DI DJ DU Ev EF EN Eu ED EB EE EC Es Et DC D2 D1 DO DN Ej Eg Ei Ek D5 D4 Eb Eh D7 EK EL EH EJ EI EA Ez D0 FP FJ FO FN FK FH FL FI FM He Hg Hc FC Fz GA GZ Ge Ib Le KT KQ KP KR KS Hd Hf KN KJ KL KM KI K5 Cx Cy Cr Ck Cn Cl Cm Cq Cs CU CR CQ CS CE CF CG CI CO CN CZ CY CW DX DP DV Dq DB Dz En Dx Dp Dm Dy DW DM Dv Dt Do DQ DT DS DR Dr EM E3 Fe Fc E6 Fb E9 Fa E4 E1 E7 E5 E8 Fq Fs Gd GO GK Gc Gj Gu GE GT Gb G3 Gh F9 G0 Gz GL Fu Ft Gp GI JV IV H6 H9 IU Iu Ir Kl Jk Hn Kc IS Gv GH Hj I0 ID JU J5 Ii IK Ig IQ IM Jw Hr GD Gt JR Ko HJ Hk JJ I6 J4 Ji Kx Hu Jb Kz Jr Jg Ja IG Jd IX GV Gm Jc I9 It JO I7 Kv I1 JF I3 Kf Gr GU Jf Ip Jh Kd Ik JM Ka Iv Kq Iz Ho GR GN Ki In IT H7 Hl II IA Hv Jm Kh IW KA FW GP H5 JZ Jp Jv Ht Io HZ Ku JI JY JS J3 FX Gw Kn J1 JE Kj Jq JC Ju J8 IF JN JB Jn Hy JG Km IY JD IC JL IE GJ Gy JQ J2 J9 Hp JH Jt IB Jj Ia Kw JW FY Gn Gl Gs GB GF Gk GX JK Ie IH IR KC Hi Kt Im Jz Kg Ic Gi GY IL KD H8 J6 IZ Is Ij J0 Ky JP Iw Kr IJ JX J7 JA Ks Hq I2 Iq I8 I5 Hz KB IP Ih If IN Iy Gx FR I4 Hw Js Ke Hm Il KE JT Hs Je Gg:Value}{mk:(Nat->Value)->Array Value}(t0:Nat->Value)(R:Nat)(ad:OA)(nn cap p:Nat)(T:Nat)(x:Bk)(g1 g2:Nat)(a3:OA)(d1 d2 d3 o h:Nat)(y:Ob)(z:Ch)(ah bh:OA)(ch eh:Nat)(W:World)(hr:Rd W R ad nn cap p)(hp:p<=600000)(H:SD W R T x g1 g2 a3 d1 d2 d3 o h y z ah bh ch eh)(hmk:mk=λt=>#[.p R 0,p1,p2,p3,p4,.p T 0,.i (o:Nat),.i (h:Nat),p8,p9,D8,D9,Ea,DZ,Dl,Di,Dg,Dh,De,Db,Dk,Da,Df,Dc,DH,Du,Ds,DA,Dw,DG,DD,DE,DF,DI,DJ,DU,Ev,EF,EN,Eu,ED,EB,EE,EC,Es,Et,DC,D2,D1,DO,DN,Ej,Eg,Ei,Ek,D5,D4,Eb,Eh,D7,EK,EL,EH,EJ,EI,EA,Ez,D0,FP,FJ,FO,FN,FK,FH,FL,FI,FM,He,Hg,Hc,FC,Fz,GA,GZ,Ge,Ib,Le,KT,KQ,KP,KR,KS,Hd,Hf,KN,KJ,KL,KM,KI,K5,Cx,Cy,Cr,Ck,Cn,Cl,Cm,Cq,Cs,CU,CR,CQ,CS,CE,CF,CG,CI,CO,CN,CZ,CY,CW,DX,DP,DV,Dq,DB,Dz,En,Dx,Dp,Dm,Dy,DW,DM,Dv,Dt,Do,DQ,DT,DS,DR,Dr,EM,E3,Fe,Fc,E6,Fb,E9,Fa,E4,E1,E7,E5,E8,Fq,Fs,Gd,GO,GK,Gc,Gj,Gu,GE,GT,Gb,G3,Gh,F9,G0,Gz,GL,Fu,Ft,t 0,t 1,t 2,t 3,t 4,t 5,t 6,t 7,t 8,t 9,t 10,t 11,t 12,t 13,t 14,t 15,Gp,GI,JV,IV,H6,H9,IU,Iu,Ir,Kl,Jk,Hn,Kc,IS,Gv,GH,Hj,I0,ID,JU,J5,Ii,IK,Ig,IQ,IM,Jw,Hr,GD,Gt,JR,Ko,HJ,Hk,JJ,I6,J4,Ji,Kx,Hu,Jb,Kz,Jr,Jg,Ja,IG,Jd,IX,GV,Gm,Jc,I9,It,JO,I7,Kv,I1,JF,I3,Kf,Gr,GU,Jf,Ip,Jh,Kd,Ik,JM,Ka,Iv,Kq,Iz,Ho,GR,GN,Ki,In,IT,H7,Hl,II,IA,Hv,Jm,Kh,IW,KA,FW,GP,H5,JZ,Jp,Jv,Ht,Io,HZ,Ku,JI,JY,JS,J3,FX,Gw,Kn,J1,JE,Kj,Jq,JC,Ju,J8,IF,JN,JB,Jn,Hy,JG,Km,IY,JD,IC,JL,IE,GJ,Gy,JQ,J2,J9,Hp,JH,Jt,IB,Jj,Ia,Kw,JW,FY,Gn,Gl,Gs,GB,GF,Gk,GX,JK,Ie,IH,IR,KC,Hi,Kt,Im,Jz,Kg,Ic,Gi,GY,IL,KD,H8,J6,IZ,Is,Ij,J0,Ky,JP,Iw,Kr,IJ,JX,J7,JA,Ks,Hq,I2,Iq,I8,I5,Hz,KB,IP,Ih,If,IN,Iy,Gx,FR,I4,Hw,Js,Ke,Hm,Il,KE,JT,Hs,Je,Gg])(Q:Exit->Act->World->Prop)(hQ:∀(t:Nat->Value)(i:Int)(pz:Nat)(X0:World),-1000000<=i/\i<=1000000->Ay (λq=>q=R) W X0->p<=pz->pz<=p+16->Rd X0 R ad nn cap pz->Q .normal ⟨mk t,[]⟩ (X0.setCell ⟨g1,o*7+3,none⟩ (.i i))):Code.wp prog (rg Tryz.f40 34) Q ⟨mk t0,[]⟩ W:=by
 have hRW:=hr.lt;refine Hb Ze 16 1 (λj=>match j with|14=>15|_=>16) mk t0 R ad nn cap p (dH R T x g1 g2 a3 d1 d2 d3 o h y z ah bh ch eh W) (λa X=>∃(t:Nat->Value)(i:Int)(pz:Nat)(X0:World),a=⟨mk t,[]⟩/\X=(X0.setCell ⟨g1,o*7+3,none⟩ (.i i))/\(-1000000<=i/\i<=1000000)/\Ay (λq=>q=R) W X0/\p<=pz/\pz<=p+16/\Rd X0 R ad nn cap pz) Ze Ze Ze ?_ rfl hr ?_ ?_ ?_;all_goals subst hmk
 .intro i v X Z p' hi h hF hRd hR hX;rcases(show i=0\/i=1\/i=2\/i=3\/i=4\/i=5\/i=6\/i=7\/i=8\/i=9\/i=10\/i=11\/i=12\/i=13\/i=14\/i=15 by omega)with rfl|rfl|rfl|rfl|rfl|rfl|rfl|rfl|rfl|rfl|rfl|rfl|rfl|rfl|rfl|rfl;.exact h
  .exact h
  .exact h
  .exact h
  .exact h
  .exact h
  .exact h
  .exact h
  .exact h
  .exact cE
  .exact h
  .exact h
  .exact Ya
  .exact h
  .exact h
  .exact h
 .intro i hi t X K p' hb hp1 hp2 hrd hg hK;rcases(show i=0\/i=1\/i=2\/i=3\/i=4\/i=5\/i=6\/i=7\/i=8\/i=9\/i=10\/i=11\/i=12\/i=13\/i=14\/i=15 by omega)with rfl|rfl|rfl|rfl|rfl|rfl|rfl|rfl|rfl|rfl|rfl|rfl|rfl|rfl|rfl|rfl;.exact PR
  .exact Wx
  .exact P5
  .exact PR
  .exact Xa
  .exact P5
  .exact WA
  .exact cX
  .exact jJ
  .have eq8:t 8=.i y.ver:=hg 8 (AZ rfl);have eq8b:=H.bv;have h:=hK (.l (some ⟨X.1.size,0,none⟩) 3 3) (X.alloc (.cells #[.i 0,.i y.ver,.i 1] 3)) p' AQ Za ⟨X.1.size,rfl,hb.size,Zc,λk hk=>by rw[Al X #[.i 0,.i y.ver,.i 1] 3 k];rcases(show k=0\/k=1\/k=2 by omega)with rfl|rfl|rfl;all_goals exact⟨_,rfl,Za,Za⟩⟩ (Ar ET) (hrd.below ET);refine Ah rfl rfl ?_;clear hK hg;go_simp;simpa[AA,eq8]using h
  .exact Um
  .have eq10:t 10=.p R 0:=hg 10 (AZ rfl);refine Ah rfl rfl ?_;have HK:=Aj hK;have HR:=Aj hrd;clear hK hg hrd;go_simp;go_at_call 15;refine(Bj R ad nn cap p' 3 X HR Za Zb Zb).mono ?_;rintro r Z ⟨k,rfl,_,hv,hf,hr2⟩;have h:=HK (.i k) Z (p'+1) Za AQ ⟨k,by have:=hv Zb;omega,rfl⟩ hf hr2;simpa[AA,eq10]using h
  .obtain⟨g,eq9,y1,y2,y3⟩:∃g:Nat,t 9=.l (some ⟨g,0,none⟩) 3 3/\W.1.size<=g/\g<X.1.size/\∀k,k<3->∃i:Int,X.cell? ⟨g,k,none⟩=some (.i i)/\-1000000<=i/\i<=1000000:=hg 9 (AZ rfl);obtain⟨k,hk,eq11⟩:∃k:Nat,k<3/\t 11=.i k:=hg 11 (AZ rfl);obtain⟨i,y4,y5,y6⟩:=y3 k hk;have h:=hK (.pointer (some ⟨g,k,none⟩)) X p' AQ Za ⟨g,k,i,rfl,⟨y1,y2⟩,y4,trivial,y5,y6⟩ (Ay.refl _ _) hrd;refine Ah rfl rfl ?_;clear hK hg;go_simp;rw[if_pos Za,AM];go_simp;simpa[AA,eq9,eq11]using h
  .obtain⟨g,k,i,eq12,y1,y2,y3,y4⟩:∃(g k:Nat)(i:Int),t 12=.pointer (some ⟨g,k,none⟩)/\(W.1.size<=g/\g<X.1.size)/\X.cell? ⟨g,k,none⟩=some (.i i)/\True/\(-1000000<=i/\i<=1000000):=hg 12 (AZ rfl);have h:=hK (.i i) X p' AQ Za ⟨i,rfl,y4.1,y4.2⟩ (Ay.refl _ _) hrd;refine Ah rfl rfl ?_;clear hK hg;go_simp;simpa[AA,eq12]using h
  .exact Xd
  .have eq14:t 14=.pointer (some ⟨g1,o*7,none⟩):=hg 14 (AZ rfl);have h:=hK (.pointer (some ⟨g1,o*7+3,none⟩)) X p' AQ Za rfl (Ay.refl _ _) hrd;refine Ah rfl rfl ?_;clear hK hg;go_simp;simpa[AA,eq14]using h
 .intro t X K p' hb hp1 hp2 hrd hg hK;have eq15:t 15=.pointer (some ⟨g1,o*7+3,none⟩):=hg 15 Za;obtain⟨i,eq13,y1,y2⟩:∃i:Int,t 13=.i i/\-1000000<=i/\i<=1000000:=hg 13 Za;have q:=(hb.cell (p:=⟨g1,o*7+3,none⟩) H.l1 H.n1).trans (H.c1 3 Zb);have q2:=(hb.frozen (p:=⟨g1,o*7+3,none⟩) H.l1 H.n1).trans (H.f1 _);simp only[oc,AW,Aa,Ab,]at q;have h:=hK _ _ ⟨t,i,p',X,rfl,rfl,⟨y1,y2⟩,hb,hp1,Za,hrd⟩;have HK:=Aj h;clear hK hg h;refine Ah rfl rfl ?_;go_simp;simpa[eq15,eq13]using HK.out
 .exact TY
def iD (_R:Nat)(T:Nat)(x:Bk)(g1 _g2:Nat)(_a3:OA)(d1 _d2 _d3 o _h:Nat)(y:Ob)(_z:Ch)(_ah _bh:OA)(_ch _eh:Nat)(_W:World)(i:Nat)(v:Value)(_X:World):Prop:=match i with
 |0=>v=.p T 2
 |1=>v=.l (some ⟨g1,0,none⟩) x.on d1
 |2=>v=.i (o:Nat)
 |3=>v=.p T 2
 |4=>v=.l (some ⟨g1,0,none⟩) x.on d1
 |5=>v=.i (o:Nat)
 |6=>v=.pointer (some ⟨g1,o*7,none⟩)
 |7=>v=.pointer (some ⟨g1,o*7+4,none⟩)
 |8=>v=.s y.text
 |9=>∃s:ByteArray,v=.s s/\s.size<=1000
 |10=>v=.pointer (some ⟨g1,o*7,none⟩)
 |11=>v=.pointer (some ⟨g1,o*7+4,none⟩)
 |_=>True
theorem lS{p1 p2 p3 p4 p8 p9 D8 D9 Ea DZ Dl Di Dg Dh De Db Dk Da Df Dc DH Du Ds DA Dw DG DD DE DF DI DJ DU Ev EF EN Eu ED EB EE EC Es Et DC D2 D1 DO DN Ej Eg Ei Ek D5 D4 Eb Eh D7 EK EL EH EJ EI EA Ez D0 FP FJ FO FN FK FH FL FI FM He Hg Hc FC Fz GA GZ Ge Ib Le KT KQ KP KR KS Hd Hf KN KJ KL KM KI K5 Cx Cy Cr Ck Cn Cl Cm Cq Cs CU CR CQ CS CE CF CG CI CO CN CZ CY CW DX DP DV Dq DB Dz En Dx Dp Dm Dy DW DM Dv Dt Do DQ DT DS DR Dr EM E3 Fe Fc E6 Fb E9 Fa E4 E1 E7 E5 E8 Fq Fs Gd GO GK Gc Gj Gu GE GT Gb G3 Gh F9 G0 Gz GL Fu Ft GM Gf Gq FT Ga G4 FU G5 GC GS GQ GG Jo Jy Jl Hx Gp GI Gv GH Hj I0 ID JU J5 Ii IK Ig IQ IM Jw Hr GD Gt JR Ko HJ Hk JJ I6 J4 Ji Kx Hu Jb Kz Jr Jg Ja IG Jd IX GV Gm Jc I9 It JO I7 Kv I1 JF I3 Kf Gr GU Jf Ip Jh Kd Ik JM Ka Iv Kq Iz Ho GR GN Ki In IT H7 Hl II IA Hv Jm Kh IW KA FW GP H5 JZ Jp Jv Ht Io HZ Ku JI JY JS J3 FX Gw Kn J1 JE Kj Jq JC Ju J8 IF JN JB Jn Hy JG Km IY JD IC JL IE GJ Gy JQ J2 J9 Hp JH Jt IB Jj Ia Kw JW FY Gn Gl Gs GB GF Gk GX JK Ie IH IR KC Hi Kt Im Jz Kg Ic Gi GY IL KD H8 J6 IZ Is Ij J0 Ky JP Iw Kr IJ JX J7 JA Ks Hq I2 Iq I8 I5 Hz KB IP Ih If IN Iy Gx FR I4 Hw Js Ke Hm Il KE JT Hs Je Gg:Value}{mk:(Nat->Value)->Array Value}(t0:Nat->Value)(R:Nat)(ad:OA)(nn cap p:Nat)(T:Nat)(x:Bk)(g1 g2:Nat)(a3:OA)(d1 d2 d3 o h:Nat)(y:Ob)(z:Ch)(ah bh:OA)(ch eh:Nat)(W:World)(hr:Rd W R ad nn cap p)(_hp:p<=600000)(H:SD W R T x g1 g2 a3 d1 d2 d3 o h y z ah bh ch eh)(hmk:mk=λt=>#[.p R 0,p1,p2,p3,p4,.p T 0,.i (o:Nat),.i (h:Nat),p8,p9,D8,D9,Ea,DZ,Dl,Di,Dg,Dh,De,Db,Dk,Da,Df,Dc,DH,Du,Ds,DA,Dw,DG,DD,DE,DF,DI,DJ,DU,Ev,EF,EN,Eu,ED,EB,EE,EC,Es,Et,DC,D2,D1,DO,DN,Ej,Eg,Ei,Ek,D5,D4,Eb,Eh,D7,EK,EL,EH,EJ,EI,EA,Ez,D0,FP,FJ,FO,FN,FK,FH,FL,FI,FM,He,Hg,Hc,FC,Fz,GA,GZ,Ge,Ib,Le,KT,KQ,KP,KR,KS,Hd,Hf,KN,KJ,KL,KM,KI,K5,Cx,Cy,Cr,Ck,Cn,Cl,Cm,Cq,Cs,CU,CR,CQ,CS,CE,CF,CG,CI,CO,CN,CZ,CY,CW,DX,DP,DV,Dq,DB,Dz,En,Dx,Dp,Dm,Dy,DW,DM,Dv,Dt,Do,DQ,DT,DS,DR,Dr,EM,E3,Fe,Fc,E6,Fb,E9,Fa,E4,E1,E7,E5,E8,Fq,Fs,Gd,GO,GK,Gc,Gj,Gu,GE,GT,Gb,G3,Gh,F9,G0,Gz,GL,Fu,Ft,GM,Gf,Gq,FT,Ga,G4,FU,G5,GC,GS,GQ,GG,Jo,Jy,Jl,Hx,Gp,GI,t 0,t 1,t 2,t 3,t 4,t 5,t 6,t 7,t 8,t 9,t 10,t 11,Gv,GH,Hj,I0,ID,JU,J5,Ii,IK,Ig,IQ,IM,Jw,Hr,GD,Gt,JR,Ko,HJ,Hk,JJ,I6,J4,Ji,Kx,Hu,Jb,Kz,Jr,Jg,Ja,IG,Jd,IX,GV,Gm,Jc,I9,It,JO,I7,Kv,I1,JF,I3,Kf,Gr,GU,Jf,Ip,Jh,Kd,Ik,JM,Ka,Iv,Kq,Iz,Ho,GR,GN,Ki,In,IT,H7,Hl,II,IA,Hv,Jm,Kh,IW,KA,FW,GP,H5,JZ,Jp,Jv,Ht,Io,HZ,Ku,JI,JY,JS,J3,FX,Gw,Kn,J1,JE,Kj,Jq,JC,Ju,J8,IF,JN,JB,Jn,Hy,JG,Km,IY,JD,IC,JL,IE,GJ,Gy,JQ,J2,J9,Hp,JH,Jt,IB,Jj,Ia,Kw,JW,FY,Gn,Gl,Gs,GB,GF,Gk,GX,JK,Ie,IH,IR,KC,Hi,Kt,Im,Jz,Kg,Ic,Gi,GY,IL,KD,H8,J6,IZ,Is,Ij,J0,Ky,JP,Iw,Kr,IJ,JX,J7,JA,Ks,Hq,I2,Iq,I8,I5,Hz,KB,IP,Ih,If,IN,Iy,Gx,FR,I4,Hw,Js,Ke,Hm,Il,KE,JT,Hs,Je,Gg])(Q:Exit->Act->World->Prop)(hQ:∀(t:Nat->Value)(s:ByteArray)(pz:Nat)(X0:World),s.size<=1000->Ay (λq=>q=R) W X0->p<=pz->pz<=p+12->Rd X0 R ad nn cap pz->Q .normal ⟨mk t,[]⟩ (X0.setCell ⟨g1,o*7+4,none⟩ (.s s))):Code.wp prog (rg Tryz.f40 36) Q ⟨mk t0,[]⟩ W:=by
 have hRW:=hr.lt;refine Hb Ze 12 1 (λj=>match j with|10=>11|_=>12) mk t0 R ad nn cap p (iD R T x g1 g2 a3 d1 d2 d3 o h y z ah bh ch eh W) (λa X=>∃(t:Nat->Value)(s:ByteArray)(pz:Nat)(X0:World),a=⟨mk t,[]⟩/\X=(X0.setCell ⟨g1,o*7+4,none⟩ (.s s))/\(s.size<=1000)/\Ay (λq=>q=R) W X0/\p<=pz/\pz<=p+12/\Rd X0 R ad nn cap pz) Ze Ze Ze ?_ rfl hr ?_ ?_ ?_;all_goals subst hmk
 .intro i v X Z p' hi h hF hRd hR hX;rcases(show i=0\/i=1\/i=2\/i=3\/i=4\/i=5\/i=6\/i=7\/i=8\/i=9\/i=10\/i=11 by omega)with rfl|rfl|rfl|rfl|rfl|rfl|rfl|rfl|rfl|rfl|rfl|rfl;.exact h
  .exact h
  .exact h
  .exact h
  .exact h
  .exact h
  .exact h
  .exact h
  .exact h
  .exact h
  .exact h
  .exact h
 .intro i hi t X K p' hb hp1 hp2 hrd hg hK;rcases(show i=0\/i=1\/i=2\/i=3\/i=4\/i=5\/i=6\/i=7\/i=8\/i=9\/i=10\/i=11 by omega)with rfl|rfl|rfl|rfl|rfl|rfl|rfl|rfl|rfl|rfl|rfl|rfl;.exact PR
  .exact Wx
  .exact P5
  .exact PR
  .exact Xa
  .exact P5
  .exact WA
  .have eq6:t 6=.pointer (some ⟨g1,o*7,none⟩):=hg 6 (AZ rfl);have h:=hK (.pointer (some ⟨g1,o*7+4,none⟩)) X p' AQ Za rfl (Ay.refl _ _) hrd;refine Ah rfl rfl ?_;clear hK hg;go_simp;simpa[AA,eq6]using h
  .have eq7:t 7=.pointer (some ⟨g1,o*7+4,none⟩):=hg 7 (AZ rfl);have q:=(hb.cell (p:=⟨g1,o*7+4,none⟩) H.l1 H.n1).trans (H.c1 4 Zb);simp only[oc,AW,Aa,Ab,]at q;have h:=hK (.s y.text) X p' AQ Za rfl (Ay.refl _ _) hrd;refine Ah rfl rfl ?_;clear hK hg;go_simp;simpa[AA,eq7]using h
  .have eq8:t 8=.s y.text:=hg 8 (AZ rfl);have hsz:=H.bt;have h:=hK (.s (y.text++⟨#[120]⟩)) X p' AQ Za ⟨_,rfl,by rw[Ha];show y.text.size+1<=1000;omega⟩ (Ay.refl _ _) hrd;refine Ah rfl rfl ?_;clear hK hg;go_simp;rw[if_neg Zd,AM];go_simp;simpa[AA,eq8]using h
  .exact Xd
  .have eq10:t 10=.pointer (some ⟨g1,o*7,none⟩):=hg 10 (AZ rfl);have h:=hK (.pointer (some ⟨g1,o*7+4,none⟩)) X p' AQ Za rfl (Ay.refl _ _) hrd;refine Ah rfl rfl ?_;clear hK hg;go_simp;simpa[AA,eq10]using h
 .intro t X K p' hb hp1 hp2 hrd hg hK;have eq11:t 11=.pointer (some ⟨g1,o*7+4,none⟩):=hg 11 Za;obtain⟨s,eq9,y1⟩:∃s:ByteArray,t 9=.s s/\s.size<=1000:=hg 9 Za;have q:=(hb.cell (p:=⟨g1,o*7+4,none⟩) H.l1 H.n1).trans (H.c1 4 Zb);have q2:=(hb.frozen (p:=⟨g1,o*7+4,none⟩) H.l1 H.n1).trans (H.f1 _);simp only[oc,AW,Aa,Ab,]at q;have h:=hK _ _ ⟨t,s,p',X,rfl,rfl,y1,hb,hp1,Za,hrd⟩;have HK:=Aj h;clear hK hg h;refine Ah rfl rfl ?_;go_simp;simpa[eq11,eq9]using HK.out
 .rintro a X ⟨t,s,pz,X0,rfl,rfl,z2,z3,z4,z5,z6⟩;exact hQ t s pz X0 z2 z3 z4 z5 z6
end Go.Proofs.YtnnjcenacidceaaGreat
