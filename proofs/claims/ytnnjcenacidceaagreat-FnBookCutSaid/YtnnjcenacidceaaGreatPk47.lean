import Derived.Test.YtnnjcenacidceaaGreatPk41
set_option maxRecDepth 100000
set_option maxHeartbeats 4000000
namespace Go.Proofs.YtnnjcenacidceaaGreat
open Go.RowKit Go.Proofs.Tryz
def cO (R:Nat)(T:Nat)(x:Bk)(_g1 g2:Nat)(_a3:OA)(_d1 d2 _d3 _o h:Nat)(_y:Ob)(_z:Ch)(_ah _bh:OA)(_ch _eh:Nat)(W:World)(i:Nat)(v:Value)(X:World):Prop:=match i with
 |0=>v=.p T 3
 |1=>v=.l (some ⟨g2,0,none⟩) x.hn d2
 |2=>v=.i (h:Nat)
 |3=>∃g:Nat,v=.l (some ⟨g,0,none⟩) 3 3/\W.1.size<=g/\g<X.1.size/\∀k,k<3->∃s:ByteArray,X.cell? ⟨g,k,none⟩=some (.s s)/\s.size<=1000
 |4=>v=.p R 0
 |5=>∃k:Nat,k<3/\v=.i k
 |6=>∃(g k:Nat)(s:ByteArray),v=.pointer (some ⟨g,k,none⟩)/\(W.1.size<=g/\g<X.1.size)/\X.cell? ⟨g,k,none⟩=some (.s s)/\True/\s.size<=1000
 |7=>∃s:ByteArray,v=.s s/\s.size<=1000
 |8=>v=.pointer (some ⟨g2,h*9,none⟩)
 |9=>v=.pointer (some ⟨g2,h*9+2,none⟩)
 |10=>v=.pointer (some ⟨g2,h*9+3,none⟩)
 |_=>True
theorem NK{P:Prop}(h:P:=by refine Ah rfl rfl ?_;clear hK hg;go_simp;simpa[AA]using h):P:=h
theorem aM{P:Prop}(h:P:=by obtain⟨g,eq3,y1,y2,y3⟩:∃g:Nat,t 3=.l (some ⟨g,0,none⟩) 3 3/\W.1.size<=g/\g<X.1.size/\∀k,k<3->∃s:ByteArray,X.cell? ⟨g,k,none⟩=some (.s s)/\s.size<=1000:=hg 3 (AZ rfl);obtain⟨k,hk,eq5⟩:∃k:Nat,k<3/\t 5=.i k:=hg 5 (AZ rfl);obtain⟨s,y4,y5⟩:=y3 k hk;have h:=hK (.pointer (some ⟨g,k,none⟩)) X p' AQ Za ⟨g,k,s,rfl,⟨y1,y2⟩,y4,trivial,y5⟩ (Ay.refl _ _) hrd;refine Ah rfl rfl ?_;clear hK hg;go_simp;rw[if_pos Za,AM];go_simp;simpa[AA,eq3,eq5]using h):P:=h
theorem eD{P:Prop}(h:P:=by have eq4:t 4=.p R 0:=hg 4 (AZ rfl);refine Ah rfl rfl ?_;have HK:=Aj hK;have HR:=Aj hrd;clear hK hg hrd;go_simp;go_at_call 15;refine(Bj R ad nn cap p' 3 X HR Za Zb Zb).mono ?_;rintro r Z ⟨k,rfl,_,hv,hf,hr2⟩;have h:=HK (.i k) Z (p'+1) Za AQ ⟨k,by have:=hv Zb;omega,rfl⟩ hf hr2;simpa[AA,eq4]using h):P:=h
theorem cH{P:Prop}(h:P:=by obtain⟨g,k,s,eq6,y1,y2,y3,y4⟩:∃(g k:Nat)(s:ByteArray),t 6=.pointer (some ⟨g,k,none⟩)/\(W.1.size<=g/\g<X.1.size)/\X.cell? ⟨g,k,none⟩=some (.s s)/\True/\s.size<=1000:=hg 6 (AZ rfl);have h:=hK (.s s) X p' AQ Za ⟨s,rfl,y4⟩ (Ay.refl _ _) hrd;refine Ah rfl rfl ?_;clear hK hg;go_simp;simpa[AA,eq6]using h):P:=h
theorem aH{P:Prop}(h:P:=by have eq0:t 0=.p T 3:=hg 0 (AZ rfl);have q:=(hb.cell (p:=⟨T,3,none⟩) H.lt H.ne).trans (H.row.cell 3 Zb);simp only[AW,Aa,Ab]at q;have h:=hK (.l (some ⟨g2,0,none⟩) x.hn d2) X p' AQ Za rfl (Ay.refl _ _) hrd;refine Ah rfl rfl ?_;clear hK hg;go_simp;simpa[AA,eq0]using h):P:=h
theorem fO{P:Prop}(h:P:=by have eq1:t 1=.l (some ⟨g2,0,none⟩) x.hn d2:=hg 1 (AZ rfl);have eq2:t 2=.i (h:Nat):=hg 2 (AZ rfl);have hlt:=H.hh;have h:=hK (.pointer (some ⟨g2,h*9,none⟩)) X p' AQ Za rfl (Ay.refl _ _) hrd;refine Ah rfl rfl ?_;clear hK hg;go_simp;simpa[AA,eq1,eq2,hlt]using h):P:=h
theorem eZ{P:Prop}(h:P:=by obtain⟨g,e,y1,y2,y3⟩:=h;exact⟨g,e,y1,Ad y2 hF.size,λk hk=>by obtain⟨i,y4,y5⟩:=y3 k hk;exact⟨i,(hF.cell (p:=⟨g,k,none⟩) y2 (λq=>by have q:g=R:=q;omega)).trans y4,y5⟩⟩):P:=h
theorem iE{P:Prop}(h:P:=by obtain⟨g,k,s,e,y1,y2,y3,y4⟩:=h;exact⟨g,k,s,e,⟨y1.1,Ad y1.2 hF.size⟩,(hF.cell (p:=⟨g,k,none⟩) y1.2 (λq=>by have q:g=R:=q;omega)).trans y2,y3,y4⟩):P:=h
theorem Wy{P:Prop}(h:P:=by have h:=hK (.i (h:Nat)) X p' AQ Za rfl (Ay.refl _ _) hrd;exact NK):P:=h
theorem Wg{P:Prop}(h:P:=by have h:=hK (.p T 3) X p' AQ Za rfl (Ay.refl _ _) hrd;exact NK):P:=h
theorem mQ{p1 p2 p3 p4 p8 p9 D8 D9 Ea DZ Dl Di Dg Dh De Db Dk Da Df Dc DH Du Ds DA Dw DG DD DE DF DI DJ DU Ev EF EN Eu ED EB EE EC Es Et DC D2 D1 DO DN Ej Eg Ei Ek D5 D4 Eb Eh D7 EK EL EH EJ EI EA Ez D0 FP FJ FO FN FK FH FL FI FM He Hg Hc FC Fz GA GZ Ge Ib Le KT KQ KP KR KS Hd Hf KN KJ KL KM KI K5 Cx Cy Cr Ck Cn Cl Cm Cq Cs CU CR CQ CS CE CF CG CI CO CN CZ CY CW DX DP DV Dq DB Dz En Dx Dp Dm Dy DW DM Dv Dt Do DQ DT DS DR Dr EM E3 Fe Fc E6 Fb E9 Fa E4 E1 E7 E5 E8 Fq Fs Gd GO GK Gc Gj Gu GE GT Gb G3 Gh F9 G0 Gz GL Fu Ft GM Gf Gq FT Ga G4 FU G5 GC GS GQ GG Jo Jy Jl Hx Gp GI JV IV H6 H9 IU Iu Ir Kl Jk Hn Kc IS Gv GH Hj I0 ID JU J5 Ii IK Ig IQ IM Jw Hr GD Gt JR Ko HJ Hk JJ I6 J4 Ji Kx Hu Jb Kz Jr Jg Ja IG Jd IX GV Gm Jc I9 It JO I7 Kv I1 JF I3 Kf Gr GU Jf Ip Jh Kd Ik JM Ka Iv Kq Iz Ho GR GN Ki In IT H7 Hl II IA Hv Jm Kh IW KA FW GP H5 JZ Jp Jv Ht Io HZ Ku JI JY JS J3 FX Gw Kn J1 JE Kj Jq JC Ju J8 IF JN JB Jn Hy JG Km IY JD IC JL IE GJ Gy FY Gn Gl Gs GB GF Gk GX JK Ie IH IR KC Hi Kt Im Jz Kg Ic Gi GY IL KD H8 J6 IZ Is Ij J0 Ky JP Iw Kr IJ JX J7 JA Ks Hq I2 Iq I8 I5 Hz KB IP Ih If IN Iy Gx FR I4 Hw Js Ke Hm Il KE JT Hs Je Gg:Value}{mk:(Nat->Value)->Array Value}(t0:Nat->Value)(R:Nat)(ad:OA)(nn cap p:Nat)(T:Nat)(x:Bk)(g1 g2:Nat)(a3:OA)(d1 d2 d3 o h:Nat)(y:Ob)(z:Ch)(ah bh:OA)(ch eh:Nat)(W:World)(hr:Rd W R ad nn cap p)(hp:p<=600000)(H:SD W R T x g1 g2 a3 d1 d2 d3 o h y z ah bh ch eh)(hmk:mk=λt=>#[.p R 0,p1,p2,p3,p4,.p T 0,.i (o:Nat),.i (h:Nat),p8,p9,D8,D9,Ea,DZ,Dl,Di,Dg,Dh,De,Db,Dk,Da,Df,Dc,DH,Du,Ds,DA,Dw,DG,DD,DE,DF,DI,DJ,DU,Ev,EF,EN,Eu,ED,EB,EE,EC,Es,Et,DC,D2,D1,DO,DN,Ej,Eg,Ei,Ek,D5,D4,Eb,Eh,D7,EK,EL,EH,EJ,EI,EA,Ez,D0,FP,FJ,FO,FN,FK,FH,FL,FI,FM,He,Hg,Hc,FC,Fz,GA,GZ,Ge,Ib,Le,KT,KQ,KP,KR,KS,Hd,Hf,KN,KJ,KL,KM,KI,K5,Cx,Cy,Cr,Ck,Cn,Cl,Cm,Cq,Cs,CU,CR,CQ,CS,CE,CF,CG,CI,CO,CN,CZ,CY,CW,DX,DP,DV,Dq,DB,Dz,En,Dx,Dp,Dm,Dy,DW,DM,Dv,Dt,Do,DQ,DT,DS,DR,Dr,EM,E3,Fe,Fc,E6,Fb,E9,Fa,E4,E1,E7,E5,E8,Fq,Fs,Gd,GO,GK,Gc,Gj,Gu,GE,GT,Gb,G3,Gh,F9,G0,Gz,GL,Fu,Ft,GM,Gf,Gq,FT,Ga,G4,FU,G5,GC,GS,GQ,GG,Jo,Jy,Jl,Hx,Gp,GI,JV,IV,H6,H9,IU,Iu,Ir,Kl,Jk,Hn,Kc,IS,Gv,GH,Hj,I0,ID,JU,J5,Ii,IK,Ig,IQ,IM,Jw,Hr,GD,Gt,JR,Ko,HJ,Hk,JJ,I6,J4,Ji,Kx,Hu,Jb,Kz,Jr,Jg,Ja,IG,Jd,IX,GV,Gm,Jc,I9,It,JO,I7,Kv,I1,JF,I3,Kf,Gr,GU,Jf,Ip,Jh,Kd,Ik,JM,Ka,Iv,Kq,Iz,Ho,GR,GN,Ki,In,IT,H7,Hl,II,IA,Hv,Jm,Kh,IW,KA,FW,GP,H5,JZ,Jp,Jv,Ht,Io,HZ,Ku,JI,JY,JS,J3,FX,Gw,Kn,J1,JE,Kj,Jq,JC,Ju,J8,IF,JN,JB,Jn,Hy,JG,Km,IY,JD,IC,JL,IE,GJ,Gy,t 0,t 1,t 2,t 3,t 4,t 5,t 6,t 7,t 8,t 9,t 10,FY,Gn,Gl,Gs,GB,GF,Gk,GX,JK,Ie,IH,IR,KC,Hi,Kt,Im,Jz,Kg,Ic,Gi,GY,IL,KD,H8,J6,IZ,Is,Ij,J0,Ky,JP,Iw,Kr,IJ,JX,J7,JA,Ks,Hq,I2,Iq,I8,I5,Hz,KB,IP,Ih,If,IN,Iy,Gx,FR,I4,Hw,Js,Ke,Hm,Il,KE,JT,Hs,Je,Gg])(Q:Exit->Act->World->Prop)(hQ:∀(t:Nat->Value)(s:ByteArray)(pz:Nat)(X0:World),s.size<=1000->Ay (λq=>q=R) W X0->p<=pz->pz<=p+11->Rd X0 R ad nn cap pz->Q .normal ⟨mk t,[]⟩ (X0.setCell ⟨g2,h*9+3,none⟩ (.s s))):Code.wp prog (rg Tryz.f40 52) Q ⟨mk t0,[]⟩ W:=by
 have hRW:=hr.lt;refine Hb Ze 11 1 (λj=>match j with|8=>9|9=>10|_=>11) mk t0 R ad nn cap p (cO R T x g1 g2 a3 d1 d2 d3 o h y z ah bh ch eh W) (λa X=>∃(t:Nat->Value)(s:ByteArray)(pz:Nat)(X0:World),a=⟨mk t,[]⟩/\X=(X0.setCell ⟨g2,h*9+3,none⟩ (.s s))/\(s.size<=1000)/\Ay (λq=>q=R) W X0/\p<=pz/\pz<=p+11/\Rd X0 R ad nn cap pz) Ze Ze Ze ?_ rfl hr ?_ ?_ ?_;all_goals subst hmk
 .intro i v X Z p' hi h hF hRd hR hX;rcases(show i=0\/i=1\/i=2\/i=3\/i=4\/i=5\/i=6\/i=7\/i=8\/i=9\/i=10 by omega)with rfl|rfl|rfl|rfl|rfl|rfl|rfl|rfl|rfl|rfl|rfl;.exact h
  .exact h
  .exact h
  .exact eZ
  .exact h
  .exact h
  .exact iE
  .exact h
  .exact h
  .exact h
  .exact h
 .intro i hi t X K p' hb hp1 hp2 hrd hg hK;rcases(show i=0\/i=1\/i=2\/i=3\/i=4\/i=5\/i=6\/i=7\/i=8\/i=9\/i=10 by omega)with rfl|rfl|rfl|rfl|rfl|rfl|rfl|rfl|rfl|rfl|rfl;.exact Wg
  .exact aH
  .exact Wy
  .have h:=hK (.l (some ⟨X.1.size,0,none⟩) 3 3) (X.alloc (.cells #[.s ⟨#[120]⟩,.s ⟨#[121]⟩,.s ⟨#[]⟩] 9)) p' AQ Za ⟨X.1.size,rfl,hb.size,Zc,λk hk=>by rw[Al X #[.s ⟨#[120]⟩,.s ⟨#[121]⟩,.s ⟨#[]⟩] 9 k];rcases(show k=0\/k=1\/k=2 by omega)with rfl|rfl|rfl;all_goals exact⟨_,rfl,Zb⟩⟩ (Ar ET) (hrd.below ET);exact NK
  .have h:=hK (.p R 0) X p' AQ Za rfl (Ay.refl _ _) hrd;exact NK
  .exact eD
  .exact aM
  .exact cH
  .exact fO
  .have eq8:t 8=.pointer (some ⟨g2,h*9,none⟩):=hg 8 (AZ rfl);have h:=hK (.pointer (some ⟨g2,h*9+2,none⟩)) X p' AQ Za rfl (Ay.refl _ _) hrd;refine Ah rfl rfl ?_;clear hK hg;go_simp;simpa[AA,eq8]using h
  .have eq9:t 9=.pointer (some ⟨g2,h*9+2,none⟩):=hg 9 (AZ rfl);have h:=hK (.pointer (some ⟨g2,h*9+3,none⟩)) X p' AQ Za rfl (Ay.refl _ _) hrd;refine Ah rfl rfl ?_;clear hK hg;go_simp;simpa[AA,eq9]using h
 .intro t X K p' hb hp1 hp2 hrd hg hK;have eq10:t 10=.pointer (some ⟨g2,h*9+3,none⟩):=hg 10 Za;obtain⟨s,eq7,y1⟩:∃s:ByteArray,t 7=.s s/\s.size<=1000:=hg 7 Za;have q:=(hb.cell (p:=⟨g2,h*9+3,none⟩) H.l2 H.n2).trans (H.c2 3 Zb);have q2:=(hb.frozen (p:=⟨g2,h*9+3,none⟩) H.l2 H.n2).trans (H.f2 _);simp only[cc,AW,Aa,Ab,]at q;have h:=hK _ _ ⟨t,s,p',X,rfl,rfl,y1,hb,hp1,Za,hrd⟩;have HK:=Aj h;clear hK hg h;refine Ah rfl rfl ?_;go_simp;simpa[eq10,eq7]using HK.out
 .rintro a X ⟨t,s,pz,X0,rfl,rfl,z2,z3,z4,z5,z6⟩;exact hQ t s pz X0 z2 z3 z4 z5 z6
def fS (R:Nat)(T:Nat)(x:Bk)(g1 _g2:Nat)(_a3:OA)(d1 _d2 _d3 o _h:Nat)(_y:Ob)(_z:Ch)(_ah _bh:OA)(_ch _eh:Nat)(W:World)(i:Nat)(v:Value)(X:World):Prop:=match i with
 |0=>v=.p T 2
 |1=>v=.l (some ⟨g1,0,none⟩) x.on d1
 |2=>v=.i (o:Nat)
 |3=>∃g:Nat,v=.l (some ⟨g,0,none⟩) 3 3/\W.1.size<=g/\g<X.1.size/\∀k,k<3->∃s:ByteArray,X.cell? ⟨g,k,none⟩=some (.s s)/\s.size<=1000
 |4=>v=.p R 0
 |5=>∃k:Nat,k<3/\v=.i k
 |6=>∃(g k:Nat)(s:ByteArray),v=.pointer (some ⟨g,k,none⟩)/\(W.1.size<=g/\g<X.1.size)/\X.cell? ⟨g,k,none⟩=some (.s s)/\True/\s.size<=1000
 |7=>∃s:ByteArray,v=.s s/\s.size<=1000
 |8=>v=.pointer (some ⟨g1,o*7,none⟩)
 |9=>v=.pointer (some ⟨g1,o*7,none⟩)
 |_=>True
theorem lH{p1 p2 p3 p4 p8 p9 D8 D9 Ea DZ Dl Di Dg Dh De Db Dk Da Df Dc DH Du Ds DA Dw DG DD DE DF DI DJ DU Ev EF EN Eu ED EB EE EC Es Et DC D2 D1 DO DN Ej Eg Ei Ek D5 D4 Eb Eh D7 EK EL EH EJ EI EA Ez D0 FP FJ FO FN FK FH FL FI FM He Hg Hc FC Fz GA GZ Ge Ib Le KT KQ KP KR KS Hd Hf KN KJ KL KM KI K5 Cx Cy Cr Ck Cn Cl Cm Cq Cs CU CR CQ CS CE CF CG CI CO CN CZ CY CW DX DP DV Dq DB Dz En Dx Dp Dm Dy DW DM Dv Dt Do DQ DT DS DR Dr EM E3 Fe Fc E6 Fb E9 Fa E4 E1 E7 E5 E8 Fq Fs Gd GO GK Gc Gj Gu GE GT Gb G3 Gh F9 G0 Gz GL Fu Ft GM Gf Gq FT Ga G4 FU G5 GC GS GQ GG Jo Jy Jl Hx Gp GI JV IV H6 H9 IU Iu Ir Kl Jk Hn Kc IS Gv GH Hj I0 ID JU J5 Ii IK Ig IQ IM Jw Hr GD Gt JR Ko HJ Hk JJ I6 J4 Ji Kx Hu Jb Kz Jr Jg Ja IG Jd IX GV Gm Jc I9 It JO I7 Kv I1 JF I3 Kf Gr GU Jf Ip Jh Kd Ik JM Ka Iv Kq Iz Ho GR GN Ki In IT H7 Hl II IA Hv Jm Kh IW KA FW GP H5 JZ Jp Jv Ht Io HZ Ku JI JY JS J3 FX Gw Kn J1 JE Kj Jq JC Ju J8 IF JN JB Jn Hy JG Km IY JD IC JL IE GJ Gy JQ J2 J9 Hp JH Jt IB Jj Ia Kw JW FY Gn Gl Gs GB GF Gk GX JK Ie IH IR KC Hi Kt Im Jz Kg Ic Gi GY IL KD H8 J6 IZ Is Ij J0 Ky JP Iw Kr IJ JX J7 JA Ks Hq I2 Iq I8 I5 Hz KB IP Ih If IN Iy Gx FR Gg:Value}{mk:(Nat->Value)->Array Value}(t0:Nat->Value)(R:Nat)(ad:OA)(nn cap p:Nat)(T:Nat)(x:Bk)(g1 g2:Nat)(a3:OA)(d1 d2 d3 o h:Nat)(y:Ob)(z:Ch)(ah bh:OA)(ch eh:Nat)(W:World)(hr:Rd W R ad nn cap p)(hp:p<=600000)(H:SD W R T x g1 g2 a3 d1 d2 d3 o h y z ah bh ch eh)(hmk:mk=λt=>#[.p R 0,p1,p2,p3,p4,.p T 0,.i (o:Nat),.i (h:Nat),p8,p9,D8,D9,Ea,DZ,Dl,Di,Dg,Dh,De,Db,Dk,Da,Df,Dc,DH,Du,Ds,DA,Dw,DG,DD,DE,DF,DI,DJ,DU,Ev,EF,EN,Eu,ED,EB,EE,EC,Es,Et,DC,D2,D1,DO,DN,Ej,Eg,Ei,Ek,D5,D4,Eb,Eh,D7,EK,EL,EH,EJ,EI,EA,Ez,D0,FP,FJ,FO,FN,FK,FH,FL,FI,FM,He,Hg,Hc,FC,Fz,GA,GZ,Ge,Ib,Le,KT,KQ,KP,KR,KS,Hd,Hf,KN,KJ,KL,KM,KI,K5,Cx,Cy,Cr,Ck,Cn,Cl,Cm,Cq,Cs,CU,CR,CQ,CS,CE,CF,CG,CI,CO,CN,CZ,CY,CW,DX,DP,DV,Dq,DB,Dz,En,Dx,Dp,Dm,Dy,DW,DM,Dv,Dt,Do,DQ,DT,DS,DR,Dr,EM,E3,Fe,Fc,E6,Fb,E9,Fa,E4,E1,E7,E5,E8,Fq,Fs,Gd,GO,GK,Gc,Gj,Gu,GE,GT,Gb,G3,Gh,F9,G0,Gz,GL,Fu,Ft,GM,Gf,Gq,FT,Ga,G4,FU,G5,GC,GS,GQ,GG,Jo,Jy,Jl,Hx,Gp,GI,JV,IV,H6,H9,IU,Iu,Ir,Kl,Jk,Hn,Kc,IS,Gv,GH,Hj,I0,ID,JU,J5,Ii,IK,Ig,IQ,IM,Jw,Hr,GD,Gt,JR,Ko,HJ,Hk,JJ,I6,J4,Ji,Kx,Hu,Jb,Kz,Jr,Jg,Ja,IG,Jd,IX,GV,Gm,Jc,I9,It,JO,I7,Kv,I1,JF,I3,Kf,Gr,GU,Jf,Ip,Jh,Kd,Ik,JM,Ka,Iv,Kq,Iz,Ho,GR,GN,Ki,In,IT,H7,Hl,II,IA,Hv,Jm,Kh,IW,KA,FW,GP,H5,JZ,Jp,Jv,Ht,Io,HZ,Ku,JI,JY,JS,J3,FX,Gw,Kn,J1,JE,Kj,Jq,JC,Ju,J8,IF,JN,JB,Jn,Hy,JG,Km,IY,JD,IC,JL,IE,GJ,Gy,JQ,J2,J9,Hp,JH,Jt,IB,Jj,Ia,Kw,JW,FY,Gn,Gl,Gs,GB,GF,Gk,GX,JK,Ie,IH,IR,KC,Hi,Kt,Im,Jz,Kg,Ic,Gi,GY,IL,KD,H8,J6,IZ,Is,Ij,J0,Ky,JP,Iw,Kr,IJ,JX,J7,JA,Ks,Hq,I2,Iq,I8,I5,Hz,KB,IP,Ih,If,IN,Iy,Gx,FR,t 0,t 1,t 2,t 3,t 4,t 5,t 6,t 7,t 8,t 9,Gg])(Q:Exit->Act->World->Prop)(hQ:∀(t:Nat->Value)(s:ByteArray)(pz:Nat)(X0:World),s.size<=1000->Ay (λq=>q=R) W X0->p<=pz->pz<=p+10->Rd X0 R ad nn cap pz->Q .normal ⟨mk t,[]⟩ (X0.setCell ⟨g1,o*7,none⟩ (.s s))):Code.wp prog (rg Tryz.f40 60) Q ⟨mk t0,[]⟩ W:=by
 have hRW:=hr.lt;refine Hb Ze 10 1 (λj=>match j with|8=>9|_=>10) mk t0 R ad nn cap p (fS R T x g1 g2 a3 d1 d2 d3 o h y z ah bh ch eh W) (λa X=>∃(t:Nat->Value)(s:ByteArray)(pz:Nat)(X0:World),a=⟨mk t,[]⟩/\X=(X0.setCell ⟨g1,o*7,none⟩ (.s s))/\(s.size<=1000)/\Ay (λq=>q=R) W X0/\p<=pz/\pz<=p+10/\Rd X0 R ad nn cap pz) Ze Ze Ze ?_ rfl hr ?_ ?_ ?_;all_goals subst hmk
 .intro i v X Z p' hi h hF hRd hR hX;rcases(show i=0\/i=1\/i=2\/i=3\/i=4\/i=5\/i=6\/i=7\/i=8\/i=9 by omega)with rfl|rfl|rfl|rfl|rfl|rfl|rfl|rfl|rfl|rfl;.exact h
  .exact h
  .exact h
  .exact eZ
  .exact h
  .exact h
  .exact iE
  .exact h
  .exact h
  .exact h
 .intro i hi t X K p' hb hp1 hp2 hrd hg hK;rcases(show i=0\/i=1\/i=2\/i=3\/i=4\/i=5\/i=6\/i=7\/i=8\/i=9 by omega)with rfl|rfl|rfl|rfl|rfl|rfl|rfl|rfl|rfl|rfl;.have h:=hK (.p T 2) X p' AQ Za rfl (Ay.refl _ _) hrd;exact NK
  .have eq0:t 0=.p T 2:=hg 0 (AZ rfl);have q:=(hb.cell (p:=⟨T,2,none⟩) H.lt H.ne).trans (H.row.cell 2 Zb);simp only[AW,Aa,Ab]at q;have h:=hK (.l (some ⟨g1,0,none⟩) x.on d1) X p' AQ Za rfl (Ay.refl _ _) hrd;refine Ah rfl rfl ?_;clear hK hg;go_simp;simpa[AA,eq0]using h
  .have h:=hK (.i (o:Nat)) X p' AQ Za rfl (Ay.refl _ _) hrd;exact NK
  .have h:=hK (.l (some ⟨X.1.size,0,none⟩) 3 3) (X.alloc (.cells #[.s ⟨#[65]⟩,.s ⟨#[98,101,114,116,104]⟩,.s ⟨#[122,122,122]⟩] 9)) p' AQ Za ⟨X.1.size,rfl,hb.size,Zc,λk hk=>by rw[Al X #[.s ⟨#[65]⟩,.s ⟨#[98,101,114,116,104]⟩,.s ⟨#[122,122,122]⟩] 9 k];rcases(show k=0\/k=1\/k=2 by omega)with rfl|rfl|rfl;all_goals exact⟨_,rfl,Zb⟩⟩ (Ar ET) (hrd.below ET);exact NK
  .have h:=hK (.p R 0) X p' AQ Za rfl (Ay.refl _ _) hrd;exact NK
  .exact eD
  .exact aM
  .exact cH
  .have eq1:t 1=.l (some ⟨g1,0,none⟩) x.on d1:=hg 1 (AZ rfl);have eq2:t 2=.i (o:Nat):=hg 2 (AZ rfl);have hlt:=H.ho;have h:=hK (.pointer (some ⟨g1,o*7,none⟩)) X p' AQ Za rfl (Ay.refl _ _) hrd;refine Ah rfl rfl ?_;clear hK hg;go_simp;simpa[AA,eq1,eq2,hlt]using h
  .have eq8:t 8=.pointer (some ⟨g1,o*7,none⟩):=hg 8 (AZ rfl);have h:=hK (.pointer (some ⟨g1,o*7,none⟩)) X p' AQ Za rfl (Ay.refl _ _) hrd;refine Ah rfl rfl ?_;clear hK hg;go_simp;simpa[AA,eq8]using h
 .intro t X K p' hb hp1 hp2 hrd hg hK;have eq9:t 9=.pointer (some ⟨g1,o*7,none⟩):=hg 9 Za;obtain⟨s,eq7,y1⟩:∃s:ByteArray,t 7=.s s/\s.size<=1000:=hg 7 Za;have q:=(hb.cell (p:=⟨g1,o*7,none⟩) H.l1 H.n1).trans (H.c1 0 Zb);have q2:=(hb.frozen (p:=⟨g1,o*7,none⟩) H.l1 H.n1).trans (H.f1 _);simp only[oc,AW,Aa,]at q;have h:=hK _ _ ⟨t,s,p',X,rfl,rfl,y1,hb,hp1,Za,hrd⟩;have HK:=Aj h;clear hK hg h;refine Ah rfl rfl ?_;go_simp;simpa[eq9,eq7]using HK.out
 .rintro a X ⟨t,s,pz,X0,rfl,rfl,z2,z3,z4,z5,z6⟩;exact hQ t s pz X0 z2 z3 z4 z5 z6
def mU (_R:Nat)(T:Nat)(x:Bk)(_g1 g2:Nat)(_a3:OA)(_d1 d2 _d3 _o h:Nat)(_y:Ob)(z:Ch)(_ah _bh:OA)(_ch _eh:Nat)(_W:World)(i:Nat)(v:Value)(_X:World):Prop:=match i with
 |0=>v=.p T 3
 |1=>v=.l (some ⟨g2,0,none⟩) x.hn d2
 |2=>v=.i (h:Nat)
 |3=>v=.p T 3
 |4=>v=.l (some ⟨g2,0,none⟩) x.hn d2
 |5=>v=.i (h:Nat)
 |6=>v=.pointer (some ⟨g2,h*9,none⟩)
 |7=>v=.pointer (some ⟨g2,h*9+2,none⟩)
 |8=>v=.pointer (some ⟨g2,h*9+7,none⟩)
 |9=>v=.bool z.ob.ending
 |10=>∃b:Bool,v=.bool b
 |11=>v=.pointer (some ⟨g2,h*9,none⟩)
 |12=>v=.pointer (some ⟨g2,h*9+2,none⟩)
 |13=>v=.pointer (some ⟨g2,h*9+7,none⟩)
 |_=>True
theorem pW{p1 p2 p3 p4 p8 p9 D8 D9 Ea DZ Dl Di Dg Dh De Db Dk Da Df Dc DH Du Ds DA Dw DG DD DE DF DI DJ DU Ev Ej Eg Ei Ek D5 D4 Eb Eh D7 EK EL EH EJ EI EA Ez D0 FP FJ FO FN FK FH FL FI FM He Hg Hc FC Fz GA GZ Ge Ib Le KT KQ KP KR KS Hd Hf KN KJ KL KM KI K5 Cx Cy Cr Ck Cn Cl Cm Cq Cs CU CR CQ CS CE CF CG CI CO CN CZ CY CW DX DP DV Dq DB Dz En Dx Dp Dm Dy DW DM Dv Dt Do DQ DT DS DR Dr EM E3 Fe Fc E6 Fb E9 Fa E4 E1 E7 E5 E8 Fq Fs Gd GO GK Gc Gj Gu GE GT Gb G3 Gh F9 G0 Gz GL Fu Ft GM Gf Gq FT Ga G4 FU G5 GC GS GQ GG Jo Jy Jl Hx Gp GI JV IV H6 H9 IU Iu Ir Kl Jk Hn Kc IS Gv GH Hj I0 ID JU J5 Ii IK Ig IQ IM Jw Hr GD Gt JR Ko HJ Hk JJ I6 J4 Ji Kx Hu Jb Kz Jr Jg Ja IG Jd IX GV Gm Jc I9 It JO I7 Kv I1 JF I3 Kf Gr GU Jf Ip Jh Kd Ik JM Ka Iv Kq Iz Ho GR GN Ki In IT H7 Hl II IA Hv Jm Kh IW KA FW GP H5 JZ Jp Jv Ht Io HZ Ku JI JY JS J3 FX Gw Kn J1 JE Kj Jq JC Ju J8 IF JN JB Jn Hy JG Km IY JD IC JL IE GJ Gy JQ J2 J9 Hp JH Jt IB Jj Ia Kw JW FY Gn Gl Gs GB GF Gk GX JK Ie IH IR KC Hi Kt Im Jz Kg Ic Gi GY IL KD H8 J6 IZ Is Ij J0 Ky JP Iw Kr IJ JX J7 JA Ks Hq I2 Iq I8 I5 Hz KB IP Ih If IN Iy Gx FR I4 Hw Js Ke Hm Il KE JT Hs Je Gg:Value}{mk:(Nat->Value)->Array Value}(t0:Nat->Value)(R:Nat)(ad:OA)(nn cap p:Nat)(T:Nat)(x:Bk)(g1 g2:Nat)(a3:OA)(d1 d2 d3 o h:Nat)(y:Ob)(z:Ch)(ah bh:OA)(ch eh:Nat)(W:World)(hr:Rd W R ad nn cap p)(_hp:p<=600000)(H:SD W R T x g1 g2 a3 d1 d2 d3 o h y z ah bh ch eh)(hmk:mk=λt=>#[.p R 0,p1,p2,p3,p4,.p T 0,.i (o:Nat),.i (h:Nat),p8,p9,D8,D9,Ea,DZ,Dl,Di,Dg,Dh,De,Db,Dk,Da,Df,Dc,DH,Du,Ds,DA,Dw,DG,DD,DE,DF,DI,DJ,DU,Ev,t 0,t 1,t 2,t 3,t 4,t 5,t 6,t 7,t 8,t 9,t 10,t 11,t 12,t 13,Ej,Eg,Ei,Ek,D5,D4,Eb,Eh,D7,EK,EL,EH,EJ,EI,EA,Ez,D0,FP,FJ,FO,FN,FK,FH,FL,FI,FM,He,Hg,Hc,FC,Fz,GA,GZ,Ge,Ib,Le,KT,KQ,KP,KR,KS,Hd,Hf,KN,KJ,KL,KM,KI,K5,Cx,Cy,Cr,Ck,Cn,Cl,Cm,Cq,Cs,CU,CR,CQ,CS,CE,CF,CG,CI,CO,CN,CZ,CY,CW,DX,DP,DV,Dq,DB,Dz,En,Dx,Dp,Dm,Dy,DW,DM,Dv,Dt,Do,DQ,DT,DS,DR,Dr,EM,E3,Fe,Fc,E6,Fb,E9,Fa,E4,E1,E7,E5,E8,Fq,Fs,Gd,GO,GK,Gc,Gj,Gu,GE,GT,Gb,G3,Gh,F9,G0,Gz,GL,Fu,Ft,GM,Gf,Gq,FT,Ga,G4,FU,G5,GC,GS,GQ,GG,Jo,Jy,Jl,Hx,Gp,GI,JV,IV,H6,H9,IU,Iu,Ir,Kl,Jk,Hn,Kc,IS,Gv,GH,Hj,I0,ID,JU,J5,Ii,IK,Ig,IQ,IM,Jw,Hr,GD,Gt,JR,Ko,HJ,Hk,JJ,I6,J4,Ji,Kx,Hu,Jb,Kz,Jr,Jg,Ja,IG,Jd,IX,GV,Gm,Jc,I9,It,JO,I7,Kv,I1,JF,I3,Kf,Gr,GU,Jf,Ip,Jh,Kd,Ik,JM,Ka,Iv,Kq,Iz,Ho,GR,GN,Ki,In,IT,H7,Hl,II,IA,Hv,Jm,Kh,IW,KA,FW,GP,H5,JZ,Jp,Jv,Ht,Io,HZ,Ku,JI,JY,JS,J3,FX,Gw,Kn,J1,JE,Kj,Jq,JC,Ju,J8,IF,JN,JB,Jn,Hy,JG,Km,IY,JD,IC,JL,IE,GJ,Gy,JQ,J2,J9,Hp,JH,Jt,IB,Jj,Ia,Kw,JW,FY,Gn,Gl,Gs,GB,GF,Gk,GX,JK,Ie,IH,IR,KC,Hi,Kt,Im,Jz,Kg,Ic,Gi,GY,IL,KD,H8,J6,IZ,Is,Ij,J0,Ky,JP,Iw,Kr,IJ,JX,J7,JA,Ks,Hq,I2,Iq,I8,I5,Hz,KB,IP,Ih,If,IN,Iy,Gx,FR,I4,Hw,Js,Ke,Hm,Il,KE,JT,Hs,Je,Gg])(Q:Exit->Act->World->Prop)(hQ:∀(t:Nat->Value)(b:Bool)(pz:Nat)(X0:World),True->Ay (λq=>q=R) W X0->p<=pz->pz<=p+14->Rd X0 R ad nn cap pz->Q .normal ⟨mk t,[]⟩ (X0.setCell ⟨g2,h*9+7,none⟩ (.bool b))):Code.wp prog (rg Tryz.f40 7) Q ⟨mk t0,[]⟩ W:=by
 have hRW:=hr.lt;refine Hb Ze 14 1 (λj=>match j with|11=>12|12=>13|_=>14) mk t0 R ad nn cap p (mU R T x g1 g2 a3 d1 d2 d3 o h y z ah bh ch eh W) (λa X=>∃(t:Nat->Value)(b:Bool)(pz:Nat)(X0:World),a=⟨mk t,[]⟩/\X=(X0.setCell ⟨g2,h*9+7,none⟩ (.bool b))/\(True)/\Ay (λq=>q=R) W X0/\p<=pz/\pz<=p+14/\Rd X0 R ad nn cap pz) Ze Ze Ze ?_ rfl hr ?_ ?_ ?_;all_goals subst hmk
 .intro i v X Z p' hi h hF hRd hR hX;rcases(show i=0\/i=1\/i=2\/i=3\/i=4\/i=5\/i=6\/i=7\/i=8\/i=9\/i=10\/i=11\/i=12\/i=13 by omega)with rfl|rfl|rfl|rfl|rfl|rfl|rfl|rfl|rfl|rfl|rfl|rfl|rfl|rfl;.exact h
  .exact h
  .exact h
  .exact h
  .exact h
  .exact h
  .exact h
  .exact h
  .exact h
  .exact h
  .exact h
  .exact h
  .exact h
  .exact h
 .intro i hi t X K p' hb hp1 hp2 hrd hg hK;rcases(show i=0\/i=1\/i=2\/i=3\/i=4\/i=5\/i=6\/i=7\/i=8\/i=9\/i=10\/i=11\/i=12\/i=13 by omega)with rfl|rfl|rfl|rfl|rfl|rfl|rfl|rfl|rfl|rfl|rfl|rfl|rfl|rfl;.exact Wg
  .exact aH
  .exact Wy
  .exact Wg
  .have eq3:t 3=.p T 3:=hg 3 (AZ rfl);have q:=(hb.cell (p:=⟨T,3,none⟩) H.lt H.ne).trans (H.row.cell 3 Zb);simp only[AW,Aa,Ab]at q;have h:=hK (.l (some ⟨g2,0,none⟩) x.hn d2) X p' AQ Za rfl (Ay.refl _ _) hrd;refine Ah rfl rfl ?_;clear hK hg;go_simp;simpa[AA,eq3]using h
  .exact Wy
  .have eq4:t 4=.l (some ⟨g2,0,none⟩) x.hn d2:=hg 4 (AZ rfl);have eq5:t 5=.i (h:Nat):=hg 5 (AZ rfl);have hlt:=H.hh;have h:=hK (.pointer (some ⟨g2,h*9,none⟩)) X p' AQ Za rfl (Ay.refl _ _) hrd;refine Ah rfl rfl ?_;clear hK hg;go_simp;simpa[AA,eq4,eq5,hlt]using h
  .have eq6:t 6=.pointer (some ⟨g2,h*9,none⟩):=hg 6 (AZ rfl);have h:=hK (.pointer (some ⟨g2,h*9+2,none⟩)) X p' AQ Za rfl (Ay.refl _ _) hrd;refine Ah rfl rfl ?_;clear hK hg;go_simp;simpa[AA,eq6]using h
  .have eq7:t 7=.pointer (some ⟨g2,h*9+2,none⟩):=hg 7 (AZ rfl);have h:=hK (.pointer (some ⟨g2,h*9+7,none⟩)) X p' AQ Za rfl (Ay.refl _ _) hrd;refine Ah rfl rfl ?_;clear hK hg;go_simp;simpa[AA,eq7]using h
  .have eq8:t 8=.pointer (some ⟨g2,h*9+7,none⟩):=hg 8 (AZ rfl);have q:=(hb.cell (p:=⟨g2,h*9+7,none⟩) H.l2 H.n2).trans (H.c2 7 Zb);simp only[cc,AW,Aa,Ab,]at q;have h:=hK (.bool z.ob.ending) X p' AQ Za rfl (Ay.refl _ _) hrd;refine Ah rfl rfl ?_;clear hK hg;go_simp;simpa[AA,eq8]using h
  .have eq9:t 9=.bool z.ob.ending:=hg 9 (AZ rfl);have h:=hK (.bool (!z.ob.ending)) X p' AQ Za ⟨_,rfl⟩ (Ay.refl _ _) hrd;refine Ah rfl rfl ?_;clear hK hg;go_simp;simpa[AA,eq9]using h
  .exact fO
  .have eq11:t 11=.pointer (some ⟨g2,h*9,none⟩):=hg 11 (AZ rfl);have h:=hK (.pointer (some ⟨g2,h*9+2,none⟩)) X p' AQ Za rfl (Ay.refl _ _) hrd;refine Ah rfl rfl ?_;clear hK hg;go_simp;simpa[AA,eq11]using h
  .have eq12:t 12=.pointer (some ⟨g2,h*9+2,none⟩):=hg 12 (AZ rfl);have h:=hK (.pointer (some ⟨g2,h*9+7,none⟩)) X p' AQ Za rfl (Ay.refl _ _) hrd;refine Ah rfl rfl ?_;clear hK hg;go_simp;simpa[AA,eq12]using h
 .intro t X K p' hb hp1 hp2 hrd hg hK;have eq13:t 13=.pointer (some ⟨g2,h*9+7,none⟩):=hg 13 Za;obtain⟨b,eq10⟩:∃b:Bool,t 10=.bool b:=hg 10 Za;have q:=(hb.cell (p:=⟨g2,h*9+7,none⟩) H.l2 H.n2).trans (H.c2 7 Zb);have q2:=(hb.frozen (p:=⟨g2,h*9+7,none⟩) H.l2 H.n2).trans (H.f2 _);simp only[cc,AW,Aa,Ab,]at q;have h:=hK _ _ ⟨t,b,p',X,rfl,rfl,trivial,hb,hp1,Za,hrd⟩;have HK:=Aj h;clear hK hg h;refine Ah rfl rfl ?_;go_simp;simpa[eq13,eq10]using HK.out
 .rintro a X ⟨t,b,pz,X0,rfl,rfl,z2,z3,z4,z5,z6⟩;exact hQ t b pz X0 z2 z3 z4 z5 z6
end Go.Proofs.YtnnjcenacidceaaGreat
