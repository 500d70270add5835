import Derived.Test.YtnnjcenacidceaaGreatPk43
set_option maxRecDepth 100000
set_option maxHeartbeats 4000000
namespace Go.Proofs.YtnnjcenacidceaaGreat
open Go.RowKit Go.Proofs.Tryz
def jD (R:Nat)(T:Nat)(x:Bk)(_g1 _g2:Nat)(a3:OA)(_d1 _d2 d3 _o _h:Nat)(_y:Ob)(_z:Ch)(_ah _bh:OA)(_ch _eh:Nat)(gA:Nat)(W:World)(i:Nat)(v:Value)(X:World):Prop:=match i with
 |0=>v=.p T 4
 |1=>v=.l a3 x.tn d3
 |2=>∃g:Nat,v=.l (some ⟨g,0,none⟩) 3 3/\W.1.size<=g/\g<X.1.size/\∀k,k<3->∃i:Int,X.cell? ⟨g,k,none⟩=some (.i i)/\-1000001<=i/\i<=1000001
 |3=>v=.p R 0
 |4=>∃k:Nat,k<3/\v=.i k
 |5=>∃(g k:Nat)(i:Int),v=.pointer (some ⟨g,k,none⟩)/\(W.1.size<=g/\g<X.1.size)/\X.cell? ⟨g,k,none⟩=some (.i i)/\True/\(-1000001<=i/\i<=1000001)
 |6=>∃i:Int,v=.i i/\-1000001<=i/\i<=1000001
 |7=>∃g:Nat,v=.l (some ⟨g,0,none⟩) 2 2/\W.1.size<=g/\g<X.1.size/\∀k,k<2->∃s:ByteArray,X.cell? ⟨g,k,none⟩=some (.s s)/\s.size<=1000
 |8=>v=.p R 0
 |9=>∃k:Nat,k<2/\v=.i k
 |10=>∃(g k:Nat)(s:ByteArray),v=.pointer (some ⟨g,k,none⟩)/\(W.1.size<=g/\g<X.1.size)/\X.cell? ⟨g,k,none⟩=some (.s s)/\True/\s.size<=1000
 |11=>∃s:ByteArray,v=.s s/\s.size<=1000
 |12=>v=.p R 0
 |13=>∃k:Nat,k<12/\v=.i k
 |14=>∃i:Int,v=.i i/\-13<=i/\i<=13
 |15=>v=.p T 0
 |16=>v=.i x.now
 |17=>v=.p T 0
 |18=>v=.i x.now
 |19=>∃i:Int,v=.i i/\-1000001<=i/\i<=1000001
 |20=>∃g:Nat,v=.l (some ⟨g,0,none⟩) 3 3/\W.1.size<=g/\g<X.1.size/\∀k,k<3->∃i:Int,X.cell? ⟨g,k,none⟩=some (.i i)/\-1000001<=i/\i<=1000001
 |21=>v=.p R 0
 |22=>∃k:Nat,k<3/\v=.i k
 |23=>∃(g k:Nat)(i:Int),v=.pointer (some ⟨g,k,none⟩)/\(W.1.size<=g/\g<X.1.size)/\X.cell? ⟨g,k,none⟩=some (.i i)/\True/\(-1000001<=i/\i<=1000001)
 |24=>∃i:Int,v=.i i/\-1000001<=i/\i<=1000001
 |25=>∃k:Ti,v=.agg (vT k)/\k.client.size<=1000/\k.print.size<=1000
 |26=>∃(g:Nat)(k:Ti),v=.l (some ⟨g,0,none⟩) 1 1/\W.1.size<=g/\g<X.1.size/\(∀f,f<5->X.cell? ⟨g,f,none⟩=some (AW (tv k) f))/\k.client.size<=1000/\k.print.size<=1000
 |27=>∃(k:Ti)(ad':OA)(cap' g':Nat),v=.l ad' (x.tn+1) cap'/\Rw X ad' g' (x.tn+1) cap' 5 (BT (Lo x.ts) (x.tn*5) (AW (tv k)))/\((0<d3/\g'=gA)\/W.1.size<=g')/\k.client.size<=1000/\k.print.size<=1000
 |28=>v=.p T 4
 |_=>True
theorem OF{P:Prop}(h:P:=by refine Ah rfl rfl ?_;clear hK hg;go_simp;simpa[AA]using h):P:=h
theorem WG{P:Prop}(h:P:=by obtain⟨g,e,y1,y2,y3⟩:=h;exact⟨g,e,y1,Ad y2 hF.size,λk hk=>by obtain⟨i,y4,y5⟩:=y3 k hk;exact⟨i,(hF.cell (p:=⟨g,k,none⟩) y2 (λq=>by have:=hPl g q;omega)).trans y4,y5⟩⟩):P:=h
theorem WN{P:Prop}(h:P:=by obtain⟨g,e,y1,y2,y3⟩:=h;exact⟨g,e,y1,Ad y2 hF.size,λk hk=>by obtain⟨i,y4,y5⟩:=y3 k hk;exact⟨i,(hF.cell (p:=⟨g,k,none⟩) y2 (λq=>by have q:g=R:=q;omega)).trans y4,y5⟩⟩):P:=h
theorem TT{P:Prop}(h:P:=by have h:=hK (.p R 0) X p' AQ Za rfl (Ay.refl _ _) hrd;exact OF):P:=h
theorem gV{P:Prop}(h:P:=by obtain⟨g,k,i,e,y1,y2,y3,y4⟩:=h;exact⟨g,k,i,e,⟨y1.1,Ad y1.2 hF.size⟩,(hF.cell (p:=⟨g,k,none⟩) y1.2 (λq=>by have:=hPl g q;omega)).trans y2,y3,y4⟩):P:=h
theorem cG{P:Prop}(h:P:=by obtain⟨g,k,i,e,y1,y2,y3,y4⟩:=h;exact⟨g,k,i,e,⟨y1.1,Ad y1.2 hF.size⟩,(hF.cell (p:=⟨g,k,none⟩) y1.2 (λq=>by have q:g=R:=q;omega)).trans y2,y3,y4⟩):P:=h
theorem mE{p1 p2 p3 p4 p8 p9 D8 D9 Ea DZ Dl Di Dg Dh De Db Dk Da Df Dc DH Du Ds DA Dw DG DD DE DF DI DJ DU Ev EF EN Eu ED EB EE EC Es Et DC D2 D1 DO DN Ej Eg Ei Ek D5 D4 Eb Eh D7 EK EL EH EJ EI EA Ez D0 FP FJ FO FN FK FH FL FI FM He Hg Hc FC Fz GA GZ Ge Ib Le KT KQ KP KR KS Hd Hf KN KJ KL KM KI K5 Cx Cy Cr Ck Cn Cl Cm Cq Cs CU CR CQ CS CE CF CG CI CO CN CZ CY CW DX DP DV Dq DB Dz En Dx Dp Dm Dy DW DM Dv Dt Do DQ DT DS DR Dr EM E3 Fe Fc E6 Fb E9 Fa E4 E1 E7 E5 E8 Fq Fs Gd GO GK Gc Gj Gu GE GT Gb G3 Gh F9 G0 Gz GL Fu Ft GM Gf Gq FT Ga G4 FU G5 GC GS GQ GG Jo Jy Jl Hx Gp GI JV IV H6 H9 IU Iu Ir Kl Jk Hn Kc IS Gv GH Hj I0 ID JU J5 Ii IK Ig IQ IM Jw Hr GD Gt JR Ko HJ Hk JJ I6 J4 Ji Kx Hu Jb Kz Jr Jg Ja IG Jd IX GV Gm Jc I9 It JO I7 Kv I1 JF I3 Kf Gr GU Jf Ip Jh Kd Ik JM Ka Iv Kq Iz Ho GR GN Ki In IT H7 Hl II IA Hv Jm Kh IW KA FW GP H5 JZ Jp Jv Ht Io HZ Ku JI JY JS J3 FX Gw Kn J1 JE Kj Jq JC Ju J8 IF JN JB Jn Hy JG Km IY JD IC JL IE GJ Gy JQ J2 J9 Hp JH Jt IB Jj Ia Kw JW FY Gn Gl Gs GB GF Gk GX JK Ie IH IR KC Hi Kt Im Jz Kg Ic Gi GY Gx FR I4 Hw Js Ke Hm Il KE JT Hs Je Gg:Value}{mk:(Nat->Value)->Array Value}(t0:Nat->Value)(R:Nat)(ad:OA)(nn cap p:Nat)(T:Nat)(x:Bk)(g1 g2:Nat)(a3:OA)(d1 d2 d3 o h:Nat)(y:Ob)(z:Ch)(ah bh:OA)(ch eh:Nat)(gA:Nat)(W:World)(hr:Rd W R ad nn cap p)(hp:p<=600000)(H:SD W R T x g1 g2 a3 d1 d2 d3 o h y z ah bh ch eh)(HA:xM W R T ad x gA a3 d3)(hmk:mk=λt=>#[.p R 0,p1,p2,p3,p4,.p T 0,.i (o:Nat),.i (h:Nat),p8,p9,D8,D9,Ea,DZ,Dl,Di,Dg,Dh,De,Db,Dk,Da,Df,Dc,DH,Du,Ds,DA,Dw,DG,DD,DE,DF,DI,DJ,DU,Ev,EF,EN,Eu,ED,EB,EE,EC,Es,Et,DC,D2,D1,DO,DN,Ej,Eg,Ei,Ek,D5,D4,Eb,Eh,D7,EK,EL,EH,EJ,EI,EA,Ez,D0,FP,FJ,FO,FN,FK,FH,FL,FI,FM,He,Hg,Hc,FC,Fz,GA,GZ,Ge,Ib,Le,KT,KQ,KP,KR,KS,Hd,Hf,KN,KJ,KL,KM,KI,K5,Cx,Cy,Cr,Ck,Cn,Cl,Cm,Cq,Cs,CU,CR,CQ,CS,CE,CF,CG,CI,CO,CN,CZ,CY,CW,DX,DP,DV,Dq,DB,Dz,En,Dx,Dp,Dm,Dy,DW,DM,Dv,Dt,Do,DQ,DT,DS,DR,Dr,EM,E3,Fe,Fc,E6,Fb,E9,Fa,E4,E1,E7,E5,E8,Fq,Fs,Gd,GO,GK,Gc,Gj,Gu,GE,GT,Gb,G3,Gh,F9,G0,Gz,GL,Fu,Ft,GM,Gf,Gq,FT,Ga,G4,FU,G5,GC,GS,GQ,GG,Jo,Jy,Jl,Hx,Gp,GI,JV,IV,H6,H9,IU,Iu,Ir,Kl,Jk,Hn,Kc,IS,Gv,GH,Hj,I0,ID,JU,J5,Ii,IK,Ig,IQ,IM,Jw,Hr,GD,Gt,JR,Ko,HJ,Hk,JJ,I6,J4,Ji,Kx,Hu,Jb,Kz,Jr,Jg,Ja,IG,Jd,IX,GV,Gm,Jc,I9,It,JO,I7,Kv,I1,JF,I3,Kf,Gr,GU,Jf,Ip,Jh,Kd,Ik,JM,Ka,Iv,Kq,Iz,Ho,GR,GN,Ki,In,IT,H7,Hl,II,IA,Hv,Jm,Kh,IW,KA,FW,GP,H5,JZ,Jp,Jv,Ht,Io,HZ,Ku,JI,JY,JS,J3,FX,Gw,Kn,J1,JE,Kj,Jq,JC,Ju,J8,IF,JN,JB,Jn,Hy,JG,Km,IY,JD,IC,JL,IE,GJ,Gy,JQ,J2,J9,Hp,JH,Jt,IB,Jj,Ia,Kw,JW,FY,Gn,Gl,Gs,GB,GF,Gk,GX,JK,Ie,IH,IR,KC,Hi,Kt,Im,Jz,Kg,Ic,Gi,GY,t 0,t 1,t 2,t 3,t 4,t 5,t 6,t 7,t 8,t 9,t 10,t 11,t 12,t 13,t 14,t 15,t 16,t 17,t 18,t 19,t 20,t 21,t 22,t 23,t 24,t 25,t 26,t 27,t 28,Gx,FR,I4,Hw,Js,Ke,Hm,Il,KE,JT,Hs,Je,Gg])(Q:Exit->Act->World->Prop)(hQ:∀(t:Nat->Value)(k:Ti)(ad':OA)(cap' g' pz:Nat)(X0:World),(Rw X0 ad' g' (x.tn+1) cap' 5 (BT (Lo x.ts) (x.tn*5) (AW (tv k)))/\((0<d3/\g'=gA)\/W.1.size<=g')/\k.client.size<=1000/\k.print.size<=1000)->Ay (λq=>q=R\/(0<d3/\q=gA)) W X0->p<=pz->pz<=p+29->Rd X0 R ad nn cap pz->Q .normal ⟨mk t,[]⟩ (X0.setCell ⟨T,4,none⟩ (.l ad' (x.tn+1) cap'))):Code.wp prog (rg Tryz.f40 58) Q ⟨mk t0,[]⟩ W:=by
 have hRW:=hr.lt;have hPl:∀q,(λq=>q=R\/(0<d3/\q=gA)) q->q<W.1.size:=λq e=>by
  rcases e with e|e;.omega
  .have:=HA.lt e.1;omega
 refine NM Ze 29 1 27 (λj=>match j with|_=>29) (λ_=>0) (λ_=>false) (λq=>q=R\/(0<d3/\q=gA)) mk t0 R ad nn cap p (jD R T x g1 g2 a3 d1 d2 d3 o h y z ah bh ch eh gA W) (λa X=>∃(t:Nat->Value)(k:Ti)(ad':OA)(cap' g' pz:Nat)(X0:World),a=⟨mk t,[]⟩/\X=(X0.setCell ⟨T,4,none⟩ (.l ad' (x.tn+1) cap'))/\(Rw X0 ad' g' (x.tn+1) cap' 5 (BT (Lo x.ts) (x.tn*5) (AW (tv k)))/\((0<d3/\g'=gA)\/W.1.size<=g')/\k.client.size<=1000/\k.print.size<=1000)/\Ay (λq=>q=R\/(0<d3/\q=gA)) W X0/\p<=pz/\pz<=p+29/\Rd X0 R ad nn cap pz) Ze Ze Ze Ze ?_ ?_ (AB rfl) rfl hr ?_ ?_ ?_ ?_;all_goals subst hmk
 .intro i v X Z p' hi him h hF hRd hR hX;rcases(show i=0\/i=1\/i=2\/i=3\/i=4\/i=5\/i=6\/i=7\/i=8\/i=9\/i=10\/i=11\/i=12\/i=13\/i=14\/i=15\/i=16\/i=17\/i=18\/i=19\/i=20\/i=21\/i=22\/i=23\/i=24\/i=25\/i=26\/i=27\/i=28 by omega)with rfl|rfl|rfl|rfl|rfl|rfl|rfl|rfl|rfl|rfl|rfl|rfl|rfl|rfl|rfl|rfl|rfl|rfl|rfl|rfl|rfl|rfl|rfl|rfl|rfl|rfl|rfl|rfl|rfl;.exact h
  .exact h
  .exact WG
  .exact h
  .exact h
  .exact gV
  .exact h
  .exact WG
  .exact h
  .exact h
  .obtain⟨g,k,s,e,y1,y2,y3,y4⟩:=h;exact⟨g,k,s,e,⟨y1.1,Ad y1.2 hF.size⟩,(hF.cell (p:=⟨g,k,none⟩) y1.2 (λq=>by have:=hPl g q;omega)).trans y2,y3,y4⟩
  .exact h
  .exact h
  .exact h
  .exact h
  .exact h
  .exact h
  .exact h
  .exact h
  .exact h
  .exact WG
  .exact h
  .exact h
  .exact gV
  .exact h
  .exact h
  .obtain⟨g,k,e,y1,y2,y3,y4⟩:=h;exact⟨g,k,e,y1,Ad y2 hF.size,λf hf=>(hF.cell (p:=⟨g,f,none⟩) y2 (λq=>by have:=hPl g q;omega)).trans (y3 f hf),y4⟩
  .exact absurd rfl him
  .exact h
 .intro i v X Z p' hi h hF hRd hR hX;rcases(show i=0\/i=1\/i=2\/i=3\/i=4\/i=5\/i=6\/i=7\/i=8\/i=9\/i=10\/i=11\/i=12\/i=13\/i=14\/i=15\/i=16\/i=17\/i=18\/i=19\/i=20\/i=21\/i=22\/i=23\/i=24\/i=25\/i=26\/i=27\/i=28 by omega)with rfl|rfl|rfl|rfl|rfl|rfl|rfl|rfl|rfl|rfl|rfl|rfl|rfl|rfl|rfl|rfl|rfl|rfl|rfl|rfl|rfl|rfl|rfl|rfl|rfl|rfl|rfl|rfl|rfl;.exact h
  .exact h
  .exact WN
  .exact h
  .exact h
  .exact cG
  .exact h
  .exact WN
  .exact h
  .exact h
  .obtain⟨g,k,s,e,y1,y2,y3,y4⟩:=h;exact⟨g,k,s,e,⟨y1.1,Ad y1.2 hF.size⟩,(hF.cell (p:=⟨g,k,none⟩) y1.2 (λq=>by have q:g=R:=q;omega)).trans y2,y3,y4⟩
  .exact h
  .exact h
  .exact h
  .exact h
  .exact h
  .exact h
  .exact h
  .exact h
  .exact h
  .exact WN
  .exact h
  .exact h
  .exact cG
  .exact h
  .exact h
  .obtain⟨g,k,e,y1,y2,y3,y4⟩:=h;exact⟨g,k,e,y1,Ad y2 hF.size,λf hf=>(hF.cell (p:=⟨g,f,none⟩) y2 (λq=>by have q:g=R:=q;omega)).trans (y3 f hf),y4⟩
  .obtain⟨k,ad',cap',g',e,y1,y2,y3⟩:=h;exact⟨k,ad',cap',g',e,y1.fr hF (λh0 q=>by have q:g'=R:=q;rcases y2 with y2|y2;exact HA.ne (y2.2▸q);omega),y2,y3⟩
  .exact h
 .intro i hi him t X K p' hb hfs hp1 hp2 hrd hg hK;rcases(show i=0\/i=1\/i=2\/i=3\/i=4\/i=5\/i=6\/i=7\/i=8\/i=9\/i=10\/i=11\/i=12\/i=13\/i=14\/i=15\/i=16\/i=17\/i=18\/i=19\/i=20\/i=21\/i=22\/i=23\/i=24\/i=25\/i=26\/i=27\/i=28 by omega)with rfl|rfl|rfl|rfl|rfl|rfl|rfl|rfl|rfl|rfl|rfl|rfl|rfl|rfl|rfl|rfl|rfl|rfl|rfl|rfl|rfl|rfl|rfl|rfl|rfl|rfl|rfl|rfl|rfl;.have h:=hK (.p T 4) X p' AQ Za rfl (Ay.refl _ _) hrd;exact OF
  .have eq0:t 0=.p T 4:=hg 0 (AZ rfl);have q:=(hb.cell (p:=⟨T,4,none⟩) H.lt HA.nT).trans (H.row.cell 4 Zb);simp only[AW,Aa,Ab]at q;have h:=hK (.l a3 x.tn d3) X p' AQ Za rfl (Ay.refl _ _) hrd;refine Ah rfl rfl ?_;clear hK hg;go_simp;simpa[AA,eq0]using h
  .have h:=hK (.l (some ⟨X.1.size,0,none⟩) 3 3) (X.alloc (.cells #[.i 0,.i 1,.i 1000001] 3)) p' AQ Za ⟨X.1.size,rfl,hb.size,Zc,λk hk=>by rw[Al X #[.i 0,.i 1,.i 1000001] 3 k];rcases(show k=0\/k=1\/k=2 by omega)with rfl|rfl|rfl;all_goals exact⟨_,rfl,Za,Za⟩⟩ (Ar ET) (hrd.below ET);exact OF
  .exact TT
  .have eq3:t 3=.p R 0:=hg 3 (AZ rfl);refine Ah rfl rfl ?_;have HK:=Aj hK;have HR:=Aj hrd;clear hK hg hrd;go_simp;go_at_call 15;refine(Bj R ad nn cap p' 3 X HR Za Zb Zb).mono ?_;rintro r Z ⟨k,rfl,_,hv,hf,hr2⟩;have h:=HK (.i k) Z (p'+1) Za AQ ⟨k,by have:=hv Zb;omega,rfl⟩ hf hr2;simpa[AA,eq3]using h
  .obtain⟨g,eq2,y1,y2,y3⟩:∃g:Nat,t 2=.l (some ⟨g,0,none⟩) 3 3/\W.1.size<=g/\g<X.1.size/\∀k,k<3->∃i:Int,X.cell? ⟨g,k,none⟩=some (.i i)/\-1000001<=i/\i<=1000001:=hg 2 (AZ rfl);obtain⟨k,hk,eq4⟩:∃k:Nat,k<3/\t 4=.i k:=hg 4 (AZ rfl);obtain⟨i,y4,y5,y6⟩:=y3 k hk;have h:=hK (.pointer (some ⟨g,k,none⟩)) X p' AQ Za ⟨g,k,i,rfl,⟨y1,y2⟩,y4,trivial,y5,y6⟩ (Ay.refl _ _) hrd;refine Ah rfl rfl ?_;clear hK hg;go_simp;rw[if_pos Za,AM];go_simp;simpa[AA,eq2,eq4]using h
  .obtain⟨g,k,i,eq5,y1,y2,y3,y4⟩:∃(g k:Nat)(i:Int),t 5=.pointer (some ⟨g,k,none⟩)/\(W.1.size<=g/\g<X.1.size)/\X.cell? ⟨g,k,none⟩=some (.i i)/\True/\(-1000001<=i/\i<=1000001):=hg 5 (AZ rfl);have h:=hK (.i i) X p' AQ Za ⟨i,rfl,y4.1,y4.2⟩ (Ay.refl _ _) hrd;refine Ah rfl rfl ?_;clear hK hg;go_simp;simpa[AA,eq5]using h
  .have h:=hK (.l (some ⟨X.1.size,0,none⟩) 2 2) (X.alloc (.cells #[.s ⟨#[49,50,51,52,53,54,55,56]⟩,.s ⟨#[49]⟩] 9)) p' AQ Za ⟨X.1.size,rfl,hb.size,Zc,λk hk=>by rw[Al X #[.s ⟨#[49,50,51,52,53,54,55,56]⟩,.s ⟨#[49]⟩] 9 k];rcases(show k=0\/k=1 by omega)with rfl|rfl;all_goals exact⟨_,rfl,Zb⟩⟩ (Ar ET) (hrd.below ET);exact OF
  .exact TT
  .have eq8:t 8=.p R 0:=hg 8 (AZ rfl);refine Ah rfl rfl ?_;have HK:=Aj hK;have HR:=Aj hrd;clear hK hg hrd;go_simp;go_at_call 15;refine(Bj R ad nn cap p' 2 X HR Za Zb Zb).mono ?_;rintro r Z ⟨k,rfl,_,hv,hf,hr2⟩;have h:=HK (.i k) Z (p'+1) Za AQ ⟨k,by have:=hv Zb;omega,rfl⟩ hf hr2;simpa[AA,eq8]using h
  .obtain⟨g,eq7,y1,y2,y3⟩:∃g:Nat,t 7=.l (some ⟨g,0,none⟩) 2 2/\W.1.size<=g/\g<X.1.size/\∀k,k<2->∃s:ByteArray,X.cell? ⟨g,k,none⟩=some (.s s)/\s.size<=1000:=hg 7 (AZ rfl);obtain⟨k,hk,eq9⟩:∃k:Nat,k<2/\t 9=.i k:=hg 9 (AZ rfl);obtain⟨s,y4,y5⟩:=y3 k hk;have h:=hK (.pointer (some ⟨g,k,none⟩)) X p' AQ Za ⟨g,k,s,rfl,⟨y1,y2⟩,y4,trivial,y5⟩ (Ay.refl _ _) hrd;refine Ah rfl rfl ?_;clear hK hg;go_simp;rw[if_pos Za,AM];go_simp;simpa[AA,eq7,eq9]using h
  .obtain⟨g,k,s,eq10,y1,y2,y3,y4⟩:∃(g k:Nat)(s:ByteArray),t 10=.pointer (some ⟨g,k,none⟩)/\(W.1.size<=g/\g<X.1.size)/\X.cell? ⟨g,k,none⟩=some (.s s)/\True/\s.size<=1000:=hg 10 (AZ rfl);have h:=hK (.s s) X p' AQ Za ⟨s,rfl,y4⟩ (Ay.refl _ _) hrd;refine Ah rfl rfl ?_;clear hK hg;go_simp;simpa[AA,eq10]using h
  .exact TT
  .have eq12:t 12=.p R 0:=hg 12 (AZ rfl);refine Ah rfl rfl ?_;have HK:=Aj hK;have HR:=Aj hrd;clear hK hg hrd;go_simp;go_at_call 15;refine(Bj R ad nn cap p' 12 X HR Za Zb Zb).mono ?_;rintro r Z ⟨k,rfl,_,hv,hf,hr2⟩;have h:=HK (.i k) Z (p'+1) Za AQ ⟨k,by have:=hv Zb;omega,rfl⟩ hf hr2;simpa[AA,eq12]using h
  .obtain⟨ia,iah,eq13⟩:∃k:Nat,k<12/\t 13=.i k:=hg 13 (AZ rfl);have hw:=AK ((ia:Int)-1) ⟨Za,Za⟩;have h:=hK (.i ((ia:Int)-1)) X p' AQ Za ⟨_,rfl,Za,Za⟩ (Ay.refl _ _) hrd;refine Ah rfl rfl ?_;clear hK hg;go_simp;simpa[AA,eq13,hw]using h
  .have h:=hK (.p T 0) X p' AQ Za rfl (Ay.refl _ _) hrd;exact OF
  .have eq15:t 15=.p T 0:=hg 15 (AZ rfl);have q:=(hb.cell (p:=⟨T,0,none⟩) H.lt HA.nT).trans (H.row.cell 0 Zb);simp only[AW,Aa,]at q;have h:=hK (.i x.now) X p' AQ Za rfl (Ay.refl _ _) hrd;refine Ah rfl rfl ?_;clear hK hg;go_simp;simpa[AA,eq15]using h
  .have h:=hK (.p T 0) X p' AQ Za rfl (Ay.refl _ _) hrd;exact OF
  .have eq17:t 17=.p T 0:=hg 17 (AZ rfl);have q:=(hb.cell (p:=⟨T,0,none⟩) H.lt HA.nT).trans (H.row.cell 0 Zb);simp only[AW,Aa,]at q;have h:=hK (.i x.now) X p' AQ Za rfl (Ay.refl _ _) hrd;refine Ah rfl rfl ?_;clear hK hg;go_simp;simpa[AA,eq17]using h
  .have eq18:t 18=.i x.now:=hg 18 (AZ rfl);have eq18b:=H.bn;have hw:=AK (x.now+1) ⟨Za,Za⟩;have h:=hK (.i (x.now+1)) X p' AQ Za ⟨_,rfl,Za,Za⟩ (Ay.refl _ _) hrd;refine Ah rfl rfl ?_;clear hK hg;go_simp;simpa[AA,eq18,hw]using h
  .have eq16:t 16=.i x.now:=hg 16 (AZ rfl);have eq16b:=H.bn;obtain⟨i19,eq19,eq191,eq192⟩:∃i:Int,t 19=.i i/\-1000001<=i/\i<=1000001:=hg 19 (AZ rfl);have h:=hK (.l (some ⟨X.1.size,0,none⟩) 3 3) (X.alloc (.cells #[.i 0,.i x.now,.i i19] 3)) p' AQ Za ⟨X.1.size,rfl,hb.size,Zc,λk hk=>by rw[Al X #[.i 0,.i x.now,.i i19] 3 k];rcases(show k=0\/k=1\/k=2 by omega)with rfl|rfl|rfl;all_goals exact⟨_,rfl,Za,Za⟩⟩ (Ar ET) (hrd.below ET);refine Ah rfl rfl ?_;clear hK hg;go_simp;simpa[AA,eq16,eq19]using h
  .exact TT
  .have eq21:t 21=.p R 0:=hg 21 (AZ rfl);refine Ah rfl rfl ?_;have HK:=Aj hK;have HR:=Aj hrd;clear hK hg hrd;go_simp;go_at_call 15;refine(Bj R ad nn cap p' 3 X HR Za Zb Zb).mono ?_;rintro r Z ⟨k,rfl,_,hv,hf,hr2⟩;have h:=HK (.i k) Z (p'+1) Za AQ ⟨k,by have:=hv Zb;omega,rfl⟩ hf hr2;simpa[AA,eq21]using h
  .obtain⟨g,eq20,y1,y2,y3⟩:∃g:Nat,t 20=.l (some ⟨g,0,none⟩) 3 3/\W.1.size<=g/\g<X.1.size/\∀k,k<3->∃i:Int,X.cell? ⟨g,k,none⟩=some (.i i)/\-1000001<=i/\i<=1000001:=hg 20 (AZ rfl);obtain⟨k,hk,eq22⟩:∃k:Nat,k<3/\t 22=.i k:=hg 22 (AZ rfl);obtain⟨i,y4,y5,y6⟩:=y3 k hk;have h:=hK (.pointer (some ⟨g,k,none⟩)) X p' AQ Za ⟨g,k,i,rfl,⟨y1,y2⟩,y4,trivial,y5,y6⟩ (Ay.refl _ _) hrd;refine Ah rfl rfl ?_;clear hK hg;go_simp;rw[if_pos Za,AM];go_simp;simpa[AA,eq20,eq22]using h
  .obtain⟨g,k,i,eq23,y1,y2,y3,y4⟩:∃(g k:Nat)(i:Int),t 23=.pointer (some ⟨g,k,none⟩)/\(W.1.size<=g/\g<X.1.size)/\X.cell? ⟨g,k,none⟩=some (.i i)/\True/\(-1000001<=i/\i<=1000001):=hg 23 (AZ rfl);have h:=hK (.i i) X p' AQ Za ⟨i,rfl,y4.1,y4.2⟩ (Ay.refl _ _) hrd;refine Ah rfl rfl ?_;clear hK hg;go_simp;simpa[AA,eq23]using h
  .obtain⟨i6,eq6,_,_⟩:∃i:Int,t 6=.i i/\-1000001<=i/\i<=1000001:=hg 6 (AZ rfl);obtain⟨s11,eq11,z11⟩:∃s:ByteArray,t 11=.s s/\s.size<=1000:=hg 11 (AZ rfl);obtain⟨i14,eq14,_,_⟩:∃i:Int,t 14=.i i/\-13<=i/\i<=13:=hg 14 (AZ rfl);obtain⟨i24,eq24,_,_⟩:∃i:Int,t 24=.i i/\-1000001<=i/\i<=1000001:=hg 24 (AZ rfl);have h:=hK (.agg #[.s ⟨#[122,111,101]⟩,.i i6,.s s11,.i i14,.i i24]) X p' AQ Za ⟨⟨⟨#[122,111,101]⟩,i6,s11,i14,i24⟩,rfl,(by show(⟨#[122,111,101]⟩:ByteArray).size<=1000;decide),z11⟩ (Ay.refl _ _) hrd;refine Ah rfl rfl ?_;clear hK hg;go_simp;simpa[AA,eq6,eq11,eq14,eq24]using h
  .obtain⟨k,eq25,z1,z2⟩:∃k:Ti,t 25=.agg (vT k)/\k.client.size<=1000/\k.print.size<=1000:=hg 25 (AZ rfl);have h:=hK (.l (some ⟨X.1.size,0,none⟩) 1 1) (X.alloc (.cells (vT k) 58)) p' AQ Za ⟨X.1.size,k,rfl,hb.size,Zc,λf hf=>(AN.new (w:=X) (l:=tv k) (t:=58) Ci).cell f hf,z1,z2⟩ (Ar ET) (hrd.below ET);refine Ah rfl rfl ?_;clear hK hg;go_simp;simpa[AA,eq25]using h
  .exact absurd rfl him
  .have h:=hK (.p T 4) X p' AQ Za rfl (Ay.refl _ _) hrd;exact OF
 .intro hmn t X K p' hb hp1 hp2 hrd hg hK;obtain⟨g,k,eq26,y1,y2,y3,y4⟩:∃(g:Nat)(k:Ti),t 26=.l (some ⟨g,0,none⟩) 1 1/\W.1.size<=g/\g<X.1.size/\(∀f,f<5->X.cell? ⟨g,f,none⟩=some (AW (tv k) f))/\k.client.size<=1000/\k.print.size<=1000:=hg 26 (AZ rfl);have eq1:t 1=.l a3 x.tn d3:=hg 1 (AZ rfl);have RW:=HA.rw.fr hb (λh0=>HA.ne);obtain⟨ad',cap',g',Y,hrun,hrw,hfY,hg'⟩:=Mr (P:=prog) X 25 25 58 5 56 _ underlying25 KY Za Ze a3 gA x.tn d3 (Lo x.ts) RW (λj _=>Ml _ _) g (g+1) (some ⟨g,0,none⟩) 1 1 (AW (tv k)) ⟨λj hj=>⟨g,0,rfl,AG _,BE _,by rw[Bd];exact y3 j hj⟩,λj hj=>bG k j hj⟩ Za (by have:=HA.tn;omega) (by have:=HA.tn;omega);have hfA:Ay (λq=>q=R\/(0<d3/\q=gA)) X Y:=hfY.mono (λq e=>AE e);have h:=hK (.l ad' (x.tn+1) cap') Y p' AQ Za ⟨k,ad',cap',g',rfl,hrw,hg'.imp id (AS hb.size),y4.1,y4.2⟩ hfA (hrd.app hfY HA.ne HA.bt);refine Ah rfl rfl ?_;clear hK hg;refine ES (.tmp 349) (.tmp 374) 25 25 rfl _ _ _ _ (by simpa[Act.eval,go_sem]using eq1) (by simpa[Act.eval,go_sem]using eq26) hrun ?_;simpa[AA,Act.put]using h
 .intro t X K p' hb hp1 hp2 hrd hg hK;have eq28:t 28=.p T 4:=hg 28 Za;obtain⟨k,ad',cap',g',eqm,hrw,hg',z1,z2⟩:∃(k:Ti)(ad':OA)(cap' g':Nat),t 27=.l ad' (x.tn+1) cap'/\Rw X ad' g' (x.tn+1) cap' 5 (BT (Lo x.ts) (x.tn*5) (AW (tv k)))/\((0<d3/\g'=gA)\/W.1.size<=g')/\k.client.size<=1000/\k.print.size<=1000:=hg 27 Za;have q:=(hb.cell (p:=⟨T,4,none⟩) H.lt HA.nT).trans (H.row.cell 4 Zb);have q2:=(hb.frozen (p:=⟨T,4,none⟩) H.lt HA.nT).trans (H.row.free _);simp only[AW,Aa,Ab,]at q;have h:=hK _ _ ⟨t,k,ad',cap',g',p',X,rfl,rfl,⟨hrw,hg',z1,z2⟩,hb,hp1,Za,hrd⟩;have HK:=Aj h;clear hK hg h;refine Ah rfl rfl ?_;go_simp;simpa[eq28,eqm]using HK.out
 .rintro a X ⟨t,k,ad',cap',g',pz,X0,rfl,rfl,z2,z3,z4,z5,z6⟩;exact hQ t k ad' cap' g' pz X0 z2 z3 z4 z5 z6
end Go.Proofs.YtnnjcenacidceaaGreat
