import Derived.Test.YtofencldleijcaaGreatPk18
import Derived.Test.YtofencldleijcaaGreatPk27
import Derived.Test.YtofencldleijcaaGreatPk11
import Derived.Deep.DeepCutAuto
import Derived.Deep.CutBlock
import Derived.Deep.Light
set_option maxRecDepth 100000
set_option maxHeartbeats 4000000
namespace Go.Proofs.YtofencldleijcaaGreat
open Go.RowKit Go.Proofs.Tryz
theorem AB.far7{R:Nat}{W X:World}(h:AB (λq=>q=R) W X){z:Nat}(hz:W.1.size<=z)(a b c d e f g:Value):AB (λq=>q=R) W (((((((X.setCell ⟨z,0,none⟩ a).setCell ⟨z,1,none⟩ b).setCell ⟨z,2,none⟩ c).setCell ⟨z,3,none⟩ d).setCell ⟨z,4,none⟩ e).setCell ⟨z,5,none⟩ f).setCell ⟨z,6,none⟩ g):=(h.far6 hz a b c d e f).far hz _ _
theorem Rd.far7{W X:World}{R:Nat}{ad:OA}{n cap p p':Nat}(hW:Rd W R ad n cap p)(hX:Rd X R ad n cap p'){z:Nat}(hz:W.1.size<=z)(a b c d e f g:Value):Rd (((((((X.setCell ⟨z,0,none⟩ a).setCell ⟨z,1,none⟩ b).setCell ⟨z,2,none⟩ c).setCell ⟨z,3,none⟩ d).setCell ⟨z,4,none⟩ e).setCell ⟨z,5,none⟩ f).setCell ⟨z,6,none⟩ g) R ad n cap p':=hW.far (hW.far6 hX hz a b c d e f) hz _ _
def aM (R:Nat)(S hi:Nat)(B:Bk)(a1:OA)(c1:Nat)(W:World)(i:Nat)(v:Value)(X:World):Prop:=match i with
 |0=>v=.p S 2
 |1=>v=.l a1 B.on c1
 |2=>v=.p R 0
 |3=>v=.p S 2
 |4=>v=.l a1 B.on c1
 |5=>v=.i (B.on:Nat)
 |6=>∃k:Nat,k<B.on/\v=.i k
 |7=>∃k b off:Nat,k<B.on/\a1=some ⟨b,off,none⟩/\v=.pointer (some ⟨b,off+k*7,none⟩)
 |8=>∃(k:Nat)(ah:OA)(ch:Nat),k<B.on/\v=.agg (vO (B.os k) ah ch)/\Ax W 0 hi ah (B.os k).hn (B.os k).hs
 |9=>∃z:Nat,v=.p z 0/\W.1.size<=z/\AM X z 7 (A7 [.s ⟨#[]⟩,.s ⟨#[]⟩,.i 0,.i 0,.s ⟨#[]⟩,.bool false,.l none 0 0])
 |_=>True
theorem J3{P:Prop}(h:P:=by refine Ar rfl rfl ?_;clear hK hg;go_simp;simpa[AN]using h):P:=h
theorem XK{P:Prop}(h:P:=by rintro r Y ⟨v,rfl,_,hv,hf,hr2⟩;have h:=HK (.i v) Y (p'+1) Zb Bg ⟨v,by have:=hv Zb;omega,rfl⟩ hf hr2;simpa[AN,e2,e5]using h):P:=h
theorem fV{p1 p2 p4 p5 p7 p8 p9 DA Du DC Dx Da CY CV CX CW CR C4 CU CS CQ Dl C6 Db C9 C7 Dj Dg Df Dk Dh De EE Ej Ei EA EB Ew Ex EW FU FW FV FC FA Fz FT Fx Hl Hm Hn Hk Hj GL GN GX GT GY GP GZ GV GQ GS GR G4 IA It Iu GU GO G3 GM G5 Ic JD Jj Jk Je Jh Jg Iy Iq Is Iw Ir Iz Ip Ji En Ez Ec Ed Eb D9 Ea Em Ek FI FE FH FJ Fd Fg Fh Ff Fe Fi Ga F8 F9 Ig Ih Ib Ie In If:Value}{mk:(Nat->Value)->Array Value}(t0:Nat->Value)(R:Nat)(ad:OA)(nn cap p:Nat)(S hi:Nat)(B:Bk)(a1:OA)(c1:Nat)(W:World)(hr:Rd W R ad nn cap p)(hp:p<=900000)(hS:S<W.1.size)(hSR:¬S=R)(hcS:W.cell? ⟨S,2,none⟩=some (.slice a1 B.on c1))(ho:Bs W 0 hi a1 B.on B.os)(hhi:hi<=W.1.size)(hn0:0<B.on)(hn1:B.on<=100)(hmk:mk=λt=>#[.p R 0,p1,p2,.p S 0,p4,p5,t 9,p7,p8,p9,DA,Du,DC,Dx,Da,CY,CV,CX,CW,CR,C4,CU,CS,CQ,Dl,C6,Db,C9,C7,Dj,Dg,Df,Dk,Dh,De,t 0,t 1,t 2,t 3,t 4,t 5,t 6,t 7,t 8,EE,Ej,Ei,EA,EB,Ew,Ex,EW,FU,FW,FV,FC,FA,Fz,FT,Fx,Hl,Hm,Hn,Hk,Hj,GL,GN,GX,GT,GY,GP,GZ,GV,GQ,GS,GR,G4,IA,It,Iu,GU,GO,G3,GM,G5,Ic,JD,Jj,Jk,Je,Jh,Jg,Iy,Iq,Is,Iw,Ir,Iz,Ip,Ji,En,Ez,Ec,Ed,Eb,D9,Ea,Em,Ek,FI,FE,FH,FJ,Fd,Fg,Fh,Ff,Fe,Fi,Ga,F8,F9,Ig,Ih,Ib,Ie,In,If])(Q:Exit->Act->World->Prop)(hQ:∀(t:Nat->Value)(z k:Nat)(ah:OA)(ch:Nat)(pz:Nat) X,t 9=.p z 0->W.1.size<=z->k<B.on->Ax W 0 hi ah (B.os k).hn (B.os k).hs->AM X z 7 (A7 (iX (B.os k) ah ch))->AB (λq=>q=R) W X->p<=pz->pz<=p+10->Rd X R ad nn cap pz->Q .normal ⟨mk t,[]⟩ X):Code.wp prog (rg Tryz.f13 3) Q ⟨mk t0,[]⟩ W:=by
 have hRW:=hr.lt;refine MM Ze 10 mk t0 R ad nn cap p (aM R S hi B a1 c1 W) (λa X=>∃(t:Nat->Value)(z k:Nat)(ah:OA)(ch:Nat)(pz:Nat),a=⟨mk t,[]⟩/\t 9=.p z 0/\W.1.size<=z/\k<B.on/\Ax W 0 hi ah (B.os k).hn (B.os k).hs/\AM X z 7 (A7 (iX (B.os k) ah ch))/\AB (λq=>q=R) W X/\p<=pz/\pz<=p+10/\Rd X R ad nn cap pz) Ze Ze Ze ?_ rfl hr ?_ ?_ ?_;all_goals subst hmk
 .intro i v X Y hi h hF hR hX;rcases(show i=0\/i=1\/i=2\/i=3\/i=4\/i=5\/i=6\/i=7\/i=8\/i=9 by omega)with rfl|rfl|rfl|rfl|rfl|rfl|rfl|rfl|rfl|rfl;.exact h
  .exact h
  .exact h
  .exact h
  .exact h
  .exact h
  .exact h
  .exact h
  .exact h
  .obtain⟨z,e,a1,a2⟩:=h;exact⟨z,e,a1,a2.fr2 hF Zb⟩
 .intro i hi t X K p' hb hp1 hp2 hrd hg hK;rcases(show i=0\/i=1\/i=2\/i=3\/i=4\/i=5\/i=6\/i=7\/i=8\/i=9 by omega)with rfl|rfl|rfl|rfl|rfl|rfl|rfl|rfl|rfl|rfl;.have h:=hK (.p S 2) X p' Bg Zb rfl (AB.refl _ _) hrd;exact J3
  .have e0:t 0=_:=hg 0 (BB rfl);have cS:=(hb.cell (p:=⟨S,2,none⟩) hS hSR).trans hcS;have h:=hK (.l a1 B.on c1) X p' Bg Zb rfl (AB.refl _ _) hrd;refine Ar rfl rfl ?_;clear hK hg;go_simp;simpa[AN,e0]using h
  .have h:=hK (.p R 0) X p' Bg Zb rfl (AB.refl _ _) hrd;exact J3
  .have h:=hK (.p S 2) X p' Bg Zb rfl (AB.refl _ _) hrd;exact J3
  .have e3:t 3=_:=hg 3 (BB rfl);have cS:=(hb.cell (p:=⟨S,2,none⟩) hS hSR).trans hcS;have h:=hK (.l a1 B.on c1) X p' Bg Zb rfl (AB.refl _ _) hrd;refine Ar rfl rfl ?_;clear hK hg;go_simp;simpa[AN,e3]using h
  .have e4:t 4=_:=hg 4 (BB rfl);have h:=hK (.i (B.on:Nat)) X p' Bg Zb rfl (AB.refl _ _) hrd;refine Ar rfl rfl ?_;clear hK hg;go_simp;simpa[AN,e4]using h
  .have e2:t 2=_:=hg 2 (BB rfl);have e5:t 5=_:=hg 5 (BB rfl);refine Ar rfl rfl ?_;have HK:=Ag hK;have HR:=Ag hrd;clear hK hg hrd;go_simp;go_at_call 12;refine(BV R ad nn cap p' (B.on:Nat) X HR Zb Zb Zb).mono ?_;exact XK
  .have e1:t 1=_:=hg 1 (BB rfl);obtain⟨k,hk,e6⟩:∃k:Nat,k<B.on/\t 6=.i k:=hg 6 (BB rfl);obtain⟨b,off,ah,ch,ea,_,_,_,_⟩:=ho k hk;rw[ea]at e1;have h:=hK (.pointer (some ⟨b,off+k*7,none⟩)) X p' Bg Zb ⟨k,b,off,hk,ea,rfl⟩ (AB.refl _ _) hrd;refine Ar rfl rfl ?_;clear hK hg;go_simp;simpa[AN,e1,e6]using h
  .obtain⟨k,b,off,hk,ea,e7⟩:∃k b off:Nat,k<B.on/\a1=some ⟨b,off,none⟩/\t 7=.pointer (some ⟨b,off+k*7,none⟩):=hg 7 (BB rfl);obtain⟨b',off',ah,ch,ea',_,hb3,hc,hst⟩:=ho k hk;rw[ea]at ea';obtain⟨rfl,rfl⟩:b=b'/\off=off':=by simpa using ea'
   have hne:¬b=R:=KR hr.ns hc.c0;have cc:∀j,X.cell? ⟨b,j,none⟩=W.cell? ⟨b,j,none⟩:=λj=>hb.cell (p:=⟨b,j,none⟩) (by show b<W.1.size;omega) hne;have q0:=(cc _).trans hc.c0;have q1:=(cc _).trans hc.c1;have q2:=(cc _).trans hc.c2;have q3:=(cc _).trans hc.c3;have q4:=(cc _).trans hc.c4;have q5:=(cc _).trans hc.c5;have q6:=(cc _).trans hc.c6;have h:=hK (.agg (vO (B.os k) ah ch)) X p' Bg Zb ⟨k,ah,ch,hk,rfl,hst⟩ (AB.refl _ _) hrd;refine Ar rfl rfl ?_;clear hK hg hc cc;go_simp;simpa[AN,e7]using h
  .have h:=hK (.p (X.1.size) 0) (X.alloc (.cells #[.s ⟨#[]⟩,.s ⟨#[]⟩,.i 0,.i 0,.s ⟨#[]⟩,.bool false,.l none 0 0] 61)) p' Bg Zb ⟨X.1.size,rfl,hb.size,AM.new (l:=[.s ⟨#[]⟩,.s ⟨#[]⟩,.i 0,.i 0,.s ⟨#[]⟩,.bool false,.l none 0 0]) (t:=61) Ck⟩ (Ap EC) (hrd.below EC);exact J3
 .intro t X K p' hb hp1 hp2 hrd hg hK;obtain⟨k,ah,ch,hk,e8,hst⟩:∃(k:Nat)(ah:OA)(ch:Nat),k<B.on/\t 8=.agg (vO (B.os k) ah ch)/\Ax W 0 hi ah (B.os k).hn (B.os k).hs:=hg 8 Zb;obtain⟨z,e9,hz,hrow⟩:∃z:Nat,t 9=.p z 0/\W.1.size<=z/\AM X z 7 (A7 [.s ⟨#[]⟩,.s ⟨#[]⟩,.i 0,.i 0,.s ⟨#[]⟩,.bool false,.l none 0 0]):=hg 9 Zb;have rf:=hrow.free;have rl:=hrow.lt;obtain⟨r0,r1,r2,r3,r4,r5,r6⟩:=lN hrow;have R6:=(((((((hrow.set (o:=0) Zb (.s (B.os k).kind)).set (o:=1) Zb (.s (B.os k).name)).set (o:=2) Zb (.i (B.os k).ver)).set (o:=3) Zb (.i (B.os k).born)).set (o:=4) Zb (.s (B.os k).text)).set (o:=5) Zb (.bool (B.os k).ending)).set (o:=6) Zb (.l ah (B.os k).hn ch));have F6:=hb.far7 (z:=z) hz (.s (B.os k).kind) (.s (B.os k).name) (.i (B.os k).ver) (.i (B.os k).born) (.s (B.os k).text) (.bool (B.os k).ending) (.l ah (B.os k).hn ch);have D6:=hr.far7 hrd (z:=z) hz (.s (B.os k).kind) (.s (B.os k).name) (.i (B.os k).ver) (.i (B.os k).born) (.s (B.os k).text) (.bool (B.os k).ending) (.l ah (B.os k).hn ch);have h:=hK _ _ ⟨t,z,k,ah,ch,p',rfl,e9,hz,hk,hst,⟨R6.lt,R6.free,λj hj=>by rw[R6.cell j hj];rcases(show j=0\/j=1\/j=2\/j=3\/j=4\/j=5\/j=6 by omega)with rfl|rfl|rfl|rfl|rfl|rfl|rfl<;>rfl⟩,F6,hp1,hp2,D6⟩;have HK:=Ag h;clear hK hg hrow h R6 F6 D6;refine Ar rfl rfl ?_;go_simp;simpa[e8,e9]using HK.out
 .rintro a X ⟨t,z,k,ah,ch,pz,rfl,a1,a2,a3,a4,a5,a6,a7,a8,a9⟩;exact hQ t z k ah ch pz X a1 a2 a3 a4 a5 a6 a7 a8 a9
def Yd (R O M:Nat)(ah:OA)(hn ch:Nat)(hs:Nat->ByteArray)(i:Nat)(v:Value)(_X:World):Prop:=match i with
 |0=>v=.p O 6
 |1=>v=.l ah hn ch
 |2=>v=.p R 0
 |3=>v=.p O 6
 |4=>v=.l ah hn ch
 |5=>v=.i (hn:Nat)
 |6=>∃k:Nat,k<hn/\v=.i k
 |7=>∃k b off:Nat,k<hn/\ah=some ⟨b,off,none⟩/\v=.pointer (some ⟨b,off+k,none⟩)
 |8=>∃k:Nat,k<hn/\v=.s (hs k)
 |9=>v=.p M 5
 |_=>True
theorem aA{p1 p2 p3 p4 p7 p8 p9 DA Du DC Dx Da CY CV CX CW CR C4 CU CS CQ Dl C6 Db C9 C7 Dj Dg Df Dk Dh De Dt Di Dy DB EF EI EK EL EJ EE Ej Ei EA EB Ew Ex EW FU FW FV FC FA Fz FT Fx Hl Hm Hn Hk Hj GL GN GX GT GY GP GZ GV GQ GS GR G4 Jj Jk Je Jh Jg Iy Iq Is Iw Ir Iz Ip Ji En Ez Ec Ed Eb D9 Ea Em Ek FI FE FH FJ Fd Fg Fh Ff Fe Fi Ga F8 F9 Ig Ih Ib Ie In If:Value}{mk:(Nat->Value)->Array Value}(t0:Nat->Value)(R:Nat)(ad:OA)(nn cap p:Nat)(O M hi:Nat)(ah:OA)(hn ch:Nat)(hs:Nat->ByteArray)(W:World)(hr:Rd W R ad nn cap p)(hp:p<=900000)(hO:O<W.1.size)(hOR:¬O=R)(hcO:W.cell? ⟨O,6,none⟩=some (.slice ah hn ch))(hM:M<W.1.size)(hMR:¬M=R)(u:Value)(hcM:W.cell? ⟨M,5,none⟩=some u)(hfM:W.frozen? ⟨M,5,none⟩=false)(ho:Ax W 0 hi ah hn hs)(hhi:hi<=W.1.size)(hn0:0<hn)(hn1:hn<=100)(hmk:mk=λt=>#[.p R 0,p1,p2,p3,p4,.p M 0,.p O 0,p7,p8,p9,DA,Du,DC,Dx,Da,CY,CV,CX,CW,CR,C4,CU,CS,CQ,Dl,C6,Db,C9,C7,Dj,Dg,Df,Dk,Dh,De,Dt,Di,Dy,DB,EF,EI,EK,EL,EJ,EE,Ej,Ei,EA,EB,Ew,Ex,EW,FU,FW,FV,FC,FA,Fz,FT,Fx,Hl,Hm,Hn,Hk,Hj,GL,GN,GX,GT,GY,GP,GZ,GV,GQ,GS,GR,G4,t 0,t 1,t 2,t 3,t 4,t 5,t 6,t 7,t 8,t 9,Jj,Jk,Je,Jh,Jg,Iy,Iq,Is,Iw,Ir,Iz,Ip,Ji,En,Ez,Ec,Ed,Eb,D9,Ea,Em,Ek,FI,FE,FH,FJ,Fd,Fg,Fh,Ff,Fe,Fi,Ga,F8,F9,Ig,Ih,Ib,Ie,In,If])(Q:Exit->Act->World->Prop)(hQ:∀(t:Nat->Value)(k:Nat)(pz:Nat)(X0:World),k<hn->AB (λq=>q=R) W X0->p<=pz->pz<=p+10->Rd X0 R ad nn cap pz->Q .normal ⟨mk t,[]⟩ (X0.setCell ⟨M,5,none⟩ (.s (hs k)))):Code.wp prog (rg Tryz.f13 12) Q ⟨mk t0,[]⟩ W:=by
 have hRW:=hr.lt;refine MM Ze 10 mk t0 R ad nn cap p (Yd R O M ah hn ch hs) (λa X=>∃(t:Nat->Value)(k:Nat)(pz:Nat)(X0:World),a=⟨mk t,[]⟩/\k<hn/\X=X0.setCell ⟨M,5,none⟩ (.s (hs k))/\AB (λq=>q=R) W X0/\p<=pz/\pz<=p+10/\Rd X0 R ad nn cap pz) Ze Ze Ze ?_ rfl hr ?_ ?_ ?_;all_goals subst hmk
 .exact λ_ _ _ _ _ h _ _ _=>h
 .intro i hi t X K p' hb hp1 hp2 hrd hg hK;rcases(show i=0\/i=1\/i=2\/i=3\/i=4\/i=5\/i=6\/i=7\/i=8\/i=9 by omega)with rfl|rfl|rfl|rfl|rfl|rfl|rfl|rfl|rfl|rfl;.have h:=hK (.p O 6) X p' Bg Zb rfl (AB.refl _ _) hrd;exact J3
  .have e0:t 0=_:=hg 0 (BB rfl);have cS:=(hb.cell (p:=⟨O,6,none⟩) hO hOR).trans hcO;have h:=hK (.l ah hn ch) X p' Bg Zb rfl (AB.refl _ _) hrd;refine Ar rfl rfl ?_;clear hK hg;go_simp;simpa[AN,e0]using h
  .have h:=hK (.p R 0) X p' Bg Zb rfl (AB.refl _ _) hrd;exact J3
  .have h:=hK (.p O 6) X p' Bg Zb rfl (AB.refl _ _) hrd;exact J3
  .have e3:t 3=_:=hg 3 (BB rfl);have cS:=(hb.cell (p:=⟨O,6,none⟩) hO hOR).trans hcO;have h:=hK (.l ah hn ch) X p' Bg Zb rfl (AB.refl _ _) hrd;refine Ar rfl rfl ?_;clear hK hg;go_simp;simpa[AN,e3]using h
  .have e4:t 4=_:=hg 4 (BB rfl);have h:=hK (.i (hn:Nat)) X p' Bg Zb rfl (AB.refl _ _) hrd;refine Ar rfl rfl ?_;clear hK hg;go_simp;simpa[AN,e4]using h
  .have e2:t 2=_:=hg 2 (BB rfl);have e5:t 5=_:=hg 5 (BB rfl);refine Ar rfl rfl ?_;have HK:=Ag hK;have HR:=Ag hrd;clear hK hg hrd;go_simp;go_at_call 12;refine(BV R ad nn cap p' (hn:Nat) X HR Zb Zb Zb).mono ?_;exact XK
  .have e1:t 1=_:=hg 1 (BB rfl);obtain⟨k,hk,e6⟩:∃k:Nat,k<hn/\t 6=.i k:=hg 6 (BB rfl);obtain⟨b,off,ea,_,_,_⟩:=ho k hk;rw[ea]at e1;have h:=hK (.pointer (some ⟨b,off+k,none⟩)) X p' Bg Zb ⟨k,b,off,hk,ea,rfl⟩ (AB.refl _ _) hrd;refine Ar rfl rfl ?_;clear hK hg;go_simp;simpa[AN,e1,e6]using h
  .obtain⟨k,b,off,hk,ea,e7⟩:∃k b off:Nat,k<hn/\ah=some ⟨b,off,none⟩/\t 7=.pointer (some ⟨b,off+k,none⟩):=hg 7 (BB rfl);obtain⟨b',off',ea',_,hb3,hc⟩:=ho k hk;rw[ea]at ea';obtain⟨rfl,rfl⟩:b=b'/\off=off':=by simpa using ea'
   have hne:¬b=R:=KR hr.ns hc;have q0:=(hb.cell (p:=⟨b,off+k,none⟩) (by show b<W.1.size;omega) hne).trans hc;have h:=hK (.s (hs k)) X p' Bg Zb ⟨k,hk,rfl⟩ (AB.refl _ _) hrd;refine Ar rfl rfl ?_;clear hK hg hc;go_simp;simpa[AN,e7]using h
  .have h:=hK (.p M 5) X p' Bg Zb rfl (AB.refl _ _) hrd;exact J3
 .intro t X K p' hb hp1 hp2 hrd hg hK;obtain⟨k,hk,e8⟩:∃k:Nat,k<hn/\t 8=.s (hs k):=hg 8 Zb;have e9:t 9=_:=hg 9 Zb;have cM:=(hb.cell (p:=⟨M,5,none⟩) hM hMR).trans hcM;have fM:=(hb.frozen (p:=⟨M,5,none⟩) hM hMR).trans hfM;have zM:M<X.1.size:=Ad hM hb.size;have h:=hK _ _ ⟨t,k,p',X,rfl,hk,rfl,hb,hp1,hp2,hrd⟩;have HK:=Ag h;clear hK hg h;refine Ar rfl rfl ?_;go_simp;simpa[e8,e9]using HK.out
 .rintro a X ⟨t,k,pz,X0,rfl,a1,rfl,a2,a3,a4,a5⟩;exact hQ t k pz X0 a1 a2 a3 a4 a5
def wv (v:Wr):List Value:=(qZ v)
structure OE (v:Wr):Prop where
 fit:Ml v
 o1:1<=v.op
 o5:v.op<=5
 s1:v.seen<=9223372036854775807
structure ZF (w:World)(R:Nat)(ad:OA)(nn cap p M:Nat)(v:Wr)(X:World):Prop where
 m:AM X M 6 (A7 (wv v))f:AB (λq=>q=R) w X
 r:Rd X R ad nn cap p
 M0:w.1.size<=M
 i:OE v
theorem ZF.pick{w X Y:World}{R:Nat}{ad:OA}{nn cap p p' M:Nat}{v:Wr}(h:ZF w R ad nn cap p M v X)(hf:AB (λq=>q=R) X Y)(hr:Rd Y R ad nn cap p')(hR:R<w.1.size):ZF w R ad nn cap p' M v Y:=⟨h.m.fr2 hf (by have:=h.M0;omega),h.f.trans hf,hr,h.M0,h.i⟩
theorem ZF.set{w X:World}{R:Nat}{ad:OA}{nn cap p M:Nat}{v:Wr}(h:ZF w R ad nn cap p M v X)(h0:Rd w R ad nn cap 0\/∃q,Rd w R ad nn cap q){o:Nat}(ho:o<6)(u:Value)(v':Wr)(hi:OE v')(e:∀j,j<6->Jm (A7 (wv v)) o u j=A7 (wv v') j):ZF w R ad nn cap p M v' (X.setCell ⟨M,o,none⟩ u):=by obtain⟨q,hq⟩:∃q,Rd w R ad nn cap q:=h0.elim (λx=>⟨0,x⟩) id;exact⟨(h.m.set ho u).congr e,h.f.far h.M0 _ _,hq.far h.r h.M0 _ _,h.M0,hi⟩
theorem ZF.cells{w X:World}{R:Nat}{ad:OA}{nn cap p M:Nat}{v:Wr}(h:ZF w R ad nn cap p M v X):X.cell? ⟨M,0,none⟩=some (.i v.op)/\X.cell? ⟨M,1,none⟩=some (.s v.kind)/\X.cell? ⟨M,2,none⟩=some (.s v.name)/\X.cell? ⟨M,3,none⟩=some (.i v.seen)/\X.cell? ⟨M,4,none⟩=some (.s v.text)/\X.cell? ⟨M,5,none⟩=some (.s v.hold)/\(∀j,X.frozen? ⟨M,j,none⟩=false)/\M<X.1.size:=⟨h.m.cell 0 Za,h.m.cell 1 Za,h.m.cell 2 Za,h.m.cell 3 Za,h.m.cell 4 Za,h.m.cell 5 Za,h.m.free,h.m.lt⟩
def rF (R:Nat)(ad:OA)(nn cap p:Nat)(w:World)(e:Ending)(w':World):Prop:=∃v:Wr,e=.returned (.agg (vW v))/\OE v/\Dn R ad nn cap p 60 w w'
def C2 (W:World)(R:Nat)(ad:OA)(nn cap p k M:Nat)(X:World):Prop:=∃v p',p<=p'/\p'<=p+k/\ZF W R ad nn cap p' M v X
structure rC (w:World)(B:Bk)(R:Nat)(ad:OA)(nn cap p:Nat)(a1 a2 a3:OA)(c1 c2 c3:Nat)(W:World):Prop where
 b:Below w.1.size w W
 z:W.1.size=w.1.size+2
 s:AM W w.1.size 5 (A7 (Mu B a1 a2 a3 c1 c2 c3))a:AM W (w.1.size+1) 6 (A7 [.i 0,.s ⟨#[]⟩,.s ⟨#[]⟩,.i 0,.s ⟨#[]⟩,.s ⟨#[]⟩])r:Rd W R ad nn cap p
 i:B7 W 0 w.1.size B a1 a2 a3
theorem aP (w:World)(B:Bk)(R:Nat)(ad:OA)(nn cap p:Nat)(a1 a2 a3:OA)(c1 c2 c3:Nat)(hr:Rd w R ad nn cap p)(hc:B7 w 0 w.1.size B a1 a2 a3):rC w B R ad nn cap p a1 a2 a3 c1 c2 c3 ((w.alloc (.cells (vB B a1 a2 a3 c1 c2 c3) 27)).alloc (.cells #[.i 0,.s ⟨#[]⟩,.s ⟨#[]⟩,.i 0,.s ⟨#[]⟩,.s ⟨#[]⟩] 36)):=by
 have hb:Below w.1.size w ((w.alloc (.cells (vB B a1 a2 a3 c1 c2 c3) 27)).alloc (.cells #[.i 0,.s ⟨#[]⟩,.s ⟨#[]⟩,.i 0,.s ⟨#[]⟩,.s ⟨#[]⟩] 36)):=((Al _ _).alloc Bg _).alloc Zc _;refine⟨hb,Zc,?_,?_,hr.below hb,hc.below hb Bg⟩;.exact AM.new (l:=(Mu B a1 a2 a3 c1 c2 c3)) EC
 .have h:=AM.new (w:=w.alloc (.cells (vB B a1 a2 a3 c1 c2 c3) 27)) (l:=[.i 0,.s ⟨#[]⟩,.s ⟨#[]⟩,.i 0,.s ⟨#[]⟩,.s ⟨#[]⟩]) (t:=36) Ck;rw[Au]at h;exact h
theorem Vk{W X:World}{R lo hi n:Nat}{ad:OA}{s:Nat->ByteArray}(h:Ax X lo hi ad n s)(hf:AB (λq=>q=R) W X)(hn:∀j s,¬X.cell? ⟨R,j,none⟩=some (.s s))(hh:hi<=W.1.size):Ax W lo hi ad n s:=λi hi'=>by obtain⟨b,off,e1,e2,e3,e4⟩:=h i hi';refine⟨b,off,e1,e2,e3,?_⟩;have hne:¬b=R:=λe=>hn _ _ (e▸e4);exact(hf.cell (p:=⟨b,off+i,none⟩) (by show b<W.1.size;omega) hne).symm.trans e4
theorem Xi{W X:World}{R lo hi n:Nat}{ad:OA}{s:Nat->ByteArray}(h:Ax W lo hi ad n s)(hf:AB (λq=>q=R) W X)(hn:∀j s,¬W.cell? ⟨R,j,none⟩=some (.s s))(hh:hi<=W.1.size):Ax X lo hi ad n s:=λi hi'=>by obtain⟨b,off,e1,e2,e3,e4⟩:=h i hi';refine⟨b,off,e1,e2,e3,?_⟩;have hne:¬b=R:=λe=>hn _ _ (e▸e4);exact(hf.cell (p:=⟨b,off+i,none⟩) (by show b<W.1.size;omega) hne).trans e4
def oc (o:Ob)(ah:OA)(ch:Nat):List Value:=(iX o ah ch)
structure ZE (W:World)(R:Nat)(ad:OA)(nn cap p M O:Nat)(o:Ob)(ah:OA)(ch:Nat)(v:Wr)(X:World):Prop where
 l:ZF W R ad nn cap p M v X
 o:AM X O 7 (A7 (oc o ah ch))ne:¬O=M
 O0:W.1.size<=O
theorem ZE.pick{w X Y:World}{R:Nat}{ad:OA}{nn cap p p' M O:Nat}{o:Ob}{ah:OA}{ch:Nat}{v:Wr}(h:ZE w R ad nn cap p M O o ah ch v X)(hf:AB (λq=>q=R) X Y)(hr:Rd Y R ad nn cap p')(hR:R<w.1.size):ZE w R ad nn cap p' M O o ah ch v Y:=⟨h.l.pick hf hr hR,h.o.fr2 hf (by have:=h.O0;omega),h.ne,h.O0⟩
theorem ZE.set{w X:World}{R:Nat}{ad:OA}{nn cap p p0 M O:Nat}{x:Ob}{ah:OA}{ch:Nat}{v:Wr}(h:ZE w R ad nn cap p M O x ah ch v X)(h0:Rd w R ad nn cap p0){o:Nat}(ho:o<6)(u:Value)(v':Wr)(hi:OE v')(e:∀j,j<6->Jm (A7 (wv v)) o u j=A7 (wv v') j):ZE w R ad nn cap p M O x ah ch v' (X.setCell ⟨M,o,none⟩ u):=⟨h.l.set (AD ⟨_,h0⟩) ho u v' hi e,h.o.fr ((AB.refl (λq=>q=M) X).setCell (p:=⟨M,o,none⟩) rfl u) h.ne,h.ne,h.O0⟩
theorem ZE.cells{w X:World}{R:Nat}{ad:OA}{nn cap p M O:Nat}{o:Ob}{ah:OA}{ch:Nat}{v:Wr}(h:ZE w R ad nn cap p M O o ah ch v X):X.cell? ⟨O,0,none⟩=some (.s o.kind)/\X.cell? ⟨O,1,none⟩=some (.s o.name)/\X.cell? ⟨O,2,none⟩=some (.i o.ver)/\X.cell? ⟨O,6,none⟩=some (.slice ah o.hn ch)/\O<X.1.size:=⟨h.o.cell 0 Za,h.o.cell 1 Za,h.o.cell 2 Za,h.o.cell 6 Za,h.o.lt⟩
def C3 (W:World)(R:Nat)(ad:OA)(nn cap p k M O:Nat)(o:Ob)(ah:OA)(ch:Nat)(X:World):Prop:=∃v p',p<=p'/\p'<=p+k/\ZE W R ad nn cap p' M O o ah ch v X
theorem S1{v:Wr}{o:Nat}{u:Value}{v':Wr}(h0:(if 0=o then u else .i v.op)=.i v'.op:=by rfl)(h1:(if 1=o then u else .s v.kind)=.s v'.kind:=by rfl)(h2:(if 2=o then u else .s v.name)=.s v'.name:=by rfl)(h3:(if 3=o then u else .i v.seen)=.i v'.seen:=by rfl)(h4:(if 4=o then u else .s v.text)=.s v'.text:=by rfl)(h5:(if 5=o then u else .s v.hold)=.s v'.hold:=by rfl):∀j,j<6->Jm (A7 (wv v)) o u j=A7 (wv v') j:=λj hj=>by
 rcases(show j=0\/j=1\/j=2\/j=3\/j=4\/j=5 by omega)with rfl|rfl|rfl|rfl|rfl|rfl;.exact h0
 .exact h1
 .exact h2
 .exact h3
 .exact h4
 .exact h5
theorem n8{w:World}{g:Nat}{c:Nat->Value}(h:AM w g 6 c)(a0 a1 a2 a3 a4 a5:Value):AM ((((((w.setCell ⟨g,0,none⟩ a0).setCell ⟨g,1,none⟩ a1).setCell ⟨g,2,none⟩ a2).setCell ⟨g,3,none⟩ a3).setCell ⟨g,4,none⟩ a4).setCell ⟨g,5,none⟩ a5) g 6 (A7 [a0,a1,a2,a3,a4,a5]):=((((((h.set Za a0).set Za a1).set Za a2).set Za a3).set Za a4).set Za a5).congr (λj hj=>by rcases(show j=0\/j=1\/j=2\/j=3\/j=4\/j=5 by omega)with rfl|rfl|rfl|rfl|rfl|rfl<;>rfl)
theorem Vf{w w3:World}{R y:Nat}(hf:AB (λq=>q=R) (w.alloc (.cells #[.s ⟨#[104]⟩,.s ⟨#[104,50]⟩,.s ⟨#[107,101,101,112,101,114]⟩,.s ⟨#[97]⟩,.s ⟨#[98]⟩,.s ⟨#[99]⟩] 9)) w3)(hR:¬w.1.size=R)(hy:(y:Int)<6):∃s:ByteArray,(s.size:Int)<=140737488355328/\w3.cell? ⟨w.1.size,y,none⟩=some (.s s):=by have e:=hf.cell (p:=⟨w.1.size,y,none⟩) Zc hR;have n:(w.alloc (.cells #[.s ⟨#[104]⟩,.s ⟨#[104,50]⟩,.s ⟨#[107,101,101,112,101,114]⟩,.s ⟨#[97]⟩,.s ⟨#[98]⟩,.s ⟨#[99]⟩] 9)).cell? ⟨w.1.size,y,none⟩=_:=Ao w #[.s ⟨#[104]⟩,.s ⟨#[104,50]⟩,.s ⟨#[107,101,101,112,101,114]⟩,.s ⟨#[97]⟩,.s ⟨#[98]⟩,.s ⟨#[99]⟩] 9 y;rw[e,n];rcases(show y=0\/y=1\/y=2\/y=3\/y=4\/y=5 by omega)with rfl|rfl|rfl|rfl|rfl|rfl;all_goals exact⟨_,Za,rfl⟩
theorem dM{x:Int}(h:(Lit.int .i64 x).wf=true):x<=9223372036854775807:=by simp[Lit.wf]at h;omega
theorem dS:((⟨#[]⟩:ByteArray).size:Int)<=140737488355328:=Za
theorem lC{s:ByteArray}(h:s∈QH):(s.size:Int)<=140737488355328:=by simp only[QH,CD,List.not_mem_nil,or_false]at h;rcases h with rfl|rfl|rfl<;>decide
theorem lM{s:ByteArray}(h:s∈Qw):(s.size:Int)<=140737488355328:=by simp only[Qw,CD,List.not_mem_nil,or_false]at h;rcases h with rfl|rfl|rfl|rfl<;>decide
theorem Kw (B:Bk)(R:Nat)(ad:OA)(nn cap p:Nat)(a1 a2 a3:OA)(c1 c2 c3:Nat)(w:World)(hr:Rd w R ad nn cap p)(hp:p<=800000)(hf:Dm B)(hon:B.on<=100)(hh:∀i,i<B.on->(B.os i).hn<=100)(hc:B7 w 0 w.1.size B a1 a2 a3):Calls prog 13 #[.p R 0,.agg (vB B a1 a2 a3 c1 c2 c3)] w λe w'=>rF R ad nn cap p w e w':=by
 have HB:=Ag (aP w B R ad nn cap p a1 a2 a3 c1 c2 c3 hr hc);have HF:=Ag hf;have HH:=Ag hh;have hRw:=hr.lt;have HR:=Ag hr;clear hr hc hf hh;go_enter func13,ntmps13;go_wp2_with fail;generalize(w.alloc (.cells (vB B a1 a2 a3 c1 c2 c3) 27)).alloc (.cells #[.i 0,.s ⟨#[]⟩,.s ⟨#[]⟩,.i 0,.s ⟨#[]⟩,.s ⟨#[]⟩] 36)=W at HB⊢;have hzW:=HB.z;refine eK (λ_=>undef) R ad nn cap p W HB.r Zb rfl _ ?_;intro t M k s1 s2 pz X ht hM hk h1 h2 hrow hfr hp1 hp2 hrd;rw[ht];have HL:=Ag (show C2 W R ad nn cap p 15 M X from⟨⟨1+(k:Int),s1,s2,0,⟨#[]⟩,⟨#[]⟩⟩,pz,hp1,hp2,hrow,hfr,hrd,hM,⟨⟨lC h1,lM h2,dS,dS⟩,by show(1:Int)<=1+k;omega,by show(1:Int)+k<=5;omega,by show(0:Int)<=_;omega⟩⟩);clear hrow hfr hrd ht h1 h2 hk;go_upto_region 2 with fail;go_cut[34](λc wx=>∃b:Bool,c=.bool b/\(b=true->0<B.on)/\C2 W R ad nn cap p 16 M wx);case first=>
  --<r2
  obtain⟨v,q,hq1,hq2,hL⟩:=HL.out;clear HL;obtain⟨r0,r1,r2,r3,r4,r5,rf,rl⟩:=hL.cells;have hS:=hL.f.cell (p:=⟨w.1.size,2,none⟩) (by show w.1.size<W.1.size;omega) (show¬w.1.size=R by omega);rw[show W.cell? ⟨w.1.size,2,none⟩=some (.slice a1 B.on c1)from HB.s.cell 2 Za]at hS;have HL:=Ag hL;clear hL r1 r2 r3 r4 r5 rf;go_wp2_with (go_at_call 12;go_must(refine(BV R ad nn cap _ 6 _ HL.r Zb Za Za).mono ?_;rintro e w3 ⟨y,rfl,_,hy,hf3,hr3⟩));all_goals go_meet
  case rel=>exact⟨_,rfl,λh=>KW,v,q,hq1,Zb,HL⟩
  case rel=>exact⟨_,rfl,λ_=>Zb,v,q+1,Zb,Zb,HL.pick hf3 hr3 Zb⟩
  case rel=>exact⟨_,rfl,λh=>KW,v,q,hq1,Zb,HL⟩
  --r2>
 case rest=>
  obtain⟨b,rfl,hb0,hL⟩:=hcut;have HL':=Ag hL;clear hL HL;go_upto_if 34 with fail;go_cut[](λwx=>C2 W R ad nn cap p 45 M wx);case first=>obtain⟨v,q,hq1,hq2,hL⟩:=HL'.out;cases b with
   |false=>go_wp2_with fail;go_meet;case rel=>exact⟨v,q,hq1,Zb,hL⟩
   |true=>
    --<ob
    have hb1:=hb0 rfl;clear hb0;go_wp2_with fail;have HL:=Ag hL;have hMW:=hL.M0;clear hL HL';have hcS:=HL.f.cell (p:=⟨w.1.size,2,none⟩) (by show w.1.size<W.1.size;omega) (show¬w.1.size=R by omega);rw[show W.cell? ⟨w.1.size,2,none⟩=some (.slice a1 B.on c1)from HB.s.cell 2 Za]at hcS;have hzX:=HL.f.size;refine fV (A7 [_,_,_,_,_,_,_,_,_,_]) R ad nn cap q w.1.size w.1.size B a1 c1 _ HL.r Zb Zb Zb hcS (HB.i.box HL.f HB.r.ns Zb).o Zb hb1 hon rfl _ ?_;intro t O k ah ch q2 X2 ht hO hk hs hrow hfr hp3 hp4 hrd;rw[ht];have hSW:=Vk hs HL.f HL.r.ns Zb;have hMX:=HL.m.lt;have HT:=Ag (show ZE W R ad nn cap q2 M O (B.os k) ah ch v X2 from⟨HL.pick hfr hrd Zb,hrow,Zb,Zb⟩);have hfo:=HF.os k hk;have hhn:=HH k hk;have pZ:=Ag hSW;have RY:=Ag hfo;clear hs hrow hfr hrd ht hcS HL hSW hfo;obtain⟨o0,o1,o2,o6,ol⟩:=HT.cells;obtain⟨r0,r1,r2,r3,r4,r5,rf,rl⟩:=HT.l.cells;have rf1:=rf 1;have rf2:=rf 2;clear rf o2 o6 r3 r4 r5 r0;have hneOM:=HT.ne;have l9:=Ag ((HT.set HB.r (o:=1) Za (.s (B.os k).kind) {v with kind:=(B.os k).kind} ⟨⟨RY.k,HT.l.i.fit.n,HT.l.i.fit.t,HT.l.i.fit.h⟩,HT.l.i.o1,HT.l.i.o5,HT.l.i.s1⟩ (S1)).set HB.r (o:=2) Za (.s (B.os k).name) {v with kind:=(B.os k).kind,name:=(B.os k).name} ⟨⟨RY.k,RY.n,HT.l.i.fit.t,HT.l.i.fit.h⟩,HT.l.i.o1,HT.l.i.o5,HT.l.i.s1⟩ (S1));clear HT;go_upto_region 6 with fail;generalize(X2.setCell ⟨M,1,none⟩ (.s (B.os k).kind)).setCell ⟨M,2,none⟩ (.s (B.os k).name)=X3 at l9⊢;clear o0 o1 r1 r2 rf1 rf2 ol rl hneOM;go_upto_block 0 with(go_at_call 12;go_must(refine(BV R ad nn cap _ 5 _ l9.l.r Zb Za Za).mono ?_;rintro e w3 ⟨y,rfl,_,hy,hf3,hr3⟩));have VT:=Ag (l9.pick hf3 hr3 Zb);clear l9 hf3 hr3;go_cut[](λwx=>C3 W R ad nn cap p 30 M O (B.os k) ah ch wx);case first=>
     obtain⟨r0,r1,r2,r3,r4,r5,rf,rl⟩:=VT.l.cells;obtain⟨o0,o1,o2,o6,ol⟩:=VT.cells;have rf3:=rf 3;clear rf r0 r1 r2 r4 r5 o0 o1 o6;go_wp2_with (go_at_call 12;go_must(refine(BV R ad nn cap _ 20 _ VT.l.r Zb Za Za).mono ?_;rintro e w4 ⟨y4,rfl,_,hy4,hf4,hr4⟩;have VQ:=Ag (VT.pick hf4 hr4 Zb);have r34:=VQ.l.cells.2.2.2.1;have rf34:=VQ.l.m.free 3;have hy4':=hy4 Za));all_goals go_meet
     case rel=>exact⟨_,_,Zb,Zb,VT⟩
     case rel=>exact⟨_,_,Zb,Zb,VQ.set HB.r (o:=3) Za _ {v with kind:=(B.os k).kind,name:=(B.os k).name,seen:=1+(y4:Int)} ⟨⟨RY.k,RY.n,VQ.l.i.fit.t,VQ.l.i.fit.h⟩,VQ.l.i.o1,VQ.l.i.o5,by show 1+(y4:Int)<=_;omega⟩ (S1)⟩
     case rel=>exact⟨_,_,Zb,Zb,VT.set HB.r (o:=3) Za _ {v with kind:=(B.os k).kind,name:=(B.os k).name,seen:=(B.os k).ver} ⟨⟨RY.k,RY.n,VT.l.i.fit.t,VT.l.i.fit.h⟩,VT.l.i.o1,VT.l.i.o5,dM RY.v⟩ (S1)⟩
    case rest=>
     have VQ:=Ag hcut;clear hcut VT;go_upto_region 11 with fail;go_cut[76](λc wx=>∃b:Bool,c=.bool b/\(b=true->0<(B.os k).hn)/\C3 W R ad nn cap p 31 M O (B.os k) ah ch wx);case first=>
      obtain⟨v4,q4,hq41,hq42,hT⟩:=VQ.out;have M3:=Ag hT;obtain⟨r0,r1,r2,r3,r4,r5,rf,rl⟩:=hT.l.cells;obtain⟨o0,o1,o2,o6,ol⟩:=hT.cells;clear hT rf r1 r2 r3 r4 r5 o0 o1 o2 VQ;go_wp2_with (go_at_call 12;go_must(refine(BV R ad nn cap _ 4 _ M3.l.r Zb Za Za).mono ?_;rintro e w3 ⟨y,rfl,_,hy,hf3,hr3⟩));all_goals go_meet
      case rel=>exact⟨_,rfl,λ_=>Zb,v4,q4+1,Zb,Zb,M3.pick hf3 hr3 Zb⟩
      case rel=>exact⟨_,rfl,λh=>KW,v4,q4,Zb,Zb,M3⟩
      case rel=>exact⟨_,rfl,λh=>KW,v4,q4,Zb,Zb,M3⟩
     case rest=>obtain⟨b,rfl,hb0,hT⟩:=hcut;obtain⟨v5,q5,hq51,hq52,hT⟩:=hT;have M3:=Ag hT;clear hT VQ;cases b with
      |false=>go_wp2_with fail;go_meet;case rel=>exact⟨v5,q5,Zb,Zb,M3.l⟩
      |true=>have hb2:=hb0 rfl;clear hb0;go_wp2_with fail;have hO0:=M3.O0;have hM0:=M3.l.M0;have hzX5:=M3.l.f.size;refine aA (A7 [_,_,_,_,_,_,_,_,_,_]) R ad nn cap q5 O M w.1.size ah (B.os k).hn ch (B.os k).hs _ M3.l.r Zb M3.o.lt Zb (M3.o.cell 6 Za) M3.l.m.lt Zb _ (M3.l.m.cell 5 Za) (M3.l.m.free 5) (Xi pZ M3.l.f HB.r.ns Zb) Zb hb2 hhn rfl _ ?_;intro t j q6 X6 hj hf6 hp6 hp7 hr6;go_wp2_with fail;go_meet;case rel=>exact⟨_,q6,Zb,Zb,((M3.pick hf6 hr6 Zb).set HB.r (o:=5) Za _ {v5 with hold:=(B.os k).hs j} ⟨⟨M3.l.i.fit.k,M3.l.i.fit.n,M3.l.i.fit.t,RY.s j hj⟩,M3.l.i.o1,M3.l.i.o5,M3.l.i.s1⟩ (S1)).l⟩
    --ob>
  case rest=>
   have HM:=Ag hcut;clear hcut HL';go_upto_region 13 with fail;go_cut[94](λc wx=>∃b:Bool,c=.bool b/\C2 W R ad nn cap p 45 M wx);case first=>
    obtain⟨v,q,hq1,hq2,hL⟩:=HM.out;obtain⟨r0,r1,r2,r3,r4,r5,rf,rl⟩:=hL.cells;have HL:=Ag hL;clear hL HM r1 r2 r3 r4 r5 rf;go_wp2_with fail;all_goals go_meet
    all_goals exact⟨_,rfl,v,q,Zb,Zb,HL⟩
   case rest=>
    obtain⟨b,rfl,hL⟩:=hcut;have KU:=Ag hL;clear hL HM;go_upto_if 94 with fail;go_cut[](λwx=>C2 W R ad nn cap p 50 M wx);case first=>obtain⟨v,q,hq1,hq2,hL⟩:=KU.out;have HL:=Ag hL;clear hL KU;cases b with
     |false=>go_wp2_with fail;go_meet;case rel=>exact⟨v,q,Zb,Zb,HL⟩
     |true=>obtain⟨r0,r1,r2,r3,r4,r5,rf,rl⟩:=HL.cells;clear r0 r1 r2 r3 r4 r5 rf rl;go_wp2_with (go_at_call 39;go_must(refine(XI R ad nn cap _ _ HL.r Zb).mono ?_;rintro e w3 ⟨s,rfl,hs3,hf3,q3,hq31,hq32,hr3⟩;have G0:=Ag (HL.pick hf3 hr3 Zb);have r43:=G0.cells.2.2.2.2.1;have rf43:=G0.m.free 4));go_meet;case rel=>exact⟨_,q3,Zb,Zb,G0.set (AD ⟨_,HB.r⟩) (o:=4) Za _ {v with text:=s} ⟨⟨HL.i.fit.k,HL.i.fit.n,by show(s.size:Int)<=_;omega,HL.i.fit.h⟩,HL.i.o1,HL.i.o5,HL.i.s1⟩ (S1)⟩
    case rest=>
     have iR:=Ag hcut;clear hcut KU;go_upto_region 15 with fail;go_cut[120](λc wx=>∃b:Bool,c=.bool b/\C2 W R ad nn cap p 52 M wx);case first=>
      --<r15
      obtain⟨v,q,hq1,hq2,hL⟩:=iR.out;obtain⟨r0,r1,r2,r3,r4,r5,rf,rl⟩:=hL.cells;have HL:=Ag hL;clear hL iR r1 r2 r3 r4 rf;go_wp2_with (go_at_call 12;go_must(refine(BV R ad nn cap _ 3 _ HL.r Zb Za Za).mono ?_;rintro e w3 ⟨y,rfl,_,hy,hf3,hr3⟩));all_goals go_meet
      all_goals first|exact⟨_,rfl,v,q,Zb,Zb,HL⟩|exact⟨_,rfl,v,q+1,Zb,Zb,HL.pick hf3 hr3 Zb⟩
      --r15>
     case rest=>
      obtain⟨b,rfl,hL⟩:=hcut;have Uv:=Ag hL;clear hL iR;go_upto_if 120 with fail;go_cut[](λwx=>C2 W R ad nn cap p 55 M wx);case first=>obtain⟨v,q,hq1,hq2,hL⟩:=Uv.out;have HL:=Ag hL;clear hL Uv;cases b with
       |false=>go_wp2_with fail;go_meet;case rel=>exact⟨v,q,Zb,Zb,HL⟩
       |true=>have hMl:=HL.m.lt;have hzc:=HL.f.size;have hxb:∀o,Below wc.1.size wc (wc.alloc o):=λo=>An _ _;have iN:=Ag hxb;clear hxb;go_wp2_with (go_at_call 12;go_must(refine(BV R ad nn cap q 6 _ (HL.r.below (iN _)) Zb Za Za).mono ?_;rintro e w3 ⟨y,rfl,_,hy,hf3,hr3⟩;have hy6:=hy Za;have G0:=Ag (HL.pick ((Ap (iN _)).trans hf3) hr3 Zb);obtain⟨s,hs1,hs2⟩:=Vf hf3 Zb hy6;have r53:=G0.cells.2.2.2.2.2.1;have rf53:=G0.m.free 5));go_meet;case rel=>exact⟨_,q+1,Zb,Zb,G0.set (AD ⟨_,HB.r⟩) (o:=5) Za _ {v with hold:=s} ⟨⟨HL.i.fit.k,HL.i.fit.n,HL.i.fit.t,hs1⟩,HL.i.o1,HL.i.o5,HL.i.s1⟩ (S1)⟩
        --r16>
      case rest=>obtain⟨v,q,hq1,hq2,hL⟩:=hcut;obtain⟨r0,r1,r2,r3,r4,r5,rf,rl⟩:=hL.cells;have ha:=hL.f.block;have A:=HB.a.fr2 hL.f Zb;have A0:=A.cell 0 Za;have A1:=A.cell 1 Za;have A2:=A.cell 2 Za;have A3:=A.cell 3 Za;have A4:=A.cell 4 Za;have A5:=A.cell 5 Za;have AF:=A.free;have AL:=A.lt;simp only[A7,Ae,Af]at A0 A1 A2 A3 A4 A5;have HL:=Ag hL;clear hL Uv ha;have HA:=Ag A;clear A;go_wp2_with fail;have Z:=n8 HA (.i v.op) (.s v.kind) (.s v.name) (.i v.seen) (.s v.text) (.s v.hold);have z0:=Z.cell 0 Za;have z1:=Z.cell 1 Za;have z2:=Z.cell 2 Za;have z3:=Z.cell 3 Za;have z4:=Z.cell 4 Za;have z5:=Z.cell 5 Za;simp only[A7,Ae,Af]at z0 z1 z2 z3 z4 z5;refine bodyPost_ret (v:=.agg (vW v)) (by simp[results,results13,go_sem,z0,z1,z2,z3,z4,z5]) rfl ⟨v,rfl,HL.i,((Ap HB.b).trans HL.f).far6 Zb _ _ _ _ _ _,q,Zb,Zb,HR.far6 HL.r Zb _ _ _ _ _ _⟩
       --fin>
end Go.Proofs.YtofencldleijcaaGreat
