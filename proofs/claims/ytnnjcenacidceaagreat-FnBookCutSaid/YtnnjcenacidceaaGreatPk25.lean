import Derived.Test.YtnnjcenacidceaaGreatPk17
import Derived.Test.YtnnjcenacidceaaGreatPk24
import Derived.Test.YtnnjcenacidceaaGreatPk12
import Derived.Deep.DeepCutAuto
import Derived.Deep.CutBlock
import Derived.Deep.Light
set_option maxRecDepth 100000
set_option maxHeartbeats 4000000
namespace Go.Proofs.YtnnjcenacidceaaGreat
open Go.RowKit Go.Proofs.Tryz
theorem Ay.far7{R:Nat}{W X:World}(h:Ay (λq=>q=R) W X){z:Nat}(hz:W.1.size<=z)(a b c d e f g:Value):Ay (λq=>q=R) W (((((((X.setCell ⟨z,0,none⟩ a).setCell ⟨z,1,none⟩ b).setCell ⟨z,2,none⟩ c).setCell ⟨z,3,none⟩ d).setCell ⟨z,4,none⟩ e).setCell ⟨z,5,none⟩ f).setCell ⟨z,6,none⟩ g):=(h.far6 hz a b c d e f).far hz _ _
theorem Rd.far7{W X:World}{R:Nat}{ad:OA}{n cap p p':Nat}(hW:Rd W R ad n cap p)(hX:Rd X R ad n cap p'){z:Nat}(hz:W.1.size<=z)(a b c d e f g:Value):Rd (((((((X.setCell ⟨z,0,none⟩ a).setCell ⟨z,1,none⟩ b).setCell ⟨z,2,none⟩ c).setCell ⟨z,3,none⟩ d).setCell ⟨z,4,none⟩ e).setCell ⟨z,5,none⟩ f).setCell ⟨z,6,none⟩ g) R ad n cap p':=hW.far (hW.far6 hX hz a b c d e f) hz _ _
def lO (R:Nat)(S hi:Nat)(B:Bk)(a1:OA)(c1:Nat)(W:World)(i:Nat)(v:Value)(X:World):Prop:=match i with
 |0=>v=.p S 2
 |1=>v=.l a1 B.on c1
 |2=>v=.p R 0
 |3=>v=.p S 2
 |4=>v=.l a1 B.on c1
 |5=>v=.i (B.on:Nat)
 |6=>∃k:Nat,k<B.on/\v=.i k
 |7=>∃k b off:Nat,k<B.on/\a1=some ⟨b,off,none⟩/\v=.pointer (some ⟨b,off+k*7,none⟩)
 |8=>∃(k:Nat)(ah:OA)(ch:Nat),k<B.on/\v=.agg (vO (B.os k) ah ch)/\AD W 0 hi ah (B.os k).hn (B.os k).hs
 |9=>∃z:Nat,v=.p z 0/\W.1.size<=z/\AN X z 7 (AW [.s ⟨#[]⟩,.s ⟨#[]⟩,.i 0,.i 0,.s ⟨#[]⟩,.bool false,.l none 0 0])
 |_=>True
theorem NS{P:Prop}(h:P:=by refine Ah rfl rfl ?_;clear hK hg;go_simp;simpa[AA]using h):P:=h
theorem bI{P:Prop}(h:P:=by rintro r Y ⟨v,rfl,_,hv,hf,hr2⟩;have h:=HK (.i v) Y (p'+1) Za AQ ⟨v,by have:=hv Za;omega,rfl⟩ hf hr2;simpa[AA,e2,e5]using h):P:=h
theorem oW{p1 p2 p4 p5 p7 p8 p9 D8 D9 Ea DZ Dl Di Dg Dh De Db Dk Da Df Dc DH Du Ds DA Dw DG DD DE DF DI DJ Es Et DC D2 D1 DO DN Ej Eg Ei Ek D5 D4 Eb Eh D7 EK EL EH EJ EI EA Ez D0 FP FJ FO FN FK FH FL FI FM He Hg Hc FC Fz GA GZ Ge Ib Le KT KQ KP KR KS Hd Hf KN KJ KL KM KI K5 Cx Cy Cr Ck Cn Cl Cm Cq Cs CU CR CQ CS CE CF CG CI CO CN CZ CY CW DX DP DV Dq DB Dz:Value}{mk:(Nat->Value)->Array Value}(t0:Nat->Value)(R:Nat)(ad:OA)(nn cap p:Nat)(S hi:Nat)(B:Bk)(a1:OA)(c1:Nat)(W:World)(hr:Rd W R ad nn cap p)(hp:p<=900000)(hS:S<W.1.size)(hSR:¬S=R)(hcS:W.cell? ⟨S,2,none⟩=some (.slice a1 B.on c1))(ho:BS W 0 hi a1 B.on B.os)(hhi:hi<=W.1.size)(hn0:0<B.on)(hn1:B.on<=100)(hmk:mk=λt=>#[.p R 0,p1,p2,.p S 0,p4,p5,t 9,p7,p8,p9,D8,D9,Ea,DZ,Dl,Di,Dg,Dh,De,Db,Dk,Da,Df,Dc,DH,Du,Ds,DA,Dw,DG,DD,DE,DF,DI,DJ,t 0,t 1,t 2,t 3,t 4,t 5,t 6,t 7,t 8,Es,Et,DC,D2,D1,DO,DN,Ej,Eg,Ei,Ek,D5,D4,Eb,Eh,D7,EK,EL,EH,EJ,EI,EA,Ez,D0,FP,FJ,FO,FN,FK,FH,FL,FI,FM,He,Hg,Hc,FC,Fz,GA,GZ,Ge,Ib,Le,KT,KQ,KP,KR,KS,Hd,Hf,KN,KJ,KL,KM,KI,K5,Cx,Cy,Cr,Ck,Cn,Cl,Cm,Cq,Cs,CU,CR,CQ,CS,CE,CF,CG,CI,CO,CN,CZ,CY,CW,DX,DP,DV,Dq,DB,Dz])(Q:Exit->Act->World->Prop)(hQ:∀(t:Nat->Value)(z k:Nat)(ah:OA)(ch:Nat)(pz:Nat) X,t 9=.p z 0->W.1.size<=z->k<B.on->AD W 0 hi ah (B.os k).hn (B.os k).hs->AN X z 7 (AW (nQ (B.os k) ah ch))->Ay (λq=>q=R) W X->p<=pz->pz<=p+10->Rd X R ad nn cap pz->Q .normal ⟨mk t,[]⟩ X):Code.wp prog (rg Tryz.f76 3) Q ⟨mk t0,[]⟩ W:=by
 have hRW:=hr.lt;refine QY Ze 10 mk t0 R ad nn cap p (lO R S hi B a1 c1 W) (λa X=>∃(t:Nat->Value)(z k:Nat)(ah:OA)(ch:Nat)(pz:Nat),a=⟨mk t,[]⟩/\t 9=.p z 0/\W.1.size<=z/\k<B.on/\AD W 0 hi ah (B.os k).hn (B.os k).hs/\AN X z 7 (AW (nQ (B.os k) ah ch))/\Ay (λq=>q=R) W X/\p<=pz/\pz<=p+10/\Rd X R ad nn cap pz) Ze Ze Ze ?_ rfl hr ?_ ?_ ?_;all_goals subst hmk
 .intro i v X Y hi h hF hR hX;rcases(show i=0\/i=1\/i=2\/i=3\/i=4\/i=5\/i=6\/i=7\/i=8\/i=9 by omega)with rfl|rfl|rfl|rfl|rfl|rfl|rfl|rfl|rfl|rfl;.exact h
  .exact h
  .exact h
  .exact h
  .exact h
  .exact h
  .exact h
  .exact h
  .exact h
  .obtain⟨z,e,a1,a2⟩:=h;exact⟨z,e,a1,a2.fr2 hF Za⟩
 .intro i hi t X K p' hb hp1 hp2 hrd hg hK;rcases(show i=0\/i=1\/i=2\/i=3\/i=4\/i=5\/i=6\/i=7\/i=8\/i=9 by omega)with rfl|rfl|rfl|rfl|rfl|rfl|rfl|rfl|rfl|rfl;.have h:=hK (.p S 2) X p' AQ Za rfl (Ay.refl _ _) hrd;exact NS
  .have e0:t 0=_:=hg 0 (AZ rfl);have cS:=(hb.cell (p:=⟨S,2,none⟩) hS hSR).trans hcS;have h:=hK (.l a1 B.on c1) X p' AQ Za rfl (Ay.refl _ _) hrd;refine Ah rfl rfl ?_;clear hK hg;go_simp;simpa[AA,e0]using h
  .have h:=hK (.p R 0) X p' AQ Za rfl (Ay.refl _ _) hrd;exact NS
  .have h:=hK (.p S 2) X p' AQ Za rfl (Ay.refl _ _) hrd;exact NS
  .have e3:t 3=_:=hg 3 (AZ rfl);have cS:=(hb.cell (p:=⟨S,2,none⟩) hS hSR).trans hcS;have h:=hK (.l a1 B.on c1) X p' AQ Za rfl (Ay.refl _ _) hrd;refine Ah rfl rfl ?_;clear hK hg;go_simp;simpa[AA,e3]using h
  .have e4:t 4=_:=hg 4 (AZ rfl);have h:=hK (.i (B.on:Nat)) X p' AQ Za rfl (Ay.refl _ _) hrd;refine Ah rfl rfl ?_;clear hK hg;go_simp;simpa[AA,e4]using h
  .have e2:t 2=_:=hg 2 (AZ rfl);have e5:t 5=_:=hg 5 (AZ rfl);refine Ah rfl rfl ?_;have HK:=Aj hK;have HR:=Aj hrd;clear hK hg hrd;go_simp;go_at_call 15;refine(Bj R ad nn cap p' (B.on:Nat) X HR Za Za Za).mono ?_;exact bI
  .have e1:t 1=_:=hg 1 (AZ rfl);obtain⟨k,hk,e6⟩:∃k:Nat,k<B.on/\t 6=.i k:=hg 6 (AZ rfl);obtain⟨b,off,ah,ch,ea,_,_,_,_⟩:=ho k hk;rw[ea]at e1;have h:=hK (.pointer (some ⟨b,off+k*7,none⟩)) X p' AQ Za ⟨k,b,off,hk,ea,rfl⟩ (Ay.refl _ _) hrd;refine Ah rfl rfl ?_;clear hK hg;go_simp;simpa[AA,e1,e6]using h
  .obtain⟨k,b,off,hk,ea,e7⟩:∃k b off:Nat,k<B.on/\a1=some ⟨b,off,none⟩/\t 7=.pointer (some ⟨b,off+k*7,none⟩):=hg 7 (AZ rfl);obtain⟨b',off',ah,ch,ea',_,hb3,hc,hst⟩:=ho k hk;rw[ea]at ea';obtain⟨rfl,rfl⟩:b=b'/\off=off':=by simpa using ea'
   have hne:¬b=R:=OZ hr.ns hc.c0;have cc:∀j,X.cell? ⟨b,j,none⟩=W.cell? ⟨b,j,none⟩:=λj=>hb.cell (p:=⟨b,j,none⟩) (by show b<W.1.size;omega) hne;have q0:=(cc _).trans hc.c0;have q1:=(cc _).trans hc.c1;have q2:=(cc _).trans hc.c2;have q3:=(cc _).trans hc.c3;have q4:=(cc _).trans hc.c4;have q5:=(cc _).trans hc.c5;have q6:=(cc _).trans hc.c6;have h:=hK (.agg (vO (B.os k) ah ch)) X p' AQ Za ⟨k,ah,ch,hk,rfl,hst⟩ (Ay.refl _ _) hrd;refine Ah rfl rfl ?_;clear hK hg hc cc;go_simp;simpa[AA,e7]using h
  .have h:=hK (.p (X.1.size) 0) (X.alloc (.cells #[.s ⟨#[]⟩,.s ⟨#[]⟩,.i 0,.i 0,.s ⟨#[]⟩,.bool false,.l none 0 0] 51)) p' AQ Za ⟨X.1.size,rfl,hb.size,AN.new (l:=[.s ⟨#[]⟩,.s ⟨#[]⟩,.i 0,.i 0,.s ⟨#[]⟩,.bool false,.l none 0 0]) (t:=51) Ci⟩ (Ar ET) (hrd.below ET);exact NS
 .intro t X K p' hb hp1 hp2 hrd hg hK;obtain⟨k,ah,ch,hk,e8,hst⟩:∃(k:Nat)(ah:OA)(ch:Nat),k<B.on/\t 8=.agg (vO (B.os k) ah ch)/\AD W 0 hi ah (B.os k).hn (B.os k).hs:=hg 8 Za;obtain⟨z,e9,hz,hrow⟩:∃z:Nat,t 9=.p z 0/\W.1.size<=z/\AN X z 7 (AW [.s ⟨#[]⟩,.s ⟨#[]⟩,.i 0,.i 0,.s ⟨#[]⟩,.bool false,.l none 0 0]):=hg 9 Za;have rf:=hrow.free;have rl:=hrow.lt;obtain⟨r0,r1,r2,r3,r4,r5,r6⟩:=tW hrow;have R6:=(((((((hrow.set (o:=0) Za (.s (B.os k).kind)).set (o:=1) Za (.s (B.os k).name)).set (o:=2) Za (.i (B.os k).ver)).set (o:=3) Za (.i (B.os k).born)).set (o:=4) Za (.s (B.os k).text)).set (o:=5) Za (.bool (B.os k).ending)).set (o:=6) Za (.l ah (B.os k).hn ch));have F6:=hb.far7 (z:=z) hz (.s (B.os k).kind) (.s (B.os k).name) (.i (B.os k).ver) (.i (B.os k).born) (.s (B.os k).text) (.bool (B.os k).ending) (.l ah (B.os k).hn ch);have D6:=hr.far7 hrd (z:=z) hz (.s (B.os k).kind) (.s (B.os k).name) (.i (B.os k).ver) (.i (B.os k).born) (.s (B.os k).text) (.bool (B.os k).ending) (.l ah (B.os k).hn ch);have h:=hK _ _ ⟨t,z,k,ah,ch,p',rfl,e9,hz,hk,hst,⟨R6.lt,R6.free,λj hj=>by rw[R6.cell j hj];rcases(show j=0\/j=1\/j=2\/j=3\/j=4\/j=5\/j=6 by omega)with rfl|rfl|rfl|rfl|rfl|rfl|rfl<;>rfl⟩,F6,hp1,hp2,D6⟩;have HK:=Aj h;clear hK hg hrow h R6 F6 D6;refine Ah rfl rfl ?_;go_simp;simpa[e8,e9]using HK.out
 .rintro a X ⟨t,z,k,ah,ch,pz,rfl,a1,a2,a3,a4,a5,a6,a7,a8,a9⟩;exact hQ t z k ah ch pz X a1 a2 a3 a4 a5 a6 a7 a8 a9
def jH (R O M:Nat)(ah:OA)(hn ch:Nat)(hs:Nat->ByteArray)(i:Nat)(v:Value)(_X:World):Prop:=match i with
 |0=>v=.p O 6
 |1=>v=.l ah hn ch
 |2=>v=.p R 0
 |3=>v=.p O 6
 |4=>v=.l ah hn ch
 |5=>v=.i (hn:Nat)
 |6=>∃k:Nat,k<hn/\v=.i k
 |7=>∃k b off:Nat,k<hn/\ah=some ⟨b,off,none⟩/\v=.pointer (some ⟨b,off+k,none⟩)
 |8=>∃k:Nat,k<hn/\v=.s (hs k)
 |9=>v=.p M 5
 |_=>True
theorem m6{p1 p2 p3 p4 p7 p8 p9 D8 D9 Ea DZ Dl Di Dg Dh De Db Dk Da Df Dc DH Du Ds DA Dw DG DD DE DF DI DJ DU Ev EF EN Eu ED EB EE EC Es Et DC D2 D1 DO DN Ej Eg Ei Ek D5 D4 Eb Eh D7 EK EL EH EJ EI EA Ez D0 FP FJ FO FN FK FH FL FI FM KT KQ KP KR KS Hd Hf KN KJ KL KM KI K5 Cx Cy Cr Ck Cn Cl Cm Cq Cs CU CR CQ CS CE CF CG CI CO CN CZ CY CW DX DP DV Dq DB Dz:Value}{mk:(Nat->Value)->Array Value}(t0:Nat->Value)(R:Nat)(ad:OA)(nn cap p:Nat)(O M hi:Nat)(ah:OA)(hn ch:Nat)(hs:Nat->ByteArray)(W:World)(hr:Rd W R ad nn cap p)(hp:p<=900000)(hO:O<W.1.size)(hOR:¬O=R)(hcO:W.cell? ⟨O,6,none⟩=some (.slice ah hn ch))(hM:M<W.1.size)(hMR:¬M=R)(u:Value)(hcM:W.cell? ⟨M,5,none⟩=some u)(hfM:W.frozen? ⟨M,5,none⟩=false)(ho:AD W 0 hi ah hn hs)(hhi:hi<=W.1.size)(hn0:0<hn)(hn1:hn<=100)(hmk:mk=λt=>#[.p R 0,p1,p2,p3,p4,.p M 0,.p O 0,p7,p8,p9,D8,D9,Ea,DZ,Dl,Di,Dg,Dh,De,Db,Dk,Da,Df,Dc,DH,Du,Ds,DA,Dw,DG,DD,DE,DF,DI,DJ,DU,Ev,EF,EN,Eu,ED,EB,EE,EC,Es,Et,DC,D2,D1,DO,DN,Ej,Eg,Ei,Ek,D5,D4,Eb,Eh,D7,EK,EL,EH,EJ,EI,EA,Ez,D0,FP,FJ,FO,FN,FK,FH,FL,FI,FM,t 0,t 1,t 2,t 3,t 4,t 5,t 6,t 7,t 8,t 9,KT,KQ,KP,KR,KS,Hd,Hf,KN,KJ,KL,KM,KI,K5,Cx,Cy,Cr,Ck,Cn,Cl,Cm,Cq,Cs,CU,CR,CQ,CS,CE,CF,CG,CI,CO,CN,CZ,CY,CW,DX,DP,DV,Dq,DB,Dz])(Q:Exit->Act->World->Prop)(hQ:∀(t:Nat->Value)(k:Nat)(pz:Nat)(X0:World),k<hn->Ay (λq=>q=R) W X0->p<=pz->pz<=p+10->Rd X0 R ad nn cap pz->Q .normal ⟨mk t,[]⟩ (X0.setCell ⟨M,5,none⟩ (.s (hs k)))):Code.wp prog (rg Tryz.f76 12) Q ⟨mk t0,[]⟩ W:=by
 have hRW:=hr.lt;refine QY Ze 10 mk t0 R ad nn cap p (jH R O M ah hn ch hs) (λa X=>∃(t:Nat->Value)(k:Nat)(pz:Nat)(X0:World),a=⟨mk t,[]⟩/\k<hn/\X=X0.setCell ⟨M,5,none⟩ (.s (hs k))/\Ay (λq=>q=R) W X0/\p<=pz/\pz<=p+10/\Rd X0 R ad nn cap pz) Ze Ze Ze ?_ rfl hr ?_ ?_ ?_;all_goals subst hmk
 .exact λ_ _ _ _ _ h _ _ _=>h
 .intro i hi t X K p' hb hp1 hp2 hrd hg hK;rcases(show i=0\/i=1\/i=2\/i=3\/i=4\/i=5\/i=6\/i=7\/i=8\/i=9 by omega)with rfl|rfl|rfl|rfl|rfl|rfl|rfl|rfl|rfl|rfl;.have h:=hK (.p O 6) X p' AQ Za rfl (Ay.refl _ _) hrd;exact NS
  .have e0:t 0=_:=hg 0 (AZ rfl);have cS:=(hb.cell (p:=⟨O,6,none⟩) hO hOR).trans hcO;have h:=hK (.l ah hn ch) X p' AQ Za rfl (Ay.refl _ _) hrd;refine Ah rfl rfl ?_;clear hK hg;go_simp;simpa[AA,e0]using h
  .have h:=hK (.p R 0) X p' AQ Za rfl (Ay.refl _ _) hrd;exact NS
  .have h:=hK (.p O 6) X p' AQ Za rfl (Ay.refl _ _) hrd;exact NS
  .have e3:t 3=_:=hg 3 (AZ rfl);have cS:=(hb.cell (p:=⟨O,6,none⟩) hO hOR).trans hcO;have h:=hK (.l ah hn ch) X p' AQ Za rfl (Ay.refl _ _) hrd;refine Ah rfl rfl ?_;clear hK hg;go_simp;simpa[AA,e3]using h
  .have e4:t 4=_:=hg 4 (AZ rfl);have h:=hK (.i (hn:Nat)) X p' AQ Za rfl (Ay.refl _ _) hrd;refine Ah rfl rfl ?_;clear hK hg;go_simp;simpa[AA,e4]using h
  .have e2:t 2=_:=hg 2 (AZ rfl);have e5:t 5=_:=hg 5 (AZ rfl);refine Ah rfl rfl ?_;have HK:=Aj hK;have HR:=Aj hrd;clear hK hg hrd;go_simp;go_at_call 15;refine(Bj R ad nn cap p' (hn:Nat) X HR Za Za Za).mono ?_;exact bI
  .have e1:t 1=_:=hg 1 (AZ rfl);obtain⟨k,hk,e6⟩:∃k:Nat,k<hn/\t 6=.i k:=hg 6 (AZ rfl);obtain⟨b,off,ea,_,_,_⟩:=ho k hk;rw[ea]at e1;have h:=hK (.pointer (some ⟨b,off+k,none⟩)) X p' AQ Za ⟨k,b,off,hk,ea,rfl⟩ (Ay.refl _ _) hrd;refine Ah rfl rfl ?_;clear hK hg;go_simp;simpa[AA,e1,e6]using h
  .obtain⟨k,b,off,hk,ea,e7⟩:∃k b off:Nat,k<hn/\ah=some ⟨b,off,none⟩/\t 7=.pointer (some ⟨b,off+k,none⟩):=hg 7 (AZ rfl);obtain⟨b',off',ea',_,hb3,hc⟩:=ho k hk;rw[ea]at ea';obtain⟨rfl,rfl⟩:b=b'/\off=off':=by simpa using ea'
   have hne:¬b=R:=OZ hr.ns hc;have q0:=(hb.cell (p:=⟨b,off+k,none⟩) (by show b<W.1.size;omega) hne).trans hc;have h:=hK (.s (hs k)) X p' AQ Za ⟨k,hk,rfl⟩ (Ay.refl _ _) hrd;refine Ah rfl rfl ?_;clear hK hg hc;go_simp;simpa[AA,e7]using h
  .have h:=hK (.p M 5) X p' AQ Za rfl (Ay.refl _ _) hrd;exact NS
 .intro t X K p' hb hp1 hp2 hrd hg hK;obtain⟨k,hk,e8⟩:∃k:Nat,k<hn/\t 8=.s (hs k):=hg 8 Za;have e9:t 9=_:=hg 9 Za;have cM:=(hb.cell (p:=⟨M,5,none⟩) hM hMR).trans hcM;have fM:=(hb.frozen (p:=⟨M,5,none⟩) hM hMR).trans hfM;have zM:M<X.1.size:=Ad hM hb.size;have h:=hK _ _ ⟨t,k,p',X,rfl,hk,rfl,hb,hp1,hp2,hrd⟩;have HK:=Aj h;clear hK hg h;refine Ah rfl rfl ?_;go_simp;simpa[e8,e9]using HK.out
 .rintro a X ⟨t,k,pz,X0,rfl,a1,rfl,a2,a3,a4,a5⟩;exact hQ t k pz X0 a1 a2 a3 a4 a5
def wv (v:Wr):List Value:=(bp v)
structure Xi (v:Wr):Prop where
 fit:Sy v
 o1:1<=v.op
 o5:v.op<=5
 s1:v.seen<=9223372036854775807
structure jV (w:World)(R:Nat)(ad:OA)(nn cap p M:Nat)(v:Wr)(X:World):Prop where
 m:AN X M 6 (AW (wv v))f:Ay (λq=>q=R) w X
 r:Rd X R ad nn cap p
 M0:w.1.size<=M
 i:Xi v
theorem jV.pick{w X Y:World}{R:Nat}{ad:OA}{nn cap p p' M:Nat}{v:Wr}(h:jV w R ad nn cap p M v X)(hf:Ay (λq=>q=R) X Y)(hr:Rd Y R ad nn cap p')(hR:R<w.1.size):jV w R ad nn cap p' M v Y:=⟨h.m.fr2 hf (by have:=h.M0;omega),h.f.trans hf,hr,h.M0,h.i⟩
theorem jV.set{w X:World}{R:Nat}{ad:OA}{nn cap p M:Nat}{v:Wr}(h:jV w R ad nn cap p M v X)(h0:Rd w R ad nn cap 0\/∃q,Rd w R ad nn cap q){o:Nat}(ho:o<6)(u:Value)(v':Wr)(hi:Xi v')(e:∀j,j<6->Lm (AW (wv v)) o u j=AW (wv v') j):jV w R ad nn cap p M v' (X.setCell ⟨M,o,none⟩ u):=by obtain⟨q,hq⟩:∃q,Rd w R ad nn cap q:=h0.elim (λx=>⟨0,x⟩) id;exact⟨(h.m.set ho u).congr e,h.f.far h.M0 _ _,hq.far h.r h.M0 _ _,h.M0,hi⟩
theorem jV.cells{w X:World}{R:Nat}{ad:OA}{nn cap p M:Nat}{v:Wr}(h:jV w R ad nn cap p M v X):X.cell? ⟨M,0,none⟩=some (.i v.op)/\X.cell? ⟨M,1,none⟩=some (.s v.kind)/\X.cell? ⟨M,2,none⟩=some (.s v.name)/\X.cell? ⟨M,3,none⟩=some (.i v.seen)/\X.cell? ⟨M,4,none⟩=some (.s v.text)/\X.cell? ⟨M,5,none⟩=some (.s v.hold)/\(∀j,X.frozen? ⟨M,j,none⟩=false)/\M<X.1.size:=⟨h.m.cell 0 Zb,h.m.cell 1 Zb,h.m.cell 2 Zb,h.m.cell 3 Zb,h.m.cell 4 Zb,h.m.cell 5 Zb,h.m.free,h.m.lt⟩
def az (R:Nat)(ad:OA)(nn cap p:Nat)(w:World)(e:Ending)(w':World):Prop:=∃v:Wr,e=.returned (.agg (vW v))/\Xi v/\Dn R ad nn cap p 60 w w'
def C2 (W:World)(R:Nat)(ad:OA)(nn cap p k M:Nat)(X:World):Prop:=∃v p',p<=p'/\p'<=p+k/\jV W R ad nn cap p' M v X
structure av (w:World)(B:Bk)(R:Nat)(ad:OA)(nn cap p:Nat)(a1 a2 a3:OA)(c1 c2 c3:Nat)(W:World):Prop where
 b:Below w.1.size w W
 z:W.1.size=w.1.size+2
 s:AN W w.1.size 5 (AW (Lk B a1 a2 a3 c1 c2 c3))a:AN W (w.1.size+1) 6 (AW [.i 0,.s ⟨#[]⟩,.s ⟨#[]⟩,.i 0,.s ⟨#[]⟩,.s ⟨#[]⟩])r:Rd W R ad nn cap p
 i:BF W 0 w.1.size B a1 a2 a3
theorem mL (w:World)(B:Bk)(R:Nat)(ad:OA)(nn cap p:Nat)(a1 a2 a3:OA)(c1 c2 c3:Nat)(hr:Rd w R ad nn cap p)(hc:BF w 0 w.1.size B a1 a2 a3):av w B R ad nn cap p a1 a2 a3 c1 c2 c3 ((w.alloc (.cells (vB B a1 a2 a3 c1 c2 c3) 27)).alloc (.cells #[.i 0,.s ⟨#[]⟩,.s ⟨#[]⟩,.i 0,.s ⟨#[]⟩,.s ⟨#[]⟩] 118)):=by
 have hb:Below w.1.size w ((w.alloc (.cells (vB B a1 a2 a3 c1 c2 c3) 27)).alloc (.cells #[.i 0,.s ⟨#[]⟩,.s ⟨#[]⟩,.i 0,.s ⟨#[]⟩,.s ⟨#[]⟩] 118)):=((Aq _ _).alloc AQ _).alloc Zc _;refine⟨hb,Zc,?_,?_,hr.below hb,hc.below hb AQ⟩;.exact AN.new (l:=(Lk B a1 a2 a3 c1 c2 c3)) ET
 .have h:=AN.new (w:=w.alloc (.cells (vB B a1 a2 a3 c1 c2 c3) 27)) (l:=[.i 0,.s ⟨#[]⟩,.s ⟨#[]⟩,.i 0,.s ⟨#[]⟩,.s ⟨#[]⟩]) (t:=118) Ci;rw[Av]at h;exact h
theorem YA{W X:World}{R lo hi n:Nat}{ad:OA}{s:Nat->ByteArray}(h:AD X lo hi ad n s)(hf:Ay (λq=>q=R) W X)(hn:∀j s,¬X.cell? ⟨R,j,none⟩=some (.s s))(hh:hi<=W.1.size):AD W lo hi ad n s:=λi hi'=>by obtain⟨b,off,e1,e2,e3,e4⟩:=h i hi';refine⟨b,off,e1,e2,e3,?_⟩;have hne:¬b=R:=λe=>hn _ _ (e▸e4);exact(hf.cell (p:=⟨b,off+i,none⟩) (by show b<W.1.size;omega) hne).symm.trans e4
theorem jA{W X:World}{R lo hi n:Nat}{ad:OA}{s:Nat->ByteArray}(h:AD W lo hi ad n s)(hf:Ay (λq=>q=R) W X)(hn:∀j s,¬W.cell? ⟨R,j,none⟩=some (.s s))(hh:hi<=W.1.size):AD X lo hi ad n s:=λi hi'=>by obtain⟨b,off,e1,e2,e3,e4⟩:=h i hi';refine⟨b,off,e1,e2,e3,?_⟩;have hne:¬b=R:=λe=>hn _ _ (e▸e4);exact(hf.cell (p:=⟨b,off+i,none⟩) (by show b<W.1.size;omega) hne).trans e4
def oc (o:Ob)(ah:OA)(ch:Nat):List Value:=(nQ o ah ch)
structure jZ (W:World)(R:Nat)(ad:OA)(nn cap p M O:Nat)(o:Ob)(ah:OA)(ch:Nat)(v:Wr)(X:World):Prop where
 l:jV W R ad nn cap p M v X
 o:AN X O 7 (AW (oc o ah ch))ne:¬O=M
 O0:W.1.size<=O
theorem jZ.pick{w X Y:World}{R:Nat}{ad:OA}{nn cap p p' M O:Nat}{o:Ob}{ah:OA}{ch:Nat}{v:Wr}(h:jZ w R ad nn cap p M O o ah ch v X)(hf:Ay (λq=>q=R) X Y)(hr:Rd Y R ad nn cap p')(hR:R<w.1.size):jZ w R ad nn cap p' M O o ah ch v Y:=⟨h.l.pick hf hr hR,h.o.fr2 hf (by have:=h.O0;omega),h.ne,h.O0⟩
theorem jZ.set{w X:World}{R:Nat}{ad:OA}{nn cap p p0 M O:Nat}{x:Ob}{ah:OA}{ch:Nat}{v:Wr}(h:jZ w R ad nn cap p M O x ah ch v X)(h0:Rd w R ad nn cap p0){o:Nat}(ho:o<6)(u:Value)(v':Wr)(hi:Xi v')(e:∀j,j<6->Lm (AW (wv v)) o u j=AW (wv v') j):jZ w R ad nn cap p M O x ah ch v' (X.setCell ⟨M,o,none⟩ u):=⟨h.l.set (AE ⟨_,h0⟩) ho u v' hi e,h.o.fr ((Ay.refl (λq=>q=M) X).setCell (p:=⟨M,o,none⟩) rfl u) h.ne,h.ne,h.O0⟩
theorem jZ.cells{w X:World}{R:Nat}{ad:OA}{nn cap p M O:Nat}{o:Ob}{ah:OA}{ch:Nat}{v:Wr}(h:jZ w R ad nn cap p M O o ah ch v X):X.cell? ⟨O,0,none⟩=some (.s o.kind)/\X.cell? ⟨O,1,none⟩=some (.s o.name)/\X.cell? ⟨O,2,none⟩=some (.i o.ver)/\X.cell? ⟨O,6,none⟩=some (.slice ah o.hn ch)/\O<X.1.size:=⟨h.o.cell 0 Zb,h.o.cell 1 Zb,h.o.cell 2 Zb,h.o.cell 6 Zb,h.o.lt⟩
def C3 (W:World)(R:Nat)(ad:OA)(nn cap p k M O:Nat)(o:Ob)(ah:OA)(ch:Nat)(X:World):Prop:=∃v p',p<=p'/\p'<=p+k/\jZ W R ad nn cap p' M O o ah ch v X
theorem WV{v:Wr}{o:Nat}{u:Value}{v':Wr}(h0:(if 0=o then u else .i v.op)=.i v'.op:=by rfl)(h1:(if 1=o then u else .s v.kind)=.s v'.kind:=by rfl)(h2:(if 2=o then u else .s v.name)=.s v'.name:=by rfl)(h3:(if 3=o then u else .i v.seen)=.i v'.seen:=by rfl)(h4:(if 4=o then u else .s v.text)=.s v'.text:=by rfl)(h5:(if 5=o then u else .s v.hold)=.s v'.hold:=by rfl):∀j,j<6->Lm (AW (wv v)) o u j=AW (wv v') j:=λj hj=>by
 rcases(show j=0\/j=1\/j=2\/j=3\/j=4\/j=5 by omega)with rfl|rfl|rfl|rfl|rfl|rfl;.exact h0
 .exact h1
 .exact h2
 .exact h3
 .exact h4
 .exact h5
theorem xK{w:World}{g:Nat}{c:Nat->Value}(h:AN w g 6 c)(a0 a1 a2 a3 a4 a5:Value):AN ((((((w.setCell ⟨g,0,none⟩ a0).setCell ⟨g,1,none⟩ a1).setCell ⟨g,2,none⟩ a2).setCell ⟨g,3,none⟩ a3).setCell ⟨g,4,none⟩ a4).setCell ⟨g,5,none⟩ a5) g 6 (AW [a0,a1,a2,a3,a4,a5]):=((((((h.set Zb a0).set Zb a1).set Zb a2).set Zb a3).set Zb a4).set Zb a5).congr (λj hj=>by rcases(show j=0\/j=1\/j=2\/j=3\/j=4\/j=5 by omega)with rfl|rfl|rfl|rfl|rfl|rfl<;>rfl)
theorem Ys{w w3:World}{R y:Nat}(hf:Ay (λq=>q=R) (w.alloc (.cells #[.s ⟨#[104]⟩,.s ⟨#[104,50]⟩,.s ⟨#[107,101,101,112,101,114]⟩,.s ⟨#[97]⟩,.s ⟨#[98]⟩,.s ⟨#[99]⟩] 9)) w3)(hR:¬w.1.size=R)(hy:(y:Int)<6):∃s:ByteArray,(s.size:Int)<=140737488355328/\w3.cell? ⟨w.1.size,y,none⟩=some (.s s):=by have e:=hf.cell (p:=⟨w.1.size,y,none⟩) Zc hR;have n:(w.alloc (.cells #[.s ⟨#[104]⟩,.s ⟨#[104,50]⟩,.s ⟨#[107,101,101,112,101,114]⟩,.s ⟨#[97]⟩,.s ⟨#[98]⟩,.s ⟨#[99]⟩] 9)).cell? ⟨w.1.size,y,none⟩=_:=Al w #[.s ⟨#[104]⟩,.s ⟨#[104,50]⟩,.s ⟨#[107,101,101,112,101,114]⟩,.s ⟨#[97]⟩,.s ⟨#[98]⟩,.s ⟨#[99]⟩] 9 y;rw[e,n];rcases(show y=0\/y=1\/y=2\/y=3\/y=4\/y=5 by omega)with rfl|rfl|rfl|rfl|rfl|rfl;all_goals exact⟨_,Zb,rfl⟩
theorem nV{x:Int}(h:(Lit.int .i64 x).wf=true):x<=9223372036854775807:=by simp[Lit.wf]at h;omega
theorem nO:((⟨#[]⟩:ByteArray).size:Int)<=140737488355328:=Zb
theorem tR{s:ByteArray}(h:s∈Uy):(s.size:Int)<=140737488355328:=by simp only[Uy,Fy,List.not_mem_nil,or_false]at h;rcases h with rfl|rfl|rfl<;>decide
theorem tD{s:ByteArray}(h:s∈UE):(s.size:Int)<=140737488355328:=by simp only[UE,Fy,List.not_mem_nil,or_false]at h;rcases h with rfl|rfl|rfl|rfl<;>decide
theorem Sg (B:Bk)(R:Nat)(ad:OA)(nn cap p:Nat)(a1 a2 a3:OA)(c1 c2 c3:Nat)(w:World)(hr:Rd w R ad nn cap p)(hp:p<=800000)(hf:BQ B)(hon:B.on<=100)(hh:∀i,i<B.on->(B.os i).hn<=100)(hc:BF w 0 w.1.size B a1 a2 a3):Calls prog 76 #[.p R 0,.agg (vB B a1 a2 a3 c1 c2 c3)] w λe w'=>az R ad nn cap p w e w':=by
 have HB:=Aj (mL w B R ad nn cap p a1 a2 a3 c1 c2 c3 hr hc);have HF:=Aj hf;have HH:=Aj hh;have hRw:=hr.lt;have HR:=Aj hr;clear hr hc hf hh;go_enter func76,ntmps76;go_wp2_with fail;generalize(w.alloc (.cells (vB B a1 a2 a3 c1 c2 c3) 27)).alloc (.cells #[.i 0,.s ⟨#[]⟩,.s ⟨#[]⟩,.i 0,.s ⟨#[]⟩,.s ⟨#[]⟩] 118)=W at HB⊢;have hzW:=HB.z;refine oX (λ_=>undef) R ad nn cap p W HB.r Za rfl _ ?_;intro t M k s1 s2 pz X ht hM hk h1 h2 hrow hfr hp1 hp2 hrd;rw[ht];have HL:=Aj (show C2 W R ad nn cap p 15 M X from⟨⟨1+(k:Int),s1,s2,0,⟨#[]⟩,⟨#[]⟩⟩,pz,hp1,hp2,hrow,hfr,hrd,hM,⟨⟨tR h1,tD h2,nO,nO⟩,by show(1:Int)<=1+k;omega,by show(1:Int)+k<=5;omega,by show(0:Int)<=_;omega⟩⟩);clear hrow hfr hrd ht h1 h2 hk;go_upto_region 2 with fail;go_cut[34](λc wx=>∃b:Bool,c=.bool b/\(b=true->0<B.on)/\C2 W R ad nn cap p 16 M wx);case first=>
  --<r2
  obtain⟨v,q,hq1,hq2,hL⟩:=HL.out;clear HL;obtain⟨r0,r1,r2,r3,r4,r5,rf,rl⟩:=hL.cells;have hS:=hL.f.cell (p:=⟨w.1.size,2,none⟩) (by show w.1.size<W.1.size;omega) (show¬w.1.size=R by omega);rw[show W.cell? ⟨w.1.size,2,none⟩=some (.slice a1 B.on c1)from HB.s.cell 2 Zb]at hS;have HL:=Aj hL;clear hL r1 r2 r3 r4 r5 rf;go_wp2_with (go_at_call 15;go_must(refine(Bj R ad nn cap _ 6 _ HL.r Za Zb Zb).mono ?_;rintro e w3 ⟨y,rfl,_,hy,hf3,hr3⟩));all_goals go_meet
  case rel=>exact⟨_,rfl,λh=>Py,v,q,hq1,Za,HL⟩
  case rel=>exact⟨_,rfl,λ_=>Za,v,q+1,Za,Za,HL.pick hf3 hr3 Za⟩
  case rel=>exact⟨_,rfl,λh=>Py,v,q,hq1,Za,HL⟩
  --r2>
 case rest=>
  obtain⟨b,rfl,hb0,hL⟩:=hcut;have HL':=Aj hL;clear hL HL;go_upto_if 34 with fail;go_cut[](λwx=>C2 W R ad nn cap p 45 M wx);case first=>obtain⟨v,q,hq1,hq2,hL⟩:=HL'.out;cases b with
   |false=>go_wp2_with fail;go_meet;case rel=>exact⟨v,q,hq1,Za,hL⟩
   |true=>
    --<ob
    have hb1:=hb0 rfl;clear hb0;go_wp2_with fail;have HL:=Aj hL;have hMW:=hL.M0;clear hL HL';have hcS:=HL.f.cell (p:=⟨w.1.size,2,none⟩) (by show w.1.size<W.1.size;omega) (show¬w.1.size=R by omega);rw[show W.cell? ⟨w.1.size,2,none⟩=some (.slice a1 B.on c1)from HB.s.cell 2 Zb]at hcS;have hzX:=HL.f.size;refine oW (AW [_,_,_,_,_,_,_,_,_,_]) R ad nn cap q w.1.size w.1.size B a1 c1 _ HL.r Za Za Za hcS (HB.i.box HL.f HB.r.ns Za).o Za hb1 hon rfl _ ?_;intro t O k ah ch q2 X2 ht hO hk hs hrow hfr hp3 hp4 hrd;rw[ht];have hSW:=YA hs HL.f HL.r.ns Za;have hMX:=HL.m.lt;have HT:=Aj (show jZ W R ad nn cap q2 M O (B.os k) ah ch v X2 from⟨HL.pick hfr hrd Za,hrow,Za,Za⟩);have hfo:=HF.os k hk;have hhn:=HH k hk;have zZ:=Aj hSW;have MN:=Aj hfo;clear hs hrow hfr hrd ht hcS HL hSW hfo;obtain⟨o0,o1,o2,o6,ol⟩:=HT.cells;obtain⟨r0,r1,r2,r3,r4,r5,rf,rl⟩:=HT.l.cells;have rf1:=rf 1;have rf2:=rf 2;clear rf o2 o6 r3 r4 r5 r0;have hneOM:=HT.ne;have uG:=Aj ((HT.set HB.r (o:=1) Zb (.s (B.os k).kind) {v with kind:=(B.os k).kind} ⟨⟨MN.k,HT.l.i.fit.n,HT.l.i.fit.t,HT.l.i.fit.h⟩,HT.l.i.o1,HT.l.i.o5,HT.l.i.s1⟩ (WV)).set HB.r (o:=2) Zb (.s (B.os k).name) {v with kind:=(B.os k).kind,name:=(B.os k).name} ⟨⟨MN.k,MN.n,HT.l.i.fit.t,HT.l.i.fit.h⟩,HT.l.i.o1,HT.l.i.o5,HT.l.i.s1⟩ (WV));clear HT;go_upto_region 6 with fail;generalize(X2.setCell ⟨M,1,none⟩ (.s (B.os k).kind)).setCell ⟨M,2,none⟩ (.s (B.os k).name)=X3 at uG⊢;clear o0 o1 r1 r2 rf1 rf2 ol rl hneOM;go_upto_block 0 with(go_at_call 15;go_must(refine(Bj R ad nn cap _ 5 _ uG.l.r Za Zb Zb).mono ?_;rintro e w3 ⟨y,rfl,_,hy,hf3,hr3⟩));have ZX:=Aj (uG.pick hf3 hr3 Za);clear uG hf3 hr3;go_cut[](λwx=>C3 W R ad nn cap p 30 M O (B.os k) ah ch wx);case first=>
     obtain⟨r0,r1,r2,r3,r4,r5,rf,rl⟩:=ZX.l.cells;obtain⟨o0,o1,o2,o6,ol⟩:=ZX.cells;have rf3:=rf 3;clear rf r0 r1 r2 r4 r5 o0 o1 o6;go_wp2_with (go_at_call 15;go_must(refine(Bj R ad nn cap _ 20 _ ZX.l.r Za Zb Zb).mono ?_;rintro e w4 ⟨y4,rfl,_,hy4,hf4,hr4⟩;have ZY:=Aj (ZX.pick hf4 hr4 Za);have r34:=ZY.l.cells.2.2.2.1;have rf34:=ZY.l.m.free 3;have hy4':=hy4 Zb));all_goals go_meet
     case rel=>exact⟨_,_,Za,Za,ZX⟩
     case rel=>exact⟨_,_,Za,Za,ZY.set HB.r (o:=3) Zb _ {v with kind:=(B.os k).kind,name:=(B.os k).name,seen:=1+(y4:Int)} ⟨⟨MN.k,MN.n,ZY.l.i.fit.t,ZY.l.i.fit.h⟩,ZY.l.i.o1,ZY.l.i.o5,by show 1+(y4:Int)<=_;omega⟩ (WV)⟩
     case rel=>exact⟨_,_,Za,Za,ZX.set HB.r (o:=3) Zb _ {v with kind:=(B.os k).kind,name:=(B.os k).name,seen:=(B.os k).ver} ⟨⟨MN.k,MN.n,ZX.l.i.fit.t,ZX.l.i.fit.h⟩,ZX.l.i.o1,ZX.l.i.o5,nV MN.v⟩ (WV)⟩
    case rest=>
     have ZY:=Aj hcut;clear hcut ZX;go_upto_region 11 with fail;go_cut[76](λc wx=>∃b:Bool,c=.bool b/\(b=true->0<(B.os k).hn)/\C3 W R ad nn cap p 31 M O (B.os k) ah ch wx);case first=>
      obtain⟨v4,q4,hq41,hq42,hT⟩:=ZY.out;have Q5:=Aj hT;obtain⟨r0,r1,r2,r3,r4,r5,rf,rl⟩:=hT.l.cells;obtain⟨o0,o1,o2,o6,ol⟩:=hT.cells;clear hT rf r1 r2 r3 r4 r5 o0 o1 o2 ZY;go_wp2_with (go_at_call 15;go_must(refine(Bj R ad nn cap _ 4 _ Q5.l.r Za Zb Zb).mono ?_;rintro e w3 ⟨y,rfl,_,hy,hf3,hr3⟩));all_goals go_meet
      case rel=>exact⟨_,rfl,λ_=>Za,v4,q4+1,Za,Za,Q5.pick hf3 hr3 Za⟩
      case rel=>exact⟨_,rfl,λh=>Py,v4,q4,Za,Za,Q5⟩
      case rel=>exact⟨_,rfl,λh=>Py,v4,q4,Za,Za,Q5⟩
     case rest=>obtain⟨b,rfl,hb0,hT⟩:=hcut;obtain⟨v5,q5,hq51,hq52,hT⟩:=hT;have Q5:=Aj hT;clear hT ZY;cases b with
      |false=>go_wp2_with fail;go_meet;case rel=>exact⟨v5,q5,Za,Za,Q5.l⟩
      |true=>have hb2:=hb0 rfl;clear hb0;go_wp2_with fail;have hO0:=Q5.O0;have hM0:=Q5.l.M0;have hzX5:=Q5.l.f.size;refine m6 (AW [_,_,_,_,_,_,_,_,_,_]) R ad nn cap q5 O M w.1.size ah (B.os k).hn ch (B.os k).hs _ Q5.l.r Za Q5.o.lt Za (Q5.o.cell 6 Zb) Q5.l.m.lt Za _ (Q5.l.m.cell 5 Zb) (Q5.l.m.free 5) (jA zZ Q5.l.f HB.r.ns Za) Za hb2 hhn rfl _ ?_;intro t j q6 X6 hj hf6 hp6 hp7 hr6;go_wp2_with fail;go_meet;case rel=>exact⟨_,q6,Za,Za,((Q5.pick hf6 hr6 Za).set HB.r (o:=5) Zb _ {v5 with hold:=(B.os k).hs j} ⟨⟨Q5.l.i.fit.k,Q5.l.i.fit.n,Q5.l.i.fit.t,MN.s j hj⟩,Q5.l.i.o1,Q5.l.i.o5,Q5.l.i.s1⟩ (WV)).l⟩
    --ob>
  case rest=>
   have HM:=Aj hcut;clear hcut HL';go_upto_region 13 with fail;go_cut[94](λc wx=>∃b:Bool,c=.bool b/\C2 W R ad nn cap p 45 M wx);case first=>
    obtain⟨v,q,hq1,hq2,hL⟩:=HM.out;obtain⟨r0,r1,r2,r3,r4,r5,rf,rl⟩:=hL.cells;have HL:=Aj hL;clear hL HM r1 r2 r3 r4 r5 rf;go_wp2_with fail;all_goals go_meet
    all_goals exact⟨_,rfl,v,q,Za,Za,HL⟩
   case rest=>
    obtain⟨b,rfl,hL⟩:=hcut;have TG:=Aj hL;clear hL HM;go_upto_if 94 with fail;go_cut[](λwx=>C2 W R ad nn cap p 50 M wx);case first=>obtain⟨v,q,hq1,hq2,hL⟩:=TG.out;have HL:=Aj hL;clear hL TG;cases b with
     |false=>go_wp2_with fail;go_meet;case rel=>exact⟨v,q,Za,Za,HL⟩
     |true=>obtain⟨r0,r1,r2,r3,r4,r5,rf,rl⟩:=HL.cells;clear r0 r1 r2 r3 r4 r5 rf rl;go_wp2_with (go_at_call 93;go_must(refine(iL R ad nn cap _ _ HL.r Za).mono ?_;rintro e w3 ⟨s,rfl,hs3,hf3,q3,hq31,hq32,hr3⟩;have Ou:=Aj (HL.pick hf3 hr3 Za);have r43:=Ou.cells.2.2.2.2.1;have rf43:=Ou.m.free 4));go_meet;case rel=>exact⟨_,q3,Za,Za,Ou.set (AE ⟨_,HB.r⟩) (o:=4) Zb _ {v with text:=s} ⟨⟨HL.i.fit.k,HL.i.fit.n,by show(s.size:Int)<=_;omega,HL.i.fit.h⟩,HL.i.o1,HL.i.o5,HL.i.s1⟩ (WV)⟩
    case rest=>
     have rI:=Aj hcut;clear hcut TG;go_upto_region 15 with fail;go_cut[120](λc wx=>∃b:Bool,c=.bool b/\C2 W R ad nn cap p 52 M wx);case first=>
      --<r15
      obtain⟨v,q,hq1,hq2,hL⟩:=rI.out;obtain⟨r0,r1,r2,r3,r4,r5,rf,rl⟩:=hL.cells;have HL:=Aj hL;clear hL rI r1 r2 r3 r4 rf;go_wp2_with (go_at_call 15;go_must(refine(Bj R ad nn cap _ 3 _ HL.r Za Zb Zb).mono ?_;rintro e w3 ⟨y,rfl,_,hy,hf3,hr3⟩));all_goals go_meet
      all_goals first|exact⟨_,rfl,v,q,Za,Za,HL⟩|exact⟨_,rfl,v,q+1,Za,Za,HL.pick hf3 hr3 Za⟩
      --r15>
     case rest=>
      obtain⟨b,rfl,hL⟩:=hcut;have wR:=Aj hL;clear hL rI;go_upto_if 120 with fail;go_cut[](λwx=>C2 W R ad nn cap p 55 M wx);case first=>obtain⟨v,q,hq1,hq2,hL⟩:=wR.out;have HL:=Aj hL;clear hL wR;cases b with
       |false=>go_wp2_with fail;go_meet;case rel=>exact⟨v,q,Za,Za,HL⟩
       |true=>have hMl:=HL.m.lt;have hzc:=HL.f.size;have hxb:∀o,Below wc.1.size wc (wc.alloc o):=λo=>Ap _ _;have rM:=Aj hxb;clear hxb;go_wp2_with (go_at_call 15;go_must(refine(Bj R ad nn cap q 6 _ (HL.r.below (rM _)) Za Zb Zb).mono ?_;rintro e w3 ⟨y,rfl,_,hy,hf3,hr3⟩;have hy6:=hy Zb;have Ou:=Aj (HL.pick ((Ar (rM _)).trans hf3) hr3 Za);obtain⟨s,hs1,hs2⟩:=Ys hf3 Za hy6;have r53:=Ou.cells.2.2.2.2.2.1;have rf53:=Ou.m.free 5));go_meet;case rel=>exact⟨_,q+1,Za,Za,Ou.set (AE ⟨_,HB.r⟩) (o:=5) Zb _ {v with hold:=s} ⟨⟨HL.i.fit.k,HL.i.fit.n,HL.i.fit.t,hs1⟩,HL.i.o1,HL.i.o5,HL.i.s1⟩ (WV)⟩
        --r16>
      case rest=>obtain⟨v,q,hq1,hq2,hL⟩:=hcut;obtain⟨r0,r1,r2,r3,r4,r5,rf,rl⟩:=hL.cells;have ha:=hL.f.block;have A:=HB.a.fr2 hL.f Za;have A0:=A.cell 0 Zb;have A1:=A.cell 1 Zb;have A2:=A.cell 2 Zb;have A3:=A.cell 3 Zb;have A4:=A.cell 4 Zb;have A5:=A.cell 5 Zb;have AF:=A.free;have AL:=A.lt;simp only[AW,Aa,Ab]at A0 A1 A2 A3 A4 A5;have HL:=Aj hL;clear hL wR ha;have HA:=Aj A;clear A;go_wp2_with fail;have Z:=xK HA (.i v.op) (.s v.kind) (.s v.name) (.i v.seen) (.s v.text) (.s v.hold);have z0:=Z.cell 0 Zb;have z1:=Z.cell 1 Zb;have z2:=Z.cell 2 Zb;have z3:=Z.cell 3 Zb;have z4:=Z.cell 4 Zb;have z5:=Z.cell 5 Zb;simp only[AW,Aa,Ab]at z0 z1 z2 z3 z4 z5;refine bodyPost_ret (v:=.agg (vW v)) (by simp[results,results76,go_sem,z0,z1,z2,z3,z4,z5]) rfl ⟨v,rfl,HL.i,((Ar HB.b).trans HL.f).far6 Za _ _ _ _ _ _,q,Za,Za,HR.far6 HL.r Za _ _ _ _ _ _⟩
       --fin>
end Go.Proofs.YtnnjcenacidceaaGreat
