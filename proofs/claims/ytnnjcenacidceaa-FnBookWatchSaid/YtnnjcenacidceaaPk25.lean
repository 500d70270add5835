import Derived.Test.YtnnjcenacidceaaPk17
import Derived.Test.YtnnjcenacidceaaPk24
import Derived.Test.YtnnjcenacidceaaPk12
import Derived.Deep.DeepCutAuto
import Derived.Deep.CutBlock
import Derived.Deep.Light
set_option maxRecDepth 100000
set_option maxHeartbeats 4000000
namespace Go.Proofs.Ytnnjcenacidceaa
open Go.RowKit Go.Proofs.Try
theorem Az.far7{R:Nat}{W X:World}(h:Az (λq=>q=R) W X){z:Nat}(hz:W.1.size<=z)(a b c d e f g:Value):Az (λq=>q=R) W (((((((X.setCell ⟨z,0,none⟩ a).setCell ⟨z,1,none⟩ b).setCell ⟨z,2,none⟩ c).setCell ⟨z,3,none⟩ d).setCell ⟨z,4,none⟩ e).setCell ⟨z,5,none⟩ f).setCell ⟨z,6,none⟩ g):=(h.far6 hz a b c d e f).far hz _ _
theorem Rd.far7{W X:World}{R:Nat}{ad:OA}{n cap p p':Nat}(hW:Rd W R ad n cap p)(hX:Rd X R ad n cap p'){z:Nat}(hz:W.1.size<=z)(a b c d e f g:Value):Rd (((((((X.setCell ⟨z,0,none⟩ a).setCell ⟨z,1,none⟩ b).setCell ⟨z,2,none⟩ c).setCell ⟨z,3,none⟩ d).setCell ⟨z,4,none⟩ e).setCell ⟨z,5,none⟩ f).setCell ⟨z,6,none⟩ g) R ad n cap p':=hW.far (hW.far6 hX hz a b c d e f) hz _ _
def lX (R:Nat)(S hi:Nat)(B:Bk)(a1:OA)(c1:Nat)(W:World)(i:Nat)(v:Value)(X:World):Prop:=match i with
 |0=>v=.p S 2
 |1=>v=.l a1 B.on c1
 |2=>v=.p R 0
 |3=>v=.p S 2
 |4=>v=.l a1 B.on c1
 |5=>v=.i (B.on:Nat)
 |6=>∃k:Nat,k<B.on/\v=.i k
 |7=>∃k b off:Nat,k<B.on/\a1=some ⟨b,off,none⟩/\v=.pointer (some ⟨b,off+k*7,none⟩)
 |8=>∃(k:Nat)(ah:OA)(ch:Nat),k<B.on/\v=.agg (vO (B.os k) ah ch)/\AB W 0 hi ah (B.os k).hn (B.os k).hs
 |9=>∃z:Nat,v=.p z 0/\W.1.size<=z/\AN X z 7 (AR [.s ⟨#[]⟩,.s ⟨#[]⟩,.i 0,.i 0,.s ⟨#[]⟩,.bool false,.l none 0 0])
 |_=>True
theorem Nz{P:Prop}(h:P:=by refine Ag rfl rfl ?_;clear hK hg;go_simp;simpa[Av]using h):P:=h
theorem aC{P:Prop}(h:P:=by rintro r Y ⟨v,rfl,_,hv,hf,hr2⟩;have h:=HK (.i v) Y (p'+1) Za uK ⟨v,by have:=hv Za;omega,rfl⟩ hf hr2;simpa[Av,e2,e5]using h):P:=h
theorem oW{p1 p2 p4 p5 p7 p8 p9 DX DK DV DF C9 CV CU C6 C8 CZ Df C7 C4 CY Dw Di Dj Dg Dh Dy Dx DC DB DA Dz Ei Eh Ds DU DW DI DG D7 D4 D3 D8 D1 D0 D2 D5 DY EA Ey Ew Ex Ez El Ep DM Fk Fg Fo Fm Fp Fl Fq Ff Fj GR GU GT Fi Fh FK FA FM GZ KR KF KD KC KG KE GS GV G4 G7 G3 G5 G6 KH Cp Cu Cn Ci Cj Cg Ck Cm Co CF CJ CI CE Cy CB Cz CA CD CG CQ CS CR DT DP DN Dm Du Dp:Value}{mk:(Nat->Value)->Array Value}(t0:Nat->Value)(R:Nat)(ad:OA)(nn cap p:Nat)(S hi:Nat)(B:Bk)(a1:OA)(c1:Nat)(W:World)(hr:Rd W R ad nn cap p)(hp:p<=900000)(hS:S<W.1.size)(hSR:¬S=R)(hcS:W.cell? ⟨S,2,none⟩=some (.slice a1 B.on c1))(ho:B4 W 0 hi a1 B.on B.os)(hhi:hi<=W.1.size)(hn0:0<B.on)(hn1:B.on<=100)(hmk:mk=λt=>#[.p R 0,p1,p2,.p S 0,p4,p5,t 9,p7,p8,p9,DX,DK,DV,DF,C9,CV,CU,C6,C8,CZ,Df,C7,C4,CY,Dw,Di,Dj,Dg,Dh,Dy,Dx,DC,DB,DA,Dz,t 0,t 1,t 2,t 3,t 4,t 5,t 6,t 7,t 8,Ei,Eh,Ds,DU,DW,DI,DG,D7,D4,D3,D8,D1,D0,D2,D5,DY,EA,Ey,Ew,Ex,Ez,El,Ep,DM,Fk,Fg,Fo,Fm,Fp,Fl,Fq,Ff,Fj,GR,GU,GT,Fi,Fh,FK,FA,FM,GZ,KR,KF,KD,KC,KG,KE,GS,GV,G4,G7,G3,G5,G6,KH,Cp,Cu,Cn,Ci,Cj,Cg,Ck,Cm,Co,CF,CJ,CI,CE,Cy,CB,Cz,CA,CD,CG,CQ,CS,CR,DT,DP,DN,Dm,Du,Dp])(Q:Exit->Act->World->Prop)(hQ:∀(t:Nat->Value)(z k:Nat)(ah:OA)(ch:Nat)(pz:Nat) X,t 9=.p z 0->W.1.size<=z->k<B.on->AB W 0 hi ah (B.os k).hn (B.os k).hs->AN X z 7 (AR (nJ (B.os k) ah ch))->Az (λq=>q=R) W X->p<=pz->pz<=p+10->Rd X R ad nn cap pz->Q .normal ⟨mk t,[]⟩ X):Code.wp prog (rg Try.f72 3) Q ⟨mk t0,[]⟩ W:=by
 have hRW:=hr.lt;refine QH Ze 10 mk t0 R ad nn cap p (lX R S hi B a1 c1 W) (λa X=>∃(t:Nat->Value)(z k:Nat)(ah:OA)(ch:Nat)(pz:Nat),a=⟨mk t,[]⟩/\t 9=.p z 0/\W.1.size<=z/\k<B.on/\AB W 0 hi ah (B.os k).hn (B.os k).hs/\AN X z 7 (AR (nJ (B.os k) ah ch))/\Az (λq=>q=R) W X/\p<=pz/\pz<=p+10/\Rd X R ad nn cap pz) Ze Ze Ze ?_ rfl hr ?_ ?_ ?_;all_goals subst hmk
 .intro i v X Y hi h hF hR hX;rcases(show i=0\/i=1\/i=2\/i=3\/i=4\/i=5\/i=6\/i=7\/i=8\/i=9 by omega)with rfl|rfl|rfl|rfl|rfl|rfl|rfl|rfl|rfl|rfl;.exact h
  .exact h
  .exact h
  .exact h
  .exact h
  .exact h
  .exact h
  .exact h
  .exact h
  .obtain⟨z,e,a1,a2⟩:=h;exact⟨z,e,a1,a2.fr2 hF Za⟩
 .intro i hi t X K p' hb hp1 hp2 hrd hg hK;rcases(show i=0\/i=1\/i=2\/i=3\/i=4\/i=5\/i=6\/i=7\/i=8\/i=9 by omega)with rfl|rfl|rfl|rfl|rfl|rfl|rfl|rfl|rfl|rfl;.have h:=hK (.p S 2) X p' uK Za rfl (Az.refl _ _) hrd;exact Nz
  .have e0:t 0=_:=hg 0 (AQ rfl);have cS:=(hb.cell (p:=⟨S,2,none⟩) hS hSR).trans hcS;have h:=hK (.l a1 B.on c1) X p' uK Za rfl (Az.refl _ _) hrd;refine Ag rfl rfl ?_;clear hK hg;go_simp;simpa[Av,e0]using h
  .have h:=hK (.p R 0) X p' uK Za rfl (Az.refl _ _) hrd;exact Nz
  .have h:=hK (.p S 2) X p' uK Za rfl (Az.refl _ _) hrd;exact Nz
  .have e3:t 3=_:=hg 3 (AQ rfl);have cS:=(hb.cell (p:=⟨S,2,none⟩) hS hSR).trans hcS;have h:=hK (.l a1 B.on c1) X p' uK Za rfl (Az.refl _ _) hrd;refine Ag rfl rfl ?_;clear hK hg;go_simp;simpa[Av,e3]using h
  .have e4:t 4=_:=hg 4 (AQ rfl);have h:=hK (.i (B.on:Nat)) X p' uK Za rfl (Az.refl _ _) hrd;refine Ag rfl rfl ?_;clear hK hg;go_simp;simpa[Av,e4]using h
  .have e2:t 2=_:=hg 2 (AQ rfl);have e5:t 5=_:=hg 5 (AQ rfl);refine Ag rfl rfl ?_;have HK:=Ah hK;have HR:=Ah hrd;clear hK hg hrd;go_simp;go_at_call 12;refine(A7 R ad nn cap p' (B.on:Nat) X HR Za Za Za).mono ?_;exact aC
  .have e1:t 1=_:=hg 1 (AQ rfl);obtain⟨k,hk,e6⟩:∃k:Nat,k<B.on/\t 6=.i k:=hg 6 (AQ rfl);obtain⟨b,off,ah,ch,ea,_,_,_,_⟩:=ho k hk;rw[ea]at e1;have h:=hK (.pointer (some ⟨b,off+k*7,none⟩)) X p' uK Za ⟨k,b,off,hk,ea,rfl⟩ (Az.refl _ _) hrd;refine Ag rfl rfl ?_;clear hK hg;go_simp;simpa[Av,e1,e6]using h
  .obtain⟨k,b,off,hk,ea,e7⟩:∃k b off:Nat,k<B.on/\a1=some ⟨b,off,none⟩/\t 7=.pointer (some ⟨b,off+k*7,none⟩):=hg 7 (AQ rfl);obtain⟨b',off',ah,ch,ea',_,hb3,hc,hst⟩:=ho k hk;rw[ea]at ea';obtain⟨rfl,rfl⟩:b=b'/\off=off':=by simpa using ea'
   have hne:¬b=R:=Oi hr.ns hc.c0;have cc:∀j,X.cell? ⟨b,j,none⟩=W.cell? ⟨b,j,none⟩:=λj=>hb.cell (p:=⟨b,j,none⟩) (by show b<W.1.size;omega) hne;have q0:=(cc _).trans hc.c0;have q1:=(cc _).trans hc.c1;have q2:=(cc _).trans hc.c2;have q3:=(cc _).trans hc.c3;have q4:=(cc _).trans hc.c4;have q5:=(cc _).trans hc.c5;have q6:=(cc _).trans hc.c6;have h:=hK (.agg (vO (B.os k) ah ch)) X p' uK Za ⟨k,ah,ch,hk,rfl,hst⟩ (Az.refl _ _) hrd;refine Ag rfl rfl ?_;clear hK hg hc cc;go_simp;simpa[Av,e7]using h
  .have h:=hK (.p (X.1.size) 0) (X.alloc (.cells #[.s ⟨#[]⟩,.s ⟨#[]⟩,.i 0,.i 0,.s ⟨#[]⟩,.bool false,.l none 0 0] 38)) p' uK Za ⟨X.1.size,rfl,hb.size,AN.new (l:=[.s ⟨#[]⟩,.s ⟨#[]⟩,.i 0,.i 0,.s ⟨#[]⟩,.bool false,.l none 0 0]) (t:=38) EF⟩ (Aq AG) (hrd.below AG);exact Nz
 .intro t X K p' hb hp1 hp2 hrd hg hK;obtain⟨k,ah,ch,hk,e8,hst⟩:∃(k:Nat)(ah:OA)(ch:Nat),k<B.on/\t 8=.agg (vO (B.os k) ah ch)/\AB W 0 hi ah (B.os k).hn (B.os k).hs:=hg 8 Za;obtain⟨z,e9,hz,hrow⟩:∃z:Nat,t 9=.p z 0/\W.1.size<=z/\AN X z 7 (AR [.s ⟨#[]⟩,.s ⟨#[]⟩,.i 0,.i 0,.s ⟨#[]⟩,.bool false,.l none 0 0]):=hg 9 Za;have rf:=hrow.free;have rl:=hrow.lt;obtain⟨r0,r1,r2,r3,r4,r5,r6⟩:=tR hrow;have R6:=(((((((hrow.set (o:=0) Za (.s (B.os k).kind)).set (o:=1) Za (.s (B.os k).name)).set (o:=2) Za (.i (B.os k).ver)).set (o:=3) Za (.i (B.os k).born)).set (o:=4) Za (.s (B.os k).text)).set (o:=5) Za (.bool (B.os k).ending)).set (o:=6) Za (.l ah (B.os k).hn ch));have F6:=hb.far7 (z:=z) hz (.s (B.os k).kind) (.s (B.os k).name) (.i (B.os k).ver) (.i (B.os k).born) (.s (B.os k).text) (.bool (B.os k).ending) (.l ah (B.os k).hn ch);have D6:=hr.far7 hrd (z:=z) hz (.s (B.os k).kind) (.s (B.os k).name) (.i (B.os k).ver) (.i (B.os k).born) (.s (B.os k).text) (.bool (B.os k).ending) (.l ah (B.os k).hn ch);have h:=hK _ _ ⟨t,z,k,ah,ch,p',rfl,e9,hz,hk,hst,⟨R6.lt,R6.free,λj hj=>by rw[R6.cell j hj];rcases(show j=0\/j=1\/j=2\/j=3\/j=4\/j=5\/j=6 by omega)with rfl|rfl|rfl|rfl|rfl|rfl|rfl<;>rfl⟩,F6,hp1,hp2,D6⟩;have HK:=Ah h;clear hK hg hrow h R6 F6 D6;refine Ag rfl rfl ?_;go_simp;simpa[e8,e9]using HK.out
 .rintro a X ⟨t,z,k,ah,ch,pz,rfl,a1,a2,a3,a4,a5,a6,a7,a8,a9⟩;exact hQ t z k ah ch pz X a1 a2 a3 a4 a5 a6 a7 a8 a9
def aN (R O M:Nat)(ah:OA)(hn ch:Nat)(hs:Nat->ByteArray)(i:Nat)(v:Value)(_X:World):Prop:=match i with
 |0=>v=.p O 6
 |1=>v=.l ah hn ch
 |2=>v=.p R 0
 |3=>v=.p O 6
 |4=>v=.l ah hn ch
 |5=>v=.i (hn:Nat)
 |6=>∃k:Nat,k<hn/\v=.i k
 |7=>∃k b off:Nat,k<hn/\ah=some ⟨b,off,none⟩/\v=.pointer (some ⟨b,off+k,none⟩)
 |8=>∃k:Nat,k<hn/\v=.s (hs k)
 |9=>v=.p M 5
 |_=>True
theorem lP{p1 p2 p3 p4 p7 p8 p9 DX DK DV DF C9 CV CU C6 C8 CZ Df C7 C4 CY Dw Di Dj Dg Dh Dy Dx DC DB DA Dz DH Ek Eu EE Ej Em Er Eo En Ei Eh Ds DU DW DI DG D7 D4 D3 D8 D1 D0 D2 D5 DY EA Ey Ew Ex Ez El Ep DM Fk Fg Fo Fm Fp Fl Fq Ff Fj KF KD KC KG KE GS GV G4 G7 G3 G5 G6 KH Cp Cu Cn Ci Cj Cg Ck Cm Co CF CJ CI CE Cy CB Cz CA CD CG CQ CS CR DT DP DN Dm Du Dp:Value}{mk:(Nat->Value)->Array Value}(t0:Nat->Value)(R:Nat)(ad:OA)(nn cap p:Nat)(O M hi:Nat)(ah:OA)(hn ch:Nat)(hs:Nat->ByteArray)(W:World)(hr:Rd W R ad nn cap p)(hp:p<=900000)(hO:O<W.1.size)(hOR:¬O=R)(hcO:W.cell? ⟨O,6,none⟩=some (.slice ah hn ch))(hM:M<W.1.size)(hMR:¬M=R)(u:Value)(hcM:W.cell? ⟨M,5,none⟩=some u)(hfM:W.frozen? ⟨M,5,none⟩=false)(ho:AB W 0 hi ah hn hs)(hhi:hi<=W.1.size)(hn0:0<hn)(hn1:hn<=100)(hmk:mk=λt=>#[.p R 0,p1,p2,p3,p4,.p M 0,.p O 0,p7,p8,p9,DX,DK,DV,DF,C9,CV,CU,C6,C8,CZ,Df,C7,C4,CY,Dw,Di,Dj,Dg,Dh,Dy,Dx,DC,DB,DA,Dz,DH,Ek,Eu,EE,Ej,Em,Er,Eo,En,Ei,Eh,Ds,DU,DW,DI,DG,D7,D4,D3,D8,D1,D0,D2,D5,DY,EA,Ey,Ew,Ex,Ez,El,Ep,DM,Fk,Fg,Fo,Fm,Fp,Fl,Fq,Ff,Fj,t 0,t 1,t 2,t 3,t 4,t 5,t 6,t 7,t 8,t 9,KF,KD,KC,KG,KE,GS,GV,G4,G7,G3,G5,G6,KH,Cp,Cu,Cn,Ci,Cj,Cg,Ck,Cm,Co,CF,CJ,CI,CE,Cy,CB,Cz,CA,CD,CG,CQ,CS,CR,DT,DP,DN,Dm,Du,Dp])(Q:Exit->Act->World->Prop)(hQ:∀(t:Nat->Value)(k:Nat)(pz:Nat)(X0:World),k<hn->Az (λq=>q=R) W X0->p<=pz->pz<=p+10->Rd X0 R ad nn cap pz->Q .normal ⟨mk t,[]⟩ (X0.setCell ⟨M,5,none⟩ (.s (hs k)))):Code.wp prog (rg Try.f72 12) Q ⟨mk t0,[]⟩ W:=by
 have hRW:=hr.lt;refine QH Ze 10 mk t0 R ad nn cap p (aN R O M ah hn ch hs) (λa X=>∃(t:Nat->Value)(k:Nat)(pz:Nat)(X0:World),a=⟨mk t,[]⟩/\k<hn/\X=X0.setCell ⟨M,5,none⟩ (.s (hs k))/\Az (λq=>q=R) W X0/\p<=pz/\pz<=p+10/\Rd X0 R ad nn cap pz) Ze Ze Ze ?_ rfl hr ?_ ?_ ?_;all_goals subst hmk
 .exact λ_ _ _ _ _ h _ _ _=>h
 .intro i hi t X K p' hb hp1 hp2 hrd hg hK;rcases(show i=0\/i=1\/i=2\/i=3\/i=4\/i=5\/i=6\/i=7\/i=8\/i=9 by omega)with rfl|rfl|rfl|rfl|rfl|rfl|rfl|rfl|rfl|rfl;.have h:=hK (.p O 6) X p' uK Za rfl (Az.refl _ _) hrd;exact Nz
  .have e0:t 0=_:=hg 0 (AQ rfl);have cS:=(hb.cell (p:=⟨O,6,none⟩) hO hOR).trans hcO;have h:=hK (.l ah hn ch) X p' uK Za rfl (Az.refl _ _) hrd;refine Ag rfl rfl ?_;clear hK hg;go_simp;simpa[Av,e0]using h
  .have h:=hK (.p R 0) X p' uK Za rfl (Az.refl _ _) hrd;exact Nz
  .have h:=hK (.p O 6) X p' uK Za rfl (Az.refl _ _) hrd;exact Nz
  .have e3:t 3=_:=hg 3 (AQ rfl);have cS:=(hb.cell (p:=⟨O,6,none⟩) hO hOR).trans hcO;have h:=hK (.l ah hn ch) X p' uK Za rfl (Az.refl _ _) hrd;refine Ag rfl rfl ?_;clear hK hg;go_simp;simpa[Av,e3]using h
  .have e4:t 4=_:=hg 4 (AQ rfl);have h:=hK (.i (hn:Nat)) X p' uK Za rfl (Az.refl _ _) hrd;refine Ag rfl rfl ?_;clear hK hg;go_simp;simpa[Av,e4]using h
  .have e2:t 2=_:=hg 2 (AQ rfl);have e5:t 5=_:=hg 5 (AQ rfl);refine Ag rfl rfl ?_;have HK:=Ah hK;have HR:=Ah hrd;clear hK hg hrd;go_simp;go_at_call 12;refine(A7 R ad nn cap p' (hn:Nat) X HR Za Za Za).mono ?_;exact aC
  .have e1:t 1=_:=hg 1 (AQ rfl);obtain⟨k,hk,e6⟩:∃k:Nat,k<hn/\t 6=.i k:=hg 6 (AQ rfl);obtain⟨b,off,ea,_,_,_⟩:=ho k hk;rw[ea]at e1;have h:=hK (.pointer (some ⟨b,off+k,none⟩)) X p' uK Za ⟨k,b,off,hk,ea,rfl⟩ (Az.refl _ _) hrd;refine Ag rfl rfl ?_;clear hK hg;go_simp;simpa[Av,e1,e6]using h
  .obtain⟨k,b,off,hk,ea,e7⟩:∃k b off:Nat,k<hn/\ah=some ⟨b,off,none⟩/\t 7=.pointer (some ⟨b,off+k,none⟩):=hg 7 (AQ rfl);obtain⟨b',off',ea',_,hb3,hc⟩:=ho k hk;rw[ea]at ea';obtain⟨rfl,rfl⟩:b=b'/\off=off':=by simpa using ea'
   have hne:¬b=R:=Oi hr.ns hc;have q0:=(hb.cell (p:=⟨b,off+k,none⟩) (by show b<W.1.size;omega) hne).trans hc;have h:=hK (.s (hs k)) X p' uK Za ⟨k,hk,rfl⟩ (Az.refl _ _) hrd;refine Ag rfl rfl ?_;clear hK hg hc;go_simp;simpa[Av,e7]using h
  .have h:=hK (.p M 5) X p' uK Za rfl (Az.refl _ _) hrd;exact Nz
 .intro t X K p' hb hp1 hp2 hrd hg hK;obtain⟨k,hk,e8⟩:∃k:Nat,k<hn/\t 8=.s (hs k):=hg 8 Za;have e9:t 9=_:=hg 9 Za;have cM:=(hb.cell (p:=⟨M,5,none⟩) hM hMR).trans hcM;have fM:=(hb.frozen (p:=⟨M,5,none⟩) hM hMR).trans hfM;have zM:M<X.1.size:=Ac hM hb.size;have h:=hK _ _ ⟨t,k,p',X,rfl,hk,rfl,hb,hp1,hp2,hrd⟩;have HK:=Ah h;clear hK hg h;refine Ag rfl rfl ?_;go_simp;simpa[e8,e9]using HK.out
 .rintro a X ⟨t,k,pz,X0,rfl,a1,rfl,a2,a3,a4,a5⟩;exact hQ t k pz X0 a1 a2 a3 a4 a5
def wv (v:Wr):List Value:=(cx v)
structure Wd (v:Wr):Prop where
 fit:RU v
 o1:1<=v.op
 o5:v.op<=5
 s1:v.seen<=9223372036854775807
structure jC (w:World)(R:Nat)(ad:OA)(nn cap p M:Nat)(v:Wr)(X:World):Prop where
 m:AN X M 6 (AR (wv v))f:Az (λq=>q=R) w X
 r:Rd X R ad nn cap p
 M0:w.1.size<=M
 i:Wd v
theorem jC.pick{w X Y:World}{R:Nat}{ad:OA}{nn cap p p' M:Nat}{v:Wr}(h:jC w R ad nn cap p M v X)(hf:Az (λq=>q=R) X Y)(hr:Rd Y R ad nn cap p')(hR:R<w.1.size):jC w R ad nn cap p' M v Y:=⟨h.m.fr2 hf (by have:=h.M0;omega),h.f.trans hf,hr,h.M0,h.i⟩
theorem jC.set{w X:World}{R:Nat}{ad:OA}{nn cap p M:Nat}{v:Wr}(h:jC w R ad nn cap p M v X)(h0:Rd w R ad nn cap 0\/∃q,Rd w R ad nn cap q){o:Nat}(ho:o<6)(u:Value)(v':Wr)(hi:Wd v')(e:∀j,j<6->L1 (AR (wv v)) o u j=AR (wv v') j):jC w R ad nn cap p M v' (X.setCell ⟨M,o,none⟩ u):=by obtain⟨q,hq⟩:∃q,Rd w R ad nn cap q:=h0.elim (λx=>⟨0,x⟩) id;exact⟨(h.m.set ho u).congr e,h.f.far h.M0 _ _,hq.far h.r h.M0 _ _,h.M0,hi⟩
theorem jC.cells{w X:World}{R:Nat}{ad:OA}{nn cap p M:Nat}{v:Wr}(h:jC w R ad nn cap p M v X):X.cell? ⟨M,0,none⟩=some (.i v.op)/\X.cell? ⟨M,1,none⟩=some (.s v.kind)/\X.cell? ⟨M,2,none⟩=some (.s v.name)/\X.cell? ⟨M,3,none⟩=some (.i v.seen)/\X.cell? ⟨M,4,none⟩=some (.s v.text)/\X.cell? ⟨M,5,none⟩=some (.s v.hold)/\(∀j,X.frozen? ⟨M,j,none⟩=false)/\M<X.1.size:=⟨h.m.cell 0 Zb,h.m.cell 1 Zb,h.m.cell 2 Zb,h.m.cell 3 Zb,h.m.cell 4 Zb,h.m.cell 5 Zb,h.m.free,h.m.lt⟩
def aw (R:Nat)(ad:OA)(nn cap p:Nat)(w:World)(e:Ending)(w':World):Prop:=∃v:Wr,e=.returned (.agg (vW v))/\Wd v/\Dn R ad nn cap p 60 w w'
def C2 (W:World)(R:Nat)(ad:OA)(nn cap p k M:Nat)(X:World):Prop:=∃v p',p<=p'/\p'<=p+k/\jC W R ad nn cap p' M v X
structure cr (w:World)(B:Bk)(R:Nat)(ad:OA)(nn cap p:Nat)(a1 a2 a3:OA)(c1 c2 c3:Nat)(W:World):Prop where
 b:Below w.1.size w W
 z:W.1.size=w.1.size+2
 s:AN W w.1.size 5 (AR (Qq B a1 a2 a3 c1 c2 c3))a:AN W (w.1.size+1) 6 (AR [.i 0,.s ⟨#[]⟩,.s ⟨#[]⟩,.i 0,.s ⟨#[]⟩,.s ⟨#[]⟩])r:Rd W R ad nn cap p
 i:BF W 0 w.1.size B a1 a2 a3
theorem mE (w:World)(B:Bk)(R:Nat)(ad:OA)(nn cap p:Nat)(a1 a2 a3:OA)(c1 c2 c3:Nat)(hr:Rd w R ad nn cap p)(hc:BF w 0 w.1.size B a1 a2 a3):cr w B R ad nn cap p a1 a2 a3 c1 c2 c3 ((w.alloc (.cells (vB B a1 a2 a3 c1 c2 c3) 27)).alloc (.cells #[.i 0,.s ⟨#[]⟩,.s ⟨#[]⟩,.i 0,.s ⟨#[]⟩,.s ⟨#[]⟩] 114)):=by
 have hb:Below w.1.size w ((w.alloc (.cells (vB B a1 a2 a3 c1 c2 c3) 27)).alloc (.cells #[.i 0,.s ⟨#[]⟩,.s ⟨#[]⟩,.i 0,.s ⟨#[]⟩,.s ⟨#[]⟩] 114)):=((Ao _ _).alloc uK _).alloc Zc _;refine⟨hb,Zc,?_,?_,hr.below hb,hc.below hb uK⟩;.exact AN.new (l:=(Qq B a1 a2 a3 c1 c2 c3)) AG
 .have h:=AN.new (w:=w.alloc (.cells (vB B a1 a2 a3 c1 c2 c3) 27)) (l:=[.i 0,.s ⟨#[]⟩,.s ⟨#[]⟩,.i 0,.s ⟨#[]⟩,.s ⟨#[]⟩]) (t:=114) EF;rw[Aw]at h;exact h
theorem YE{W X:World}{R lo hi n:Nat}{ad:OA}{s:Nat->ByteArray}(h:AB X lo hi ad n s)(hf:Az (λq=>q=R) W X)(hn:∀j s,¬X.cell? ⟨R,j,none⟩=some (.s s))(hh:hi<=W.1.size):AB W lo hi ad n s:=λi hi'=>by obtain⟨b,off,e1,e2,e3,e4⟩:=h i hi';refine⟨b,off,e1,e2,e3,?_⟩;have hne:¬b=R:=λe=>hn _ _ (e▸e4);exact(hf.cell (p:=⟨b,off+i,none⟩) (by show b<W.1.size;omega) hne).symm.trans e4
theorem aZ{W X:World}{R lo hi n:Nat}{ad:OA}{s:Nat->ByteArray}(h:AB W lo hi ad n s)(hf:Az (λq=>q=R) W X)(hn:∀j s,¬W.cell? ⟨R,j,none⟩=some (.s s))(hh:hi<=W.1.size):AB X lo hi ad n s:=λi hi'=>by obtain⟨b,off,e1,e2,e3,e4⟩:=h i hi';refine⟨b,off,e1,e2,e3,?_⟩;have hne:¬b=R:=λe=>hn _ _ (e▸e4);exact(hf.cell (p:=⟨b,off+i,none⟩) (by show b<W.1.size;omega) hne).trans e4
def oc (o:Ob)(ah:OA)(ch:Nat):List Value:=(nJ o ah ch)
structure jG (W:World)(R:Nat)(ad:OA)(nn cap p M O:Nat)(o:Ob)(ah:OA)(ch:Nat)(v:Wr)(X:World):Prop where
 l:jC W R ad nn cap p M v X
 o:AN X O 7 (AR (oc o ah ch))ne:¬O=M
 O0:W.1.size<=O
theorem jG.pick{w X Y:World}{R:Nat}{ad:OA}{nn cap p p' M O:Nat}{o:Ob}{ah:OA}{ch:Nat}{v:Wr}(h:jG w R ad nn cap p M O o ah ch v X)(hf:Az (λq=>q=R) X Y)(hr:Rd Y R ad nn cap p')(hR:R<w.1.size):jG w R ad nn cap p' M O o ah ch v Y:=⟨h.l.pick hf hr hR,h.o.fr2 hf (by have:=h.O0;omega),h.ne,h.O0⟩
theorem jG.set{w X:World}{R:Nat}{ad:OA}{nn cap p p0 M O:Nat}{x:Ob}{ah:OA}{ch:Nat}{v:Wr}(h:jG w R ad nn cap p M O x ah ch v X)(h0:Rd w R ad nn cap p0){o:Nat}(ho:o<6)(u:Value)(v':Wr)(hi:Wd v')(e:∀j,j<6->L1 (AR (wv v)) o u j=AR (wv v') j):jG w R ad nn cap p M O x ah ch v' (X.setCell ⟨M,o,none⟩ u):=⟨h.l.set (AC ⟨_,h0⟩) ho u v' hi e,h.o.fr ((Az.refl (λq=>q=M) X).setCell (p:=⟨M,o,none⟩) rfl u) h.ne,h.ne,h.O0⟩
theorem jG.cells{w X:World}{R:Nat}{ad:OA}{nn cap p M O:Nat}{o:Ob}{ah:OA}{ch:Nat}{v:Wr}(h:jG w R ad nn cap p M O o ah ch v X):X.cell? ⟨O,0,none⟩=some (.s o.kind)/\X.cell? ⟨O,1,none⟩=some (.s o.name)/\X.cell? ⟨O,2,none⟩=some (.i o.ver)/\X.cell? ⟨O,6,none⟩=some (.slice ah o.hn ch)/\O<X.1.size:=⟨h.o.cell 0 Zb,h.o.cell 1 Zb,h.o.cell 2 Zb,h.o.cell 6 Zb,h.o.lt⟩
def C3 (W:World)(R:Nat)(ad:OA)(nn cap p k M O:Nat)(o:Ob)(ah:OA)(ch:Nat)(X:World):Prop:=∃v p',p<=p'/\p'<=p+k/\jG W R ad nn cap p' M O o ah ch v X
theorem VV{v:Wr}{o:Nat}{u:Value}{v':Wr}(h0:(if 0=o then u else .i v.op)=.i v'.op:=by rfl)(h1:(if 1=o then u else .s v.kind)=.s v'.kind:=by rfl)(h2:(if 2=o then u else .s v.name)=.s v'.name:=by rfl)(h3:(if 3=o then u else .i v.seen)=.i v'.seen:=by rfl)(h4:(if 4=o then u else .s v.text)=.s v'.text:=by rfl)(h5:(if 5=o then u else .s v.hold)=.s v'.hold:=by rfl):∀j,j<6->L1 (AR (wv v)) o u j=AR (wv v') j:=λj hj=>by
 rcases(show j=0\/j=1\/j=2\/j=3\/j=4\/j=5 by omega)with rfl|rfl|rfl|rfl|rfl|rfl;.exact h0
 .exact h1
 .exact h2
 .exact h3
 .exact h4
 .exact h5
theorem wV{w:World}{g:Nat}{c:Nat->Value}(h:AN w g 6 c)(a0 a1 a2 a3 a4 a5:Value):AN ((((((w.setCell ⟨g,0,none⟩ a0).setCell ⟨g,1,none⟩ a1).setCell ⟨g,2,none⟩ a2).setCell ⟨g,3,none⟩ a3).setCell ⟨g,4,none⟩ a4).setCell ⟨g,5,none⟩ a5) g 6 (AR [a0,a1,a2,a3,a4,a5]):=((((((h.set Zb a0).set Zb a1).set Zb a2).set Zb a3).set Zb a4).set Zb a5).congr (λj hj=>by rcases(show j=0\/j=1\/j=2\/j=3\/j=4\/j=5 by omega)with rfl|rfl|rfl|rfl|rfl|rfl<;>rfl)
theorem YD{w w3:World}{R y:Nat}(hf:Az (λq=>q=R) (w.alloc (.cells #[.s ⟨#[104]⟩,.s ⟨#[104,50]⟩,.s ⟨#[107,101,101,112,101,114]⟩,.s ⟨#[97]⟩,.s ⟨#[98]⟩,.s ⟨#[99]⟩] 9)) w3)(hR:¬w.1.size=R)(hy:(y:Int)<6):∃s:ByteArray,(s.size:Int)<=140737488355328/\w3.cell? ⟨w.1.size,y,none⟩=some (.s s):=by have e:=hf.cell (p:=⟨w.1.size,y,none⟩) Zc hR;have n:(w.alloc (.cells #[.s ⟨#[104]⟩,.s ⟨#[104,50]⟩,.s ⟨#[107,101,101,112,101,114]⟩,.s ⟨#[97]⟩,.s ⟨#[98]⟩,.s ⟨#[99]⟩] 9)).cell? ⟨w.1.size,y,none⟩=_:=Ak w #[.s ⟨#[104]⟩,.s ⟨#[104,50]⟩,.s ⟨#[107,101,101,112,101,114]⟩,.s ⟨#[97]⟩,.s ⟨#[98]⟩,.s ⟨#[99]⟩] 9 y;rw[e,n];rcases(show y=0\/y=1\/y=2\/y=3\/y=4\/y=5 by omega)with rfl|rfl|rfl|rfl|rfl|rfl;all_goals exact⟨_,Zb,rfl⟩
theorem nO{x:Int}(h:(Lit.int .i64 x).wf=true):x<=9223372036854775807:=by simp[Lit.wf]at h;omega
theorem nM:((⟨#[]⟩:ByteArray).size:Int)<=140737488355328:=Zb
theorem sZ{s:ByteArray}(h:s∈Vn):(s.size:Int)<=140737488355328:=by simp only[Vn,Eb,Nj,or_false]at h;rcases h with rfl|rfl|rfl<;>decide
theorem sX{s:ByteArray}(h:s∈Un):(s.size:Int)<=140737488355328:=by simp only[Un,Eb,Nj,or_false]at h;rcases h with rfl|rfl|rfl|rfl<;>decide
theorem Rg (B:Bk)(R:Nat)(ad:OA)(nn cap p:Nat)(a1 a2 a3:OA)(c1 c2 c3:Nat)(w:World)(hr:Rd w R ad nn cap p)(hp:p<=800000)(hf:BL B)(hon:B.on<=100)(hh:∀i,i<B.on->(B.os i).hn<=100)(hc:BF w 0 w.1.size B a1 a2 a3):Calls prog 72 #[.p R 0,.agg (vB B a1 a2 a3 c1 c2 c3)] w λe w'=>aw R ad nn cap p w e w':=by
 have HB:=Ah (mE w B R ad nn cap p a1 a2 a3 c1 c2 c3 hr hc);have HF:=Ah hf;have HH:=Ah hh;have hRw:=hr.lt;have HR:=Ah hr;clear hr hc hf hh;go_enter func72,ntmps72;go_wp2_with fail;generalize(w.alloc (.cells (vB B a1 a2 a3 c1 c2 c3) 27)).alloc (.cells #[.i 0,.s ⟨#[]⟩,.s ⟨#[]⟩,.i 0,.s ⟨#[]⟩,.s ⟨#[]⟩] 114)=W at HB⊢;have hzW:=HB.z;refine oU (λ_=>undef) R ad nn cap p W HB.r Za rfl _ ?_;intro t M k s1 s2 pz X ht hM hk h1 h2 hrow hfr hp1 hp2 hrd;rw[ht];have HL:=Ah (show C2 W R ad nn cap p 15 M X from⟨⟨1+(k:Int),s1,s2,0,⟨#[]⟩,⟨#[]⟩⟩,pz,hp1,hp2,hrow,hfr,hrd,hM,⟨⟨sZ h1,sX h2,nM,nM⟩,by show(1:Int)<=1+k;omega,by show(1:Int)+k<=5;omega,by show(0:Int)<=_;omega⟩⟩);clear hrow hfr hrd ht h1 h2 hk;go_upto_region 2 with fail;go_cut[34](λc wx=>∃b:Bool,c=.bool b/\(b=true->0<B.on)/\C2 W R ad nn cap p 16 M wx);case first=>
  --<r2
  obtain⟨v,q,hq1,hq2,hL⟩:=HL.out;clear HL;obtain⟨r0,r1,r2,r3,r4,r5,rf,rl⟩:=hL.cells;have hS:=hL.f.cell (p:=⟨w.1.size,2,none⟩) (by show w.1.size<W.1.size;omega) (show¬w.1.size=R by omega);rw[show W.cell? ⟨w.1.size,2,none⟩=some (.slice a1 B.on c1)from HB.s.cell 2 Zb]at hS;have HL:=Ah hL;clear hL r1 r2 r3 r4 r5 rf;go_wp2_with (go_at_call 12;go_must(refine(A7 R ad nn cap _ 6 _ HL.r Za Zb Zb).mono ?_;rintro e w3 ⟨y,rfl,_,hy,hf3,hr3⟩));all_goals go_meet
  case rel=>exact⟨_,rfl,λh=>O7,v,q,hq1,Za,HL⟩
  case rel=>exact⟨_,rfl,λ_=>Za,v,q+1,Za,Za,HL.pick hf3 hr3 Za⟩
  case rel=>exact⟨_,rfl,λh=>O7,v,q,hq1,Za,HL⟩
  --r2>
 case rest=>
  obtain⟨b,rfl,hb0,hL⟩:=hcut;have HL':=Ah hL;clear hL HL;go_upto_if 34 with fail;go_cut[](λwx=>C2 W R ad nn cap p 45 M wx);case first=>obtain⟨v,q,hq1,hq2,hL⟩:=HL'.out;cases b with
   |false=>go_wp2_with fail;go_meet;case rel=>exact⟨v,q,hq1,Za,hL⟩
   |true=>
    --<ob
    have hb1:=hb0 rfl;clear hb0;go_wp2_with fail;have HL:=Ah hL;have hMW:=hL.M0;clear hL HL';have hcS:=HL.f.cell (p:=⟨w.1.size,2,none⟩) (by show w.1.size<W.1.size;omega) (show¬w.1.size=R by omega);rw[show W.cell? ⟨w.1.size,2,none⟩=some (.slice a1 B.on c1)from HB.s.cell 2 Zb]at hcS;have hzX:=HL.f.size;refine oW (AR [_,_,_,_,_,_,_,_,_,_]) R ad nn cap q w.1.size w.1.size B a1 c1 _ HL.r Za Za Za hcS (HB.i.box HL.f HB.r.ns Za).o Za hb1 hon rfl _ ?_;intro t O k ah ch q2 X2 ht hO hk hs hrow hfr hp3 hp4 hrd;rw[ht];have hSW:=YE hs HL.f HL.r.ns Za;have hMX:=HL.m.lt;have HT:=Ah (show jG W R ad nn cap q2 M O (B.os k) ah ch v X2 from⟨HL.pick hfr hrd Za,hrow,Za,Za⟩);have hfo:=HF.os k hk;have hhn:=HH k hk;have aq:=Ah hSW;have MA:=Ah hfo;clear hs hrow hfr hrd ht hcS HL hSW hfo;obtain⟨o0,o1,o2,o6,ol⟩:=HT.cells;obtain⟨r0,r1,r2,r3,r4,r5,rf,rl⟩:=HT.l.cells;have rf1:=rf 1;have rf2:=rf 2;clear rf o2 o6 r3 r4 r5 r0;have hneOM:=HT.ne;have tV:=Ah ((HT.set HB.r (o:=1) Zb (.s (B.os k).kind) {v with kind:=(B.os k).kind} ⟨⟨MA.k,HT.l.i.fit.n,HT.l.i.fit.t,HT.l.i.fit.h⟩,HT.l.i.o1,HT.l.i.o5,HT.l.i.s1⟩ (VV)).set HB.r (o:=2) Zb (.s (B.os k).name) {v with kind:=(B.os k).kind,name:=(B.os k).name} ⟨⟨MA.k,MA.n,HT.l.i.fit.t,HT.l.i.fit.h⟩,HT.l.i.o1,HT.l.i.o5,HT.l.i.s1⟩ (VV));clear HT;go_upto_region 6 with fail;generalize(X2.setCell ⟨M,1,none⟩ (.s (B.os k).kind)).setCell ⟨M,2,none⟩ (.s (B.os k).name)=X3 at tV⊢;clear o0 o1 r1 r2 rf1 rf2 ol rl hneOM;go_upto_block 0 with(go_at_call 12;go_must(refine(A7 R ad nn cap _ 5 _ tV.l.r Za Zb Zb).mono ?_;rintro e w3 ⟨y,rfl,_,hy,hf3,hr3⟩));have ZM:=Ah (tV.pick hf3 hr3 Za);clear tV hf3 hr3;go_cut[](λwx=>C3 W R ad nn cap p 30 M O (B.os k) ah ch wx);case first=>
     obtain⟨r0,r1,r2,r3,r4,r5,rf,rl⟩:=ZM.l.cells;obtain⟨o0,o1,o2,o6,ol⟩:=ZM.cells;have rf3:=rf 3;clear rf r0 r1 r2 r4 r5 o0 o1 o6;go_wp2_with (go_at_call 12;go_must(refine(A7 R ad nn cap _ 20 _ ZM.l.r Za Zb Zb).mono ?_;rintro e w4 ⟨y4,rfl,_,hy4,hf4,hr4⟩;have ZN:=Ah (ZM.pick hf4 hr4 Za);have r34:=ZN.l.cells.2.2.2.1;have rf34:=ZN.l.m.free 3;have hy4':=hy4 Zb));all_goals go_meet
     case rel=>exact⟨_,_,Za,Za,ZM⟩
     case rel=>exact⟨_,_,Za,Za,ZN.set HB.r (o:=3) Zb _ {v with kind:=(B.os k).kind,name:=(B.os k).name,seen:=1+(y4:Int)} ⟨⟨MA.k,MA.n,ZN.l.i.fit.t,ZN.l.i.fit.h⟩,ZN.l.i.o1,ZN.l.i.o5,by show 1+(y4:Int)<=_;omega⟩ (VV)⟩
     case rel=>exact⟨_,_,Za,Za,ZM.set HB.r (o:=3) Zb _ {v with kind:=(B.os k).kind,name:=(B.os k).name,seen:=(B.os k).ver} ⟨⟨MA.k,MA.n,ZM.l.i.fit.t,ZM.l.i.fit.h⟩,ZM.l.i.o1,ZM.l.i.o5,nO MA.v⟩ (VV)⟩
    case rest=>
     have ZN:=Ah hcut;clear hcut ZM;go_upto_region 11 with fail;go_cut[76](λc wx=>∃b:Bool,c=.bool b/\(b=true->0<(B.os k).hn)/\C3 W R ad nn cap p 31 M O (B.os k) ah ch wx);case first=>
      obtain⟨v4,q4,hq41,hq42,hT⟩:=ZN.out;have QJ:=Ah hT;obtain⟨r0,r1,r2,r3,r4,r5,rf,rl⟩:=hT.l.cells;obtain⟨o0,o1,o2,o6,ol⟩:=hT.cells;clear hT rf r1 r2 r3 r4 r5 o0 o1 o2 ZN;go_wp2_with (go_at_call 12;go_must(refine(A7 R ad nn cap _ 4 _ QJ.l.r Za Zb Zb).mono ?_;rintro e w3 ⟨y,rfl,_,hy,hf3,hr3⟩));all_goals go_meet
      case rel=>exact⟨_,rfl,λ_=>Za,v4,q4+1,Za,Za,QJ.pick hf3 hr3 Za⟩
      case rel=>exact⟨_,rfl,λh=>O7,v4,q4,Za,Za,QJ⟩
      case rel=>exact⟨_,rfl,λh=>O7,v4,q4,Za,Za,QJ⟩
     case rest=>obtain⟨b,rfl,hb0,hT⟩:=hcut;obtain⟨v5,q5,hq51,hq52,hT⟩:=hT;have QJ:=Ah hT;clear hT ZN;cases b with
      |false=>go_wp2_with fail;go_meet;case rel=>exact⟨v5,q5,Za,Za,QJ.l⟩
      |true=>have hb2:=hb0 rfl;clear hb0;go_wp2_with fail;have hO0:=QJ.O0;have hM0:=QJ.l.M0;have hzX5:=QJ.l.f.size;refine lP (AR [_,_,_,_,_,_,_,_,_,_]) R ad nn cap q5 O M w.1.size ah (B.os k).hn ch (B.os k).hs _ QJ.l.r Za QJ.o.lt Za (QJ.o.cell 6 Zb) QJ.l.m.lt Za _ (QJ.l.m.cell 5 Zb) (QJ.l.m.free 5) (aZ aq QJ.l.f HB.r.ns Za) Za hb2 hhn rfl _ ?_;intro t j q6 X6 hj hf6 hp6 hp7 hr6;go_wp2_with fail;go_meet;case rel=>exact⟨_,q6,Za,Za,((QJ.pick hf6 hr6 Za).set HB.r (o:=5) Zb _ {v5 with hold:=(B.os k).hs j} ⟨⟨QJ.l.i.fit.k,QJ.l.i.fit.n,QJ.l.i.fit.t,MA.s j hj⟩,QJ.l.i.o1,QJ.l.i.o5,QJ.l.i.s1⟩ (VV)).l⟩
    --ob>
  case rest=>
   have HM:=Ah hcut;clear hcut HL';go_upto_region 13 with fail;go_cut[94](λc wx=>∃b:Bool,c=.bool b/\C2 W R ad nn cap p 45 M wx);case first=>
    obtain⟨v,q,hq1,hq2,hL⟩:=HM.out;obtain⟨r0,r1,r2,r3,r4,r5,rf,rl⟩:=hL.cells;have HL:=Ah hL;clear hL HM r1 r2 r3 r4 r5 rf;go_wp2_with fail;all_goals go_meet
    all_goals exact⟨_,rfl,v,q,Za,Za,HL⟩
   case rest=>
    obtain⟨b,rfl,hL⟩:=hcut;have Tj:=Ah hL;clear hL HM;go_upto_if 94 with fail;go_cut[](λwx=>C2 W R ad nn cap p 50 M wx);case first=>obtain⟨v,q,hq1,hq2,hL⟩:=Tj.out;have HL:=Ah hL;clear hL Tj;cases b with
     |false=>go_wp2_with fail;go_meet;case rel=>exact⟨v,q,Za,Za,HL⟩
     |true=>obtain⟨r0,r1,r2,r3,r4,r5,rf,rl⟩:=HL.cells;clear r0 r1 r2 r3 r4 r5 rf rl;go_wp2_with (go_at_call 86;go_must(refine(bN R ad nn cap _ _ HL.r Za).mono ?_;rintro e w3 ⟨s,rfl,hs3,hf3,q3,hq31,hq32,hr3⟩;have N7:=Ah (HL.pick hf3 hr3 Za);have r43:=N7.cells.2.2.2.2.1;have rf43:=N7.m.free 4));go_meet;case rel=>exact⟨_,q3,Za,Za,N7.set (AC ⟨_,HB.r⟩) (o:=4) Zb _ {v with text:=s} ⟨⟨HL.i.fit.k,HL.i.fit.n,by show(s.size:Int)<=_;omega,HL.i.fit.h⟩,HL.i.o1,HL.i.o5,HL.i.s1⟩ (VV)⟩
    case rest=>
     have rB:=Ah hcut;clear hcut Tj;go_upto_region 15 with fail;go_cut[120](λc wx=>∃b:Bool,c=.bool b/\C2 W R ad nn cap p 52 M wx);case first=>
      --<r15
      obtain⟨v,q,hq1,hq2,hL⟩:=rB.out;obtain⟨r0,r1,r2,r3,r4,r5,rf,rl⟩:=hL.cells;have HL:=Ah hL;clear hL rB r1 r2 r3 r4 rf;go_wp2_with (go_at_call 12;go_must(refine(A7 R ad nn cap _ 3 _ HL.r Za Zb Zb).mono ?_;rintro e w3 ⟨y,rfl,_,hy,hf3,hr3⟩));all_goals go_meet
      all_goals first|exact⟨_,rfl,v,q,Za,Za,HL⟩|exact⟨_,rfl,v,q+1,Za,Za,HL.pick hf3 hr3 Za⟩
      --r15>
     case rest=>
      obtain⟨b,rfl,hL⟩:=hcut;have wG:=Ah hL;clear hL rB;go_upto_if 120 with fail;go_cut[](λwx=>C2 W R ad nn cap p 55 M wx);case first=>obtain⟨v,q,hq1,hq2,hL⟩:=wG.out;have HL:=Ah hL;clear hL wG;cases b with
       |false=>go_wp2_with fail;go_meet;case rel=>exact⟨v,q,Za,Za,HL⟩
       |true=>have hMl:=HL.m.lt;have hzc:=HL.f.size;have hxb:∀o,Below wc.1.size wc (wc.alloc o):=λo=>An _ _;have rF:=Ah hxb;clear hxb;go_wp2_with (go_at_call 12;go_must(refine(A7 R ad nn cap q 6 _ (HL.r.below (rF _)) Za Zb Zb).mono ?_;rintro e w3 ⟨y,rfl,_,hy,hf3,hr3⟩;have hy6:=hy Zb;have N7:=Ah (HL.pick ((Aq (rF _)).trans hf3) hr3 Za);obtain⟨s,hs1,hs2⟩:=YD hf3 Za hy6;have r53:=N7.cells.2.2.2.2.2.1;have rf53:=N7.m.free 5));go_meet;case rel=>exact⟨_,q+1,Za,Za,N7.set (AC ⟨_,HB.r⟩) (o:=5) Zb _ {v with hold:=s} ⟨⟨HL.i.fit.k,HL.i.fit.n,HL.i.fit.t,hs1⟩,HL.i.o1,HL.i.o5,HL.i.s1⟩ (VV)⟩
        --r16>
      case rest=>obtain⟨v,q,hq1,hq2,hL⟩:=hcut;obtain⟨r0,r1,r2,r3,r4,r5,rf,rl⟩:=hL.cells;have ha:=hL.f.block;have A:=HB.a.fr2 hL.f Za;have A0:=A.cell 0 Zb;have A1:=A.cell 1 Zb;have A2:=A.cell 2 Zb;have A3:=A.cell 3 Zb;have A4:=A.cell 4 Zb;have A5:=A.cell 5 Zb;have AF:=A.free;have AL:=A.lt;simp only[AR,Aa,Ab]at A0 A1 A2 A3 A4 A5;have HL:=Ah hL;clear hL wG ha;have HA:=Ah A;clear A;go_wp2_with fail;have Z:=wV HA (.i v.op) (.s v.kind) (.s v.name) (.i v.seen) (.s v.text) (.s v.hold);have z0:=Z.cell 0 Zb;have z1:=Z.cell 1 Zb;have z2:=Z.cell 2 Zb;have z3:=Z.cell 3 Zb;have z4:=Z.cell 4 Zb;have z5:=Z.cell 5 Zb;simp only[AR,Aa,Ab]at z0 z1 z2 z3 z4 z5;refine bodyPost_ret (v:=.agg (vW v)) (by simp[results,results72,go_sem,z0,z1,z2,z3,z4,z5]) rfl ⟨v,rfl,HL.i,((Aq HB.b).trans HL.f).far6 Za _ _ _ _ _ _,q,Za,Za,HR.far6 HL.r Za _ _ _ _ _ _⟩
       --fin>
end Go.Proofs.Ytnnjcenacidceaa
