import Derived.Test.YtnnjcenacidceaaPk39
import Derived.Deep.Light
set_option maxRecDepth 100000
set_option maxHeartbeats 8000000
namespace Go.Proofs.Ytnnjcenacidceaa
open Go.RowKit Go.Proofs.Try
def X7:List ByteArray:=[⟨#[97,110,110]⟩,⟨#[98,111,98]⟩,⟨#[99,121]⟩]
theorem oQ{s:ByteArray}(h:s∈X7):(s.size:Int)<=140737488355328:=by simp only[X7,Eb,Nj,or_false]at h;rcases h with rfl|rfl|rfl<;>decide
theorem xB(w:World):MG (w.alloc (.cells #[.int .i64 0,.int .i64 0,.int .i64 0,.slice none 0 0,.slice none 0 0,.slice none 0 0,.int .i64 0] 111)) w.1.size:=λj s e=>by rw[Ak w #[.int .i64 0,.int .i64 0,.int .i64 0,.slice none 0 0,.slice none 0 0,.slice none 0 0,.int .i64 0] 111 j]at e;match j,e with
 |0,e=>cases e
 |1,e=>cases e
 |2,e=>cases e
 |3,e=>cases e
 |4,e=>cases e
 |5,e=>cases e
 |6,e=>cases e
 |n+7,e=>simp at e
theorem Lt.pick{X Y:World}{R:Nat}{x:Bu}{u1 u2:OA}(h:Lt X 0 X.1.size x u1 u2)(hf:Az (λq=>q=R) X Y)(hn:∀j s,¬X.cell? ⟨R,j,none⟩=some (.string s)):Lt Y 0 Y.1.size x u1 u2:=by
 refine⟨λi hi=>?_,λi hi=>?_⟩;.obtain⟨b,off,e1,e2,e3,e4⟩:=h.wt i hi;have e:∀j,Y.cell? ⟨b,j,none⟩=X.cell? ⟨b,j,none⟩:=λj=>hf.cell (p:=⟨b,j,none⟩) e3 (λq=>hn _ _ (show X.cell? ⟨R,off+i*3,none⟩=_ from(show b=R from q)▸e4.c0));exact⟨b,off,e1,e2,Ac e3 hf.size,⟨(e _).trans e4.c0,(e _).trans e4.c1,(e _).trans e4.c2⟩⟩
 .obtain⟨b,off,e1,e2,e3,e4⟩:=h.wr i hi;have e:∀j,Y.cell? ⟨b,j,none⟩=X.cell? ⟨b,j,none⟩:=λj=>hf.cell (p:=⟨b,j,none⟩) e3 (λq=>hn _ _ (show X.cell? ⟨R,off+i*6+1,none⟩=_ from(show b=R from q)▸e4.c1));exact⟨b,off,e1,e2,Ac e3 hf.size,⟨(e _).trans e4.c0,(e _).trans e4.c1,(e _).trans e4.c2,(e _).trans e4.c3,(e _).trans e4.c4,(e _).trans e4.c5⟩⟩
def mA (R:Nat)(_Bb:Nat)(Y:Bk)(b1 b2 b3:OA)(k1 k2 k3:Nat)(W:World)(i:Nat)(v:Value)(X:World):Prop:=match i with
 |0=>v=.agg #[.int .i64 Y.now,.int .i64 Y.floor,.slice b1 Y.on k1,.slice b2 Y.hn k2,.slice b3 Y.tn k3]
 |1=>v=.pointer (some ⟨R,0,none⟩)
 |2=>v=.agg #[.int .i64 Y.now,.int .i64 Y.floor,.slice b1 Y.on k1,.slice b2 Y.hn k2,.slice b3 Y.tn k3]
 |3=>∃y:Wr,v=.agg #[.int .i64 y.op,.string y.kind,.string y.name,.int .i64 y.seen,.string y.text,.string y.hold]/\Wd y
 |4=>∃(cd:Int)(V:Bk)(f1 f2 f3:OA)(h1 h2 h3:Nat)(ve:Int),v=.agg #[.int .i64 cd,.int .i64 V.now,.int .i64 V.floor,.slice f1 V.on h1,.slice f2 V.hn h2,.slice f3 V.tn h3,.int .i64 ve]/\L4 X V f1 f2 f3 h3
 |5=>∃z:Nat,v=.pointer (some ⟨z,0,none⟩)/\W.1.size<=z/\AN X z 7 (AR [.int .i64 0,.int .i64 0,.int .i64 0,.slice none 0 0,.slice none 0 0,.slice none 0 0,.int .i64 0])/\MG X z
 |_=>True
theorem QU{P:Prop}(h:P:=by have q0:=(hb.cell (p:=⟨Bb,0,none⟩) hBb hBR).trans (hrow.cell 0 Zb);have q1:=(hb.cell (p:=⟨Bb,1,none⟩) hBb hBR).trans (hrow.cell 1 Zb);have q2:=(hb.cell (p:=⟨Bb,2,none⟩) hBb hBR).trans (hrow.cell 2 Zb);have q3:=(hb.cell (p:=⟨Bb,3,none⟩) hBb hBR).trans (hrow.cell 3 Zb);have q4:=(hb.cell (p:=⟨Bb,4,none⟩) hBb hBR).trans (hrow.cell 4 Zb);simp only[AR,Aa,Ab]at q0 q1 q2 q3 q4;have h:=hK (.agg #[.int .i64 Y.now,.int .i64 Y.floor,.slice b1 Y.on k1,.slice b2 Y.hn k2,.slice b3 Y.tn k3]) X p' uK Za rfl (Az.refl _ _) hrd;refine Ag rfl rfl ?_;clear hK hg;go_simp;simpa[Av]using h):P:=h
theorem PA{P:Prop}(h:P:=by have h:=hK (.pointer (some ⟨R,0,none⟩)) X p' uK Za rfl (Az.refl _ _) hrd;refine Ag rfl rfl ?_;clear hK hg;go_simp;simpa[Av]using h):P:=h
theorem Pc{P:Prop}(h:P:=by refine Ag rfl rfl ?_;clear hK hg;go_simp;simpa[Av]using h):P:=h
theorem pY{p1 p2 p4 p6 p7 p8 p9 DX DK DV DF C9 CV CU C6 C8 CZ Di Dj Dg Dh Dy Dx DC DB DA Dz DH Ek Eu EE Ej Em Er Eo En Ei Eh Ds DU DW DI DG D7 D4 D3 D8 D1 D0 D2 D5 DY EA Ey Ew Ex Ez El Ep DM Fk Fg Fo Fm Fp Fl Fq Ff Fj GR GU GT Fi Fh FK FA FM GZ:Value}{mk:(Nat->Value)->Array Value}(t0:Nat->Value)(R:Nat)(ad:OA)(nn cap p:Nat)(Bb:Nat)(Y:Bk)(b1 b2 b3:OA)(k1 k2 k3:Nat)(W:World)(hr:Rd W R ad nn cap p)(hp:p<=600000)(hBb:Bb<W.1.size)(hBR:¬Bb=R)(hrow:AN W Bb 5 (AR [.int .i64 Y.now,.int .i64 Y.floor,.slice b1 Y.on k1,.slice b2 Y.hn k2,.slice b3 Y.tn k3]))(hY:L4 W Y b1 b2 b3 k3)(hmk:mk=λt=>#[.pointer (some ⟨R,0,none⟩),p1,p2,.pointer (some ⟨Bb,0,none⟩),p4,t 5,p6,p7,p8,p9,DX,DK,DV,DF,C9,CV,CU,C6,C8,CZ,t 0,t 1,t 2,t 3,t 4,Di,Dj,Dg,Dh,Dy,Dx,DC,DB,DA,Dz,DH,Ek,Eu,EE,Ej,Em,Er,Eo,En,Ei,Eh,Ds,DU,DW,DI,DG,D7,D4,D3,D8,D1,D0,D2,D5,DY,EA,Ey,Ew,Ex,Ez,El,Ep,DM,Fk,Fg,Fo,Fm,Fp,Fl,Fq,Ff,Fj,GR,GU,GT,Fi,Fh,FK,FA,FM,GZ])(Q:Exit->Act->World->Prop)(hQ:∀(t:Nat->Value)(z:Nat)(cd:Int)(V:Bk)(f1 f2 f3:OA)(h1 h2 h3:Nat)(ve:Int)(pz:Nat) X,t 5=.pointer (some ⟨z,0,none⟩)->W.1.size<=z->AN X z 7 (AR [.int .i64 cd,.int .i64 V.now,.int .i64 V.floor,.slice f1 V.on h1,.slice f2 V.hn h2,.slice f3 V.tn h3,.int .i64 ve])->L4 X V f1 f2 f3 h3->Az (λq=>q=R) W X->p<=pz->pz<=p+360->Rd X R ad nn cap pz->Q .normal ⟨mk t,[]⟩ X):Code.wp prog (rg Try.f43 6) Q ⟨mk t0,[]⟩ W:=by
 have hRW:=hr.lt;refine RI Ze 6 11 60 mk t0 R ad nn cap p (mA R Bb Y b1 b2 b3 k1 k2 k3 W) (λa X=>∃(t:Nat->Value)(z:Nat)(cd:Int)(V:Bk)(f1 f2 f3:OA)(h1 h2 h3:Nat)(ve:Int)(pz:Nat),a=⟨mk t,[]⟩/\t 5=.pointer (some ⟨z,0,none⟩)/\W.1.size<=z/\AN X z 7 (AR [.int .i64 cd,.int .i64 V.now,.int .i64 V.floor,.slice f1 V.on h1,.slice f2 V.hn h2,.slice f3 V.tn h3,.int .i64 ve])/\L4 X V f1 f2 f3 h3/\Az (λq=>q=R) W X/\p<=pz/\pz<=p+360/\Rd X R ad nn cap pz) Ze Ze Ze ?_ rfl hr ?_ ?_ ?_ ?_;all_goals subst hmk
 .intro i v X Z p' hi h hF hRd hR hX;rcases(show i=0\/i=1\/i=2\/i=3\/i=4\/i=5 by omega)with rfl|rfl|rfl|rfl|rfl|rfl;.exact h
  .exact h
  .exact h
  .exact h
  .obtain⟨cd,V,f1,f2,f3,h1,h2,h3,ve,e,hV⟩:=h;exact⟨cd,V,f1,f2,f3,h1,h2,h3,ve,e,hV.pick hF hRd.ns⟩
  .obtain⟨z,e,z1,z2,z3⟩:=h;exact⟨z,e,z1,z2.fr2 hF Za,z3.fr hF z2.lt Za⟩
 .intro i hi t X K p' hb hp1 hp2 hrd hg hK;rcases(show i=0\/i=1\/i=2\/i=3\/i=4\/i=5 by omega)with rfl|rfl|rfl|rfl|rfl|rfl;.exact QU
  .exact PA
  .exact QU
  .have g1:t 1=.pointer (some ⟨R,0,none⟩):=hg 1 (AQ rfl);have g2:t 2=.agg #[.int .i64 Y.now,.int .i64 Y.floor,.slice b1 Y.on k1,.slice b2 Y.hn k2,.slice b3 Y.tn k3]:=hg 2 (AQ rfl);have HY:=Ah (hY.pick hb hr.ns);refine Ag rfl rfl ?_;have HK:=Ah hK;have HR:=Ah hrd;clear hK hg hrd;go_simp;go_at_call 72;refine(Rg Y R ad nn cap p' b1 b2 b3 k1 k2 k3 X HR Za HY.f (UB HY.v).1 (UB HY.v).2 HY.i).mono ?_;rintro r Z ⟨y,rfl,hy,hf,q3,z1,z2,hr2⟩;have h:=HK (.agg #[.int .i64 y.op,.string y.kind,.string y.name,.int .i64 y.seen,.string y.text,.string y.hold]) Z q3 z1 Za ⟨y,rfl,hy⟩ hf hr2;simpa[Av,g1,g2]using h
  .have g0:t 0=.agg #[.int .i64 Y.now,.int .i64 Y.floor,.slice b1 Y.on k1,.slice b2 Y.hn k2,.slice b3 Y.tn k3]:=hg 0 (AQ rfl);obtain⟨y,g3,hy⟩:∃y:Wr,t 3=.agg #[.int .i64 y.op,.string y.kind,.string y.name,.int .i64 y.seen,.string y.text,.string y.hold]/\Wd y:=hg 3 (AQ rfl);have HY:=Ah (hY.pick hb hr.ns);refine Ag rfl rfl ?_;have HK:=Ah hK;have HR:=Ah hrd;clear hK hg hrd;go_simp;go_at_call 71;refine(Ur Y y b1 b2 b3 k1 k2 k3 X HY hy).mono ?_;rintro r Z ⟨hbZ,cd,V,f1,f2,f3,h1,h2,h3,ve,rfl,hV⟩;have h:=HK (.agg #[.int .i64 cd,.int .i64 V.now,.int .i64 V.floor,.slice f1 V.on h1,.slice f2 V.hn h2,.slice f3 V.tn h3,.int .i64 ve]) Z p' uK Za ⟨cd,V,f1,f2,f3,h1,h2,h3,ve,rfl,hV⟩ (Aq hbZ) (HR.below hbZ);simpa[Av,g0,g3]using h
  .have h:=hK (.pointer (some ⟨X.1.size,0,none⟩)) (X.alloc (.cells #[.int .i64 0,.int .i64 0,.int .i64 0,.slice none 0 0,.slice none 0 0,.slice none 0 0,.int .i64 0] 111)) p' uK Za ⟨X.1.size,rfl,hb.size,AN.new (l:=[.int .i64 0,.int .i64 0,.int .i64 0,.slice none 0 0,.slice none 0 0,.slice none 0 0,.int .i64 0]) (t:=111) EF,xB X⟩ (Aq AG) (hrd.below AG);exact Pc
 .intro t X K p' hb hp1 hp2 hrd hg hK;obtain⟨cd,V,f1,f2,f3,h1,h2,h3,ve,g4,hV⟩:∃(cd:Int)(V:Bk)(f1 f2 f3:OA)(h1 h2 h3:Nat)(ve:Int),t 4=.agg #[.int .i64 cd,.int .i64 V.now,.int .i64 V.floor,.slice f1 V.on h1,.slice f2 V.hn h2,.slice f3 V.tn h3,.int .i64 ve]/\L4 X V f1 f2 f3 h3:=hg 4 Za Za;obtain⟨z,g5,hz,hrow7,hnz⟩:∃z:Nat,t 5=.pointer (some ⟨z,0,none⟩)/\W.1.size<=z/\AN X z 7 (AR [.int .i64 0,.int .i64 0,.int .i64 0,.slice none 0 0,.slice none 0 0,.slice none 0 0,.int .i64 0])/\MG X z:=hg 5 Za Za;have rf:=hrow7.free;have rl:=hrow7.lt;obtain⟨r0,r1,r2,r3,r4,r5,r6⟩:=tR hrow7;have R6:=(((((((hrow7.set (o:=0) Za (.int .i64 cd)).set (o:=1) Za (.int .i64 V.now)).set (o:=2) Za (.int .i64 V.floor)).set (o:=3) Za (.slice f1 V.on h1)).set (o:=4) Za (.slice f2 V.hn h2)).set (o:=5) Za (.slice f3 V.tn h3)).set (o:=6) Za (.int .i64 ve));have F6:=hb.far7 (z:=z) hz (.int .i64 cd) (.int .i64 V.now) (.int .i64 V.floor) (.slice f1 V.on h1) (.slice f2 V.hn h2) (.slice f3 V.tn h3) (.int .i64 ve);have D6:=hr.far7 hrd (z:=z) hz (.int .i64 cd) (.int .i64 V.now) (.int .i64 V.floor) (.slice f1 V.on h1) (.slice f2 V.hn h2) (.slice f3 V.tn h3) (.int .i64 ve);have B6:=hV.pick ((((((((Az.refl (λq=>q=z) X).setCell (p:=⟨z,0,none⟩) rfl (.int .i64 cd)).setCell (p:=⟨z,1,none⟩) rfl (.int .i64 V.now)).setCell (p:=⟨z,2,none⟩) rfl (.int .i64 V.floor)).setCell (p:=⟨z,3,none⟩) rfl (.slice f1 V.on h1)).setCell (p:=⟨z,4,none⟩) rfl (.slice f2 V.hn h2)).setCell (p:=⟨z,5,none⟩) rfl (.slice f3 V.tn h3)).setCell (p:=⟨z,6,none⟩) rfl (.int .i64 ve)) hnz;have h:=hK _ _ ⟨t,z,cd,V,f1,f2,f3,h1,h2,h3,ve,p',rfl,g5,hz,⟨R6.lt,R6.free,λj hj=>by rw[R6.cell j hj];rcases(show j=0\/j=1\/j=2\/j=3\/j=4\/j=5\/j=6 by omega)with rfl|rfl|rfl|rfl|rfl|rfl|rfl<;>rfl⟩,B6,F6,hp1,Za,D6⟩;have HK:=Ah h;clear hK hg hrow7 h R6 F6 D6 B6;refine Ag rfl rfl ?_;go_simp;simpa[g4,g5]using HK.out
 .intro h;omega
 .rintro a X ⟨t,z,cd,V,f1,f2,f3,h1,h2,h3,ve,pz,rfl,z1,z2,z3,z4,z5,z6,z7,z8⟩;exact hQ t z cd V f1 f2 f3 h1 h2 h3 ve pz X z1 z2 z3 z4 z5 z6 z7 z8
def lW (R:Nat)(Bb:Nat)(Y:Bk)(b1 b2 b3:OA)(k1 k2 k3:Nat)(_W:World)(i:Nat)(v:Value)(X:World):Prop:=match i with
 |0=>v=.agg #[.int .i64 Y.now,.int .i64 Y.floor,.slice b1 Y.on k1,.slice b2 Y.hn k2,.slice b3 Y.tn k3]
 |1=>v=.pointer (some ⟨Bb,1,none⟩)
 |2=>v=.int .i64 Y.floor
 |3=>v=.pointer (some ⟨R,0,none⟩)
 |4=>∃k:Nat,k<4/\v=.int .i64 k
 |5=>∃fl:Int,v=.int .i64 fl
 |6=>∃(V:Bk)(f1 f2 f3:OA)(h1 h2 h3:Nat),v=.agg #[.int .i64 V.now,.int .i64 V.floor,.slice f1 V.on h1,.slice f2 V.hn h2,.slice f3 V.tn h3]/\L4 X V f1 f2 f3 h3
 |_=>True
theorem cP{P:Prop}(h:P:=by rintro r Z ⟨k,rfl,_,hv,hf,hr2⟩;have h:=HK (.int .i64 k) Z (p'+1) Za uK ⟨k,by have:=hv Zb;omega,rfl⟩ hf hr2;simpa[Av,g3]using h):P:=h
theorem qA{p1 p2 p4 p5 p6 p7 p8 p9 DX DK DV DF C9 CV CU C6 C8 CZ Df C7 C4 CY Dw Di Dj Dg Dh Ek Eu EE Ej Em Er Eo En Ei Eh Ds DU DW DI DG D7 D4 D3 D8 D1 D0 D2 D5 DY EA Ey Ew Ex Ez El Ep DM Fk Fg Fo Fm Fp Fl Fq Ff Fj GR GU GT Fi Fh FK FA FM GZ:Value}{mk:(Nat->Value)->Array Value}(t0:Nat->Value)(R:Nat)(ad:OA)(nn cap p:Nat)(Bb:Nat)(Y:Bk)(b1 b2 b3:OA)(k1 k2 k3:Nat)(W:World)(hr:Rd W R ad nn cap p)(hp:p<=600000)(hBb:Bb<W.1.size)(hBR:¬Bb=R)(hrow:AN W Bb 5 (AR [.int .i64 Y.now,.int .i64 Y.floor,.slice b1 Y.on k1,.slice b2 Y.hn k2,.slice b3 Y.tn k3]))(hY:L4 W Y b1 b2 b3 k3)(hmk:mk=λt=>#[.pointer (some ⟨R,0,none⟩),p1,p2,.pointer (some ⟨Bb,0,none⟩),p4,p5,p6,p7,p8,p9,DX,DK,DV,DF,C9,CV,CU,C6,C8,CZ,Df,C7,C4,CY,Dw,Di,Dj,Dg,Dh,t 0,t 1,t 2,t 3,t 4,t 5,t 6,Ek,Eu,EE,Ej,Em,Er,Eo,En,Ei,Eh,Ds,DU,DW,DI,DG,D7,D4,D3,D8,D1,D0,D2,D5,DY,EA,Ey,Ew,Ex,Ez,El,Ep,DM,Fk,Fg,Fo,Fm,Fp,Fl,Fq,Ff,Fj,GR,GU,GT,Fi,Fh,FK,FA,FM,GZ])(Q:Exit->Act->World->Prop)(hQ:∀(t:Nat->Value)(V:Bk)(f1 f2 f3:OA)(h1 h2 h3:Nat)(pz:Nat)(X0 X:World),X=(((((X0.setCell ⟨Bb,0,none⟩ (.int .i64 V.now)).setCell ⟨Bb,1,none⟩ (.int .i64 V.floor)).setCell ⟨Bb,2,none⟩ (.slice f1 V.on h1)).setCell ⟨Bb,3,none⟩ (.slice f2 V.hn h2)).setCell ⟨Bb,4,none⟩ (.slice f3 V.tn h3))->L4 X0 V f1 f2 f3 h3->Az (λq=>q=R) W X0->p<=pz->pz<=p+7->Rd X0 R ad nn cap pz->Q .normal ⟨mk t,[]⟩ X):Code.wp prog (rg Try.f43 9) Q ⟨mk t0,[]⟩ W:=by
 have hRW:=hr.lt;refine RI Ze 7 12 1 mk t0 R ad nn cap p (lW R Bb Y b1 b2 b3 k1 k2 k3 W) (λa X=>∃(t:Nat->Value)(V:Bk)(f1 f2 f3:OA)(h1 h2 h3:Nat)(pz:Nat)(X0:World),a=⟨mk t,[]⟩/\X=(((((X0.setCell ⟨Bb,0,none⟩ (.int .i64 V.now)).setCell ⟨Bb,1,none⟩ (.int .i64 V.floor)).setCell ⟨Bb,2,none⟩ (.slice f1 V.on h1)).setCell ⟨Bb,3,none⟩ (.slice f2 V.hn h2)).setCell ⟨Bb,4,none⟩ (.slice f3 V.tn h3))/\L4 X0 V f1 f2 f3 h3/\Az (λq=>q=R) W X0/\p<=pz/\pz<=p+7/\Rd X0 R ad nn cap pz) Ze Ze Ze ?_ rfl hr ?_ ?_ ?_ ?_;all_goals subst hmk
 .intro i v X Z p' hi h hF hRd hR hX;rcases(show i=0\/i=1\/i=2\/i=3\/i=4\/i=5\/i=6 by omega)with rfl|rfl|rfl|rfl|rfl|rfl|rfl;.exact h
  .exact h
  .exact h
  .exact h
  .exact h
  .exact h
  .obtain⟨V,f1,f2,f3,h1,h2,h3,e,hV⟩:=h;exact⟨V,f1,f2,f3,h1,h2,h3,e,hV.pick hF hRd.ns⟩
 .intro i hi t X K p' hb hp1 hp2 hrd hg hK;rcases(show i=0\/i=1\/i=2\/i=3\/i=4\/i=5\/i=6 by omega)with rfl|rfl|rfl|rfl|rfl|rfl|rfl;.exact QU
  .have h:=hK (.pointer (some ⟨Bb,1,none⟩)) X p' uK Za rfl (Az.refl _ _) hrd;exact Pc
  .have g1:t 1=.pointer (some ⟨Bb,1,none⟩):=hg 1 (AQ rfl);have q0:=(hb.cell (p:=⟨Bb,0,none⟩) hBb hBR).trans (hrow.cell 0 Zb);have q1:=(hb.cell (p:=⟨Bb,1,none⟩) hBb hBR).trans (hrow.cell 1 Zb);have q2:=(hb.cell (p:=⟨Bb,2,none⟩) hBb hBR).trans (hrow.cell 2 Zb);have q3:=(hb.cell (p:=⟨Bb,3,none⟩) hBb hBR).trans (hrow.cell 3 Zb);have q4:=(hb.cell (p:=⟨Bb,4,none⟩) hBb hBR).trans (hrow.cell 4 Zb);simp only[AR,Aa,Ab]at q0 q1 q2 q3 q4;have h:=hK (.int .i64 Y.floor) X p' uK Za rfl (Az.refl _ _) hrd;refine Ag rfl rfl ?_;clear hK hg;go_simp;simpa[Av,g1]using h
  .exact PA
  .have g3:t 3=.pointer (some ⟨R,0,none⟩):=hg 3 (AQ rfl);refine Ag rfl rfl ?_;have HK:=Ah hK;have HR:=Ah hrd;clear hK hg hrd;go_simp;go_at_call 12;refine(A7 R ad nn cap p' 4 X HR Za Zb Zb).mono ?_;exact cP
  .have g2:t 2=.int .i64 Y.floor:=hg 2 (AQ rfl);obtain⟨k,hk,g4⟩:∃k:Nat,k<4/\t 4=.int .i64 k:=hg 4 (AQ rfl);have v0:=hY.v.n0;have v1:=hY.v.n1;have v2:=hY.v.n2;have hw:=AJ (Y.floor+(k:Int)) ⟨Za,Za⟩;have h:=hK (.int .i64 (Y.floor+(k:Int))) X p' uK Za ⟨_,rfl⟩ (Az.refl _ _) hrd;refine Ag rfl rfl ?_;clear hK hg;go_simp;simpa[Av,g2,g4,hw]using h
  .have g0:t 0=.agg #[.int .i64 Y.now,.int .i64 Y.floor,.slice b1 Y.on k1,.slice b2 Y.hn k2,.slice b3 Y.tn k3]:=hg 0 (AQ rfl);obtain⟨fl,g5⟩:∃fl:Int,t 5=.int .i64 fl:=hg 5 (AQ rfl);have HY:=Ah (hY.pick hb hr.ns);refine Ag rfl rfl ?_;have HK:=Ah hK;have HR:=Ah hrd;clear hK hg hrd;go_simp;go_at_call 68;refine(lB Y b1 b2 b3 k1 k2 k3 fl X HY).mono ?_;rintro r Z ⟨hbZ,V,f1,f2,f3,h1,h2,h3,rfl,hV⟩;have h:=HK (.agg #[.int .i64 V.now,.int .i64 V.floor,.slice f1 V.on h1,.slice f2 V.hn h2,.slice f3 V.tn h3]) Z p' uK Za ⟨V,f1,f2,f3,h1,h2,h3,rfl,hV⟩ (Aq hbZ) (HR.below hbZ);simpa[Av,g0,g5]using h
 .intro t X K p' hb hp1 hp2 hrd hg hK;obtain⟨V,f1,f2,f3,h1,h2,h3,g6,hV⟩:∃(V:Bk)(f1 f2 f3:OA)(h1 h2 h3:Nat),t 6=.agg #[.int .i64 V.now,.int .i64 V.floor,.slice f1 V.on h1,.slice f2 V.hn h2,.slice f3 V.tn h3]/\L4 X V f1 f2 f3 h3:=hg 6 Za Za;have rw0:=hrow.fr hb (λe=>hBR e);have rf:=rw0.free;have rl:=rw0.lt;obtain⟨r0,r1,r2,r3,r4⟩:=Y0 rw0;have h:=hK _ _ ⟨t,V,f1,f2,f3,h1,h2,h3,p',X,rfl,rfl,hV,hb,hp1,Za,hrd⟩;have HK:=Ah h;clear hK hg h rw0;refine Ag rfl rfl ?_;go_simp;simpa[g6]using HK.out
 .intro h;omega
 .rintro a X ⟨t,V,f1,f2,f3,h1,h2,h3,pz,X0,rfl,z1,z2,z3,z4,z5,z6⟩;exact hQ t V f1 f2 f3 h1 h2 h3 pz X0 X z1 z2 z3 z4 z5 z6
def aD (R:Nat)(_Bb:Nat)(Y:Bk)(b1 b2 b3:OA)(k1 k2 k3:Nat)(W:World)(i:Nat)(v:Value)(X:World):Prop:=match i with
 |0=>v=.agg #[.int .i64 Y.now,.int .i64 Y.floor,.slice b1 Y.on k1,.slice b2 Y.hn k2,.slice b3 Y.tn k3]
 |1=>SL X W.1.size v X7
 |2=>v=.pointer (some ⟨R,0,none⟩)
 |3=>∃k:Nat,k<3/\v=.int .i64 k
 |4=>∃(g k:Nat)(s:ByteArray),v=.pointer (some ⟨g,k,none⟩)/\W.1.size<=g/\g<X.1.size/\s∈X7/\X.cell? ⟨g,k,none⟩=some (.string s)
 |5=>∃s:ByteArray,s∈X7/\v=.string s
 |6=>v=.pointer (some ⟨R,0,none⟩)
 |7=>∃k:Nat,k<6/\v=.int .i64 k
 |8=>∃k:Int,v=.int .i64 k
 |9=>v=.pointer (some ⟨R,0,none⟩)
 |10=>v=.agg #[.int .i64 Y.now,.int .i64 Y.floor,.slice b1 Y.on k1,.slice b2 Y.hn k2,.slice b3 Y.tn k3]
 |11=>∃(x:Bu)(u1 u2:OA)(d1 d2:Nat),v=.agg #[.slice u1 x.wn d1,.slice u2 x.rn d2]/\UG x/\Lt X 0 X.1.size x u1 u2
 |12=>∃(c:Ca)(u1 u2:OA)(d1 d2:Nat),v=.agg #[.string c.client,.int .i64 c.num,.slice u1 c.bu.wn d1,.slice u2 c.bu.rn d2]/\(c.client.size:Int)<=140737488355328/\UG c.bu/\Lt X 0 X.1.size c.bu u1 u2
 |13=>∃(V:Bk)(f1 f2 f3:OA)(h1 h2 h3:Nat)(u:Value),v=.tuple #[.agg #[.int .i64 V.now,.int .i64 V.floor,.slice f1 V.on h1,.slice f2 V.hn h2,.slice f3 V.tn h3],u]/\L4 X V f1 f2 f3 h3
 |14=>∃(V:Bk)(f1 f2 f3:OA)(h1 h2 h3:Nat)(u:Value),v=.tuple #[.agg #[.int .i64 V.now,.int .i64 V.floor,.slice f1 V.on h1,.slice f2 V.hn h2,.slice f3 V.tn h3],u]/\L4 X V f1 f2 f3 h3
 |15=>∃(V:Bk)(f1 f2 f3:OA)(h1 h2 h3:Nat),v=.agg #[.int .i64 V.now,.int .i64 V.floor,.slice f1 V.on h1,.slice f2 V.hn h2,.slice f3 V.tn h3]/\L4 X V f1 f2 f3 h3
 |16=>True
 |_=>True
theorem mQ{p1 p2 p4 p5 p6 p7 p8 p9 DX DK DV DF C9 CV CU C6 C8 CZ Df C7 C4 CY Dw Di Dj Dg Dh Dy Dx DC DB DA Dz DH Ek Eu D1 D0 D2 D5 DY EA Ey Ew Ex Ez El Ep DM Fk Fg Fo Fm Fp Fl Fq Ff Fj GR GU GT Fi Fh FK FA FM GZ:Value}{mk:(Nat->Value)->Array Value}(t0:Nat->Value)(R:Nat)(ad:OA)(nn cap p:Nat)(Bb:Nat)(Y:Bk)(b1 b2 b3:OA)(k1 k2 k3:Nat)(W:World)(hr:Rd W R ad nn cap p)(hp:p<=600000)(hBb:Bb<W.1.size)(hBR:¬Bb=R)(hrow:AN W Bb 5 (AR [.int .i64 Y.now,.int .i64 Y.floor,.slice b1 Y.on k1,.slice b2 Y.hn k2,.slice b3 Y.tn k3]))(hY:L4 W Y b1 b2 b3 k3)(hmk:mk=λt=>#[.pointer (some ⟨R,0,none⟩),p1,p2,.pointer (some ⟨Bb,0,none⟩),p4,p5,p6,p7,p8,p9,DX,DK,DV,DF,C9,CV,CU,C6,C8,CZ,Df,C7,C4,CY,Dw,Di,Dj,Dg,Dh,Dy,Dx,DC,DB,DA,Dz,DH,Ek,Eu,t 14,t 0,t 1,t 2,t 3,t 4,t 5,t 6,t 7,t 8,t 9,t 10,t 11,t 12,t 13,t 15,t 16,D1,D0,D2,D5,DY,EA,Ey,Ew,Ex,Ez,El,Ep,DM,Fk,Fg,Fo,Fm,Fp,Fl,Fq,Ff,Fj,GR,GU,GT,Fi,Fh,FK,FA,FM,GZ])(Q:Exit->Act->World->Prop)(hQ:∀(t:Nat->Value)(V:Bk)(f1 f2 f3:OA)(h1 h2 h3:Nat)(pz:Nat)(X0 X:World),X=(((((X0.setCell ⟨Bb,0,none⟩ (.int .i64 V.now)).setCell ⟨Bb,1,none⟩ (.int .i64 V.floor)).setCell ⟨Bb,2,none⟩ (.slice f1 V.on h1)).setCell ⟨Bb,3,none⟩ (.slice f2 V.hn h2)).setCell ⟨Bb,4,none⟩ (.slice f3 V.tn h3))->L4 X0 V f1 f2 f3 h3->Az (λq=>q=R) W X0->p<=pz->pz<=p+6800->Rd X0 R ad nn cap pz->Q .normal ⟨mk t,[]⟩ X):Code.wp prog (rg Try.f43 11) Q ⟨mk t0,[]⟩ W:=by
 have hRW:=hr.lt;refine RI Ze 17 16 400 mk t0 R ad nn cap p (aD R Bb Y b1 b2 b3 k1 k2 k3 W) (λa X=>∃(t:Nat->Value)(V:Bk)(f1 f2 f3:OA)(h1 h2 h3:Nat)(pz:Nat)(X0:World),a=⟨mk t,[]⟩/\X=(((((X0.setCell ⟨Bb,0,none⟩ (.int .i64 V.now)).setCell ⟨Bb,1,none⟩ (.int .i64 V.floor)).setCell ⟨Bb,2,none⟩ (.slice f1 V.on h1)).setCell ⟨Bb,3,none⟩ (.slice f2 V.hn h2)).setCell ⟨Bb,4,none⟩ (.slice f3 V.tn h3))/\L4 X0 V f1 f2 f3 h3/\Az (λq=>q=R) W X0/\p<=pz/\pz<=p+6800/\Rd X0 R ad nn cap pz/\∃x0 u:Value,t 14=.tuple #[x0,u]) Ze Ze Ze ?_ rfl hr ?_ ?_ ?_ ?_;all_goals subst hmk
 .intro i v X Z p' hi h hF hRd hR hX;rcases(show i=0\/i=1\/i=2\/i=3\/i=4\/i=5\/i=6\/i=7\/i=8\/i=9\/i=10\/i=11\/i=12\/i=13\/i=14\/i=15\/i=16 by omega)with rfl|rfl|rfl|rfl|rfl|rfl|rfl|rfl|rfl|rfl|rfl|rfl|rfl|rfl|rfl|rfl|rfl;.exact h
  .exact h.fr hF Za
  .exact h
  .exact h
  .obtain⟨g,k,s,e,y1,y2,y3,y4⟩:=h;exact⟨g,k,s,e,y1,Ac y2 hF.size,y3,(hF.cell (p:=⟨g,k,none⟩) y2 (λq=>by have q:g=R:=q;omega)).trans y4⟩
  .exact h
  .exact h
  .exact h
  .exact h
  .exact h
  .exact h
  .obtain⟨x,u1,u2,d1,d2,e,hx,hxi⟩:=h;exact⟨x,u1,u2,d1,d2,e,hx,hxi.pick hF hRd.ns⟩
  .obtain⟨c,u1,u2,d1,d2,e,hcl,hx,hxi⟩:=h;exact⟨c,u1,u2,d1,d2,e,hcl,hx,hxi.pick hF hRd.ns⟩
  .obtain⟨V,f1,f2,f3,h1,h2,h3,u,e,hV⟩:=h;exact⟨V,f1,f2,f3,h1,h2,h3,u,e,hV.pick hF hRd.ns⟩
  .obtain⟨V,f1,f2,f3,h1,h2,h3,u,e,hV⟩:=h;exact⟨V,f1,f2,f3,h1,h2,h3,u,e,hV.pick hF hRd.ns⟩
  .obtain⟨V,f1,f2,f3,h1,h2,h3,e,hV⟩:=h;exact⟨V,f1,f2,f3,h1,h2,h3,e,hV.pick hF hRd.ns⟩
  .exact h
 .intro i hi t X K p' hb hp1 hp2 hrd hg hK;rcases(show i=0\/i=1\/i=2\/i=3\/i=4\/i=5\/i=6\/i=7\/i=8\/i=9\/i=10\/i=11\/i=12\/i=13\/i=14\/i=15\/i=16 by omega)with rfl|rfl|rfl|rfl|rfl|rfl|rfl|rfl|rfl|rfl|rfl|rfl|rfl|rfl|rfl|rfl|rfl;.exact QU
  .have h:=hK (.slice (some ⟨X.1.size,0,none⟩) 3 3) (X.alloc (.cells (Ln X7).toArray 9)) p' uK Za ((SL.new X X7).mono2 hb.size) (Aq AG) (hrd.below AG);refine Ag rfl rfl ?_;clear hK hg;go_simp;simpa[Av,Ln,X7]using h
  .exact PA
  .have g2:t 2=.pointer (some ⟨R,0,none⟩):=hg 2 (AQ rfl);refine Ag rfl rfl ?_;have HK:=Ah hK;have HR:=Ah hrd;clear hK hg hrd;go_simp;go_at_call 12;refine(A7 R ad nn cap p' 3 X HR Za Zb Zb).mono ?_;rintro r Z ⟨k,rfl,_,hv,hf,hr2⟩;have h:=HK (.int .i64 k) Z (p'+1) Za Za ⟨k,by have:=hv Zb;omega,rfl⟩ hf hr2;simpa[Av,g2]using h
  .obtain⟨g,cp,g1,y1,y2,y3,y4,y5⟩:SL X W.1.size (t 1) X7:=hg 1 (AQ rfl);obtain⟨k,hk,g3⟩:∃k:Nat,k<3/\t 3=.int .i64 k:=hg 3 (AQ rfl);have hL:X7.length=3:=rfl;rw[hL]at g1;have h:=hK (.pointer (some ⟨g,k,none⟩)) X p' uK Za ⟨g,k,X7[k]'(by rw[hL];exact hk),rfl,y1,y2,Gg _,y5 k (by rw[hL];exact hk)⟩ (Az.refl _ _) hrd;refine Ag rfl rfl ?_;clear hK hg;go_simp;rw[if_pos Za,AI];go_simp;simpa[Av,g1,g3]using h
  .obtain⟨g,k,s,g4,y1,y2,y3,y4⟩:∃(g k:Nat)(s:ByteArray),t 4=.pointer (some ⟨g,k,none⟩)/\W.1.size<=g/\g<X.1.size/\s∈X7/\X.cell? ⟨g,k,none⟩=some (.string s):=hg 4 (AQ rfl);have h:=hK (.string s) X p' uK Za ⟨s,y3,rfl⟩ (Az.refl _ _) hrd;refine Ag rfl rfl ?_;clear hK hg;go_simp;simpa[Av,g4]using h
  .exact PA
  .have g6:t 6=.pointer (some ⟨R,0,none⟩):=hg 6 (AQ rfl);refine Ag rfl rfl ?_;have HK:=Ah hK;have HR:=Ah hrd;clear hK hg hrd;go_simp;go_at_call 12;refine(A7 R ad nn cap p' 6 X HR Za Zb Zb).mono ?_;rintro r Z ⟨k,rfl,_,hv,hf,hr2⟩;have h:=HK (.int .i64 k) Z (p'+1) Za Za ⟨k,by have:=hv Zb;omega,rfl⟩ hf hr2;simpa[Av,g6]using h
  .obtain⟨k,hk,g7⟩:∃k:Nat,k<6/\t 7=.int .i64 k:=hg 7 (AQ rfl);have hw:=AJ (1+(k:Int)) ⟨Za,Za⟩;have h:=hK (.int .i64 (1+(k:Int))) X p' uK Za ⟨_,rfl⟩ (Az.refl _ _) hrd;refine Ag rfl rfl ?_;clear hK hg;go_simp;simpa[Av,g7,hw]using h
  .exact PA
  .exact QU
  .have g9:t 9=.pointer (some ⟨R,0,none⟩):=hg 9 (AQ rfl);have g10:t 10=.agg #[.int .i64 Y.now,.int .i64 Y.floor,.slice b1 Y.on k1,.slice b2 Y.hn k2,.slice b3 Y.tn k3]:=hg 10 (AQ rfl);have HY:=Ah (hY.pick hb hr.ns);refine Ag rfl rfl ?_;have HK:=Ah hK;have HR:=Ah hrd;clear hK hg hrd;go_simp;go_at_call 70;refine(VR Y R ad nn cap p' b1 b2 b3 k1 k2 k3 X HR Za HY).mono ?_;rintro r Z ⟨x,u1,u2,d1,d2,rfl,hx,hxi,hf,q3,z1,z2,hr2⟩;have h:=HK (.agg #[.slice u1 x.wn d1,.slice u2 x.rn d2]) Z q3 z1 Za ⟨x,u1,u2,d1,d2,rfl,hx,hxi⟩ hf hr2;simpa[Av,g9,g10]using h
  .obtain⟨s,hs,g5⟩:∃s:ByteArray,s∈X7/\t 5=.string s:=hg 5 (AQ rfl);obtain⟨k,g8⟩:∃k:Int,t 8=.int .i64 k:=hg 8 (AQ rfl);obtain⟨x,u1,u2,d1,d2,g11,hx,hxi⟩:∃(x:Bu)(u1 u2:OA)(d1 d2:Nat),t 11=.agg #[.slice u1 x.wn d1,.slice u2 x.rn d2]/\UG x/\Lt X 0 X.1.size x u1 u2:=hg 11 (AQ rfl);have h:=hK (.agg #[.string s,.int .i64 k,.slice u1 x.wn d1,.slice u2 x.rn d2]) X p' uK Za ⟨⟨s,k,x⟩,u1,u2,d1,d2,rfl,oQ hs,hx,hxi⟩ (Az.refl _ _) hrd;refine Ag rfl rfl ?_;clear hK hg;go_simp;simpa[Av,g5,g8,g11]using h
  .have g0:t 0=.agg #[.int .i64 Y.now,.int .i64 Y.floor,.slice b1 Y.on k1,.slice b2 Y.hn k2,.slice b3 Y.tn k3]:=hg 0 (AQ rfl);obtain⟨c,u1,u2,d1,d2,g12,hcl,hx,hxi⟩:∃(c:Ca)(u1 u2:OA)(d1 d2:Nat),t 12=.agg #[.string c.client,.int .i64 c.num,.slice u1 c.bu.wn d1,.slice u2 c.bu.rn d2]/\(c.client.size:Int)<=140737488355328/\UG c.bu/\Lt X 0 X.1.size c.bu u1 u2:=hg 12 (AQ rfl);have HY:=Ah (hY.pick hb hr.ns);refine Ag rfl rfl ?_;have HK:=Ah hK;have HR:=Ah hrd;clear hK hg hrd;go_simp;go_at_call 69;refine(mF Y c b1 b2 b3 k1 k2 k3 u1 u2 d1 d2 X HY hcl hx hxi).mono ?_;rintro r Z ⟨hbZ,V,f1,f2,f3,h1,h2,h3,u,rfl,hV⟩;have h:=HK (.tuple #[.agg #[.int .i64 V.now,.int .i64 V.floor,.slice f1 V.on h1,.slice f2 V.hn h2,.slice f3 V.tn h3],u]) Z p' uK Za ⟨V,f1,f2,f3,h1,h2,h3,u,rfl,hV⟩ (Aq hbZ) (HR.below hbZ);simpa[Av,g0,g12]using h
  .obtain⟨V,f1,f2,f3,h1,h2,h3,u,g13,hV⟩:∃(V:Bk)(f1 f2 f3:OA)(h1 h2 h3:Nat)(u:Value),t 13=.tuple #[.agg #[.int .i64 V.now,.int .i64 V.floor,.slice f1 V.on h1,.slice f2 V.hn h2,.slice f3 V.tn h3],u]/\L4 X V f1 f2 f3 h3:=hg 13 (AQ rfl);have h:=hK (.tuple #[.agg #[.int .i64 V.now,.int .i64 V.floor,.slice f1 V.on h1,.slice f2 V.hn h2,.slice f3 V.tn h3],u]) X p' uK Za ⟨V,f1,f2,f3,h1,h2,h3,u,rfl,hV⟩ (Az.refl _ _) hrd;refine Ag rfl rfl ?_;clear hK hg;go_simp;simpa[Av,g13]using h
  .obtain⟨V,f1,f2,f3,h1,h2,h3,u,g14,hV⟩:∃(V:Bk)(f1 f2 f3:OA)(h1 h2 h3:Nat)(u:Value),t 14=.tuple #[.agg #[.int .i64 V.now,.int .i64 V.floor,.slice f1 V.on h1,.slice f2 V.hn h2,.slice f3 V.tn h3],u]/\L4 X V f1 f2 f3 h3:=hg 14 (AQ rfl);have h:=hK (.agg #[.int .i64 V.now,.int .i64 V.floor,.slice f1 V.on h1,.slice f2 V.hn h2,.slice f3 V.tn h3]) X p' uK Za ⟨V,f1,f2,f3,h1,h2,h3,rfl,hV⟩ (Az.refl _ _) hrd;refine Ag rfl rfl ?_;clear hK hg;go_simp;simpa[Av,g14]using h
  .obtain⟨V,f1,f2,f3,h1,h2,h3,u,g14,hV⟩:∃(V:Bk)(f1 f2 f3:OA)(h1 h2 h3:Nat)(u:Value),t 14=.tuple #[.agg #[.int .i64 V.now,.int .i64 V.floor,.slice f1 V.on h1,.slice f2 V.hn h2,.slice f3 V.tn h3],u]/\L4 X V f1 f2 f3 h3:=hg 14 (AQ rfl);have h:=hK (u) X p' uK Za trivial (Az.refl _ _) hrd;refine Ag rfl rfl ?_;clear hK hg;go_simp;simpa[Av,g14]using h
 .intro t X K p' hb hp1 hp2 hrd hg hK;obtain⟨V,f1,f2,f3,h1,h2,h3,g15,hV⟩:∃(V:Bk)(f1 f2 f3:OA)(h1 h2 h3:Nat),t 15=.agg #[.int .i64 V.now,.int .i64 V.floor,.slice f1 V.on h1,.slice f2 V.hn h2,.slice f3 V.tn h3]/\L4 X V f1 f2 f3 h3:=hg 15 Za Za;obtain⟨V',f1',f2',f3',h1',h2',h3',u',g14,_⟩:∃(V:Bk)(f1 f2 f3:OA)(h1 h2 h3:Nat)(u:Value),t 14=.tuple #[.agg #[.int .i64 V.now,.int .i64 V.floor,.slice f1 V.on h1,.slice f2 V.hn h2,.slice f3 V.tn h3],u]/\L4 X V f1 f2 f3 h3:=hg 14 Za Za;have rw0:=hrow.fr hb (λe=>hBR e);have rf:=rw0.free;have rl:=rw0.lt;obtain⟨r0,r1,r2,r3,r4⟩:=Y0 rw0;have h:=hK _ _ ⟨t,V,f1,f2,f3,h1,h2,h3,p',X,rfl,rfl,hV,hb,hp1,Za,hrd,_,_,g14⟩;have HK:=Ah h;clear hK hg h rw0;refine Ag rfl rfl ?_;go_simp;simpa[g14,g15]using HK.out
 .intro _ a X K hF hK;obtain⟨t,V,f1,f2,f3,h1,h2,h3,pz,X0,rfl,z1,z2,z3,z4,z5,z6,x0,u,g14⟩:=hF;have h:=hK _ ⟨Av t 16 u,V,f1,f2,f3,h1,h2,h3,pz,X0,rfl,z1,z2,z3,z4,z5,z6,x0,u,by rw[BB Zb];exact g14⟩;refine Ag rfl rfl ?_;clear hK z1;go_simp;simpa[Av,g14]using h
 .rintro a X ⟨t,V,f1,f2,f3,h1,h2,h3,pz,X0,rfl,z1,z2,z3,z4,z5,z6,_⟩;exact hQ t V f1 f2 f3 h1 h2 h3 pz X0 X z1 z2 z3 z4 z5 z6
def RA (n Kk:Nat)(mk:(Nat->Value)->Array Value)(W:World)(R:Nat)(ad:OA)(nn cap p:Nat)(G:Nat->Value->World->Prop)(l:Array Bool)(a:Act)(X:World):Prop:=l.size=n/\∃t:Nat->Value,a=⟨mk t,[]⟩/\Az (λq=>q=R) W X/\(∃p',p<=p'/\p'<=p+Kk*l.toList.count true/\Rd X R ad nn cap p')/\∀i,i<n->l.getD i false=true->G i (t i) X
theorem aO{P:Prop}(h:P:=by
  rintro i j hi ⟨o,ho,e,he,hb,rfl⟩;have h1:=AZ.1 hord i (Bd.2 Za);rw[ho]at h1;have h2:=AU.1 h1 e he;rw[hb]at h2;have:e.on<i:=by simpa using h2
  omega):P:=h
theorem OT{P:Program}{id:Nat}{ops:Array Oper}{Q:Exit->Act->World->Prop}{a0:Act}{W:World}(hm:P.follows .mixedOrders=true)(n Kk:Nat)(mk:(Nat->Value)->Array Value)(t0:Nat->Value)(R:Nat)(ad:OA)(nn cap p:Nat)(G:Nat->Value->World->Prop)(hn:ops.size=n)(hord:((List.range ops.size).all λi=>match ops[i]? with|some o=>o.after.all (λe=>!(Region.binds .any e)||decide (e.on<i))|none=>true)=true)(st:∀i v X Y p',i<n->G i v X->Az (λq=>q=R) X Y->Rd X R ad nn cap p'->R<W.1.size->W.1.size<=X.1.size->G i v Y)(h0:a0=⟨mk t0,[]⟩)(hr:Rd W R ad nn cap p)(sg:∀i,i<n->∀(t:Nat->Value) X K p',Az (λq=>q=R) W X->p<=p'->p'<=p+Kk*n->Rd X R ad nn cap p'->(∀j,BE ops i j->G j (t j) X)->(∀v Y p2,p'<=p2->p2<=p'+Kk->G i v Y->Az (λq=>q=R) X Y->Rd Y R ad nn cap p2->K ⟨mk (Av t i v),[]⟩ Y)->wpOp P ops Q i K ⟨mk t,[]⟩ X)(hfin:∀(t:Nat->Value) X p',Az (λq=>q=R) W X->p<=p'->p'<=p+Kk*n->Rd X R ad nn cap p'->(∀i,i<n->G i (t i) X)->Q .normal ⟨mk t,[]⟩ X):(Code.region id ops true).wp P Q a0 W:=by
 have hdep:∀i j,i<n->BE ops i j->j<n:=by exact aO
 have cle:∀l:Array Bool,l.size=n->Kk*l.toList.count true<=Kk*n:=λl hl=>by have:=LF (a:=true) (l:=l.toList);exact N6 _ (by simpa[hl]using this)
 refine Cs hm (RA n Kk mk W R ad nn cap p G) ?_ ?_ ?_ ?_
 .have hz:∀i,(Array.replicate ops.size false).getD i false=false:=λi=>by simp[Array.getD]
  refine⟨by simp[hn],t0,h0,Aq (Ao _ _).drew,⟨p,AD _,Za,hr.below (Ao _ _).drew⟩,λi _ h=>?_⟩;rw[hz]at h;cases h
 .rintro l a X ⟨hs,_⟩;rw[hs,hn]
 .rintro l a X ⟨hs,t,rfl,hb,⟨p',q1,q2,hrd⟩,gg⟩ hr;have AL:=Mj hord (by rw[hs,hn]) hr;have:=cle l hs;exact hfin t X p' hb q1 Za hrd (λi hi=>gg i hi (AL i Za))
 .rintro l a X i ⟨hs,t,rfl,hb,⟨p',q1,q2,hrd⟩,gg⟩ hr';obtain⟨hu,o,ho,hall⟩:=mem_ready.1 hr';have di:∀j,BE ops i j->l.getD j false=true:=by
   rintro j ⟨o',ho',e,he,hb,rfl⟩;rw[ho]at ho';obtain rfl:o=o':=by simpa using ho'
   exact hall e he hb
  have hi7:i<n:=by
   rcases Au i n with h|h;.exact h
   .rw[A9 Za]at ho;cases ho
  have hui:l.getD i false=false:=by have:l.getD i true=false:=hu;simpa[Array.getD,hs,hi7]using this
  have hc:=NN Za hui;have hck:Kk*(l.setIfInBounds i true).toList.count true=Kk*l.toList.count true+Kk:=by rw[hc,Nat.mul_add,My]
  have hcl:=cle l hs;have kp:∀j,¬j=i->(l.setIfInBounds i true).getD j false=l.getD j false:=λj hj=>by rw[BT Za,if_neg hj]
  clear hr' hu ho;refine sg i hi7 t X _ p' hb q1 Za hrd (λj hj=>gg j (hdep i j hi7 hj) (di j hj)) (λv Y p2 r1 r2 hv hY hrY=>⟨by simp[hs],Av t i v,rfl,hb.trans hY,⟨p2,Za,Za,hrY⟩,λj j1 h=>?_⟩);by_cases e:j=i;.subst e;rw[Bp];exact hv
  .rw[kp j e]at h;rw[BB e];exact st _ _ _ _ _ j1 (gg j j1 h) hY hrd hr.lt hb.size
def cR (R:Nat)(Bb:Nat)(Y:Bk)(_b1 b2 _b3:OA)(_k1 k2 _k3:Nat)(i:Nat)(v:Value)(_X:World):Prop:=match i with
 |0=>v=.pointer (some ⟨Bb,3,none⟩)
 |1=>v=.slice b2 Y.hn k2
 |2=>v=.int .i64 (Y.hn:Nat)
 |3=>v=.pointer (some ⟨R,0,none⟩)
 |4=>∃k:Nat,k<2/\v=.int .i64 k
 |5=>∃m:Int,v=.int .i64 m/\m<=200
 |6=>∃b:Bool,v=.bool b/\(b=true->Y.hn<200)
 |_=>True
theorem kJ{p1 p2 p4 p5 p6 p7 p8 p9 DX DK DV DF C9 CV CU C6 C8 CZ Df C7 C4 CY Dw Di Dj Dg Dh Dy Dx DC DB DA Dz DH Ek Eu EE Ej Em Er Eo En Ei Eh Ds DU DW DI DG D7 D4 D3 D8 D1 D0 D2 El Ep DM Fk Fg Fo Fm Fp Fl Fq Ff Fj GR GU GT Fi Fh FK FA FM GZ:Value}{mk:(Nat->Value)->Array Value}(t0:Nat->Value)(R:Nat)(ad:OA)(nn cap p:Nat)(Bb:Nat)(Y:Bk)(b1 b2 b3:OA)(k1 k2 k3:Nat)(W:World)(hr:Rd W R ad nn cap p)(hp:p<=600000)(hBb:Bb<W.1.size)(hBR:¬Bb=R)(hrow:AN W Bb 5 (AR [.int .i64 Y.now,.int .i64 Y.floor,.slice b1 Y.on k1,.slice b2 Y.hn k2,.slice b3 Y.tn k3]))(hmk:mk=λt=>#[.pointer (some ⟨R,0,none⟩),p1,p2,.pointer (some ⟨Bb,0,none⟩),p4,p5,p6,p7,p8,p9,DX,DK,DV,DF,C9,CV,CU,C6,C8,CZ,Df,C7,C4,CY,Dw,Di,Dj,Dg,Dh,Dy,Dx,DC,DB,DA,Dz,DH,Ek,Eu,EE,Ej,Em,Er,Eo,En,Ei,Eh,Ds,DU,DW,DI,DG,D7,D4,D3,D8,D1,D0,D2,t 0,t 1,t 2,t 3,t 4,t 5,t 6,El,Ep,DM,Fk,Fg,Fo,Fm,Fp,Fl,Fq,Ff,Fj,GR,GU,GT,Fi,Fh,FK,FA,FM,GZ])(Q:Exit->Act->World->Prop)(hQ:∀(t:Nat->Value)(b:Bool)(pz:Nat) X,t 6=.bool b->(b=true->Y.hn<200)->Az (λq=>q=R) W X->p<=pz->pz<=p+7->Rd X R ad nn cap pz->Q .normal ⟨mk t,[]⟩ X):Code.wp prog (rg Try.f43 14) Q ⟨mk t0,[]⟩ W:=by
 have hRW:=hr.lt;refine OT Ze 7 1 mk t0 R ad nn cap p (cR R Bb Y b1 b2 b3 k1 k2 k3) Ze Ze ?_ rfl hr ?_ ?_;all_goals subst hmk
 .intro i v X Z p' hi h hF hRd hR hX;exact h
 .intro i hi t X K p' hb hp1 hp2 hrd hg hK;rcases(show i=0\/i=1\/i=2\/i=3\/i=4\/i=5\/i=6 by omega)with rfl|rfl|rfl|rfl|rfl|rfl|rfl;.have h:=hK (.pointer (some ⟨Bb,3,none⟩)) X p' uK Za rfl (Az.refl _ _) hrd;exact Pc
  .have g0:t 0=.pointer (some ⟨Bb,3,none⟩):=hg 0 (AQ rfl);have q3:=(hb.cell (p:=⟨Bb,3,none⟩) hBb hBR).trans (hrow.cell 3 Zb);simp only[AR,Aa,Ab]at q3;have h:=hK (.slice b2 Y.hn k2) X p' uK Za rfl (Az.refl _ _) hrd;refine Ag rfl rfl ?_;clear hK hg;go_simp;simpa[Av,g0]using h
  .have g1:t 1=.slice b2 Y.hn k2:=hg 1 (AQ rfl);have h:=hK (.int .i64 (Y.hn:Nat)) X p' uK Za rfl (Az.refl _ _) hrd;refine Ag rfl rfl ?_;clear hK hg;go_simp;simpa[Av,g1]using h
  .exact PA
  .have g3:t 3=.pointer (some ⟨R,0,none⟩):=hg 3 (AQ rfl);refine Ag rfl rfl ?_;have HK:=Ah hK;have HR:=Ah hrd;clear hK hg hrd;go_simp;go_at_call 12;refine(A7 R ad nn cap p' 2 X HR Za Zb Zb).mono ?_;exact cP
  .obtain⟨k,hk,g4⟩:∃k:Nat,k<2/\t 4=.int .i64 k:=hg 4 (AQ rfl);have hw:=AJ (200-(k:Int)) ⟨Za,Za⟩;have h:=hK (.int .i64 (200-(k:Int))) X p' uK Za ⟨_,rfl,Za⟩ (Az.refl _ _) hrd;refine Ag rfl rfl ?_;clear hK hg;go_simp;simpa[Av,g4,hw]using h
  .have g2:t 2=.int .i64 (Y.hn:Nat):=hg 2 (AQ rfl);obtain⟨m,g5,hm⟩:∃m:Int,t 5=.int .i64 m/\m<=200:=hg 5 (AQ rfl);by_cases hlt:((Y.hn:Nat):Int)<m;.have h:=hK (.bool true) X p' uK Za ⟨_,rfl,λ_=>by omega⟩ (Az.refl _ _) hrd;refine Ag rfl rfl ?_;clear hK hg;go_simp;simpa[Av,g2,g5,hlt]using h
   .have h:=hK (.bool false) X p' uK Za ⟨_,rfl,λh=>O7⟩ (Az.refl _ _) hrd;refine Ag rfl rfl ?_;clear hK hg;go_simp;simpa[Av,g2,g5,hlt]using h
 .intro t X pz hf h1 h2 hrd hg;obtain⟨b,g6,hb⟩:∃b:Bool,t 6=.bool b/\(b=true->Y.hn<200):=hg 6 Za;exact hQ t b pz X g6 hb hf h1 Za hrd
def ce (B:Bk)(w:World)(e:Ending)(w':World):Prop:=Below w.1.size w w'/\∃(cd:Int)(Y:Bk)(b1 b2 b3:OA)(e1 e2 e3:Nat)(ve:Int),e=.returned (.agg #[.int .i64 cd,.int .i64 Y.now,.int .i64 Y.floor,.slice b1 Y.on e1,.slice b2 Y.hn e2,.slice b3 Y.tn e3,.int .i64 ve])/\L4 w' Y b1 b2 b3 e3/\(cd=0->B.hn<200->Y.hn=B.hn+1)
theorem Yf (B:Bk)(v:Wr)(a1 a2 a3:OA)(c1 c2 c3:Nat)(w:World)(hb:L4 w B a1 a2 a3 c3)(hv:Wd v):Calls prog 71 #[.agg #[.int .i64 B.now,.int .i64 B.floor,.slice a1 B.on c1,.slice a2 B.hn c2,.slice a3 B.tn c3],.agg #[.int .i64 v.op,.string v.kind,.string v.name,.int .i64 v.seen,.string v.text,.string v.hold]] w λe w'=>ce B w e w':=by cases hw:Li v with
 |false=>refine(Uz B v a1 a2 a3 c1 c2 c3 w hw hv.fit).mono ?_;rintro e w' ⟨rfl,h⟩;exact⟨h,_,B,a1,a2,a3,c1,c2,c3,_,rfl,hb.below h,λh=>absurd h Zb⟩
 |true=>
  have hok:=VU hb.f (PX hb.v) hw hv.fit;by_cases h0:BJ B v=0;.refine(TY B v a1 a2 a3 c1 c2 c3 w hok hb.i h0).mono ?_;rintro e w' ⟨h,x1,x2,x3,y1,y2,y3,rfl,hin,rfl,rfl⟩;refine⟨h,_,LX B v,x1,x2,x3,y1,y2,y3,_,rfl,⟨RS hb.v hok h0,(Tu hok).1,hin,hb.c.grow h.size⟩,λ_ hl=>?_⟩;show B.hn-Mk B+1=B.hn+1;unfold Mk;rw[if_neg Za];omega
  .by_cases h4:BJ B v=4;.refine(Wq B v a1 a2 a3 c1 c2 c3 w hok hb.i h4).mono ?_;rintro e w' ⟨rfl,h⟩;exact⟨h,_,B,a1,a2,a3,c1,c2,c3,_,rfl,hb.below h,λh=>absurd h Zb⟩
   .refine(QZ B v a1 a2 a3 c1 c2 c3 w hok hb.i h0 h4).mono ?_;rintro e w' ⟨rfl,h⟩;exact⟨h,_,B,a1,a2,a3,c1,c2,c3,_,rfl,hb.below h,λh=>absurd h h0⟩
def bp (R:Nat)(ad:OA)(nn cap p:Nat)(w:World)(e:Ending)(w':World):Prop:=∃(Y:Bk)(b1 b2 b3:OA)(k1 k2 k3:Nat),e=.returned (.agg #[.int .i64 Y.now,.int .i64 Y.floor,.slice b1 Y.on k1,.slice b2 Y.hn k2,.slice b3 Y.tn k3])/\L4 w' Y b1 b2 b3 k3/\Dn R ad nn cap p 200000 w w'
structure Yt (w:World)(R:Nat)(ad:OA)(nn cap p:Nat)(Y:Bk)(b1 b2 b3:OA)(k1 k2 k3:Nat)(X:World):Prop where
 f:Az (λq=>q=R) w X
 r:Rd X R ad nn cap p
 a:AN X w.1.size 5 (AR [.int .i64 0,.int .i64 0,.slice none 0 0,.slice none 0 0,.slice none 0 0])an:MG X w.1.size
 b:AN X (w.1.size+1) 5 (AR [.int .i64 Y.now,.int .i64 Y.floor,.slice b1 Y.on k1,.slice b2 Y.hn k2,.slice b3 Y.tn k3])bn:MG X (w.1.size+1)y:L4 X Y b1 b2 b3 k3
theorem Yt.pick{w:World}{R:Nat}{ad:OA}{nn cap p:Nat}{Y:Bk}{b1 b2 b3:OA}{k1 k2 k3:Nat}{X:World}{X':World}{p':Nat}(h:Yt w R ad nn cap p Y b1 b2 b3 k1 k2 k3 X)(hR:R<w.1.size)(hf:Az (λq=>q=R) X X')(hr:Rd X' R ad nn cap p'):Yt w R ad nn cap p' Y b1 b2 b3 k1 k2 k3 X':=⟨h.f.trans hf,hr,h.a.fr2 hf Za,h.an.fr hf h.a.lt Za,h.b.fr2 hf Za,h.bn.fr hf h.b.lt Za,h.y.pick hf h.r.ns⟩
theorem Yt.below{w:World}{R:Nat}{ad:OA}{nn cap p:Nat}{Y:Bk}{b1 b2 b3:OA}{k1 k2 k3:Nat}{X:World}{X':World}(h:Yt w R ad nn cap p Y b1 b2 b3 k1 k2 k3 X)(hR:R<w.1.size)(hb:Below X.1.size X X'):Yt w R ad nn cap p Y b1 b2 b3 k1 k2 k3 X':=h.pick hR (Aq hb) (h.r.below hb)
theorem Yt.put{w:World}{R:Nat}{ad:OA}{nn cap p:Nat}{Y:Bk}{b1 b2 b3:OA}{k1 k2 k3:Nat}{X:World}{p0:Nat}{V:Bk}{f1 f2 f3:OA}{h1 h2 h3:Nat}(h:Yt w R ad nn cap p Y b1 b2 b3 k1 k2 k3 X)(hw:Rd w R ad nn cap p0)(hV:L4 X V f1 f2 f3 h3):Yt w R ad nn cap p V f1 f2 f3 h1 h2 h3 (((((X.setCell ⟨w.1.size+1,0,none⟩ (.int .i64 V.now)).setCell ⟨w.1.size+1,1,none⟩ (.int .i64 V.floor)).setCell ⟨w.1.size+1,2,none⟩ (.slice f1 V.on h1)).setCell ⟨w.1.size+1,3,none⟩ (.slice f2 V.hn h2)).setCell ⟨w.1.size+1,4,none⟩ (.slice f3 V.tn h3)):=by have hR:=hw.lt;have F:=((((((Az.refl (λq=>q=w.1.size+1) X).setCell (p:=⟨w.1.size+1,0,none⟩) rfl (.int .i64 V.now)).setCell (p:=⟨w.1.size+1,1,none⟩) rfl (.int .i64 V.floor)).setCell (p:=⟨w.1.size+1,2,none⟩) rfl (.slice f1 V.on h1)).setCell (p:=⟨w.1.size+1,3,none⟩) rfl (.slice f2 V.hn h2)).setCell (p:=⟨w.1.size+1,4,none⟩) rfl (.slice f3 V.tn h3));have f2':=((((h.f.far (z:=w.1.size+1) Za 0 (.int .i64 V.now)).far (z:=w.1.size+1) Za 1 (.int .i64 V.floor)).far (z:=w.1.size+1) Za 2 (.slice f1 V.on h1)).far (z:=w.1.size+1) Za 3 (.slice f2 V.hn h2)).far (z:=w.1.size+1) Za 4 (.slice f3 V.tn h3);have M:=(((((h.b.set (o:=0) Zb (.int .i64 V.now)).set (o:=1) Zb (.int .i64 V.floor)).set (o:=2) Zb (.slice f1 V.on h1)).set (o:=3) Zb (.slice f2 V.hn h2)).set (o:=4) Zb (.slice f3 V.tn h3));refine⟨f2',hw.keep h.r f2' (F.mono (λk hk e=>by omega)),h.a.fr F Za,h.an.fr F h.a.lt Za,M.congr (λj hj=>?_),oT h.bn h.b V f1 f2 f3 h1 h2 h3,hV.pick F h.bn⟩;rcases(show j=0\/j=1\/j=2\/j=3\/j=4 by omega)with rfl|rfl|rfl|rfl|rfl<;>rfl
def uM (w:World)(R:Nat)(ad:OA)(nn cap p k:Nat)(X:World):Prop:=∃Y b1 b2 b3 k1 k2 k3 p',p<=p'/\p'<=p+k/\Yt w R ad nn cap p' Y b1 b2 b3 k1 k2 k3 X
def tM:Bk:=⟨0,0,0,λ_=>⟨⟨#[]⟩,⟨#[]⟩,0,0,⟨#[]⟩,false,0,λ_=>⟨#[]⟩⟩,0,λ_=>⟨0,false,⟨⟨#[]⟩,⟨#[]⟩,0,0,⟨#[]⟩,false,0,λ_=>⟨#[]⟩⟩⟩,0,λ_=>⟨⟨#[]⟩,0,⟨#[]⟩,0,0⟩⟩
theorem nL:VB tM:=tB Zb
theorem SW (w:World):MG (w.alloc (.cells #[.int .i64 0,.int .i64 0,.slice none 0 0,.slice none 0 0,.slice none 0 0] 27)) w.1.size:=λj s e=>by rw[Ak w #[.int .i64 0,.int .i64 0,.slice none 0 0,.slice none 0 0,.slice none 0 0] 27 j]at e;match j,e with
 |0,e=>cases e
 |1,e=>cases e
 |2,e=>cases e
 |3,e=>cases e
 |4,e=>cases e
 |n+5,e=>simp at e
theorem qG (w:World)(R:Nat)(ad:OA)(nn cap p:Nat)(hr:Rd w R ad nn cap p):Yt w R ad nn cap p tM none none none 0 0 0 ((w.alloc (.cells #[.int .i64 0,.int .i64 0,.slice none 0 0,.slice none 0 0,.slice none 0 0] 27)).alloc (.cells #[.int .i64 0,.int .i64 0,.slice none 0 0,.slice none 0 0,.slice none 0 0] 27)):=by have hb:Below w.1.size w ((w.alloc (.cells #[.int .i64 0,.int .i64 0,.slice none 0 0,.slice none 0 0,.slice none 0 0] 27)).alloc (.cells #[.int .i64 0,.int .i64 0,.slice none 0 0,.slice none 0 0,.slice none 0 0] 27)):=((Ao _ _).alloc uK _).alloc Zc _;have h1:=AN.new (w:=w.alloc (.cells #[.int .i64 0,.int .i64 0,.slice none 0 0,.slice none 0 0,.slice none 0 0] 27)) (l:=[.int .i64 0,.int .i64 0,.slice none 0 0,.slice none 0 0,.slice none 0 0]) (t:=27) EF;have n1:=SW (w.alloc (.cells #[.int .i64 0,.int .i64 0,.slice none 0 0,.slice none 0 0,.slice none 0 0] 27));rw[Aw]at h1 n1;exact⟨Aq hb,hr.below hb,AN.new (l:=[.int .i64 0,.int .i64 0,.slice none 0 0,.slice none 0 0,.slice none 0 0]) AG,(SW w).below AG Zc,h1,n1,⟨nL,VZ nL,⟨λi hi=>absurd hi (Aj _),λi hi=>absurd hi (Aj _),λi hi=>absurd hi (Aj _)⟩,⟨AD _,AA ⟨rfl,rfl,rfl⟩⟩⟩⟩
def Uj (Bb:Nat)(w:World):Nat:=match w.cell? ⟨Bb,3,none⟩with
 |some (.slice _ n _)=>200-n
 |_=>0
theorem iN{P:Prop}(h:P:=by intro t V f1 f2 f3 h1 h2 h3 pz X0 X hX hV hf hp1 hp2 hrd;subst hX;go_wp2_with fail;go_meet;case rel=>exact⟨V,f1,f2,f3,h1,h2,h3,pz,Za,Za,(MV.pick hRw hf hrd).put HR hV⟩):P:=h
theorem Ws (R:Nat)(ad:OA)(nn cap p:Nat)(w:World)(hr:Rd w R ad nn cap p)(hp:p<=100):Calls prog 43 #[.pointer (some ⟨R,0,none⟩)] w λe w'=>bp R ad nn cap p w e w':=by
 have HS:=Ah (qG w R ad nn cap p hr);have HR:=Ah hr;have hRw:=hr.lt;clear hr;go_enter func43,ntmps43;go_upto_region 2 with fail;generalize(w.alloc (.cells #[.int .i64 0,.int .i64 0,.slice none 0 0,.slice none 0 0,.slice none 0 0] 27)).alloc (.cells #[.int .i64 0,.int .i64 0,.slice none 0 0,.slice none 0 0,.slice none 0 0] 27)=X0 at HS⊢;go_upto_block 0 with(go_at_call 12;go_must(refine(A7 R ad nn cap _ 24 _ HS.r Za Zb Zb).mono ?_;rintro e w3 ⟨y,rfl,_,hy,hf3,hr3⟩;have hy3:=hy Zb;clear hy));have Qw:=Ah (HS.pick hRw hf3 hr3);clear HS hf3 hr3;go_cut[](λwx=>uM w R ad nn cap p 160000 wx);case first=>
  --<l1
  go_wp2_with fail;go_loopw[4](λs wr=>∃n:Nat,s=.int .i64 n/\n<=23/\Hid (uM w R ad nn cap p (1+6900*(23-n)) wr))(λs _=>(intOf s).toNat);case atStart=>exact⟨y,rfl,Za,Ah ⟨_,_,_,_,_,_,_,_,Nat.le_succ _,Za,Qw⟩⟩
  case round=>
   clear Qw;obtain⟨n,rfl,hn2,HL⟩:=hrel;by_cases hn0:n=0;.subst hn0;go_wp2_with fail;go_meet;case rel=>obtain⟨Y,b1,b2,b3,k1,k2,k3,p',hq1,hq2,hL⟩:=HL.out;exact⟨Y,b1,b2,b3,k1,k2,k3,p',hq1,Za,hL⟩
   .go_upto_block 1 with fail;go_cut[](λwx=>uM w R ad nn cap p (6901+6900*(23-n)) wx);case first=>
     --<b1
     obtain⟨Y,b1,b2,b3,k1,k2,k3,p',hq1,hq2,hL⟩:=HL.out;have KQ:=Ah hL;clear HL hL;go_upto_block 2 with(go_at_call 12;go_must(refine(A7 R ad nn cap _ 10 _ KQ.r Za Zb Zb).mono ?_;rintro e w3 ⟨y,rfl,_,hy,hf3,hr3⟩;have hy3:=hy Zb;clear hy));have MV:=Ah (KQ.pick hRw hf3 hr3);clear KQ hf3 hr3;have hBl:=MV.b.lt;by_cases y0:y=0;.subst y0;go_wp2_with fail;refine qA (AR [_,_,_,_,_,_,_]) R ad nn cap (p'+1) (w.1.size+1) Y b1 b2 b3 k1 k2 k3 _ MV.r Za hBl Za MV.b MV.y rfl _ ?_;exact iN
     .by_cases y1:y=1;.subst y1;go_wp2_with fail;refine mQ (AR [_,_,_,_,_,_,_,_,_,_,_,_,_,_,_,_,_]) R ad nn cap (p'+1) (w.1.size+1) Y b1 b2 b3 k1 k2 k3 _ MV.r Za hBl Za MV.b MV.y rfl _ ?_;exact iN
      .go_wp2_with fail;refine pY (AR [_,_,_,_,_,_]) R ad nn cap (p'+1) (w.1.size+1) Y b1 b2 b3 k1 k2 k3 _ MV.r Za hBl Za MV.b MV.y rfl _ ?_;intro t z cd V f1 f2 f3 h1 h2 h3 ve pz X ht hz hrow hV hf hp1 hp2 hrd;rw[ht];have N7:=Ah (MV.pick hRw hf hrd);have r1:=hrow.cell 1 Zb;have r2:=hrow.cell 2 Zb;have r3:=hrow.cell 3 Zb;have r4:=hrow.cell 4 Zb;have r5:=hrow.cell 5 Zb;have rl:=hrow.lt;have m0:=N7.b.cell 0 Zb;have m1:=N7.b.cell 1 Zb;have m2:=N7.b.cell 2 Zb;have m3:=N7.b.cell 3 Zb;have m4:=N7.b.cell 4 Zb;have mf:=N7.b.free;have ml:=N7.b.lt;simp only[AR,Aa,Ab]at r1 r2 r3 r4 r5 m0 m1 m2 m3 m4;have HV:=Ah hV;clear hrow hV hf hrd ht MV;go_wp2_with fail;go_meet;case rel=>exact⟨V,f1,f2,f3,h1,h2,h3,pz,Za,Za,N7.put HR HV⟩
     --b1>
    case rest=>
     have N7:=Ah hcut;clear hcut HL;have hw1:IntKind.i64.wrap ((n:Int)-1)=((n-1:Nat):Int):=by rw[AJ _ ⟨Za,Za⟩];omega
     go_wp2;refine⟨⟨n-1,rfl,Za,Ah ?_⟩,?_⟩;.obtain⟨Y,b1,b2,b3,k1,k2,k3,p',hq1,hq2,hL⟩:=N7.out;exact⟨Y,b1,b2,b3,k1,k2,k3,p',hq1,Za,hL⟩
     .show(((n-1:Nat):Int)).toNat<((n:Int)).toNat;omega
  --l1>
 case rest=>
  have HL:=Ah hcut;clear hcut Qw;obtain⟨Y,b1,b2,b3,k1,k2,k3,p',hq1,hq2,hL⟩:=HL.out;have KQ:=Ah hL;clear HL hL;go_upto_if 57 with(go_at_call 12;go_must(refine(A7 R ad nn cap _ 24 _ KQ.r Za Zb Zb).mono ?_;rintro e w3 ⟨y,rfl,_,hy,hf3,hr3⟩;have hy3:=hy Zb;clear hy));have MV:=Ah (KQ.pick hRw hf3 hr3);clear KQ hf3 hr3;go_cut[](λwx=>uM w R ad nn cap p 170000 wx);case first=>
   --<f2
   by_cases y0:y=0
   .subst y0;go_wp2_with fail;go_loopw[6](λs wr=>∃i:Int,s=.int .i64 i/\Hid (∃Y b1 b2 b3 k1 k2 k3 p',p<=p'/\p'<=p+160001+7*Y.hn/\Yt w R ad nn cap p' Y b1 b2 b3 k1 k2 k3 wr))(λ_ wr=>Uj (w.1.size+1) wr);case atStart=>exact⟨0,rfl,Ah ⟨Y,b1,b2,b3,k1,k2,k3,p'+1,Za,Za,MV⟩⟩
    case round=>
     clear MV hq1 hq2 Y b1 b2 b3 k1 k2 k3 p';obtain⟨i,rfl,HL⟩:=hrel;obtain⟨Y,b1,b2,b3,k1,k2,k3,p',hq1,hq2,hL⟩:=HL.out;have KQ:=Ah hL;clear HL hL;have hhn:=KQ.y.v.hn;have hBl:=KQ.b.lt;go_upto_region 14 with fail;refine kJ (AR [_,_,_,_,_,_,_]) R ad nn cap p' (w.1.size+1) Y b1 b2 b3 k1 k2 k3 _ KQ.r Za hBl Za KQ.b rfl _ ?_;intro t b pz X ht hbt hf hp1 hp2 hrd;rw[ht];have MV:=Ah (KQ.pick hRw hf hrd);have hms:Uj (w.1.size+1) wr=200-Y.hn:=by unfold Uj;rw[show wr.cell? ⟨w.1.size+1,3,none⟩=some (.slice b2 Y.hn k2)from KQ.b.cell 3 Zb]
     have yR:=Ah hms;clear KQ hf hrd ht hms;cases b with
     |false=>go_wp2_with fail;go_meet;case rel=>exact⟨Y,b1,b2,b3,k1,k2,k3,pz,Za,Za,MV⟩
     |true=>
      have hlt:=hbt rfl;clear hbt;go_upto_region 17 with fail;have N7:=Ah (MV.below hRw (An X (.cells #[.int .i64 2,.string ⟨#[98,101,114,116,104]⟩,.string ⟨#[120]⟩,.int .i64 0,.string ⟨#[118]⟩,.string ⟨#[]⟩] 114)));have HM:=Ah (show AN (X.alloc (.cells #[.int .i64 2,.string ⟨#[98,101,114,116,104]⟩,.string ⟨#[120]⟩,.int .i64 0,.string ⟨#[118]⟩,.string ⟨#[]⟩] 114)) X.1.size 6 (AR (wv ⟨2,⟨#[98,101,114,116,104]⟩,⟨#[120]⟩,0,⟨#[118]⟩,⟨#[]⟩⟩))from AN.new (l:=[.int .i64 2,.string ⟨#[98,101,114,116,104]⟩,.string ⟨#[120]⟩,.int .i64 0,.string ⟨#[118]⟩,.string ⟨#[]⟩]) (t:=114) EF);have hMb:w.1.size+1<X.1.size:=MV.b.lt;have hMl:X.1.size<(X.alloc (.cells #[.int .i64 2,.string ⟨#[98,101,114,116,104]⟩,.string ⟨#[120]⟩,.int .i64 0,.string ⟨#[118]⟩,.string ⟨#[]⟩] 114)).1.size:=Zc;have Tm:=Ah (An X (.cells #[.int .i64 2,.string ⟨#[98,101,114,116,104]⟩,.string ⟨#[120]⟩,.int .i64 0,.string ⟨#[118]⟩,.string ⟨#[]⟩] 114));generalize X.alloc (.cells #[.int .i64 2,.string ⟨#[98,101,114,116,104]⟩,.string ⟨#[120]⟩,.int .i64 0,.string ⟨#[118]⟩,.string ⟨#[]⟩] 114)=X3 at N7 HM hMl Tm⊢;obtain⟨M,hM⟩:∃M,X.1.size=M:=⟨_,rfl⟩;rw[hM]at HM hMb hMl⊢;have xM:=Ah hM;clear hM;have m0:=N7.b.cell 0 Zb;have m1:=N7.b.cell 1 Zb;have m2:=N7.b.cell 2 Zb;have m3:=N7.b.cell 3 Zb;have m4:=N7.b.cell 4 Zb;have ml:=N7.b.lt;simp only[AR,Aa,Ab]at m0 m1 m2 m3 m4;go_upto_if 74 with(go_at_call 66;go_must(refine(BK Y.now Y.floor Y.on Y.os b1 b2 b3 k1 Y.hn k2 Y.tn k3 ⟨#[98,101,114,116,104]⟩ ⟨#[120]⟩ _ 0 X3.1.size uK (by have:=N7.y.v.on;omega) N7.y.f.os N7.y.i.o).mono ?_;rintro e w5 ⟨ad5,cp5,rfl,hs5,_,hb5⟩));have hB5:∀o,Below X3.1.size X3 (w5.alloc o):=λo=>hb5.alloc hb5.size _;have rA:=Ah (HM.below hb5 hMl);have h50:=rA.cell 0 Zb;have h5f:=rA.free 0;have h5l:=rA.lt;simp only[wv,AR,Aa]at h50;have jP:=Ah hB5;have sG:=Ah hb5;clear hB5 hs5 hb5 m0 m1 m2 m3 m4 ml;go_cut[9](λ_ wx=>∃v:Wr,Wd v/\AN wx M 6 (AR (wv v))/\Yt w R ad nn cap pz Y b1 b2 b3 k1 k2 k3 wx);case first=>have wi:∀o:Int,1<=o->o<=5->Wd ⟨o,⟨#[98,101,114,116,104]⟩,⟨#[120]⟩,0,⟨#[118]⟩,⟨#[]⟩⟩:=λo h1 h2=>⟨⟨by show((⟨#[98,101,114,116,104]⟩:ByteArray).size:Int)<=_;decide,by show((⟨#[120]⟩:ByteArray).size:Int)<=_;decide,by show((⟨#[118]⟩:ByteArray).size:Int)<=_;decide,by show((⟨#[]⟩:ByteArray).size:Int)<=_;decide⟩,h1,h2,by show(0:Int)<=_;decide⟩;have yC:=Ah wi;clear wi;cases hfi:Ce Y.os ⟨#[98,101,114,116,104]⟩ ⟨#[120]⟩ Y.on with
       |true=>go_wp2_with fail;go_meet;case rel=>exact⟨_,yC 2 Zb Zb,rA.below AG h5l,N7.below hRw (jP _)⟩
       |false=>go_wp2_with fail;go_meet;case rel=>have bA:Below X.1.size X w5:=Tm.trans (sG.mono Tm.size);have bB:Below X.1.size w5 (w5.setCell ⟨M,0,none⟩ (.int .i64 1)):=((Az.refl (λq=>q=M) w5).setCell (p:=⟨M,0,none⟩) rfl _).below (λq hq e=>by have:=xM.out;have e':q=M:=e;omega) bA.size;exact⟨⟨1,⟨#[98,101,114,116,104]⟩,⟨#[120]⟩,0,⟨#[118]⟩,⟨#[]⟩⟩,yC 1 Zb Zb,((rA.set (o:=0) Zb _).congr (λj hj=>by rcases sR hj with rfl|rfl|rfl|rfl|rfl|rfl<;>rfl)).below AG (by rw[Bj];exact h5l),MV.below hRw ((bA.trans bB).trans ((An _ _).mono (by rw[Bj];exact bA.size)))⟩
      case rest=>
       obtain⟨v,hv,hrm,hL⟩:=hcut;have jQ:=Ah hL;have m8:=Ah hrm;clear hL hrm N7 HM rA h50 h5f h5l jP sG MV Tm xM;have m0:=jQ.b.cell 0 Zb;have m1:=jQ.b.cell 1 Zb;have m2:=jQ.b.cell 2 Zb;have m3:=jQ.b.cell 3 Zb;have m4:=jQ.b.cell 4 Zb;have ml:=jQ.b.lt;have v0:=m8.cell 0 Zb;have v1:=m8.cell 1 Zb;have v2:=m8.cell 2 Zb;have v3:=m8.cell 3 Zb;have v4:=m8.cell 4 Zb;have v5:=m8.cell 5 Zb;have vl:=m8.lt;simp only[wv,AR,Aa,Ab]at m0 m1 m2 m3 m4 v0 v1 v2 v3 v4 v5;go_upto_region 21 with(go_at_call 71;go_must(refine(Yf Y v b1 b2 b3 k1 k2 k3 _ jQ.y hv).mono ?_;rintro e w6 ⟨hb6,cd,V,f1,f2,f3,h1,h2,h3,ve,rfl,hV,hcd⟩));have i8:=Ah ((jQ.below hRw hb6).below hRw (An w6 (.cells #[.int .i64 cd,.int .i64 V.now,.int .i64 V.floor,.slice f1 V.on h1,.slice f2 V.hn h2,.slice f3 V.tn h3,.int .i64 ve] 111)));have HD:=Ah (AN.new (w:=w6) (l:=[.int .i64 cd,.int .i64 V.now,.int .i64 V.floor,.slice f1 V.on h1,.slice f2 V.hn h2,.slice f3 V.tn h3,.int .i64 ve]) (t:=111) EF);have HV:=Ah (hV.below (An w6 (.cells #[.int .i64 cd,.int .i64 V.now,.int .i64 V.floor,.slice f1 V.on h1,.slice f2 V.hn h2,.slice f3 V.tn h3,.int .i64 ve] 111)));generalize w6.alloc (.cells #[.int .i64 cd,.int .i64 V.now,.int .i64 V.floor,.slice f1 V.on h1,.slice f2 V.hn h2,.slice f3 V.tn h3,.int .i64 ve] 111)=X6 at i8 HD HV⊢;generalize w6.1.size=Dd at HD⊢;clear jQ m8 m0 m1 m2 m3 m4 ml v0 v1 v2 v3 v4 v5 vl hb6 hV;have d0:=HD.cell 0 Zc;have d1:=HD.cell 1 Zc;have d2:=HD.cell 2 Zc;have d3:=HD.cell 3 Zc;have d4:=HD.cell 4 Zc;have d5:=HD.cell 5 Zc;have dl:=HD.lt;have m0:=i8.b.cell 0 Zb;have m1:=i8.b.cell 1 Zb;have m2:=i8.b.cell 2 Zb;have m3:=i8.b.cell 3 Zb;have m4:=i8.b.cell 4 Zb;have mf:=i8.b.free;have ml:=i8.b.lt;simp only[AR,Aa,Ab]at d0 d1 d2 d3 d4 d5 m0 m1 m2 m3 m4;have rV:=Ah hcd;clear hcd;by_cases c0:cd=0
       .have hVn:=rV c0 hlt;have xZ:=Ah hVn;clear hVn rV;subst c0;go_wp2;have HP:=i8.put (h1:=h1) (h2:=h2) HR HV;refine⟨⟨_,rfl,Ah ⟨V,f1,f2,f3,h1,h2,h3,pz,Za,by have:=xZ.out;omega,HP⟩⟩,?_⟩;have hms2:Uj (w.1.size+1) (((((X6.setCell ⟨w.1.size+1,0,none⟩ (.int .i64 V.now)).setCell ⟨w.1.size+1,1,none⟩ (.int .i64 V.floor)).setCell ⟨w.1.size+1,2,none⟩ (.slice f1 V.on h1)).setCell ⟨w.1.size+1,3,none⟩ (.slice f2 V.hn h2)).setCell ⟨w.1.size+1,4,none⟩ (.slice f3 V.tn h3))=200-V.hn:=by unfold Uj;rw[show World.cell? (((((X6.setCell ⟨w.1.size+1,0,none⟩ (.int .i64 V.now)).setCell ⟨w.1.size+1,1,none⟩ (.int .i64 V.floor)).setCell ⟨w.1.size+1,2,none⟩ (.slice f1 V.on h1)).setCell ⟨w.1.size+1,3,none⟩ (.slice f2 V.hn h2)).setCell ⟨w.1.size+1,4,none⟩ (.slice f3 V.tn h3)) ⟨w.1.size+1,3,none⟩=some (.slice f2 V.hn h2)from HP.b.cell 3 Zb]
        rw[hms2,yR.out,xZ.out];omega
       .go_wp2_with fail;go_meet;case rel=>exact⟨Y,b1,b2,b3,k1,k2,k3,pz,Za,Za,i8⟩
      --b4>
   .go_wp2_with fail;go_meet;case rel=>exact⟨Y,b1,b2,b3,k1,k2,k3,p'+1,Za,Za,MV⟩
   --f2>
  case rest=>
   have HL:=Ah hcut;clear hcut MV;obtain⟨Y,b1,b2,b3,k1,k2,k3,p',hq1,hq2,hL⟩:=HL.out;have KQ:=Ah hL;clear HL hL;have m0:=KQ.b.cell 0 Zb;have m1:=KQ.b.cell 1 Zb;have m2:=KQ.b.cell 2 Zb;have m3:=KQ.b.cell 3 Zb;have m4:=KQ.b.cell 4 Zb;have ml:=KQ.b.lt;simp only[AR,Aa,Ab]at m0 m1 m2 m3 m4;go_wp2_with (go_at_call 73;go_must(refine(dF Y b1 b2 b3 k1 k2 k3 _ KQ.y).mono ?_;rintro e w4 ⟨hb4,f1,f2,f3,h1,h2,h3,rfl,hin,hcp⟩;have ZG:=Ah (KQ.below hRw hb4);have A0:=ZG.a.cell 0 Zb;have A1:=ZG.a.cell 1 Zb;have A2:=ZG.a.cell 2 Zb;have A3:=ZG.a.cell 3 Zb;have A4:=ZG.a.cell 4 Zb;have AF:=ZG.a.free;have AL:=ZG.a.lt;simp only[AR,Aa,Ab]at A0 A1 A2 A3 A4));have V0:=Ah (show L4 w4 Y f1 f2 f3 h3 from⟨KQ.y.v,KQ.y.f,hin.lo0,hcp⟩);have F:=((((((Az.refl (λq=>q=w.1.size) w4).setCell (p:=⟨w.1.size,0,none⟩) rfl (.int .i64 Y.now)).setCell (p:=⟨w.1.size,1,none⟩) rfl (.int .i64 Y.floor)).setCell (p:=⟨w.1.size,2,none⟩) rfl (.slice f1 Y.on h1)).setCell (p:=⟨w.1.size,3,none⟩) rfl (.slice f2 Y.hn h2)).setCell (p:=⟨w.1.size,4,none⟩) rfl (.slice f3 Y.tn h3));have Z:=(((((ZG.a.set (o:=0) Zb (.int .i64 Y.now)).set (o:=1) Zb (.int .i64 Y.floor)).set (o:=2) Zb (.slice f1 Y.on h1)).set (o:=3) Zb (.slice f2 Y.hn h2)).set (o:=4) Zb (.slice f3 Y.tn h3));have z0:=Z.cell 0 Zb;have z1:=Z.cell 1 Zb;have z2:=Z.cell 2 Zb;have z3:=Z.cell 3 Zb;have z4:=Z.cell 4 Zb;simp[L1]at z0 z1 z2 z3 z4;refine bodyPost_ret (v:=.agg #[.int .i64 Y.now,.int .i64 Y.floor,.slice f1 Y.on h1,.slice f2 Y.hn h2,.slice f3 Y.tn h3]) (by simp[results,results43,go_sem,z0,z1,z2,z3,z4]) rfl ⟨Y,f1,f2,f3,h1,h2,h3,rfl,V0.pick F ZG.an,?_,p',Za,Za,?_⟩;.exact((((ZG.f.far uK _ _).far uK _ _).far uK _ _).far uK _ _).far uK _ _
   .exact HR.far (HR.far (HR.far (HR.far (HR.far ZG.r uK _ _) uK _ _) uK _ _) uK _ _) uK _ _
   --fin>
  --l2>
def RP (n Kk:Nat)(mk:(Nat->Value)->Array Value)(W:World)(R:Nat)(ad:OA)(nn cap p:Nat)(G:Nat->Value->World->Prop)(Fin:Act->World->Prop)(ops:Array Oper)(l:Array Bool)(a:Act)(X:World):Prop:=(l.size=n+1/\∀i j,l.getD i false=true->BE ops i j->l.getD j false=true)/\((l.getD n false=true->(∀i,i<n->l.getD i false=true)/\Fin a X)/\(l.getD n false=false->∃t:Nat->Value,a=⟨mk t,[]⟩/\Az (λq=>q=R) W X/\(∃p',p<=p'/\p'<=p+Kk*l.toList.count true/\Rd X R ad nn cap p')/\∀i,i<n->l.getD i false=true->G i (t i) X))
theorem G0{P:Program}{id:Nat}{ops:Array Oper}{Q:Exit->Act->World->Prop}{a0:Act}{W:World}(hm:P.follows .mixedOrders=true)(n Kk:Nat)(par:Nat->Nat)(mk:(Nat->Value)->Array Value)(t0:Nat->Value)(R:Nat)(ad:OA)(nn cap p:Nat)(G:Nat->Value->World->Prop)(Fin:Act->World->Prop)(hn:ops.size=n+1)(hord:((List.range ops.size).all λi=>match ops[i]? with|some o=>o.after.all (λe=>!(Region.binds .any e)||decide (e.on<i))|none=>true)=true)(hlast:((List.range n).all λj=>decide (j<par j/\par j<=n)&&match ops[par j]? with|some o=>o.after.any (λe=>Region.binds .any e&&e.on==j)|none=>false)=true)(st:∀i v X Y p',i<n->G i v X->Az (λq=>q=R) X Y->Rd X R ad nn cap p'->R<W.1.size->W.1.size<=X.1.size->G i v Y)(h0:a0=⟨mk t0,[]⟩)(hr:Rd W R ad nn cap p)(sg:∀i,i<n->∀(t:Nat->Value) X K p',Az (λq=>q=R) W X->p<=p'->p'<=p+Kk*n->Rd X R ad nn cap p'->(∀j,BE ops i j->G j (t j) X)->(∀v Y p2,p'<=p2->p2<=p'+Kk->G i v Y->Az (λq=>q=R) X Y->Rd Y R ad nn cap p2->K ⟨mk (Av t i v),[]⟩ Y)->wpOp P ops Q i K ⟨mk t,[]⟩ X)(sl:∀(t:Nat->Value) X K p',Az (λq=>q=R) W X->p<=p'->p'<=p+Kk*n->Rd X R ad nn cap p'->(∀j,j<n->G j (t j) X)->(∀a Y,Fin a Y->K a Y)->wpOp P ops Q n K ⟨mk t,[]⟩ X)(hfin:∀a X,Fin a X->Q .normal a X):(Code.region id ops true).wp P Q a0 W:=by
 have hdep:∀i j,i<n+1->BE ops i j->j<n:=by exact aO
 refine Cs hm (RP n Kk mk W R ad nn cap p G Fin ops) ?_ ?_ ?_ ?_
 .have hz:∀i,(Array.replicate ops.size false).getD i false=false:=λi=>by simp[Array.getD]
  refine⟨⟨by simp[hn],λi j h=>by rw[hz]at h;cases h⟩,λh=>?_,λ_=>⟨t0,h0,Aq (Ao _ _).drew,⟨p,AD _,Za,hr.below (Ao _ _).drew⟩,λi _ h=>?_⟩⟩<;>(rw[hz]at h;cases h)
 .rintro l a X ⟨⟨hs,_⟩,_⟩;rw[hs,hn]
 .rintro l a X ⟨⟨hs,_⟩,h6,_⟩ hr;have AL:=Mj hord (by rw[hs,hn]) hr;exact hfin a X (h6 (AL n Za)).2
 .rintro l a X i ⟨⟨hs,hcl⟩,h6,hg⟩ hr';obtain⟨hu,o,ho,hall⟩:=mem_ready.1 hr';have di:∀j,BE ops i j->l.getD j false=true:=by
   rintro j ⟨o',ho',e,he,hb,rfl⟩;rw[ho]at ho';obtain rfl:o=o':=by simpa using ho'
   exact hall e he hb
  have hi7:i<n+1:=by
   rcases Au i (n+1)with h|h;.exact h
   .rw[A9 Za]at ho;cases ho
  have hui:l.getD i false=false:=by have:l.getD i true=false:=hu;simpa[Array.getD,hs,hi7]using this
  have kp:∀j,¬j=i->(l.setIfInBounds i true).getD j false=l.getD j false:=λj hj=>by rw[BT Za,if_neg hj]
  have ki:(l.setIfInBounds i true).getD i false=true:=by rw[BT Za,if_pos rfl]
  have hs':(l.setIfInBounds i true).size=n+1:=by simp[hs]
  have ku:∀j,l.getD j false=true->(l.setIfInBounds i true).getD j false=true:=λj h=>by
   by_cases e:j=i;.subst e;exact ki
   .rw[kp j e];exact h
  have cl':∀a b,(l.setIfInBounds i true).getD a false=true->BE ops a b->(l.setIfInBounds i true).getD b false=true:=λa b ha hw=>by
   by_cases e:a=i;.subst e;exact ku b (di b hw)
   .rw[kp a e]at ha;exact ku b (hcl a b ha hw)
  have l6:l.getD n false=false:=by cases h:l.getD n false with
   |false=>rfl
   |true=>
    rcases Au i n with h1|h1;.rw[(h6 h).1 i h1]at hui;cases hui
    .obtain rfl:i=n:=Za;rw[h]at hui;cases hui
  obtain⟨t,rfl,hb,⟨p',q1,q2,hrd⟩,gg⟩:=hg l6;have hc:=NN Za hui;have hc2:(l.setIfInBounds i true).toList.count true<=n+1:=by have:=LF (a:=true) (l:=(l.setIfInBounds i true).toList);simpa[hs]using this
  have hcn:Kk*l.toList.count true<=Kk*n:=N6 _ Za;have hck:Kk*(l.setIfInBounds i true).toList.count true=Kk*l.toList.count true+Kk:=by rw[hc,Nat.mul_add,My]
  by_cases hin:i=n
  .subst hin;have pa:∀j,j<i->j<par j/\par j<=i/\BE ops (par j) j:=λj hj=>by have h1:=AZ.1 hlast j (Bd.2 hj);rw[Al,decide_eq_true_eq]at h1;refine⟨h1.1.1,h1.1.2,?_⟩;have h3:=h1.2;cases hp:ops[par j]? with
    |none=>rw[hp]at h3;cases h3
    |some o2=>rw[hp]at h3;obtain⟨k,hk,h2⟩:=EY.1 h3;simp only[Al,beq_iff_eq]at h2;exact⟨o2,hp,o2.after[k],EZ hk,h2.1,h2.2⟩
   have al:∀d j,j<i->i-j<=d->l.getD j false=true:=λd=>by induction d with
    |zero=>intro j hj h;omega
    |succ d ih=>
     intro j hj h;obtain⟨h1,h2,h3⟩:=pa j hj;by_cases e:par j=i;.rw[e]at h3;exact di j h3
     .exact hcl _ _ (ih (par j) Za Za) h3
   clear hr' hu ho h6 hg;refine sl t X _ p' hb q1 Za hrd (λj hj=>gg j hj (al _ j hj uK)) (λa Y hY=>⟨⟨hs',cl'⟩,λ_=>⟨λj hj=>?_,hY⟩,λh=>?_⟩);.exact ku j (al _ j hj uK)
   .rw[ki]at h;cases h
  .clear hr' hu ho h6 hg;have hno:(l.setIfInBounds i true).getD n false=false:=by rw[kp n (λe=>hin e.symm)];exact l6
   refine sg i Za t X _ p' hb q1 Za hrd (λj hj=>gg j (hdep i j hi7 hj) (di j hj)) (λv Y p2 r1 r2 hv hY hrY=>⟨⟨hs',cl'⟩,λh=>?_,λ_=>⟨Av t i v,rfl,hb.trans hY,⟨p2,Za,Za,hrY⟩,λj j1 h=>?_⟩⟩);.rw[hno]at h;cases h
   .by_cases e:j=i;.subst e;rw[Bp];exact hv
    .rw[kp j e]at h;rw[BB e];exact st _ _ _ _ _ j1 (gg j j1 h) hY hrd hr.lt hb.size
def cc (z:Ch)(ah:OA)(ch:Nat):List Value:=[.i z.ver,.bool z.gone,.s z.ob.kind,.s z.ob.name,.i z.ob.ver,.i z.ob.born,.s z.ob.text,.bool z.ob.ending,.l ah z.ob.hn ch]
structure Sg (W:World)(R T:Nat)(x:Bk)(g1 g2:Nat)(a3:OA)(d1 d2 d3 o h:Nat)(y:Ob)(z:Ch)(ah bh:OA)(ch eh:Nat):Prop where
 row:AN W T 5 (AR (Qq x (some ⟨g1,0,none⟩) (some ⟨g2,0,none⟩) a3 d1 d2 d3))lt:T<W.1.size
 ne:¬T=R
 c1:∀f,f<7->W.cell? ⟨g1,o*7+f,none⟩=some (AR (oc y ah ch) f)f1:∀j,W.frozen? ⟨g1,j,none⟩=false
 l1:g1<W.1.size
 n1:¬g1=R
 c2:∀f,f<9->W.cell? ⟨g2,h*9+f,none⟩=some (AR (cc z bh eh) f)f2:∀j,W.frozen? ⟨g2,j,none⟩=false
 l2:g2<W.1.size
 n2:¬g2=R
 ho:o<x.on
 hh:h<x.hn
 bn:-1000000<=x.now/\x.now<=1000000
 bf:-1000000<=x.floor/\x.floor<=1000000
 bv:-1000000<=y.ver/\y.ver<=1000000
 bb:-1000000<=y.born/\y.born<=1000000
 bz:-1000000<=z.ver/\z.ver<=1000000
 bt:y.text.size<=300
def cD (R:Nat)(T:Nat)(x:Bk)(_g1 _g2:Nat)(_a3:OA)(_d1 _d2 _d3 _o _h:Nat)(_y:Ob)(_z:Ch)(_ah _bh:OA)(_ch _eh:Nat)(W:World)(i:Nat)(v:Value)(X:World):Prop:=match i with
 |0=>v=.p T 0
 |1=>v=.i x.now
 |2=>∃i:Int,v=.i i/\-1000001<=i/\i<=1000001
 |3=>∃g:Nat,v=.l (some ⟨g,0,none⟩) 3 3/\W.1.size<=g/\g<X.1.size/\∀k,k<3->∃i:Int,X.cell? ⟨g,k,none⟩=some (.i i)/\-1000001<=i/\i<=1000001
 |4=>v=.p R 0
 |5=>∃k:Nat,k<3/\v=.i k
 |6=>∃(g k:Nat)(i:Int),v=.pointer (some ⟨g,k,none⟩)/\(W.1.size<=g/\g<X.1.size)/\X.cell? ⟨g,k,none⟩=some (.i i)/\True/\(-1000001<=i/\i<=1000001)
 |7=>∃i:Int,v=.i i/\-1000001<=i/\i<=1000001
 |8=>v=.p T 0
 |_=>True
theorem lO{p1 p2 p3 p4 p8 p9 DX DK DV DF C9 CV CU C6 C8 CZ Df C7 C4 CY Dw Di Dj Dg Dh Dy Dx DC DB DA Dz DH Ek Eu EE Ej Em Er Eo En Ei Eh Ds DU DW DI DG D7 D4 D3 D8 D1 D0 D2 D5 DY EA Ey Ew Ex Ez El Ep DM Fk Fg Fo Fm Fp Fl Fq Ff Fj GR GU GT Fi Fh FK FA FM GZ KR KF KD KC KG KE GS GV G4 G7 G3 G5 G6 KH Cp Cu Cn Ci Cj Cg Ck Cm Co CF CJ CI CE Cy CB Cz CA CD CG CQ CS CR DT DP DN Dm Du Dp Ed Dr Dq Do Dt Dl EH ER EU EW ES EV ET EL EM EK EJ EN EP Fa Fb FO Gd Fx FU Gc FP Fy FN Gf FE Gb F8 FH FV Fz E9 Fc FR FT Ge FL FI FJ Ga FW FY FC FX FQ Kv Jj IR JX GH Gh JY IY Kj Hk Jc Jk IP Km Ko I6 Kd Jw Gz Gu I3 J2 Hm ID IW Ik JK Ju Ki Il Ha Hn Gi GC JD I1 Ka H9 Jp Hw Ji I5 Jh Is JN J3 Ii JT JR IU Hp JZ GD GF Jv G9 Jl IQ IM Kq JI J4 Jb Ht GN GJ Hx J7 IE Hu J6 J0 Im Jq Hr Kc If Gw GA Jo JM Hy Hg IC J8 Hq Ke IH J1 Jr Kr Gn Gr Je IS IN Ib Hb Iv Kn Hi JU Ku Ja Ho GK Gv Kg I0 Kw I7 Iy Iq Hh I4 IZ H7 Hz Ij Hd IX He JS Js JG Kh IV Gp Gl Jt H8 Jz IT IK I2 Ks Ie JO Iw JL Gm Gy Gs GL Gk GI Gt Gj JF IB Hf Ia JB Hs JJ Jn JA JH Jy GB GE IF Jd Iz H5 Jg Hc Kf Ir JP JW Hl Iu Jm Ic JC Kl Hj H6 Ip II Ih IA I8 Jf JE Kt IG I9 It Gq GG In IL JQ J9 Ig IJ Hv Io JV J5 Gx:Value}{mk:(Nat->Value)->Array Value}(t0:Nat->Value)(R:Nat)(ad:OA)(nn cap p:Nat)(T:Nat)(x:Bk)(g1 g2:Nat)(a3:OA)(d1 d2 d3 o h:Nat)(y:Ob)(z:Ch)(ah bh:OA)(ch eh:Nat)(W:World)(hr:Rd W R ad nn cap p)(hp:p<=600000)(H:Sg W R T x g1 g2 a3 d1 d2 d3 o h y z ah bh ch eh)(hmk:mk=λt=>#[.p R 0,p1,p2,p3,p4,.p T 0,.i (o:Nat),.i (h:Nat),p8,p9,DX,DK,DV,DF,C9,CV,CU,C6,C8,CZ,Df,C7,C4,CY,Dw,Di,Dj,Dg,Dh,Dy,Dx,DC,DB,DA,Dz,DH,Ek,Eu,EE,Ej,Em,Er,Eo,En,Ei,Eh,Ds,DU,DW,DI,DG,D7,D4,D3,D8,D1,D0,D2,D5,DY,EA,Ey,Ew,Ex,Ez,El,Ep,DM,Fk,Fg,Fo,Fm,Fp,Fl,Fq,Ff,Fj,GR,GU,GT,Fi,Fh,FK,FA,FM,GZ,KR,KF,KD,KC,KG,KE,GS,GV,G4,G7,G3,G5,G6,KH,Cp,Cu,Cn,Ci,Cj,Cg,Ck,Cm,Co,CF,CJ,CI,CE,Cy,CB,Cz,CA,CD,CG,CQ,CS,CR,DT,DP,DN,Dm,Du,Dp,Ed,Dr,Dq,Do,Dt,t 0,t 1,t 2,t 3,t 4,t 5,t 6,t 7,t 8,Dl,EH,ER,EU,EW,ES,EV,ET,EL,EM,EK,EJ,EN,EP,Fa,Fb,FO,Gd,Fx,FU,Gc,FP,Fy,FN,Gf,FE,Gb,F8,FH,FV,Fz,E9,Fc,FR,FT,Ge,FL,FI,FJ,Ga,FW,FY,FC,FX,FQ,Kv,Jj,IR,JX,GH,Gh,JY,IY,Kj,Hk,Jc,Jk,IP,Km,Ko,I6,Kd,Jw,Gz,Gu,I3,J2,Hm,ID,IW,Ik,JK,Ju,Ki,Il,Ha,Hn,Gi,GC,JD,I1,Ka,H9,Jp,Hw,Ji,I5,Jh,Is,JN,J3,Ii,JT,JR,IU,Hp,JZ,GD,GF,Jv,G9,Jl,IQ,IM,Kq,JI,J4,Jb,Ht,GN,GJ,Hx,J7,IE,Hu,J6,J0,Im,Jq,Hr,Kc,If,Gw,GA,Jo,JM,Hy,Hg,IC,J8,Hq,Ke,IH,J1,Jr,Kr,Gn,Gr,Je,IS,IN,Ib,Hb,Iv,Kn,Hi,JU,Ku,Ja,Ho,GK,Gv,Kg,I0,Kw,I7,Iy,Iq,Hh,I4,IZ,H7,Hz,Ij,Hd,IX,He,JS,Js,JG,Kh,IV,Gp,Gl,Jt,H8,Jz,IT,IK,I2,Ks,Ie,JO,Iw,JL,Gm,Gy,Gs,GL,Gk,GI,Gt,Gj,JF,IB,Hf,Ia,JB,Hs,JJ,Jn,JA,JH,Jy,GB,GE,IF,Jd,Iz,H5,Jg,Hc,Kf,Ir,JP,JW,Hl,Iu,Jm,Ic,JC,Kl,Hj,H6,Ip,II,Ih,IA,I8,Jf,JE,Kt,IG,I9,It,Gq,GG,In,IL,JQ,J9,Ig,IJ,Hv,Io,JV,J5,Gx])(Q:Exit->Act->World->Prop)(hQ:∀(t:Nat->Value)(i:Int)(pz:Nat)(X0:World),-1000001<=i/\i<=1000001->Az (λq=>q=R) W X0->p<=pz->pz<=p+9->Rd X0 R ad nn cap pz->Q .normal ⟨mk t,[]⟩ (X0.setCell ⟨T,0,none⟩ (.i i))):Code.wp prog (rg Try.f44 28) Q ⟨mk t0,[]⟩ W:=by
 have hRW:=hr.lt;refine G0 Ze 9 1 (λj=>match j with|_=>9) mk t0 R ad nn cap p (cD R T x g1 g2 a3 d1 d2 d3 o h y z ah bh ch eh W) (λa X=>∃(t:Nat->Value)(i:Int)(pz:Nat)(X0:World),a=⟨mk t,[]⟩/\X=(X0.setCell ⟨T,0,none⟩ (.i i))/\(-1000001<=i/\i<=1000001)/\Az (λq=>q=R) W X0/\p<=pz/\pz<=p+9/\Rd X0 R ad nn cap pz) Ze Ze Ze ?_ rfl hr ?_ ?_ ?_;all_goals subst hmk
 .intro i v X Z p' hi h hF hRd hR hX;rcases(show i=0\/i=1\/i=2\/i=3\/i=4\/i=5\/i=6\/i=7\/i=8 by omega)with rfl|rfl|rfl|rfl|rfl|rfl|rfl|rfl|rfl;.exact h
  .exact h
  .exact h
  .obtain⟨g,e,y1,y2,y3⟩:=h;exact⟨g,e,y1,Ac y2 hF.size,λk hk=>by obtain⟨i,y4,y5⟩:=y3 k hk;exact⟨i,(hF.cell (p:=⟨g,k,none⟩) y2 (λq=>by have q:g=R:=q;omega)).trans y4,y5⟩⟩
  .exact h
  .exact h
  .obtain⟨g,k,i,e,y1,y2,y3,y4⟩:=h;exact⟨g,k,i,e,⟨y1.1,Ac y1.2 hF.size⟩,(hF.cell (p:=⟨g,k,none⟩) y1.2 (λq=>by have q:g=R:=q;omega)).trans y2,y3,y4⟩
  .exact h
  .exact h
 .intro i hi t X K p' hb hp1 hp2 hrd hg hK;rcases(show i=0\/i=1\/i=2\/i=3\/i=4\/i=5\/i=6\/i=7\/i=8 by omega)with rfl|rfl|rfl|rfl|rfl|rfl|rfl|rfl|rfl;.have h:=hK (.p T 0) X p' uK Za rfl (Az.refl _ _) hrd;exact Pc
  .have eq0:t 0=.p T 0:=hg 0 (AQ rfl);have q:=(hb.cell (p:=⟨T,0,none⟩) H.lt H.ne).trans (H.row.cell 0 Zb);simp only[AR,Aa]at q;have h:=hK (.i x.now) X p' uK Za rfl (Az.refl _ _) hrd;refine Ag rfl rfl ?_;clear hK hg;go_simp;simpa[Av,eq0]using h
  .have eq1:t 1=.i x.now:=hg 1 (AQ rfl);have eq1b:=H.bn;have hw:=AJ (x.now+1) ⟨Za,Za⟩;have h:=hK (.i (x.now+1)) X p' uK Za ⟨_,rfl,Za,Za⟩ (Az.refl _ _) hrd;refine Ag rfl rfl ?_;clear hK hg;go_simp;simpa[Av,eq1,hw]using h
  .obtain⟨i2,eq2,eq21,eq22⟩:∃i:Int,t 2=.i i/\-1000001<=i/\i<=1000001:=hg 2 (AQ rfl);have h:=hK (.l (some ⟨X.1.size,0,none⟩) 3 3) (X.alloc (.cells #[.i (-1),.i i2,.i 1000001] 3)) p' uK Za ⟨X.1.size,rfl,hb.size,Zc,λk hk=>by rw[Ak X #[.i (-1),.i i2,.i 1000001] 3 k];rcases(show k=0\/k=1\/k=2 by omega)with rfl|rfl|rfl;all_goals exact⟨_,rfl,Za,Za⟩⟩ (Aq AG) (hrd.below AG);refine Ag rfl rfl ?_;clear hK hg;go_simp;simpa[Av,eq2]using h
  .have h:=hK (.p R 0) X p' uK Za rfl (Az.refl _ _) hrd;exact Pc
  .have eq4:t 4=.p R 0:=hg 4 (AQ rfl);refine Ag rfl rfl ?_;have HK:=Ah hK;have HR:=Ah hrd;clear hK hg hrd;go_simp;go_at_call 12;refine(A7 R ad nn cap p' 3 X HR Za Zb Zb).mono ?_;rintro r Z ⟨k,rfl,_,hv,hf,hr2⟩;have h:=HK (.i k) Z (p'+1) Za uK ⟨k,by have:=hv Zb;omega,rfl⟩ hf hr2;simpa[Av,eq4]using h
  .obtain⟨g,eq3,y1,y2,y3⟩:∃g:Nat,t 3=.l (some ⟨g,0,none⟩) 3 3/\W.1.size<=g/\g<X.1.size/\∀k,k<3->∃i:Int,X.cell? ⟨g,k,none⟩=some (.i i)/\-1000001<=i/\i<=1000001:=hg 3 (AQ rfl);obtain⟨k,hk,eq5⟩:∃k:Nat,k<3/\t 5=.i k:=hg 5 (AQ rfl);obtain⟨i,y4,y5,y6⟩:=y3 k hk;have h:=hK (.pointer (some ⟨g,k,none⟩)) X p' uK Za ⟨g,k,i,rfl,⟨y1,y2⟩,y4,trivial,y5,y6⟩ (Az.refl _ _) hrd;refine Ag rfl rfl ?_;clear hK hg;go_simp;rw[if_pos Za,AI];go_simp;simpa[Av,eq3,eq5]using h
  .obtain⟨g,k,i,eq6,y1,y2,y3,y4⟩:∃(g k:Nat)(i:Int),t 6=.pointer (some ⟨g,k,none⟩)/\(W.1.size<=g/\g<X.1.size)/\X.cell? ⟨g,k,none⟩=some (.i i)/\True/\(-1000001<=i/\i<=1000001):=hg 6 (AQ rfl);have h:=hK (.i i) X p' uK Za ⟨i,rfl,y4.1,y4.2⟩ (Az.refl _ _) hrd;refine Ag rfl rfl ?_;clear hK hg;go_simp;simpa[Av,eq6]using h
  .have h:=hK (.p T 0) X p' uK Za rfl (Az.refl _ _) hrd;exact Pc
 .intro t X K p' hb hp1 hp2 hrd hg hK;have eq8:t 8=.p T 0:=hg 8 Za;obtain⟨i,eq7,y1,y2⟩:∃i:Int,t 7=.i i/\-1000001<=i/\i<=1000001:=hg 7 Za;have q:=(hb.cell (p:=⟨T,0,none⟩) H.lt H.ne).trans (H.row.cell 0 Zb);have q2:=(hb.frozen (p:=⟨T,0,none⟩) H.lt H.ne).trans (H.row.free _);simp only[AR,Aa]at q;have h:=hK _ _ ⟨t,i,p',X,rfl,rfl,⟨y1,y2⟩,hb,hp1,Za,hrd⟩;have HK:=Ah h;clear hK hg h;refine Ag rfl rfl ?_;go_simp;simpa[eq8,eq7]using HK.out
 .rintro a X ⟨t,i,pz,X0,rfl,rfl,z2,z3,z4,z5,z6⟩;exact hQ t i pz X0 z2 z3 z4 z5 z6
end Go.Proofs.Ytnnjcenacidceaa
