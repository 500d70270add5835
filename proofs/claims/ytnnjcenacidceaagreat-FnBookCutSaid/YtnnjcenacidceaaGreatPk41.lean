import Derived.Test.YtnnjcenacidceaaGreatPk39
import Derived.Deep.Light
set_option maxRecDepth 100000
set_option maxHeartbeats 8000000
namespace Go.Proofs.YtnnjcenacidceaaGreat
open Go.RowKit Go.Proofs.Tryz
def Yq:List ByteArray:=[⟨#[97,110,110]⟩,⟨#[98,111,98]⟩,⟨#[99,121]⟩]
theorem oL{s:ByteArray}(h:s∈Yq):(s.size:Int)<=140737488355328:=by simp only[Yq,Fy,List.not_mem_nil,or_false]at h;rcases h with rfl|rfl|rfl<;>decide
theorem xB(w:World):Nw (w.alloc (.cells #[.int .i64 0,.int .i64 0,.int .i64 0,.slice none 0 0,.slice none 0 0,.slice none 0 0,.int .i64 0] 115)) w.1.size:=λj s e=>by rw[Al w #[.int .i64 0,.int .i64 0,.int .i64 0,.slice none 0 0,.slice none 0 0,.slice none 0 0,.int .i64 0] 115 j]at e;match j,e with
 |0,e=>cases e
 |1,e=>cases e
 |2,e=>cases e
 |3,e=>cases e
 |4,e=>cases e
 |5,e=>cases e
 |6,e=>cases e
 |n+7,e=>simp at e
theorem Lv.pick{X Y:World}{R:Nat}{x:Bu}{u1 u2:OA}(h:Lv X 0 X.1.size x u1 u2)(hf:Ay (λq=>q=R) X Y)(hn:∀j s,¬X.cell? ⟨R,j,none⟩=some (.string s)):Lv Y 0 Y.1.size x u1 u2:=by
 refine⟨λi hi=>?_,λi hi=>?_⟩;.obtain⟨b,off,e1,e2,e3,e4⟩:=h.wt i hi;have e:∀j,Y.cell? ⟨b,j,none⟩=X.cell? ⟨b,j,none⟩:=λj=>hf.cell (p:=⟨b,j,none⟩) e3 (λq=>hn _ _ (show X.cell? ⟨R,off+i*3,none⟩=_ from(show b=R from q)▸e4.c0));exact⟨b,off,e1,e2,Ad e3 hf.size,⟨(e _).trans e4.c0,(e _).trans e4.c1,(e _).trans e4.c2⟩⟩
 .obtain⟨b,off,e1,e2,e3,e4⟩:=h.wr i hi;have e:∀j,Y.cell? ⟨b,j,none⟩=X.cell? ⟨b,j,none⟩:=λj=>hf.cell (p:=⟨b,j,none⟩) e3 (λq=>hn _ _ (show X.cell? ⟨R,off+i*6+1,none⟩=_ from(show b=R from q)▸e4.c1));exact⟨b,off,e1,e2,Ad e3 hf.size,⟨(e _).trans e4.c0,(e _).trans e4.c1,(e _).trans e4.c2,(e _).trans e4.c3,(e _).trans e4.c4,(e _).trans e4.c5⟩⟩
def mD (R:Nat)(_Bb:Nat)(Y:Bk)(b1 b2 b3:OA)(k1 k2 k3:Nat)(W:World)(i:Nat)(v:Value)(X:World):Prop:=match i with
 |0=>v=.agg #[.int .i64 Y.now,.int .i64 Y.floor,.slice b1 Y.on k1,.slice b2 Y.hn k2,.slice b3 Y.tn k3]
 |1=>v=.pointer (some ⟨R,0,none⟩)
 |2=>v=.agg #[.int .i64 Y.now,.int .i64 Y.floor,.slice b1 Y.on k1,.slice b2 Y.hn k2,.slice b3 Y.tn k3]
 |3=>∃y:Wr,v=.agg #[.int .i64 y.op,.string y.kind,.string y.name,.int .i64 y.seen,.string y.text,.string y.hold]/\Xi y
 |4=>∃(cd:Int)(V:Bk)(f1 f2 f3:OA)(h1 h2 h3:Nat)(ve:Int),v=.agg #[.int .i64 cd,.int .i64 V.now,.int .i64 V.floor,.slice f1 V.on h1,.slice f2 V.hn h2,.slice f3 V.tn h3,.int .i64 ve]/\Mm X V f1 f2 f3 h3
 |5=>∃z:Nat,v=.pointer (some ⟨z,0,none⟩)/\W.1.size<=z/\AN X z 7 (AW [.int .i64 0,.int .i64 0,.int .i64 0,.slice none 0 0,.slice none 0 0,.slice none 0 0,.int .i64 0])/\Nw X z
 |_=>True
theorem Sc{P:Prop}(h:P:=by have q0:=(hb.cell (p:=⟨Bb,0,none⟩) hBb hBR).trans (hrow.cell 0 Zb);have q1:=(hb.cell (p:=⟨Bb,1,none⟩) hBb hBR).trans (hrow.cell 1 Zb);have q2:=(hb.cell (p:=⟨Bb,2,none⟩) hBb hBR).trans (hrow.cell 2 Zb);have q3:=(hb.cell (p:=⟨Bb,3,none⟩) hBb hBR).trans (hrow.cell 3 Zb);have q4:=(hb.cell (p:=⟨Bb,4,none⟩) hBb hBR).trans (hrow.cell 4 Zb);simp only[AW,Aa,Ab]at q0 q1 q2 q3 q4;have h:=hK (.agg #[.int .i64 Y.now,.int .i64 Y.floor,.slice b1 Y.on k1,.slice b2 Y.hn k2,.slice b3 Y.tn k3]) X p' AQ Za rfl (Ay.refl _ _) hrd;refine Ah rfl rfl ?_;clear hK hg;go_simp;simpa[AA]using h):P:=h
theorem OS{P:Prop}(h:P:=by have h:=hK (.pointer (some ⟨R,0,none⟩)) X p' AQ Za rfl (Ay.refl _ _) hrd;refine Ah rfl rfl ?_;clear hK hg;go_simp;simpa[AA]using h):P:=h
theorem Ri{P:Prop}(h:P:=by refine Ah rfl rfl ?_;clear hK hg;go_simp;simpa[AA]using h):P:=h
theorem qM{p1 p2 p4 p6 p7 p8 p9 D8 D9 Ea DZ Dl Di Dg Dh De Db Du Ds DA Dw DG DD DE DF DI DJ DU Ev EF EN Eu ED EB EE EC Es Et DC D2 D1 DO DN Ej Eg Ei Ek D5 D4 Eb Eh D7 EK EL EH EJ EI EA Ez D0 FP FJ FO FN FK FH FL FI FM He Hg Hc FC Fz GA GZ Ge Ib:Value}{mk:(Nat->Value)->Array Value}(t0:Nat->Value)(R:Nat)(ad:OA)(nn cap p:Nat)(Bb:Nat)(Y:Bk)(b1 b2 b3:OA)(k1 k2 k3:Nat)(W:World)(hr:Rd W R ad nn cap p)(hp:p<=600000)(hBb:Bb<W.1.size)(hBR:¬Bb=R)(hrow:AN W Bb 5 (AW [.int .i64 Y.now,.int .i64 Y.floor,.slice b1 Y.on k1,.slice b2 Y.hn k2,.slice b3 Y.tn k3]))(hY:Mm W Y b1 b2 b3 k3)(hmk:mk=λt=>#[.pointer (some ⟨R,0,none⟩),p1,p2,.pointer (some ⟨Bb,0,none⟩),p4,t 5,p6,p7,p8,p9,D8,D9,Ea,DZ,Dl,Di,Dg,Dh,De,Db,t 0,t 1,t 2,t 3,t 4,Du,Ds,DA,Dw,DG,DD,DE,DF,DI,DJ,DU,Ev,EF,EN,Eu,ED,EB,EE,EC,Es,Et,DC,D2,D1,DO,DN,Ej,Eg,Ei,Ek,D5,D4,Eb,Eh,D7,EK,EL,EH,EJ,EI,EA,Ez,D0,FP,FJ,FO,FN,FK,FH,FL,FI,FM,He,Hg,Hc,FC,Fz,GA,GZ,Ge,Ib])(Q:Exit->Act->World->Prop)(hQ:∀(t:Nat->Value)(z:Nat)(cd:Int)(V:Bk)(f1 f2 f3:OA)(h1 h2 h3:Nat)(ve:Int)(pz:Nat) X,t 5=.pointer (some ⟨z,0,none⟩)->W.1.size<=z->AN X z 7 (AW [.int .i64 cd,.int .i64 V.now,.int .i64 V.floor,.slice f1 V.on h1,.slice f2 V.hn h2,.slice f3 V.tn h3,.int .i64 ve])->Mm X V f1 f2 f3 h3->Ay (λq=>q=R) W X->p<=pz->pz<=p+360->Rd X R ad nn cap pz->Q .normal ⟨mk t,[]⟩ X):Code.wp prog (rg Tryz.f39 6) Q ⟨mk t0,[]⟩ W:=by
 have hRW:=hr.lt;refine Rn Ze 6 11 60 mk t0 R ad nn cap p (mD R Bb Y b1 b2 b3 k1 k2 k3 W) (λa X=>∃(t:Nat->Value)(z:Nat)(cd:Int)(V:Bk)(f1 f2 f3:OA)(h1 h2 h3:Nat)(ve:Int)(pz:Nat),a=⟨mk t,[]⟩/\t 5=.pointer (some ⟨z,0,none⟩)/\W.1.size<=z/\AN X z 7 (AW [.int .i64 cd,.int .i64 V.now,.int .i64 V.floor,.slice f1 V.on h1,.slice f2 V.hn h2,.slice f3 V.tn h3,.int .i64 ve])/\Mm X V f1 f2 f3 h3/\Ay (λq=>q=R) W X/\p<=pz/\pz<=p+360/\Rd X R ad nn cap pz) Ze Ze Ze ?_ rfl hr ?_ ?_ ?_ ?_;all_goals subst hmk
 .intro i v X Z p' hi h hF hRd hR hX;rcases(show i=0\/i=1\/i=2\/i=3\/i=4\/i=5 by omega)with rfl|rfl|rfl|rfl|rfl|rfl;.exact h
  .exact h
  .exact h
  .exact h
  .obtain⟨cd,V,f1,f2,f3,h1,h2,h3,ve,e,hV⟩:=h;exact⟨cd,V,f1,f2,f3,h1,h2,h3,ve,e,hV.pick hF hRd.ns⟩
  .obtain⟨z,e,z1,z2,z3⟩:=h;exact⟨z,e,z1,z2.fr2 hF Za,z3.fr hF z2.lt Za⟩
 .intro i hi t X K p' hb hp1 hp2 hrd hg hK;rcases(show i=0\/i=1\/i=2\/i=3\/i=4\/i=5 by omega)with rfl|rfl|rfl|rfl|rfl|rfl;.exact Sc
  .exact OS
  .exact Sc
  .have g1:t 1=.pointer (some ⟨R,0,none⟩):=hg 1 (AZ rfl);have g2:t 2=.agg #[.int .i64 Y.now,.int .i64 Y.floor,.slice b1 Y.on k1,.slice b2 Y.hn k2,.slice b3 Y.tn k3]:=hg 2 (AZ rfl);have HY:=Aj (hY.pick hb hr.ns);refine Ah rfl rfl ?_;have HK:=Aj hK;have HR:=Aj hrd;clear hK hg hrd;go_simp;go_at_call 76;refine(Sg Y R ad nn cap p' b1 b2 b3 k1 k2 k3 X HR Za HY.f (VJ HY.v).1 (VJ HY.v).2 HY.i).mono ?_;rintro r Z ⟨y,rfl,hy,hf,q3,z1,z2,hr2⟩;have h:=HK (.agg #[.int .i64 y.op,.string y.kind,.string y.name,.int .i64 y.seen,.string y.text,.string y.hold]) Z q3 z1 Za ⟨y,rfl,hy⟩ hf hr2;simpa[AA,g1,g2]using h
  .have g0:t 0=.agg #[.int .i64 Y.now,.int .i64 Y.floor,.slice b1 Y.on k1,.slice b2 Y.hn k2,.slice b3 Y.tn k3]:=hg 0 (AZ rfl);obtain⟨y,g3,hy⟩:∃y:Wr,t 3=.agg #[.int .i64 y.op,.string y.kind,.string y.name,.int .i64 y.seen,.string y.text,.string y.hold]/\Xi y:=hg 3 (AZ rfl);have HY:=Aj (hY.pick hb hr.ns);refine Ah rfl rfl ?_;have HK:=Aj hK;have HR:=Aj hrd;clear hK hg hrd;go_simp;go_at_call 75;refine(VV Y y b1 b2 b3 k1 k2 k3 X HY hy).mono ?_;rintro r Z ⟨hbZ,cd,V,f1,f2,f3,h1,h2,h3,ve,rfl,hV⟩;have h:=HK (.agg #[.int .i64 cd,.int .i64 V.now,.int .i64 V.floor,.slice f1 V.on h1,.slice f2 V.hn h2,.slice f3 V.tn h3,.int .i64 ve]) Z p' AQ Za ⟨cd,V,f1,f2,f3,h1,h2,h3,ve,rfl,hV⟩ (Ar hbZ) (HR.below hbZ);simpa[AA,g0,g3]using h
  .have h:=hK (.pointer (some ⟨X.1.size,0,none⟩)) (X.alloc (.cells #[.int .i64 0,.int .i64 0,.int .i64 0,.slice none 0 0,.slice none 0 0,.slice none 0 0,.int .i64 0] 115)) p' AQ Za ⟨X.1.size,rfl,hb.size,AN.new (l:=[.int .i64 0,.int .i64 0,.int .i64 0,.slice none 0 0,.slice none 0 0,.slice none 0 0,.int .i64 0]) (t:=115) Ci,xB X⟩ (Ar ET) (hrd.below ET);exact Ri
 .intro t X K p' hb hp1 hp2 hrd hg hK;obtain⟨cd,V,f1,f2,f3,h1,h2,h3,ve,g4,hV⟩:∃(cd:Int)(V:Bk)(f1 f2 f3:OA)(h1 h2 h3:Nat)(ve:Int),t 4=.agg #[.int .i64 cd,.int .i64 V.now,.int .i64 V.floor,.slice f1 V.on h1,.slice f2 V.hn h2,.slice f3 V.tn h3,.int .i64 ve]/\Mm X V f1 f2 f3 h3:=hg 4 Za Za;obtain⟨z,g5,hz,hrow7,hnz⟩:∃z:Nat,t 5=.pointer (some ⟨z,0,none⟩)/\W.1.size<=z/\AN X z 7 (AW [.int .i64 0,.int .i64 0,.int .i64 0,.slice none 0 0,.slice none 0 0,.slice none 0 0,.int .i64 0])/\Nw X z:=hg 5 Za Za;have rf:=hrow7.free;have rl:=hrow7.lt;obtain⟨r0,r1,r2,r3,r4,r5,r6⟩:=tW hrow7;have R6:=(((((((hrow7.set (o:=0) Za (.int .i64 cd)).set (o:=1) Za (.int .i64 V.now)).set (o:=2) Za (.int .i64 V.floor)).set (o:=3) Za (.slice f1 V.on h1)).set (o:=4) Za (.slice f2 V.hn h2)).set (o:=5) Za (.slice f3 V.tn h3)).set (o:=6) Za (.int .i64 ve));have F6:=hb.far7 (z:=z) hz (.int .i64 cd) (.int .i64 V.now) (.int .i64 V.floor) (.slice f1 V.on h1) (.slice f2 V.hn h2) (.slice f3 V.tn h3) (.int .i64 ve);have D6:=hr.far7 hrd (z:=z) hz (.int .i64 cd) (.int .i64 V.now) (.int .i64 V.floor) (.slice f1 V.on h1) (.slice f2 V.hn h2) (.slice f3 V.tn h3) (.int .i64 ve);have B6:=hV.pick ((((((((Ay.refl (λq=>q=z) X).setCell (p:=⟨z,0,none⟩) rfl (.int .i64 cd)).setCell (p:=⟨z,1,none⟩) rfl (.int .i64 V.now)).setCell (p:=⟨z,2,none⟩) rfl (.int .i64 V.floor)).setCell (p:=⟨z,3,none⟩) rfl (.slice f1 V.on h1)).setCell (p:=⟨z,4,none⟩) rfl (.slice f2 V.hn h2)).setCell (p:=⟨z,5,none⟩) rfl (.slice f3 V.tn h3)).setCell (p:=⟨z,6,none⟩) rfl (.int .i64 ve)) hnz;have h:=hK _ _ ⟨t,z,cd,V,f1,f2,f3,h1,h2,h3,ve,p',rfl,g5,hz,⟨R6.lt,R6.free,λj hj=>by rw[R6.cell j hj];rcases(show j=0\/j=1\/j=2\/j=3\/j=4\/j=5\/j=6 by omega)with rfl|rfl|rfl|rfl|rfl|rfl|rfl<;>rfl⟩,B6,F6,hp1,Za,D6⟩;have HK:=Aj h;clear hK hg hrow7 h R6 F6 D6 B6;refine Ah rfl rfl ?_;go_simp;simpa[g4,g5]using HK.out
 .intro h;omega
 .rintro a X ⟨t,z,cd,V,f1,f2,f3,h1,h2,h3,ve,pz,rfl,z1,z2,z3,z4,z5,z6,z7,z8⟩;exact hQ t z cd V f1 f2 f3 h1 h2 h3 ve pz X z1 z2 z3 z4 z5 z6 z7 z8
def lY (R:Nat)(Bb:Nat)(Y:Bk)(b1 b2 b3:OA)(k1 k2 k3:Nat)(_W:World)(i:Nat)(v:Value)(X:World):Prop:=match i with
 |0=>v=.agg #[.int .i64 Y.now,.int .i64 Y.floor,.slice b1 Y.on k1,.slice b2 Y.hn k2,.slice b3 Y.tn k3]
 |1=>v=.pointer (some ⟨Bb,1,none⟩)
 |2=>v=.int .i64 Y.floor
 |3=>v=.pointer (some ⟨R,0,none⟩)
 |4=>∃k:Nat,k<4/\v=.int .i64 k
 |5=>∃fl:Int,v=.int .i64 fl
 |6=>∃(V:Bk)(f1 f2 f3:OA)(h1 h2 h3:Nat),v=.agg #[.int .i64 V.now,.int .i64 V.floor,.slice f1 V.on h1,.slice f2 V.hn h2,.slice f3 V.tn h3]/\Mm X V f1 f2 f3 h3
 |_=>True
theorem aZ{P:Prop}(h:P:=by rintro r Z ⟨k,rfl,_,hv,hf,hr2⟩;have h:=HK (.int .i64 k) Z (p'+1) Za AQ ⟨k,by have:=hv Zb;omega,rfl⟩ hf hr2;simpa[AA,g3]using h):P:=h
theorem rF{p1 p2 p4 p5 p6 p7 p8 p9 D8 D9 Ea DZ Dl Di Dg Dh De Db Dk Da Df Dc DH Du Ds DA Dw Ev EF EN Eu ED EB EE EC Es Et DC D2 D1 DO DN Ej Eg Ei Ek D5 D4 Eb Eh D7 EK EL EH EJ EI EA Ez D0 FP FJ FO FN FK FH FL FI FM He Hg Hc FC Fz GA GZ Ge Ib:Value}{mk:(Nat->Value)->Array Value}(t0:Nat->Value)(R:Nat)(ad:OA)(nn cap p:Nat)(Bb:Nat)(Y:Bk)(b1 b2 b3:OA)(k1 k2 k3:Nat)(W:World)(hr:Rd W R ad nn cap p)(hp:p<=600000)(hBb:Bb<W.1.size)(hBR:¬Bb=R)(hrow:AN W Bb 5 (AW [.int .i64 Y.now,.int .i64 Y.floor,.slice b1 Y.on k1,.slice b2 Y.hn k2,.slice b3 Y.tn k3]))(hY:Mm W Y b1 b2 b3 k3)(hmk:mk=λt=>#[.pointer (some ⟨R,0,none⟩),p1,p2,.pointer (some ⟨Bb,0,none⟩),p4,p5,p6,p7,p8,p9,D8,D9,Ea,DZ,Dl,Di,Dg,Dh,De,Db,Dk,Da,Df,Dc,DH,Du,Ds,DA,Dw,t 0,t 1,t 2,t 3,t 4,t 5,t 6,Ev,EF,EN,Eu,ED,EB,EE,EC,Es,Et,DC,D2,D1,DO,DN,Ej,Eg,Ei,Ek,D5,D4,Eb,Eh,D7,EK,EL,EH,EJ,EI,EA,Ez,D0,FP,FJ,FO,FN,FK,FH,FL,FI,FM,He,Hg,Hc,FC,Fz,GA,GZ,Ge,Ib])(Q:Exit->Act->World->Prop)(hQ:∀(t:Nat->Value)(V:Bk)(f1 f2 f3:OA)(h1 h2 h3:Nat)(pz:Nat)(X0 X:World),X=(((((X0.setCell ⟨Bb,0,none⟩ (.int .i64 V.now)).setCell ⟨Bb,1,none⟩ (.int .i64 V.floor)).setCell ⟨Bb,2,none⟩ (.slice f1 V.on h1)).setCell ⟨Bb,3,none⟩ (.slice f2 V.hn h2)).setCell ⟨Bb,4,none⟩ (.slice f3 V.tn h3))->Mm X0 V f1 f2 f3 h3->Ay (λq=>q=R) W X0->p<=pz->pz<=p+7->Rd X0 R ad nn cap pz->Q .normal ⟨mk t,[]⟩ X):Code.wp prog (rg Tryz.f39 9) Q ⟨mk t0,[]⟩ W:=by
 have hRW:=hr.lt;refine Rn Ze 7 12 1 mk t0 R ad nn cap p (lY R Bb Y b1 b2 b3 k1 k2 k3 W) (λa X=>∃(t:Nat->Value)(V:Bk)(f1 f2 f3:OA)(h1 h2 h3:Nat)(pz:Nat)(X0:World),a=⟨mk t,[]⟩/\X=(((((X0.setCell ⟨Bb,0,none⟩ (.int .i64 V.now)).setCell ⟨Bb,1,none⟩ (.int .i64 V.floor)).setCell ⟨Bb,2,none⟩ (.slice f1 V.on h1)).setCell ⟨Bb,3,none⟩ (.slice f2 V.hn h2)).setCell ⟨Bb,4,none⟩ (.slice f3 V.tn h3))/\Mm X0 V f1 f2 f3 h3/\Ay (λq=>q=R) W X0/\p<=pz/\pz<=p+7/\Rd X0 R ad nn cap pz) Ze Ze Ze ?_ rfl hr ?_ ?_ ?_ ?_;all_goals subst hmk
 .intro i v X Z p' hi h hF hRd hR hX;rcases(show i=0\/i=1\/i=2\/i=3\/i=4\/i=5\/i=6 by omega)with rfl|rfl|rfl|rfl|rfl|rfl|rfl;.exact h
  .exact h
  .exact h
  .exact h
  .exact h
  .exact h
  .obtain⟨V,f1,f2,f3,h1,h2,h3,e,hV⟩:=h;exact⟨V,f1,f2,f3,h1,h2,h3,e,hV.pick hF hRd.ns⟩
 .intro i hi t X K p' hb hp1 hp2 hrd hg hK;rcases(show i=0\/i=1\/i=2\/i=3\/i=4\/i=5\/i=6 by omega)with rfl|rfl|rfl|rfl|rfl|rfl|rfl;.exact Sc
  .have h:=hK (.pointer (some ⟨Bb,1,none⟩)) X p' AQ Za rfl (Ay.refl _ _) hrd;exact Ri
  .have g1:t 1=.pointer (some ⟨Bb,1,none⟩):=hg 1 (AZ rfl);have q0:=(hb.cell (p:=⟨Bb,0,none⟩) hBb hBR).trans (hrow.cell 0 Zb);have q1:=(hb.cell (p:=⟨Bb,1,none⟩) hBb hBR).trans (hrow.cell 1 Zb);have q2:=(hb.cell (p:=⟨Bb,2,none⟩) hBb hBR).trans (hrow.cell 2 Zb);have q3:=(hb.cell (p:=⟨Bb,3,none⟩) hBb hBR).trans (hrow.cell 3 Zb);have q4:=(hb.cell (p:=⟨Bb,4,none⟩) hBb hBR).trans (hrow.cell 4 Zb);simp only[AW,Aa,Ab]at q0 q1 q2 q3 q4;have h:=hK (.int .i64 Y.floor) X p' AQ Za rfl (Ay.refl _ _) hrd;refine Ah rfl rfl ?_;clear hK hg;go_simp;simpa[AA,g1]using h
  .exact OS
  .have g3:t 3=.pointer (some ⟨R,0,none⟩):=hg 3 (AZ rfl);refine Ah rfl rfl ?_;have HK:=Aj hK;have HR:=Aj hrd;clear hK hg hrd;go_simp;go_at_call 15;refine(Bj R ad nn cap p' 4 X HR Za Zb Zb).mono ?_;exact aZ
  .have g2:t 2=.int .i64 Y.floor:=hg 2 (AZ rfl);obtain⟨k,hk,g4⟩:∃k:Nat,k<4/\t 4=.int .i64 k:=hg 4 (AZ rfl);have v0:=hY.v.n0;have v1:=hY.v.n1;have v2:=hY.v.n2;have hw:=AK (Y.floor+(k:Int)) ⟨Za,Za⟩;have h:=hK (.int .i64 (Y.floor+(k:Int))) X p' AQ Za ⟨_,rfl⟩ (Ay.refl _ _) hrd;refine Ah rfl rfl ?_;clear hK hg;go_simp;simpa[AA,g2,g4,hw]using h
  .have g0:t 0=.agg #[.int .i64 Y.now,.int .i64 Y.floor,.slice b1 Y.on k1,.slice b2 Y.hn k2,.slice b3 Y.tn k3]:=hg 0 (AZ rfl);obtain⟨fl,g5⟩:∃fl:Int,t 5=.int .i64 fl:=hg 5 (AZ rfl);have HY:=Aj (hY.pick hb hr.ns);refine Ah rfl rfl ?_;have HK:=Aj hK;have HR:=Aj hrd;clear hK hg hrd;go_simp;go_at_call 7;refine(kL Y b1 b2 b3 k1 k2 k3 fl X HY).mono ?_;rintro r Z ⟨hbZ,V,f1,f2,f3,h1,h2,h3,rfl,hV⟩;have h:=HK (.agg #[.int .i64 V.now,.int .i64 V.floor,.slice f1 V.on h1,.slice f2 V.hn h2,.slice f3 V.tn h3]) Z p' AQ Za ⟨V,f1,f2,f3,h1,h2,h3,rfl,hV⟩ (Ar hbZ) (HR.below hbZ);simpa[AA,g0,g5]using h
 .intro t X K p' hb hp1 hp2 hrd hg hK;obtain⟨V,f1,f2,f3,h1,h2,h3,g6,hV⟩:∃(V:Bk)(f1 f2 f3:OA)(h1 h2 h3:Nat),t 6=.agg #[.int .i64 V.now,.int .i64 V.floor,.slice f1 V.on h1,.slice f2 V.hn h2,.slice f3 V.tn h3]/\Mm X V f1 f2 f3 h3:=hg 6 Za Za;have rw0:=hrow.fr hb (λe=>hBR e);have rf:=rw0.free;have rl:=rw0.lt;obtain⟨r0,r1,r2,r3,r4⟩:=VD rw0;have h:=hK _ _ ⟨t,V,f1,f2,f3,h1,h2,h3,p',X,rfl,rfl,hV,hb,hp1,Za,hrd⟩;have HK:=Aj h;clear hK hg h rw0;refine Ah rfl rfl ?_;go_simp;simpa[g6]using HK.out
 .intro h;omega
 .rintro a X ⟨t,V,f1,f2,f3,h1,h2,h3,pz,X0,rfl,z1,z2,z3,z4,z5,z6⟩;exact hQ t V f1 f2 f3 h1 h2 h3 pz X0 X z1 z2 z3 z4 z5 z6
def bE (R:Nat)(_Bb:Nat)(Y:Bk)(b1 b2 b3:OA)(k1 k2 k3:Nat)(W:World)(i:Nat)(v:Value)(X:World):Prop:=match i with
 |0=>v=.agg #[.int .i64 Y.now,.int .i64 Y.floor,.slice b1 Y.on k1,.slice b2 Y.hn k2,.slice b3 Y.tn k3]
 |1=>SL X W.1.size v Yq
 |2=>v=.pointer (some ⟨R,0,none⟩)
 |3=>∃k:Nat,k<3/\v=.int .i64 k
 |4=>∃(g k:Nat)(s:ByteArray),v=.pointer (some ⟨g,k,none⟩)/\W.1.size<=g/\g<X.1.size/\s∈Yq/\X.cell? ⟨g,k,none⟩=some (.string s)
 |5=>∃s:ByteArray,s∈Yq/\v=.string s
 |6=>v=.pointer (some ⟨R,0,none⟩)
 |7=>∃k:Nat,k<6/\v=.int .i64 k
 |8=>∃k:Int,v=.int .i64 k
 |9=>v=.pointer (some ⟨R,0,none⟩)
 |10=>v=.agg #[.int .i64 Y.now,.int .i64 Y.floor,.slice b1 Y.on k1,.slice b2 Y.hn k2,.slice b3 Y.tn k3]
 |11=>∃(x:Bu)(u1 u2:OA)(d1 d2:Nat),v=.agg #[.slice u1 x.wn d1,.slice u2 x.rn d2]/\Va x/\Lv X 0 X.1.size x u1 u2
 |12=>∃(c:Ca)(u1 u2:OA)(d1 d2:Nat),v=.agg #[.string c.client,.int .i64 c.num,.slice u1 c.bu.wn d1,.slice u2 c.bu.rn d2]/\(c.client.size:Int)<=140737488355328/\Va c.bu/\Lv X 0 X.1.size c.bu u1 u2
 |13=>∃(V:Bk)(f1 f2 f3:OA)(h1 h2 h3:Nat)(u:Value),v=.tuple #[.agg #[.int .i64 V.now,.int .i64 V.floor,.slice f1 V.on h1,.slice f2 V.hn h2,.slice f3 V.tn h3],u]/\Mm X V f1 f2 f3 h3
 |14=>∃(V:Bk)(f1 f2 f3:OA)(h1 h2 h3:Nat)(u:Value),v=.tuple #[.agg #[.int .i64 V.now,.int .i64 V.floor,.slice f1 V.on h1,.slice f2 V.hn h2,.slice f3 V.tn h3],u]/\Mm X V f1 f2 f3 h3
 |15=>∃(V:Bk)(f1 f2 f3:OA)(h1 h2 h3:Nat),v=.agg #[.int .i64 V.now,.int .i64 V.floor,.slice f1 V.on h1,.slice f2 V.hn h2,.slice f3 V.tn h3]/\Mm X V f1 f2 f3 h3
 |16=>True
 |_=>True
theorem kP{p1 p2 p4 p5 p6 p7 p8 p9 D8 D9 Ea DZ Dl Di Dg Dh De Db Dk Da Df Dc DH Du Ds DA Dw DG DD DE DF DI DJ DU Ev EF D5 D4 Eb Eh D7 EK EL EH EJ EI EA Ez D0 FP FJ FO FN FK FH FL FI FM He Hg Hc FC Fz GA GZ Ge Ib:Value}{mk:(Nat->Value)->Array Value}(t0:Nat->Value)(R:Nat)(ad:OA)(nn cap p:Nat)(Bb:Nat)(Y:Bk)(b1 b2 b3:OA)(k1 k2 k3:Nat)(W:World)(hr:Rd W R ad nn cap p)(hp:p<=600000)(hBb:Bb<W.1.size)(hBR:¬Bb=R)(hrow:AN W Bb 5 (AW [.int .i64 Y.now,.int .i64 Y.floor,.slice b1 Y.on k1,.slice b2 Y.hn k2,.slice b3 Y.tn k3]))(hY:Mm W Y b1 b2 b3 k3)(hmk:mk=λt=>#[.pointer (some ⟨R,0,none⟩),p1,p2,.pointer (some ⟨Bb,0,none⟩),p4,p5,p6,p7,p8,p9,D8,D9,Ea,DZ,Dl,Di,Dg,Dh,De,Db,Dk,Da,Df,Dc,DH,Du,Ds,DA,Dw,DG,DD,DE,DF,DI,DJ,DU,Ev,EF,t 14,t 0,t 1,t 2,t 3,t 4,t 5,t 6,t 7,t 8,t 9,t 10,t 11,t 12,t 13,t 15,t 16,D5,D4,Eb,Eh,D7,EK,EL,EH,EJ,EI,EA,Ez,D0,FP,FJ,FO,FN,FK,FH,FL,FI,FM,He,Hg,Hc,FC,Fz,GA,GZ,Ge,Ib])(Q:Exit->Act->World->Prop)(hQ:∀(t:Nat->Value)(V:Bk)(f1 f2 f3:OA)(h1 h2 h3:Nat)(pz:Nat)(X0 X:World),X=(((((X0.setCell ⟨Bb,0,none⟩ (.int .i64 V.now)).setCell ⟨Bb,1,none⟩ (.int .i64 V.floor)).setCell ⟨Bb,2,none⟩ (.slice f1 V.on h1)).setCell ⟨Bb,3,none⟩ (.slice f2 V.hn h2)).setCell ⟨Bb,4,none⟩ (.slice f3 V.tn h3))->Mm X0 V f1 f2 f3 h3->Ay (λq=>q=R) W X0->p<=pz->pz<=p+6800->Rd X0 R ad nn cap pz->Q .normal ⟨mk t,[]⟩ X):Code.wp prog (rg Tryz.f39 11) Q ⟨mk t0,[]⟩ W:=by
 have hRW:=hr.lt;refine Rn Ze 17 16 400 mk t0 R ad nn cap p (bE R Bb Y b1 b2 b3 k1 k2 k3 W) (λa X=>∃(t:Nat->Value)(V:Bk)(f1 f2 f3:OA)(h1 h2 h3:Nat)(pz:Nat)(X0:World),a=⟨mk t,[]⟩/\X=(((((X0.setCell ⟨Bb,0,none⟩ (.int .i64 V.now)).setCell ⟨Bb,1,none⟩ (.int .i64 V.floor)).setCell ⟨Bb,2,none⟩ (.slice f1 V.on h1)).setCell ⟨Bb,3,none⟩ (.slice f2 V.hn h2)).setCell ⟨Bb,4,none⟩ (.slice f3 V.tn h3))/\Mm X0 V f1 f2 f3 h3/\Ay (λq=>q=R) W X0/\p<=pz/\pz<=p+6800/\Rd X0 R ad nn cap pz/\∃x0 u:Value,t 14=.tuple #[x0,u]) Ze Ze Ze ?_ rfl hr ?_ ?_ ?_ ?_;all_goals subst hmk
 .intro i v X Z p' hi h hF hRd hR hX;rcases(show i=0\/i=1\/i=2\/i=3\/i=4\/i=5\/i=6\/i=7\/i=8\/i=9\/i=10\/i=11\/i=12\/i=13\/i=14\/i=15\/i=16 by omega)with rfl|rfl|rfl|rfl|rfl|rfl|rfl|rfl|rfl|rfl|rfl|rfl|rfl|rfl|rfl|rfl|rfl;.exact h
  .exact h.fr hF Za
  .exact h
  .exact h
  .obtain⟨g,k,s,e,y1,y2,y3,y4⟩:=h;exact⟨g,k,s,e,y1,Ad y2 hF.size,y3,(hF.cell (p:=⟨g,k,none⟩) y2 (λq=>by have q:g=R:=q;omega)).trans y4⟩
  .exact h
  .exact h
  .exact h
  .exact h
  .exact h
  .exact h
  .obtain⟨x,u1,u2,d1,d2,e,hx,hxi⟩:=h;exact⟨x,u1,u2,d1,d2,e,hx,hxi.pick hF hRd.ns⟩
  .obtain⟨c,u1,u2,d1,d2,e,hcl,hx,hxi⟩:=h;exact⟨c,u1,u2,d1,d2,e,hcl,hx,hxi.pick hF hRd.ns⟩
  .obtain⟨V,f1,f2,f3,h1,h2,h3,u,e,hV⟩:=h;exact⟨V,f1,f2,f3,h1,h2,h3,u,e,hV.pick hF hRd.ns⟩
  .obtain⟨V,f1,f2,f3,h1,h2,h3,u,e,hV⟩:=h;exact⟨V,f1,f2,f3,h1,h2,h3,u,e,hV.pick hF hRd.ns⟩
  .obtain⟨V,f1,f2,f3,h1,h2,h3,e,hV⟩:=h;exact⟨V,f1,f2,f3,h1,h2,h3,e,hV.pick hF hRd.ns⟩
  .exact h
 .intro i hi t X K p' hb hp1 hp2 hrd hg hK;rcases(show i=0\/i=1\/i=2\/i=3\/i=4\/i=5\/i=6\/i=7\/i=8\/i=9\/i=10\/i=11\/i=12\/i=13\/i=14\/i=15\/i=16 by omega)with rfl|rfl|rfl|rfl|rfl|rfl|rfl|rfl|rfl|rfl|rfl|rfl|rfl|rfl|rfl|rfl|rfl;.exact Sc
  .have h:=hK (.slice (some ⟨X.1.size,0,none⟩) 3 3) (X.alloc (.cells (M4 Yq).toArray 9)) p' AQ Za ((SL.new X Yq).mono2 hb.size) (Ar ET) (hrd.below ET);refine Ah rfl rfl ?_;clear hK hg;go_simp;simpa[AA,M4,Yq]using h
  .exact OS
  .have g2:t 2=.pointer (some ⟨R,0,none⟩):=hg 2 (AZ rfl);refine Ah rfl rfl ?_;have HK:=Aj hK;have HR:=Aj hrd;clear hK hg hrd;go_simp;go_at_call 15;refine(Bj R ad nn cap p' 3 X HR Za Zb Zb).mono ?_;rintro r Z ⟨k,rfl,_,hv,hf,hr2⟩;have h:=HK (.int .i64 k) Z (p'+1) Za Za ⟨k,by have:=hv Zb;omega,rfl⟩ hf hr2;simpa[AA,g2]using h
  .obtain⟨g,cp,g1,y1,y2,y3,y4,y5⟩:SL X W.1.size (t 1) Yq:=hg 1 (AZ rfl);obtain⟨k,hk,g3⟩:∃k:Nat,k<3/\t 3=.int .i64 k:=hg 3 (AZ rfl);have hL:Yq.length=3:=rfl;rw[hL]at g1;have h:=hK (.pointer (some ⟨g,k,none⟩)) X p' AQ Za ⟨g,k,Yq[k]'(by rw[hL];exact hk),rfl,y1,y2,Nz _,y5 k (by rw[hL];exact hk)⟩ (Ay.refl _ _) hrd;refine Ah rfl rfl ?_;clear hK hg;go_simp;rw[if_pos Za,AM];go_simp;simpa[AA,g1,g3]using h
  .obtain⟨g,k,s,g4,y1,y2,y3,y4⟩:∃(g k:Nat)(s:ByteArray),t 4=.pointer (some ⟨g,k,none⟩)/\W.1.size<=g/\g<X.1.size/\s∈Yq/\X.cell? ⟨g,k,none⟩=some (.string s):=hg 4 (AZ rfl);have h:=hK (.string s) X p' AQ Za ⟨s,y3,rfl⟩ (Ay.refl _ _) hrd;refine Ah rfl rfl ?_;clear hK hg;go_simp;simpa[AA,g4]using h
  .exact OS
  .have g6:t 6=.pointer (some ⟨R,0,none⟩):=hg 6 (AZ rfl);refine Ah rfl rfl ?_;have HK:=Aj hK;have HR:=Aj hrd;clear hK hg hrd;go_simp;go_at_call 15;refine(Bj R ad nn cap p' 6 X HR Za Zb Zb).mono ?_;rintro r Z ⟨k,rfl,_,hv,hf,hr2⟩;have h:=HK (.int .i64 k) Z (p'+1) Za Za ⟨k,by have:=hv Zb;omega,rfl⟩ hf hr2;simpa[AA,g6]using h
  .obtain⟨k,hk,g7⟩:∃k:Nat,k<6/\t 7=.int .i64 k:=hg 7 (AZ rfl);have hw:=AK (1+(k:Int)) ⟨Za,Za⟩;have h:=hK (.int .i64 (1+(k:Int))) X p' AQ Za ⟨_,rfl⟩ (Ay.refl _ _) hrd;refine Ah rfl rfl ?_;clear hK hg;go_simp;simpa[AA,g7,hw]using h
  .exact OS
  .exact Sc
  .have g9:t 9=.pointer (some ⟨R,0,none⟩):=hg 9 (AZ rfl);have g10:t 10=.agg #[.int .i64 Y.now,.int .i64 Y.floor,.slice b1 Y.on k1,.slice b2 Y.hn k2,.slice b3 Y.tn k3]:=hg 10 (AZ rfl);have HY:=Aj (hY.pick hb hr.ns);refine Ah rfl rfl ?_;have HK:=Aj hK;have HR:=Aj hrd;clear hK hg hrd;go_simp;go_at_call 74;refine(WM Y R ad nn cap p' b1 b2 b3 k1 k2 k3 X HR Za HY).mono ?_;rintro r Z ⟨x,u1,u2,d1,d2,rfl,hx,hxi,hf,q3,z1,z2,hr2⟩;have h:=HK (.agg #[.slice u1 x.wn d1,.slice u2 x.rn d2]) Z q3 z1 Za ⟨x,u1,u2,d1,d2,rfl,hx,hxi⟩ hf hr2;simpa[AA,g9,g10]using h
  .obtain⟨s,hs,g5⟩:∃s:ByteArray,s∈Yq/\t 5=.string s:=hg 5 (AZ rfl);obtain⟨k,g8⟩:∃k:Int,t 8=.int .i64 k:=hg 8 (AZ rfl);obtain⟨x,u1,u2,d1,d2,g11,hx,hxi⟩:∃(x:Bu)(u1 u2:OA)(d1 d2:Nat),t 11=.agg #[.slice u1 x.wn d1,.slice u2 x.rn d2]/\Va x/\Lv X 0 X.1.size x u1 u2:=hg 11 (AZ rfl);have h:=hK (.agg #[.string s,.int .i64 k,.slice u1 x.wn d1,.slice u2 x.rn d2]) X p' AQ Za ⟨⟨s,k,x⟩,u1,u2,d1,d2,rfl,oL hs,hx,hxi⟩ (Ay.refl _ _) hrd;refine Ah rfl rfl ?_;clear hK hg;go_simp;simpa[AA,g5,g8,g11]using h
  .have g0:t 0=.agg #[.int .i64 Y.now,.int .i64 Y.floor,.slice b1 Y.on k1,.slice b2 Y.hn k2,.slice b3 Y.tn k3]:=hg 0 (AZ rfl);obtain⟨c,u1,u2,d1,d2,g12,hcl,hx,hxi⟩:∃(c:Ca)(u1 u2:OA)(d1 d2:Nat),t 12=.agg #[.string c.client,.int .i64 c.num,.slice u1 c.bu.wn d1,.slice u2 c.bu.rn d2]/\(c.client.size:Int)<=140737488355328/\Va c.bu/\Lv X 0 X.1.size c.bu u1 u2:=hg 12 (AZ rfl);have HY:=Aj (hY.pick hb hr.ns);refine Ah rfl rfl ?_;have HK:=Aj hK;have HR:=Aj hrd;clear hK hg hrd;go_simp;go_at_call 73;refine(kR Y c b1 b2 b3 k1 k2 k3 u1 u2 d1 d2 X HY hcl hx hxi).mono ?_;rintro r Z ⟨hbZ,V,f1,f2,f3,h1,h2,h3,u,rfl,hV⟩;have h:=HK (.tuple #[.agg #[.int .i64 V.now,.int .i64 V.floor,.slice f1 V.on h1,.slice f2 V.hn h2,.slice f3 V.tn h3],u]) Z p' AQ Za ⟨V,f1,f2,f3,h1,h2,h3,u,rfl,hV⟩ (Ar hbZ) (HR.below hbZ);simpa[AA,g0,g12]using h
  .obtain⟨V,f1,f2,f3,h1,h2,h3,u,g13,hV⟩:∃(V:Bk)(f1 f2 f3:OA)(h1 h2 h3:Nat)(u:Value),t 13=.tuple #[.agg #[.int .i64 V.now,.int .i64 V.floor,.slice f1 V.on h1,.slice f2 V.hn h2,.slice f3 V.tn h3],u]/\Mm X V f1 f2 f3 h3:=hg 13 (AZ rfl);have h:=hK (.tuple #[.agg #[.int .i64 V.now,.int .i64 V.floor,.slice f1 V.on h1,.slice f2 V.hn h2,.slice f3 V.tn h3],u]) X p' AQ Za ⟨V,f1,f2,f3,h1,h2,h3,u,rfl,hV⟩ (Ay.refl _ _) hrd;refine Ah rfl rfl ?_;clear hK hg;go_simp;simpa[AA,g13]using h
  .obtain⟨V,f1,f2,f3,h1,h2,h3,u,g14,hV⟩:∃(V:Bk)(f1 f2 f3:OA)(h1 h2 h3:Nat)(u:Value),t 14=.tuple #[.agg #[.int .i64 V.now,.int .i64 V.floor,.slice f1 V.on h1,.slice f2 V.hn h2,.slice f3 V.tn h3],u]/\Mm X V f1 f2 f3 h3:=hg 14 (AZ rfl);have h:=hK (.agg #[.int .i64 V.now,.int .i64 V.floor,.slice f1 V.on h1,.slice f2 V.hn h2,.slice f3 V.tn h3]) X p' AQ Za ⟨V,f1,f2,f3,h1,h2,h3,rfl,hV⟩ (Ay.refl _ _) hrd;refine Ah rfl rfl ?_;clear hK hg;go_simp;simpa[AA,g14]using h
  .obtain⟨V,f1,f2,f3,h1,h2,h3,u,g14,hV⟩:∃(V:Bk)(f1 f2 f3:OA)(h1 h2 h3:Nat)(u:Value),t 14=.tuple #[.agg #[.int .i64 V.now,.int .i64 V.floor,.slice f1 V.on h1,.slice f2 V.hn h2,.slice f3 V.tn h3],u]/\Mm X V f1 f2 f3 h3:=hg 14 (AZ rfl);have h:=hK (u) X p' AQ Za trivial (Ay.refl _ _) hrd;refine Ah rfl rfl ?_;clear hK hg;go_simp;simpa[AA,g14]using h
 .intro t X K p' hb hp1 hp2 hrd hg hK;obtain⟨V,f1,f2,f3,h1,h2,h3,g15,hV⟩:∃(V:Bk)(f1 f2 f3:OA)(h1 h2 h3:Nat),t 15=.agg #[.int .i64 V.now,.int .i64 V.floor,.slice f1 V.on h1,.slice f2 V.hn h2,.slice f3 V.tn h3]/\Mm X V f1 f2 f3 h3:=hg 15 Za Za;obtain⟨V',f1',f2',f3',h1',h2',h3',u',g14,_⟩:∃(V:Bk)(f1 f2 f3:OA)(h1 h2 h3:Nat)(u:Value),t 14=.tuple #[.agg #[.int .i64 V.now,.int .i64 V.floor,.slice f1 V.on h1,.slice f2 V.hn h2,.slice f3 V.tn h3],u]/\Mm X V f1 f2 f3 h3:=hg 14 Za Za;have rw0:=hrow.fr hb (λe=>hBR e);have rf:=rw0.free;have rl:=rw0.lt;obtain⟨r0,r1,r2,r3,r4⟩:=VD rw0;have h:=hK _ _ ⟨t,V,f1,f2,f3,h1,h2,h3,p',X,rfl,rfl,hV,hb,hp1,Za,hrd,_,_,g14⟩;have HK:=Aj h;clear hK hg h rw0;refine Ah rfl rfl ?_;go_simp;simpa[g14,g15]using HK.out
 .intro _ a X K hF hK;obtain⟨t,V,f1,f2,f3,h1,h2,h3,pz,X0,rfl,z1,z2,z3,z4,z5,z6,x0,u,g14⟩:=hF;have h:=hK _ ⟨AA t 16 u,V,f1,f2,f3,h1,h2,h3,pz,X0,rfl,z1,z2,z3,z4,z5,z6,x0,u,by rw[BI Zb];exact g14⟩;refine Ah rfl rfl ?_;clear hK z1;go_simp;simpa[AA,g14]using h
 .rintro a X ⟨t,V,f1,f2,f3,h1,h2,h3,pz,X0,rfl,z1,z2,z3,z4,z5,z6,_⟩;exact hQ t V f1 f2 f3 h1 h2 h3 pz X0 X z1 z2 z3 z4 z5 z6
def RA (n Kk:Nat)(mk:(Nat->Value)->Array Value)(W:World)(R:Nat)(ad:OA)(nn cap p:Nat)(G:Nat->Value->World->Prop)(l:Array Bool)(a:Act)(X:World):Prop:=l.size=n/\∃t:Nat->Value,a=⟨mk t,[]⟩/\Ay (λq=>q=R) W X/\(∃p',p<=p'/\p'<=p+Kk*l.toList.count true/\Rd X R ad nn cap p')/\∀i,i<n->l.getD i false=true->G i (t i) X
theorem cR{P:Prop}(h:P:=by
  rintro i j hi ⟨o,ho,e,he,hb,rfl⟩;have h1:=Be.1 hord i (BC.2 Za);rw[ho]at h1;have h2:=Bc.1 h1 e he;rw[hb]at h2;have:e.on<i:=by simpa using h2
  omega):P:=h
theorem O6{P:Program}{id:Nat}{ops:Array Oper}{Q:Exit->Act->World->Prop}{a0:Act}{W:World}(hm:P.follows .mixedOrders=true)(n Kk:Nat)(mk:(Nat->Value)->Array Value)(t0:Nat->Value)(R:Nat)(ad:OA)(nn cap p:Nat)(G:Nat->Value->World->Prop)(hn:ops.size=n)(hord:((List.range ops.size).all λi=>match ops[i]? with|some o=>o.after.all (λe=>!(Region.binds .any e)||decide (e.on<i))|none=>true)=true)(st:∀i v X Y p',i<n->G i v X->Ay (λq=>q=R) X Y->Rd X R ad nn cap p'->R<W.1.size->W.1.size<=X.1.size->G i v Y)(h0:a0=⟨mk t0,[]⟩)(hr:Rd W R ad nn cap p)(sg:∀i,i<n->∀(t:Nat->Value) X K p',Ay (λq=>q=R) W X->p<=p'->p'<=p+Kk*n->Rd X R ad nn cap p'->(∀j,BM ops i j->G j (t j) X)->(∀v Y p2,p'<=p2->p2<=p'+Kk->G i v Y->Ay (λq=>q=R) X Y->Rd Y R ad nn cap p2->K ⟨mk (AA t i v),[]⟩ Y)->wpOp P ops Q i K ⟨mk t,[]⟩ X)(hfin:∀(t:Nat->Value) X p',Ay (λq=>q=R) W X->p<=p'->p'<=p+Kk*n->Rd X R ad nn cap p'->(∀i,i<n->G i (t i) X)->Q .normal ⟨mk t,[]⟩ X):(Code.region id ops true).wp P Q a0 W:=by
 have hdep:∀i j,i<n->BM ops i j->j<n:=by exact cR
 have cle:∀l:Array Bool,l.size=n->Kk*l.toList.count true<=Kk*n:=λl hl=>by have:=L0 (a:=true) (l:=l.toList);exact Ot _ (by simpa[hl]using this)
 refine CC hm (RA n Kk mk W R ad nn cap p G) ?_ ?_ ?_ ?_
 .have hz:∀i,(Array.replicate ops.size false).getD i false=false:=λi=>by simp[Array.getD]
  refine⟨by simp[hn],t0,h0,Ar (Aq _ _).drew,⟨p,AG _,Za,hr.below (Aq _ _).drew⟩,λi _ h=>?_⟩;rw[hz]at h;cases h
 .rintro l a X ⟨hs,_⟩;rw[hs,hn]
 .rintro l a X ⟨hs,t,rfl,hb,⟨p',q1,q2,hrd⟩,gg⟩ hr;have AL:=Nv hord (by rw[hs,hn]) hr;have:=cle l hs;exact hfin t X p' hb q1 Za hrd (λi hi=>gg i hi (AL i Za))
 .rintro l a X i ⟨hs,t,rfl,hb,⟨p',q1,q2,hrd⟩,gg⟩ hr';obtain⟨hu,o,ho,hall⟩:=mem_ready.1 hr';have di:∀j,BM ops i j->l.getD j false=true:=by
   rintro j ⟨o',ho',e,he,hb,rfl⟩;rw[ho]at ho';obtain rfl:o=o':=by simpa using ho'
   exact hall e he hb
  have hi7:i<n:=by
   rcases Aw i n with h|h;.exact h
   .rw[Bt Za]at ho;cases ho
  have hui:l.getD i false=false:=by have:l.getD i true=false:=hu;simpa[Array.getD,hs,hi7]using this
  have hc:=NQ Za hui;have hck:Kk*(l.setIfInBounds i true).toList.count true=Kk*l.toList.count true+Kk:=by rw[hc,Nat.mul_add,ML]
  have hcl:=cle l hs;have kp:∀j,¬j=i->(l.setIfInBounds i true).getD j false=l.getD j false:=λj hj=>by rw[Cd Za,if_neg hj]
  clear hr' hu ho;refine sg i hi7 t X _ p' hb q1 Za hrd (λj hj=>gg j (hdep i j hi7 hj) (di j hj)) (λv Y p2 r1 r2 hv hY hrY=>⟨by simp[hs],AA t i v,rfl,hb.trans hY,⟨p2,Za,Za,hrY⟩,λj j1 h=>?_⟩);by_cases e:j=i;.subst e;rw[BA];exact hv
  .rw[kp j e]at h;rw[BI e];exact st _ _ _ _ _ j1 (gg j j1 h) hY hrd hr.lt hb.size
def dI (R:Nat)(Bb:Nat)(Y:Bk)(_b1 b2 _b3:OA)(_k1 k2 _k3:Nat)(i:Nat)(v:Value)(_X:World):Prop:=match i with
 |0=>v=.pointer (some ⟨Bb,3,none⟩)
 |1=>v=.slice b2 Y.hn k2
 |2=>v=.int .i64 (Y.hn:Nat)
 |3=>v=.pointer (some ⟨R,0,none⟩)
 |4=>∃k:Nat,k<2/\v=.int .i64 k
 |5=>∃m:Int,v=.int .i64 m/\m<=200
 |6=>∃b:Bool,v=.bool b/\(b=true->Y.hn<200)
 |_=>True
theorem lN{p1 p2 p4 p5 p6 p7 p8 p9 D8 D9 Ea DZ Dl Di Dg Dh De Db Dk Da Df Dc DH Du Ds DA Dw DG DD DE DF DI DJ DU Ev EF EN Eu ED EB EE EC Es Et DC D2 D1 DO DN Ej Eg Ei Ek D5 D4 Eb EA Ez D0 FP FJ FO FN FK FH FL FI FM He Hg Hc FC Fz GA GZ Ge Ib:Value}{mk:(Nat->Value)->Array Value}(t0:Nat->Value)(R:Nat)(ad:OA)(nn cap p:Nat)(Bb:Nat)(Y:Bk)(b1 b2 b3:OA)(k1 k2 k3:Nat)(W:World)(hr:Rd W R ad nn cap p)(hp:p<=600000)(hBb:Bb<W.1.size)(hBR:¬Bb=R)(hrow:AN W Bb 5 (AW [.int .i64 Y.now,.int .i64 Y.floor,.slice b1 Y.on k1,.slice b2 Y.hn k2,.slice b3 Y.tn k3]))(hmk:mk=λt=>#[.pointer (some ⟨R,0,none⟩),p1,p2,.pointer (some ⟨Bb,0,none⟩),p4,p5,p6,p7,p8,p9,D8,D9,Ea,DZ,Dl,Di,Dg,Dh,De,Db,Dk,Da,Df,Dc,DH,Du,Ds,DA,Dw,DG,DD,DE,DF,DI,DJ,DU,Ev,EF,EN,Eu,ED,EB,EE,EC,Es,Et,DC,D2,D1,DO,DN,Ej,Eg,Ei,Ek,D5,D4,Eb,t 0,t 1,t 2,t 3,t 4,t 5,t 6,EA,Ez,D0,FP,FJ,FO,FN,FK,FH,FL,FI,FM,He,Hg,Hc,FC,Fz,GA,GZ,Ge,Ib])(Q:Exit->Act->World->Prop)(hQ:∀(t:Nat->Value)(b:Bool)(pz:Nat) X,t 6=.bool b->(b=true->Y.hn<200)->Ay (λq=>q=R) W X->p<=pz->pz<=p+7->Rd X R ad nn cap pz->Q .normal ⟨mk t,[]⟩ X):Code.wp prog (rg Tryz.f39 14) Q ⟨mk t0,[]⟩ W:=by
 have hRW:=hr.lt;refine O6 Ze 7 1 mk t0 R ad nn cap p (dI R Bb Y b1 b2 b3 k1 k2 k3) Ze Ze ?_ rfl hr ?_ ?_;all_goals subst hmk
 .intro i v X Z p' hi h hF hRd hR hX;exact h
 .intro i hi t X K p' hb hp1 hp2 hrd hg hK;rcases(show i=0\/i=1\/i=2\/i=3\/i=4\/i=5\/i=6 by omega)with rfl|rfl|rfl|rfl|rfl|rfl|rfl;.have h:=hK (.pointer (some ⟨Bb,3,none⟩)) X p' AQ Za rfl (Ay.refl _ _) hrd;exact Ri
  .have g0:t 0=.pointer (some ⟨Bb,3,none⟩):=hg 0 (AZ rfl);have q3:=(hb.cell (p:=⟨Bb,3,none⟩) hBb hBR).trans (hrow.cell 3 Zb);simp only[AW,Aa,Ab]at q3;have h:=hK (.slice b2 Y.hn k2) X p' AQ Za rfl (Ay.refl _ _) hrd;refine Ah rfl rfl ?_;clear hK hg;go_simp;simpa[AA,g0]using h
  .have g1:t 1=.slice b2 Y.hn k2:=hg 1 (AZ rfl);have h:=hK (.int .i64 (Y.hn:Nat)) X p' AQ Za rfl (Ay.refl _ _) hrd;refine Ah rfl rfl ?_;clear hK hg;go_simp;simpa[AA,g1]using h
  .exact OS
  .have g3:t 3=.pointer (some ⟨R,0,none⟩):=hg 3 (AZ rfl);refine Ah rfl rfl ?_;have HK:=Aj hK;have HR:=Aj hrd;clear hK hg hrd;go_simp;go_at_call 15;refine(Bj R ad nn cap p' 2 X HR Za Zb Zb).mono ?_;exact aZ
  .obtain⟨k,hk,g4⟩:∃k:Nat,k<2/\t 4=.int .i64 k:=hg 4 (AZ rfl);have hw:=AK (200-(k:Int)) ⟨Za,Za⟩;have h:=hK (.int .i64 (200-(k:Int))) X p' AQ Za ⟨_,rfl,Za⟩ (Ay.refl _ _) hrd;refine Ah rfl rfl ?_;clear hK hg;go_simp;simpa[AA,g4,hw]using h
  .have g2:t 2=.int .i64 (Y.hn:Nat):=hg 2 (AZ rfl);obtain⟨m,g5,hm⟩:∃m:Int,t 5=.int .i64 m/\m<=200:=hg 5 (AZ rfl);by_cases hlt:((Y.hn:Nat):Int)<m;.have h:=hK (.bool true) X p' AQ Za ⟨_,rfl,λ_=>by omega⟩ (Ay.refl _ _) hrd;refine Ah rfl rfl ?_;clear hK hg;go_simp;simpa[AA,g2,g5,hlt]using h
   .have h:=hK (.bool false) X p' AQ Za ⟨_,rfl,λh=>Py⟩ (Ay.refl _ _) hrd;refine Ah rfl rfl ?_;clear hK hg;go_simp;simpa[AA,g2,g5,hlt]using h
 .intro t X pz hf h1 h2 hrd hg;obtain⟨b,g6,hb⟩:∃b:Bool,t 6=.bool b/\(b=true->Y.hn<200):=hg 6 Za;exact hQ t b pz X g6 hb hf h1 Za hrd
def aq (B:Bk)(w:World)(e:Ending)(w':World):Prop:=Below w.1.size w w'/\∃(cd:Int)(Y:Bk)(b1 b2 b3:OA)(e1 e2 e3:Nat)(ve:Int),e=.returned (.agg #[.int .i64 cd,.int .i64 Y.now,.int .i64 Y.floor,.slice b1 Y.on e1,.slice b2 Y.hn e2,.slice b3 Y.tn e3,.int .i64 ve])/\Mm w' Y b1 b2 b3 e3/\(cd=0->B.hn<200->Y.hn=B.hn+1)
theorem ZC (B:Bk)(v:Wr)(a1 a2 a3:OA)(c1 c2 c3:Nat)(w:World)(hb:Mm w B a1 a2 a3 c3)(hv:Xi v):Calls prog 75 #[.agg #[.int .i64 B.now,.int .i64 B.floor,.slice a1 B.on c1,.slice a2 B.hn c2,.slice a3 B.tn c3],.agg #[.int .i64 v.op,.string v.kind,.string v.name,.int .i64 v.seen,.string v.text,.string v.hold]] w λe w'=>aq B w e w':=by cases hw:LF v with
 |false=>refine(U3 B v a1 a2 a3 c1 c2 c3 w hw hv.fit).mono ?_;rintro e w' ⟨rfl,h⟩;exact⟨h,_,B,a1,a2,a3,c1,c2,c3,_,rfl,hb.below h,λh=>absurd h Zb⟩
 |true=>
  have hok:=WI hb.f (O9 hb.v) hw hv.fit;by_cases h0:BN B v=0;.refine(T7 B v a1 a2 a3 c1 c2 c3 w hok hb.i h0).mono ?_;rintro e w' ⟨h,x1,x2,x3,y1,y2,y3,rfl,hin,rfl,rfl⟩;refine⟨h,_,Mj B v,x1,x2,x3,y1,y2,y3,_,rfl,⟨Q8 hb.v hok h0,(Us hok).1,hin,hb.c.grow h.size⟩,λ_ hl=>?_⟩;show B.hn-ME B+1=B.hn+1;unfold ME;rw[if_neg Za];omega
  .by_cases h4:BN B v=4;.refine(Wl B v a1 a2 a3 c1 c2 c3 w hok hb.i h4).mono ?_;rintro e w' ⟨rfl,h⟩;exact⟨h,_,B,a1,a2,a3,c1,c2,c3,_,rfl,hb.below h,λh=>absurd h Zb⟩
   .refine(R8 B v a1 a2 a3 c1 c2 c3 w hok hb.i h0 h4).mono ?_;rintro e w' ⟨rfl,h⟩;exact⟨h,_,B,a1,a2,a3,c1,c2,c3,_,rfl,hb.below h,λh=>absurd h h0⟩
def bw (R:Nat)(ad:OA)(nn cap p:Nat)(w:World)(e:Ending)(w':World):Prop:=∃(Y:Bk)(b1 b2 b3:OA)(k1 k2 k3:Nat),e=.returned (.agg #[.int .i64 Y.now,.int .i64 Y.floor,.slice b1 Y.on k1,.slice b2 Y.hn k2,.slice b3 Y.tn k3])/\Mm w' Y b1 b2 b3 k3/\Dn R ad nn cap p 200000 w w'
structure YG (w:World)(R:Nat)(ad:OA)(nn cap p:Nat)(Y:Bk)(b1 b2 b3:OA)(k1 k2 k3:Nat)(X:World):Prop where
 f:Ay (λq=>q=R) w X
 r:Rd X R ad nn cap p
 a:AN X w.1.size 5 (AW [.int .i64 0,.int .i64 0,.slice none 0 0,.slice none 0 0,.slice none 0 0])an:Nw X w.1.size
 b:AN X (w.1.size+1) 5 (AW [.int .i64 Y.now,.int .i64 Y.floor,.slice b1 Y.on k1,.slice b2 Y.hn k2,.slice b3 Y.tn k3])bn:Nw X (w.1.size+1)y:Mm X Y b1 b2 b3 k3
theorem YG.pick{w:World}{R:Nat}{ad:OA}{nn cap p:Nat}{Y:Bk}{b1 b2 b3:OA}{k1 k2 k3:Nat}{X:World}{X':World}{p':Nat}(h:YG w R ad nn cap p Y b1 b2 b3 k1 k2 k3 X)(hR:R<w.1.size)(hf:Ay (λq=>q=R) X X')(hr:Rd X' R ad nn cap p'):YG w R ad nn cap p' Y b1 b2 b3 k1 k2 k3 X':=⟨h.f.trans hf,hr,h.a.fr2 hf Za,h.an.fr hf h.a.lt Za,h.b.fr2 hf Za,h.bn.fr hf h.b.lt Za,h.y.pick hf h.r.ns⟩
theorem YG.below{w:World}{R:Nat}{ad:OA}{nn cap p:Nat}{Y:Bk}{b1 b2 b3:OA}{k1 k2 k3:Nat}{X:World}{X':World}(h:YG w R ad nn cap p Y b1 b2 b3 k1 k2 k3 X)(hR:R<w.1.size)(hb:Below X.1.size X X'):YG w R ad nn cap p Y b1 b2 b3 k1 k2 k3 X':=h.pick hR (Ar hb) (h.r.below hb)
theorem YG.put{w:World}{R:Nat}{ad:OA}{nn cap p:Nat}{Y:Bk}{b1 b2 b3:OA}{k1 k2 k3:Nat}{X:World}{p0:Nat}{V:Bk}{f1 f2 f3:OA}{h1 h2 h3:Nat}(h:YG w R ad nn cap p Y b1 b2 b3 k1 k2 k3 X)(hw:Rd w R ad nn cap p0)(hV:Mm X V f1 f2 f3 h3):YG w R ad nn cap p V f1 f2 f3 h1 h2 h3 (((((X.setCell ⟨w.1.size+1,0,none⟩ (.int .i64 V.now)).setCell ⟨w.1.size+1,1,none⟩ (.int .i64 V.floor)).setCell ⟨w.1.size+1,2,none⟩ (.slice f1 V.on h1)).setCell ⟨w.1.size+1,3,none⟩ (.slice f2 V.hn h2)).setCell ⟨w.1.size+1,4,none⟩ (.slice f3 V.tn h3)):=by have hR:=hw.lt;have F:=((((((Ay.refl (λq=>q=w.1.size+1) X).setCell (p:=⟨w.1.size+1,0,none⟩) rfl (.int .i64 V.now)).setCell (p:=⟨w.1.size+1,1,none⟩) rfl (.int .i64 V.floor)).setCell (p:=⟨w.1.size+1,2,none⟩) rfl (.slice f1 V.on h1)).setCell (p:=⟨w.1.size+1,3,none⟩) rfl (.slice f2 V.hn h2)).setCell (p:=⟨w.1.size+1,4,none⟩) rfl (.slice f3 V.tn h3));have f2':=((((h.f.far (z:=w.1.size+1) Za 0 (.int .i64 V.now)).far (z:=w.1.size+1) Za 1 (.int .i64 V.floor)).far (z:=w.1.size+1) Za 2 (.slice f1 V.on h1)).far (z:=w.1.size+1) Za 3 (.slice f2 V.hn h2)).far (z:=w.1.size+1) Za 4 (.slice f3 V.tn h3);have M:=(((((h.b.set (o:=0) Zb (.int .i64 V.now)).set (o:=1) Zb (.int .i64 V.floor)).set (o:=2) Zb (.slice f1 V.on h1)).set (o:=3) Zb (.slice f2 V.hn h2)).set (o:=4) Zb (.slice f3 V.tn h3));refine⟨f2',hw.keep h.r f2' (F.mono (λk hk e=>by omega)),h.a.fr F Za,h.an.fr F h.a.lt Za,M.congr (λj hj=>?_),qY h.bn h.b V f1 f2 f3 h1 h2 h3,hV.pick F h.bn⟩;rcases(show j=0\/j=1\/j=2\/j=3\/j=4 by omega)with rfl|rfl|rfl|rfl|rfl<;>rfl
def uP (w:World)(R:Nat)(ad:OA)(nn cap p k:Nat)(X:World):Prop:=∃Y b1 b2 b3 k1 k2 k3 p',p<=p'/\p'<=p+k/\YG w R ad nn cap p' Y b1 b2 b3 k1 k2 k3 X
def uB:Bk:=⟨0,0,0,λ_=>⟨⟨#[]⟩,⟨#[]⟩,0,0,⟨#[]⟩,false,0,λ_=>⟨#[]⟩⟩,0,λ_=>⟨0,false,⟨⟨#[]⟩,⟨#[]⟩,0,0,⟨#[]⟩,false,0,λ_=>⟨#[]⟩⟩⟩,0,λ_=>⟨⟨#[]⟩,0,⟨#[]⟩,0,0⟩⟩
theorem nZ:VB uB:=XP Zb
theorem Vd (w:World):Nw (w.alloc (.cells #[.int .i64 0,.int .i64 0,.slice none 0 0,.slice none 0 0,.slice none 0 0] 27)) w.1.size:=λj s e=>by rw[Al w #[.int .i64 0,.int .i64 0,.slice none 0 0,.slice none 0 0,.slice none 0 0] 27 j]at e;match j,e with
 |0,e=>cases e
 |1,e=>cases e
 |2,e=>cases e
 |3,e=>cases e
 |4,e=>cases e
 |n+5,e=>simp at e
theorem pD (w:World)(R:Nat)(ad:OA)(nn cap p:Nat)(hr:Rd w R ad nn cap p):YG w R ad nn cap p uB none none none 0 0 0 ((w.alloc (.cells #[.int .i64 0,.int .i64 0,.slice none 0 0,.slice none 0 0,.slice none 0 0] 27)).alloc (.cells #[.int .i64 0,.int .i64 0,.slice none 0 0,.slice none 0 0,.slice none 0 0] 27)):=by have hb:Below w.1.size w ((w.alloc (.cells #[.int .i64 0,.int .i64 0,.slice none 0 0,.slice none 0 0,.slice none 0 0] 27)).alloc (.cells #[.int .i64 0,.int .i64 0,.slice none 0 0,.slice none 0 0,.slice none 0 0] 27)):=((Aq _ _).alloc AQ _).alloc Zc _;have h1:=AN.new (w:=w.alloc (.cells #[.int .i64 0,.int .i64 0,.slice none 0 0,.slice none 0 0,.slice none 0 0] 27)) (l:=[.int .i64 0,.int .i64 0,.slice none 0 0,.slice none 0 0,.slice none 0 0]) (t:=27) Ci;have n1:=Vd (w.alloc (.cells #[.int .i64 0,.int .i64 0,.slice none 0 0,.slice none 0 0,.slice none 0 0] 27));rw[Av]at h1 n1;exact⟨Ar hb,hr.below hb,AN.new (l:=[.int .i64 0,.int .i64 0,.slice none 0 0,.slice none 0 0,.slice none 0 0]) ET,(Vd w).below ET Zc,h1,n1,⟨nZ,Uh nZ,⟨λi hi=>absurd hi (Ai _),λi hi=>absurd hi (Ai _),λi hi=>absurd hi (Ai _)⟩,⟨AG _,AB ⟨rfl,rfl,rfl⟩⟩⟩⟩
def UN (Bb:Nat)(w:World):Nat:=match w.cell? ⟨Bb,3,none⟩with
 |some (.slice _ n _)=>200-n
 |_=>0
theorem aO{P:Prop}(h:P:=by intro t V f1 f2 f3 h1 h2 h3 pz X0 X hX hV hf hp1 hp2 hrd;subst hX;go_wp2_with fail;go_meet;case rel=>exact⟨V,f1,f2,f3,h1,h2,h3,pz,Za,Za,(Nd.pick hRw hf hrd).put HR hV⟩):P:=h
theorem W6 (R:Nat)(ad:OA)(nn cap p:Nat)(w:World)(hr:Rd w R ad nn cap p)(hp:p<=100):Calls prog 39 #[.pointer (some ⟨R,0,none⟩)] w λe w'=>bw R ad nn cap p w e w':=by
 have HS:=Aj (pD w R ad nn cap p hr);have HR:=Aj hr;have hRw:=hr.lt;clear hr;go_enter func39,ntmps39;go_upto_region 2 with fail;generalize(w.alloc (.cells #[.int .i64 0,.int .i64 0,.slice none 0 0,.slice none 0 0,.slice none 0 0] 27)).alloc (.cells #[.int .i64 0,.int .i64 0,.slice none 0 0,.slice none 0 0,.slice none 0 0] 27)=X0 at HS⊢;go_upto_block 0 with(go_at_call 15;go_must(refine(Bj R ad nn cap _ 24 _ HS.r Za Zb Zb).mono ?_;rintro e w3 ⟨y,rfl,_,hy,hf3,hr3⟩;have hy3:=hy Zb;clear hy));have Xq:=Aj (HS.pick hRw hf3 hr3);clear HS hf3 hr3;go_cut[](λwx=>uP w R ad nn cap p 160000 wx);case first=>
  --<l1
  go_wp2_with fail;go_loopw[4](λs wr=>∃n:Nat,s=.int .i64 n/\n<=23/\Hid (uP w R ad nn cap p (1+6900*(23-n)) wr))(λs _=>(intOf s).toNat);case atStart=>exact⟨y,rfl,Za,Aj ⟨_,_,_,_,_,_,_,_,Nat.le_succ _,Za,Xq⟩⟩
  case round=>
   clear Xq;obtain⟨n,rfl,hn2,HL⟩:=hrel;by_cases hn0:n=0;.subst hn0;go_wp2_with fail;go_meet;case rel=>obtain⟨Y,b1,b2,b3,k1,k2,k3,p',hq1,hq2,hL⟩:=HL.out;exact⟨Y,b1,b2,b3,k1,k2,k3,p',hq1,Za,hL⟩
   .go_upto_block 1 with fail;go_cut[](λwx=>uP w R ad nn cap p (6901+6900*(23-n)) wx);case first=>
     --<b1
     obtain⟨Y,b1,b2,b3,k1,k2,k3,p',hq1,hq2,hL⟩:=HL.out;have LA:=Aj hL;clear HL hL;go_upto_block 2 with(go_at_call 15;go_must(refine(Bj R ad nn cap _ 10 _ LA.r Za Zb Zb).mono ?_;rintro e w3 ⟨y,rfl,_,hy,hf3,hr3⟩;have hy3:=hy Zb;clear hy));have Nd:=Aj (LA.pick hRw hf3 hr3);clear LA hf3 hr3;have hBl:=Nd.b.lt;by_cases y0:y=0;.subst y0;go_wp2_with fail;refine rF (AW [_,_,_,_,_,_,_]) R ad nn cap (p'+1) (w.1.size+1) Y b1 b2 b3 k1 k2 k3 _ Nd.r Za hBl Za Nd.b Nd.y rfl _ ?_;exact aO
     .by_cases y1:y=1;.subst y1;go_wp2_with fail;refine kP (AW [_,_,_,_,_,_,_,_,_,_,_,_,_,_,_,_,_]) R ad nn cap (p'+1) (w.1.size+1) Y b1 b2 b3 k1 k2 k3 _ Nd.r Za hBl Za Nd.b Nd.y rfl _ ?_;exact aO
      .go_wp2_with fail;refine qM (AW [_,_,_,_,_,_]) R ad nn cap (p'+1) (w.1.size+1) Y b1 b2 b3 k1 k2 k3 _ Nd.r Za hBl Za Nd.b Nd.y rfl _ ?_;intro t z cd V f1 f2 f3 h1 h2 h3 ve pz X ht hz hrow hV hf hp1 hp2 hrd;rw[ht];have Ou:=Aj (Nd.pick hRw hf hrd);have r1:=hrow.cell 1 Zb;have r2:=hrow.cell 2 Zb;have r3:=hrow.cell 3 Zb;have r4:=hrow.cell 4 Zb;have r5:=hrow.cell 5 Zb;have rl:=hrow.lt;have m0:=Ou.b.cell 0 Zb;have m1:=Ou.b.cell 1 Zb;have m2:=Ou.b.cell 2 Zb;have m3:=Ou.b.cell 3 Zb;have m4:=Ou.b.cell 4 Zb;have mf:=Ou.b.free;have ml:=Ou.b.lt;simp only[AW,Aa,Ab]at r1 r2 r3 r4 r5 m0 m1 m2 m3 m4;have HV:=Aj hV;clear hrow hV hf hrd ht Nd;go_wp2_with fail;go_meet;case rel=>exact⟨V,f1,f2,f3,h1,h2,h3,pz,Za,Za,Ou.put HR HV⟩
     --b1>
    case rest=>
     have Ou:=Aj hcut;clear hcut HL;have hw1:IntKind.i64.wrap ((n:Int)-1)=((n-1:Nat):Int):=by rw[AK _ ⟨Za,Za⟩];omega
     go_wp2;refine⟨⟨n-1,rfl,Za,Aj ?_⟩,?_⟩;.obtain⟨Y,b1,b2,b3,k1,k2,k3,p',hq1,hq2,hL⟩:=Ou.out;exact⟨Y,b1,b2,b3,k1,k2,k3,p',hq1,Za,hL⟩
     .show(((n-1:Nat):Int)).toNat<((n:Int)).toNat;omega
  --l1>
 case rest=>
  have HL:=Aj hcut;clear hcut Xq;obtain⟨Y,b1,b2,b3,k1,k2,k3,p',hq1,hq2,hL⟩:=HL.out;have LA:=Aj hL;clear HL hL;go_upto_if 57 with(go_at_call 15;go_must(refine(Bj R ad nn cap _ 24 _ LA.r Za Zb Zb).mono ?_;rintro e w3 ⟨y,rfl,_,hy,hf3,hr3⟩;have hy3:=hy Zb;clear hy));have Nd:=Aj (LA.pick hRw hf3 hr3);clear LA hf3 hr3;go_cut[](λwx=>uP w R ad nn cap p 170000 wx);case first=>
   --<f2
   by_cases y0:y=0
   .subst y0;go_wp2_with fail;go_loopw[6](λs wr=>∃i:Int,s=.int .i64 i/\Hid (∃Y b1 b2 b3 k1 k2 k3 p',p<=p'/\p'<=p+160001+7*Y.hn/\YG w R ad nn cap p' Y b1 b2 b3 k1 k2 k3 wr))(λ_ wr=>UN (w.1.size+1) wr);case atStart=>exact⟨0,rfl,Aj ⟨Y,b1,b2,b3,k1,k2,k3,p'+1,Za,Za,Nd⟩⟩
    case round=>
     clear Nd hq1 hq2 Y b1 b2 b3 k1 k2 k3 p';obtain⟨i,rfl,HL⟩:=hrel;obtain⟨Y,b1,b2,b3,k1,k2,k3,p',hq1,hq2,hL⟩:=HL.out;have LA:=Aj hL;clear HL hL;have hhn:=LA.y.v.hn;have hBl:=LA.b.lt;go_upto_region 14 with fail;refine lN (AW [_,_,_,_,_,_,_]) R ad nn cap p' (w.1.size+1) Y b1 b2 b3 k1 k2 k3 _ LA.r Za hBl Za LA.b rfl _ ?_;intro t b pz X ht hbt hf hp1 hp2 hrd;rw[ht];have Nd:=Aj (LA.pick hRw hf hrd);have hms:UN (w.1.size+1) wr=200-Y.hn:=by unfold UN;rw[show wr.cell? ⟨w.1.size+1,3,none⟩=some (.slice b2 Y.hn k2)from LA.b.cell 3 Zb]
     have zG:=Aj hms;clear LA hf hrd ht hms;cases b with
     |false=>go_wp2_with fail;go_meet;case rel=>exact⟨Y,b1,b2,b3,k1,k2,k3,pz,Za,Za,Nd⟩
     |true=>
      have hlt:=hbt rfl;clear hbt;go_upto_region 17 with fail;have Ou:=Aj (Nd.below hRw (Ap X (.cells #[.int .i64 2,.string ⟨#[98,101,114,116,104]⟩,.string ⟨#[120]⟩,.int .i64 0,.string ⟨#[118]⟩,.string ⟨#[]⟩] 118)));have HM:=Aj (show AN (X.alloc (.cells #[.int .i64 2,.string ⟨#[98,101,114,116,104]⟩,.string ⟨#[120]⟩,.int .i64 0,.string ⟨#[118]⟩,.string ⟨#[]⟩] 118)) X.1.size 6 (AW (wv ⟨2,⟨#[98,101,114,116,104]⟩,⟨#[120]⟩,0,⟨#[118]⟩,⟨#[]⟩⟩))from AN.new (l:=[.int .i64 2,.string ⟨#[98,101,114,116,104]⟩,.string ⟨#[120]⟩,.int .i64 0,.string ⟨#[118]⟩,.string ⟨#[]⟩]) (t:=118) Ci);have hMb:w.1.size+1<X.1.size:=Nd.b.lt;have hMl:X.1.size<(X.alloc (.cells #[.int .i64 2,.string ⟨#[98,101,114,116,104]⟩,.string ⟨#[120]⟩,.int .i64 0,.string ⟨#[118]⟩,.string ⟨#[]⟩] 118)).1.size:=Zc;have TF:=Aj (Ap X (.cells #[.int .i64 2,.string ⟨#[98,101,114,116,104]⟩,.string ⟨#[120]⟩,.int .i64 0,.string ⟨#[118]⟩,.string ⟨#[]⟩] 118));generalize X.alloc (.cells #[.int .i64 2,.string ⟨#[98,101,114,116,104]⟩,.string ⟨#[120]⟩,.int .i64 0,.string ⟨#[118]⟩,.string ⟨#[]⟩] 118)=X3 at Ou HM hMl TF⊢;obtain⟨M,hM⟩:∃M,X.1.size=M:=⟨_,rfl⟩;rw[hM]at HM hMb hMl⊢;have yN:=Aj hM;clear hM;have m0:=Ou.b.cell 0 Zb;have m1:=Ou.b.cell 1 Zb;have m2:=Ou.b.cell 2 Zb;have m3:=Ou.b.cell 3 Zb;have m4:=Ou.b.cell 4 Zb;have ml:=Ou.b.lt;simp only[AW,Aa,Ab]at m0 m1 m2 m3 m4;go_upto_if 74 with(go_at_call 54;go_must(refine(BP Y.now Y.floor Y.on Y.os b1 b2 b3 k1 Y.hn k2 Y.tn k3 ⟨#[98,101,114,116,104]⟩ ⟨#[120]⟩ _ 0 X3.1.size AQ (by have:=Ou.y.v.on;omega) Ou.y.f.os Ou.y.i.o).mono ?_;rintro e w5 ⟨ad5,cp5,rfl,hs5,_,hb5⟩));have hB5:∀o,Below X3.1.size X3 (w5.alloc o):=λo=>hb5.alloc hb5.size _;have rV:=Aj (HM.below hb5 hMl);have h50:=rV.cell 0 Zb;have h5f:=rV.free 0;have h5l:=rV.lt;simp only[wv,AW,Aa,]at h50;have j4:=Aj hB5;have sP:=Aj hb5;clear hB5 hs5 hb5 m0 m1 m2 m3 m4 ml;go_cut[9](λ_ wx=>∃v:Wr,Xi v/\AN wx M 6 (AW (wv v))/\YG w R ad nn cap pz Y b1 b2 b3 k1 k2 k3 wx);case first=>have wi:∀o:Int,1<=o->o<=5->Xi ⟨o,⟨#[98,101,114,116,104]⟩,⟨#[120]⟩,0,⟨#[118]⟩,⟨#[]⟩⟩:=λo h1 h2=>⟨⟨by show((⟨#[98,101,114,116,104]⟩:ByteArray).size:Int)<=_;decide,by show((⟨#[120]⟩:ByteArray).size:Int)<=_;decide,by show((⟨#[118]⟩:ByteArray).size:Int)<=_;decide,by show((⟨#[]⟩:ByteArray).size:Int)<=_;decide⟩,h1,h2,by show(0:Int)<=_;decide⟩;have yA:=Aj wi;clear wi;cases hfi:B4 Y.os ⟨#[98,101,114,116,104]⟩ ⟨#[120]⟩ Y.on with
       |true=>go_wp2_with fail;go_meet;case rel=>exact⟨_,yA 2 Zb Zb,rV.below ET h5l,Ou.below hRw (j4 _)⟩
       |false=>go_wp2_with fail;go_meet;case rel=>have bA:Below X.1.size X w5:=TF.trans (sP.mono TF.size);have bB:Below X.1.size w5 (w5.setCell ⟨M,0,none⟩ (.int .i64 1)):=((Ay.refl (λq=>q=M) w5).setCell (p:=⟨M,0,none⟩) rfl _).below (λq hq e=>by have:=yN.out;have e':q=M:=e;omega) bA.size;exact⟨⟨1,⟨#[98,101,114,116,104]⟩,⟨#[120]⟩,0,⟨#[118]⟩,⟨#[]⟩⟩,yA 1 Zb Zb,((rV.set (o:=0) Zb _).congr (λj hj=>by rcases tV hj with rfl|rfl|rfl|rfl|rfl|rfl<;>rfl)).below ET (by rw[Bv];exact h5l),Nd.below hRw ((bA.trans bB).trans ((Ap _ _).mono (by rw[Bv];exact bA.size)))⟩
      case rest=>
       obtain⟨v,hv,hrm,hL⟩:=hcut;have j8:=Aj hL;have nK:=Aj hrm;clear hL hrm Ou HM rV h50 h5f h5l j4 sP Nd TF yN;have m0:=j8.b.cell 0 Zb;have m1:=j8.b.cell 1 Zb;have m2:=j8.b.cell 2 Zb;have m3:=j8.b.cell 3 Zb;have m4:=j8.b.cell 4 Zb;have ml:=j8.b.lt;have v0:=nK.cell 0 Zb;have v1:=nK.cell 1 Zb;have v2:=nK.cell 2 Zb;have v3:=nK.cell 3 Zb;have v4:=nK.cell 4 Zb;have v5:=nK.cell 5 Zb;have vl:=nK.lt;simp only[wv,AW,Aa,Ab]at m0 m1 m2 m3 m4 v0 v1 v2 v3 v4 v5;go_upto_region 21 with(go_at_call 75;go_must(refine(ZC Y v b1 b2 b3 k1 k2 k3 _ j8.y hv).mono ?_;rintro e w6 ⟨hb6,cd,V,f1,f2,f3,h1,h2,h3,ve,rfl,hV,hcd⟩));have jU:=Aj ((j8.below hRw hb6).below hRw (Ap w6 (.cells #[.int .i64 cd,.int .i64 V.now,.int .i64 V.floor,.slice f1 V.on h1,.slice f2 V.hn h2,.slice f3 V.tn h3,.int .i64 ve] 115)));have HD:=Aj (AN.new (w:=w6) (l:=[.int .i64 cd,.int .i64 V.now,.int .i64 V.floor,.slice f1 V.on h1,.slice f2 V.hn h2,.slice f3 V.tn h3,.int .i64 ve]) (t:=115) Ci);have HV:=Aj (hV.below (Ap w6 (.cells #[.int .i64 cd,.int .i64 V.now,.int .i64 V.floor,.slice f1 V.on h1,.slice f2 V.hn h2,.slice f3 V.tn h3,.int .i64 ve] 115)));generalize w6.alloc (.cells #[.int .i64 cd,.int .i64 V.now,.int .i64 V.floor,.slice f1 V.on h1,.slice f2 V.hn h2,.slice f3 V.tn h3,.int .i64 ve] 115)=X6 at jU HD HV⊢;generalize w6.1.size=Dd at HD⊢;clear j8 nK m0 m1 m2 m3 m4 ml v0 v1 v2 v3 v4 v5 vl hb6 hV;have d0:=HD.cell 0 Zc;have d1:=HD.cell 1 Zc;have d2:=HD.cell 2 Zc;have d3:=HD.cell 3 Zc;have d4:=HD.cell 4 Zc;have d5:=HD.cell 5 Zc;have dl:=HD.lt;have m0:=jU.b.cell 0 Zb;have m1:=jU.b.cell 1 Zb;have m2:=jU.b.cell 2 Zb;have m3:=jU.b.cell 3 Zb;have m4:=jU.b.cell 4 Zb;have mf:=jU.b.free;have ml:=jU.b.lt;simp only[AW,Aa,Ab]at d0 d1 d2 d3 d4 d5 m0 m1 m2 m3 m4;have yG:=Aj hcd;clear hcd;by_cases c0:cd=0
       .have hVn:=yG c0 hlt;have xZ:=Aj hVn;clear hVn yG;subst c0;go_wp2;have HP:=jU.put (h1:=h1) (h2:=h2) HR HV;refine⟨⟨_,rfl,Aj ⟨V,f1,f2,f3,h1,h2,h3,pz,Za,by have:=xZ.out;omega,HP⟩⟩,?_⟩;have hms2:UN (w.1.size+1) (((((X6.setCell ⟨w.1.size+1,0,none⟩ (.int .i64 V.now)).setCell ⟨w.1.size+1,1,none⟩ (.int .i64 V.floor)).setCell ⟨w.1.size+1,2,none⟩ (.slice f1 V.on h1)).setCell ⟨w.1.size+1,3,none⟩ (.slice f2 V.hn h2)).setCell ⟨w.1.size+1,4,none⟩ (.slice f3 V.tn h3))=200-V.hn:=by unfold UN;rw[show World.cell? (((((X6.setCell ⟨w.1.size+1,0,none⟩ (.int .i64 V.now)).setCell ⟨w.1.size+1,1,none⟩ (.int .i64 V.floor)).setCell ⟨w.1.size+1,2,none⟩ (.slice f1 V.on h1)).setCell ⟨w.1.size+1,3,none⟩ (.slice f2 V.hn h2)).setCell ⟨w.1.size+1,4,none⟩ (.slice f3 V.tn h3)) ⟨w.1.size+1,3,none⟩=some (.slice f2 V.hn h2)from HP.b.cell 3 Zb]
        rw[hms2,zG.out,xZ.out];omega
       .go_wp2_with fail;go_meet;case rel=>exact⟨Y,b1,b2,b3,k1,k2,k3,pz,Za,Za,jU⟩
      --b4>
   .go_wp2_with fail;go_meet;case rel=>exact⟨Y,b1,b2,b3,k1,k2,k3,p'+1,Za,Za,Nd⟩
   --f2>
  case rest=>
   have HL:=Aj hcut;clear hcut Nd;obtain⟨Y,b1,b2,b3,k1,k2,k3,p',hq1,hq2,hL⟩:=HL.out;have LA:=Aj hL;clear HL hL;have m0:=LA.b.cell 0 Zb;have m1:=LA.b.cell 1 Zb;have m2:=LA.b.cell 2 Zb;have m3:=LA.b.cell 3 Zb;have m4:=LA.b.cell 4 Zb;have ml:=LA.b.lt;simp only[AW,Aa,Ab]at m0 m1 m2 m3 m4;go_wp2_with (go_at_call 20;go_must(refine(gP Y b1 b2 b3 k1 k2 k3 _ LA.y).mono ?_;rintro e w4 ⟨hb4,f1,f2,f3,h1,h2,h3,rfl,hin,hcp⟩;have Z8:=Aj (LA.below hRw hb4);have A0:=Z8.a.cell 0 Zb;have A1:=Z8.a.cell 1 Zb;have A2:=Z8.a.cell 2 Zb;have A3:=Z8.a.cell 3 Zb;have A4:=Z8.a.cell 4 Zb;have AF:=Z8.a.free;have AL:=Z8.a.lt;simp only[AW,Aa,Ab]at A0 A1 A2 A3 A4));have V0:=Aj (show Mm w4 Y f1 f2 f3 h3 from⟨LA.y.v,LA.y.f,hin.lo0,hcp⟩);have F:=((((((Ay.refl (λq=>q=w.1.size) w4).setCell (p:=⟨w.1.size,0,none⟩) rfl (.int .i64 Y.now)).setCell (p:=⟨w.1.size,1,none⟩) rfl (.int .i64 Y.floor)).setCell (p:=⟨w.1.size,2,none⟩) rfl (.slice f1 Y.on h1)).setCell (p:=⟨w.1.size,3,none⟩) rfl (.slice f2 Y.hn h2)).setCell (p:=⟨w.1.size,4,none⟩) rfl (.slice f3 Y.tn h3));have Z:=(((((Z8.a.set (o:=0) Zb (.int .i64 Y.now)).set (o:=1) Zb (.int .i64 Y.floor)).set (o:=2) Zb (.slice f1 Y.on h1)).set (o:=3) Zb (.slice f2 Y.hn h2)).set (o:=4) Zb (.slice f3 Y.tn h3));have z0:=Z.cell 0 Zb;have z1:=Z.cell 1 Zb;have z2:=Z.cell 2 Zb;have z3:=Z.cell 3 Zb;have z4:=Z.cell 4 Zb;simp[Lm]at z0 z1 z2 z3 z4;refine bodyPost_ret (v:=.agg #[.int .i64 Y.now,.int .i64 Y.floor,.slice f1 Y.on h1,.slice f2 Y.hn h2,.slice f3 Y.tn h3]) (by simp[results,results39,go_sem,z0,z1,z2,z3,z4]) rfl ⟨Y,f1,f2,f3,h1,h2,h3,rfl,V0.pick F Z8.an,?_,p',Za,Za,?_⟩;.exact((((Z8.f.far AQ _ _).far AQ _ _).far AQ _ _).far AQ _ _).far AQ _ _
   .exact HR.far (HR.far (HR.far (HR.far (HR.far Z8.r AQ _ _) AQ _ _) AQ _ _) AQ _ _) AQ _ _
   --fin>
  --l2>
def RP (n Kk:Nat)(mk:(Nat->Value)->Array Value)(W:World)(R:Nat)(ad:OA)(nn cap p:Nat)(G:Nat->Value->World->Prop)(Fin:Act->World->Prop)(ops:Array Oper)(l:Array Bool)(a:Act)(X:World):Prop:=(l.size=n+1/\∀i j,l.getD i false=true->BM ops i j->l.getD j false=true)/\((l.getD n false=true->(∀i,i<n->l.getD i false=true)/\Fin a X)/\(l.getD n false=false->∃t:Nat->Value,a=⟨mk t,[]⟩/\Ay (λq=>q=R) W X/\(∃p',p<=p'/\p'<=p+Kk*l.toList.count true/\Rd X R ad nn cap p')/\∀i,i<n->l.getD i false=true->G i (t i) X))
theorem Hb{P:Program}{id:Nat}{ops:Array Oper}{Q:Exit->Act->World->Prop}{a0:Act}{W:World}(hm:P.follows .mixedOrders=true)(n Kk:Nat)(par:Nat->Nat)(mk:(Nat->Value)->Array Value)(t0:Nat->Value)(R:Nat)(ad:OA)(nn cap p:Nat)(G:Nat->Value->World->Prop)(Fin:Act->World->Prop)(hn:ops.size=n+1)(hord:((List.range ops.size).all λi=>match ops[i]? with|some o=>o.after.all (λe=>!(Region.binds .any e)||decide (e.on<i))|none=>true)=true)(hlast:((List.range n).all λj=>decide (j<par j/\par j<=n)&&match ops[par j]? with|some o=>o.after.any (λe=>Region.binds .any e&&e.on==j)|none=>false)=true)(st:∀i v X Y p',i<n->G i v X->Ay (λq=>q=R) X Y->Rd X R ad nn cap p'->R<W.1.size->W.1.size<=X.1.size->G i v Y)(h0:a0=⟨mk t0,[]⟩)(hr:Rd W R ad nn cap p)(sg:∀i,i<n->∀(t:Nat->Value) X K p',Ay (λq=>q=R) W X->p<=p'->p'<=p+Kk*n->Rd X R ad nn cap p'->(∀j,BM ops i j->G j (t j) X)->(∀v Y p2,p'<=p2->p2<=p'+Kk->G i v Y->Ay (λq=>q=R) X Y->Rd Y R ad nn cap p2->K ⟨mk (AA t i v),[]⟩ Y)->wpOp P ops Q i K ⟨mk t,[]⟩ X)(sl:∀(t:Nat->Value) X K p',Ay (λq=>q=R) W X->p<=p'->p'<=p+Kk*n->Rd X R ad nn cap p'->(∀j,j<n->G j (t j) X)->(∀a Y,Fin a Y->K a Y)->wpOp P ops Q n K ⟨mk t,[]⟩ X)(hfin:∀a X,Fin a X->Q .normal a X):(Code.region id ops true).wp P Q a0 W:=by
 have hdep:∀i j,i<n+1->BM ops i j->j<n:=by exact cR
 refine CC hm (RP n Kk mk W R ad nn cap p G Fin ops) ?_ ?_ ?_ ?_
 .have hz:∀i,(Array.replicate ops.size false).getD i false=false:=λi=>by simp[Array.getD]
  refine⟨⟨by simp[hn],λi j h=>by rw[hz]at h;cases h⟩,λh=>?_,λ_=>⟨t0,h0,Ar (Aq _ _).drew,⟨p,AG _,Za,hr.below (Aq _ _).drew⟩,λi _ h=>?_⟩⟩<;>(rw[hz]at h;cases h)
 .rintro l a X ⟨⟨hs,_⟩,_⟩;rw[hs,hn]
 .rintro l a X ⟨⟨hs,_⟩,h6,_⟩ hr;have AL:=Nv hord (by rw[hs,hn]) hr;exact hfin a X (h6 (AL n Za)).2
 .rintro l a X i ⟨⟨hs,hcl⟩,h6,hg⟩ hr';obtain⟨hu,o,ho,hall⟩:=mem_ready.1 hr';have di:∀j,BM ops i j->l.getD j false=true:=by
   rintro j ⟨o',ho',e,he,hb,rfl⟩;rw[ho]at ho';obtain rfl:o=o':=by simpa using ho'
   exact hall e he hb
  have hi7:i<n+1:=by
   rcases Aw i (n+1)with h|h;.exact h
   .rw[Bt Za]at ho;cases ho
  have hui:l.getD i false=false:=by have:l.getD i true=false:=hu;simpa[Array.getD,hs,hi7]using this
  have kp:∀j,¬j=i->(l.setIfInBounds i true).getD j false=l.getD j false:=λj hj=>by rw[Cd Za,if_neg hj]
  have ki:(l.setIfInBounds i true).getD i false=true:=by rw[Cd Za,if_pos rfl]
  have hs':(l.setIfInBounds i true).size=n+1:=by simp[hs]
  have ku:∀j,l.getD j false=true->(l.setIfInBounds i true).getD j false=true:=λj h=>by
   by_cases e:j=i;.subst e;exact ki
   .rw[kp j e];exact h
  have cl':∀a b,(l.setIfInBounds i true).getD a false=true->BM ops a b->(l.setIfInBounds i true).getD b false=true:=λa b ha hw=>by
   by_cases e:a=i;.subst e;exact ku b (di b hw)
   .rw[kp a e]at ha;exact ku b (hcl a b ha hw)
  have l6:l.getD n false=false:=by cases h:l.getD n false with
   |false=>rfl
   |true=>
    rcases Aw i n with h1|h1;.rw[(h6 h).1 i h1]at hui;cases hui
    .obtain rfl:i=n:=Za;rw[h]at hui;cases hui
  obtain⟨t,rfl,hb,⟨p',q1,q2,hrd⟩,gg⟩:=hg l6;have hc:=NQ Za hui;have hc2:(l.setIfInBounds i true).toList.count true<=n+1:=by have:=L0 (a:=true) (l:=(l.setIfInBounds i true).toList);simpa[hs]using this
  have hcn:Kk*l.toList.count true<=Kk*n:=Ot _ Za;have hck:Kk*(l.setIfInBounds i true).toList.count true=Kk*l.toList.count true+Kk:=by rw[hc,Nat.mul_add,ML]
  by_cases hin:i=n
  .subst hin;have pa:∀j,j<i->j<par j/\par j<=i/\BM ops (par j) j:=λj hj=>by have h1:=Be.1 hlast j (BC.2 hj);rw[Am,decide_eq_true_eq]at h1;refine⟨h1.1.1,h1.1.2,?_⟩;have h3:=h1.2;cases hp:ops[par j]? with
    |none=>rw[hp]at h3;cases h3
    |some o2=>rw[hp]at h3;obtain⟨k,hk,h2⟩:=EY.1 h3;simp only[Am,beq_iff_eq]at h2;exact⟨o2,hp,o2.after[k],EZ hk,h2.1,h2.2⟩
   have al:∀d j,j<i->i-j<=d->l.getD j false=true:=λd=>by induction d with
    |zero=>intro j hj h;omega
    |succ d ih=>
     intro j hj h;obtain⟨h1,h2,h3⟩:=pa j hj;by_cases e:par j=i;.rw[e]at h3;exact di j h3
     .exact hcl _ _ (ih (par j) Za Za) h3
   clear hr' hu ho h6 hg;refine sl t X _ p' hb q1 Za hrd (λj hj=>gg j hj (al _ j hj AQ)) (λa Y hY=>⟨⟨hs',cl'⟩,λ_=>⟨λj hj=>?_,hY⟩,λh=>?_⟩);.exact ku j (al _ j hj AQ)
   .rw[ki]at h;cases h
  .clear hr' hu ho h6 hg;have hno:(l.setIfInBounds i true).getD n false=false:=by rw[kp n (λe=>hin e.symm)];exact l6
   refine sg i Za t X _ p' hb q1 Za hrd (λj hj=>gg j (hdep i j hi7 hj) (di j hj)) (λv Y p2 r1 r2 hv hY hrY=>⟨⟨hs',cl'⟩,λh=>?_,λ_=>⟨AA t i v,rfl,hb.trans hY,⟨p2,Za,Za,hrY⟩,λj j1 h=>?_⟩⟩);.rw[hno]at h;cases h
   .by_cases e:j=i;.subst e;rw[BA];exact hv
    .rw[kp j e]at h;rw[BI e];exact st _ _ _ _ _ j1 (gg j j1 h) hY hrd hr.lt hb.size
def cc (z:Ch)(ah:OA)(ch:Nat):List Value:=[.i z.ver,.bool z.gone,.s z.ob.kind,.s z.ob.name,.i z.ob.ver,.i z.ob.born,.s z.ob.text,.bool z.ob.ending,.l ah z.ob.hn ch]
structure SD (W:World)(R T:Nat)(x:Bk)(g1 g2:Nat)(a3:OA)(d1 d2 d3 o h:Nat)(y:Ob)(z:Ch)(ah bh:OA)(ch eh:Nat):Prop where
 row:AN W T 5 (AW (Lk x (some ⟨g1,0,none⟩) (some ⟨g2,0,none⟩) a3 d1 d2 d3))lt:T<W.1.size
 ne:¬T=R
 c1:∀f,f<7->W.cell? ⟨g1,o*7+f,none⟩=some (AW (oc y ah ch) f)f1:∀j,W.frozen? ⟨g1,j,none⟩=false
 l1:g1<W.1.size
 n1:¬g1=R
 c2:∀f,f<9->W.cell? ⟨g2,h*9+f,none⟩=some (AW (cc z bh eh) f)f2:∀j,W.frozen? ⟨g2,j,none⟩=false
 l2:g2<W.1.size
 n2:¬g2=R
 ho:o<x.on
 hh:h<x.hn
 bn:-1000000<=x.now/\x.now<=1000000
 bf:-1000000<=x.floor/\x.floor<=1000000
 bv:-1000000<=y.ver/\y.ver<=1000000
 bb:-1000000<=y.born/\y.born<=1000000
 bz:-1000000<=z.ver/\z.ver<=1000000
 bt:y.text.size<=300
def bC (R:Nat)(T:Nat)(x:Bk)(_g1 _g2:Nat)(_a3:OA)(_d1 _d2 _d3 _o _h:Nat)(_y:Ob)(_z:Ch)(_ah _bh:OA)(_ch _eh:Nat)(W:World)(i:Nat)(v:Value)(X:World):Prop:=match i with
 |0=>v=.p T 0
 |1=>v=.i x.now
 |2=>∃i:Int,v=.i i/\-1000001<=i/\i<=1000001
 |3=>∃g:Nat,v=.l (some ⟨g,0,none⟩) 3 3/\W.1.size<=g/\g<X.1.size/\∀k,k<3->∃i:Int,X.cell? ⟨g,k,none⟩=some (.i i)/\-1000001<=i/\i<=1000001
 |4=>v=.p R 0
 |5=>∃k:Nat,k<3/\v=.i k
 |6=>∃(g k:Nat)(i:Int),v=.pointer (some ⟨g,k,none⟩)/\(W.1.size<=g/\g<X.1.size)/\X.cell? ⟨g,k,none⟩=some (.i i)/\True/\(-1000001<=i/\i<=1000001)
 |7=>∃i:Int,v=.i i/\-1000001<=i/\i<=1000001
 |8=>v=.p T 0
 |_=>True
theorem mF{p1 p2 p3 p4 p8 p9 D8 D9 Ea DZ Dl Di Dg Dh De Db Dk Da Df Dc DH Du Ds DA Dw DG DD DE DF DI DJ DU Ev EF EN Eu ED EB EE EC Es Et DC D2 D1 DO DN Ej Eg Ei Ek D5 D4 Eb Eh D7 EK EL EH EJ EI EA Ez D0 FP FJ FO FN FK FH FL FI FM He Hg Hc FC Fz GA GZ Ge Ib Le KT KQ KP KR KS Hd Hf KN KJ KL KM KI K5 Cx Cy Cr Ck Cn Cl Cm Cq Cs CU CR CQ CS CE CF CG CI CO CN CZ CY CW DX DP DV Dq DB Dz En Dx Dp Dm Dy Dr EM E3 Fe Fc E6 Fb E9 Fa E4 E1 E7 E5 E8 Fq Fs Gd GO GK Gc Gj Gu GE GT Gb G3 Gh F9 G0 Gz GL Fu Ft GM Gf Gq FT Ga G4 FU G5 GC GS GQ GG Jo Jy Jl Hx Gp GI JV IV H6 H9 IU Iu Ir Kl Jk Hn Kc IS Gv GH Hj I0 ID JU J5 Ii IK Ig IQ IM Jw Hr GD Gt JR Ko HJ Hk JJ I6 J4 Ji Kx Hu Jb Kz Jr Jg Ja IG Jd IX GV Gm Jc I9 It JO I7 Kv I1 JF I3 Kf Gr GU Jf Ip Jh Kd Ik JM Ka Iv Kq Iz Ho GR GN Ki In IT H7 Hl II IA Hv Jm Kh IW KA FW GP H5 JZ Jp Jv Ht Io HZ Ku JI JY JS J3 FX Gw Kn J1 JE Kj Jq JC Ju J8 IF JN JB Jn Hy JG Km IY JD IC JL IE GJ Gy JQ J2 J9 Hp JH Jt IB Jj Ia Kw JW FY Gn Gl Gs GB GF Gk GX JK Ie IH IR KC Hi Kt Im Jz Kg Ic Gi GY IL KD H8 J6 IZ Is Ij J0 Ky JP Iw Kr IJ JX J7 JA Ks Hq I2 Iq I8 I5 Hz KB IP Ih If IN Iy Gx FR I4 Hw Js Ke Hm Il KE JT Hs Je Gg:Value}{mk:(Nat->Value)->Array Value}(t0:Nat->Value)(R:Nat)(ad:OA)(nn cap p:Nat)(T:Nat)(x:Bk)(g1 g2:Nat)(a3:OA)(d1 d2 d3 o h:Nat)(y:Ob)(z:Ch)(ah bh:OA)(ch eh:Nat)(W:World)(hr:Rd W R ad nn cap p)(hp:p<=600000)(H:SD W R T x g1 g2 a3 d1 d2 d3 o h y z ah bh ch eh)(hmk:mk=λt=>#[.p R 0,p1,p2,p3,p4,.p T 0,.i (o:Nat),.i (h:Nat),p8,p9,D8,D9,Ea,DZ,Dl,Di,Dg,Dh,De,Db,Dk,Da,Df,Dc,DH,Du,Ds,DA,Dw,DG,DD,DE,DF,DI,DJ,DU,Ev,EF,EN,Eu,ED,EB,EE,EC,Es,Et,DC,D2,D1,DO,DN,Ej,Eg,Ei,Ek,D5,D4,Eb,Eh,D7,EK,EL,EH,EJ,EI,EA,Ez,D0,FP,FJ,FO,FN,FK,FH,FL,FI,FM,He,Hg,Hc,FC,Fz,GA,GZ,Ge,Ib,Le,KT,KQ,KP,KR,KS,Hd,Hf,KN,KJ,KL,KM,KI,K5,Cx,Cy,Cr,Ck,Cn,Cl,Cm,Cq,Cs,CU,CR,CQ,CS,CE,CF,CG,CI,CO,CN,CZ,CY,CW,DX,DP,DV,Dq,DB,Dz,En,Dx,Dp,Dm,Dy,t 0,t 1,t 2,t 3,t 4,t 5,t 6,t 7,t 8,Dr,EM,E3,Fe,Fc,E6,Fb,E9,Fa,E4,E1,E7,E5,E8,Fq,Fs,Gd,GO,GK,Gc,Gj,Gu,GE,GT,Gb,G3,Gh,F9,G0,Gz,GL,Fu,Ft,GM,Gf,Gq,FT,Ga,G4,FU,G5,GC,GS,GQ,GG,Jo,Jy,Jl,Hx,Gp,GI,JV,IV,H6,H9,IU,Iu,Ir,Kl,Jk,Hn,Kc,IS,Gv,GH,Hj,I0,ID,JU,J5,Ii,IK,Ig,IQ,IM,Jw,Hr,GD,Gt,JR,Ko,HJ,Hk,JJ,I6,J4,Ji,Kx,Hu,Jb,Kz,Jr,Jg,Ja,IG,Jd,IX,GV,Gm,Jc,I9,It,JO,I7,Kv,I1,JF,I3,Kf,Gr,GU,Jf,Ip,Jh,Kd,Ik,JM,Ka,Iv,Kq,Iz,Ho,GR,GN,Ki,In,IT,H7,Hl,II,IA,Hv,Jm,Kh,IW,KA,FW,GP,H5,JZ,Jp,Jv,Ht,Io,HZ,Ku,JI,JY,JS,J3,FX,Gw,Kn,J1,JE,Kj,Jq,JC,Ju,J8,IF,JN,JB,Jn,Hy,JG,Km,IY,JD,IC,JL,IE,GJ,Gy,JQ,J2,J9,Hp,JH,Jt,IB,Jj,Ia,Kw,JW,FY,Gn,Gl,Gs,GB,GF,Gk,GX,JK,Ie,IH,IR,KC,Hi,Kt,Im,Jz,Kg,Ic,Gi,GY,IL,KD,H8,J6,IZ,Is,Ij,J0,Ky,JP,Iw,Kr,IJ,JX,J7,JA,Ks,Hq,I2,Iq,I8,I5,Hz,KB,IP,Ih,If,IN,Iy,Gx,FR,I4,Hw,Js,Ke,Hm,Il,KE,JT,Hs,Je,Gg])(Q:Exit->Act->World->Prop)(hQ:∀(t:Nat->Value)(i:Int)(pz:Nat)(X0:World),-1000001<=i/\i<=1000001->Ay (λq=>q=R) W X0->p<=pz->pz<=p+9->Rd X0 R ad nn cap pz->Q .normal ⟨mk t,[]⟩ (X0.setCell ⟨T,0,none⟩ (.i i))):Code.wp prog (rg Tryz.f40 28) Q ⟨mk t0,[]⟩ W:=by
 have hRW:=hr.lt;refine Hb Ze 9 1 (λj=>match j with|_=>9) mk t0 R ad nn cap p (bC R T x g1 g2 a3 d1 d2 d3 o h y z ah bh ch eh W) (λa X=>∃(t:Nat->Value)(i:Int)(pz:Nat)(X0:World),a=⟨mk t,[]⟩/\X=(X0.setCell ⟨T,0,none⟩ (.i i))/\(-1000001<=i/\i<=1000001)/\Ay (λq=>q=R) W X0/\p<=pz/\pz<=p+9/\Rd X0 R ad nn cap pz) Ze Ze Ze ?_ rfl hr ?_ ?_ ?_;all_goals subst hmk
 .intro i v X Z p' hi h hF hRd hR hX;rcases(show i=0\/i=1\/i=2\/i=3\/i=4\/i=5\/i=6\/i=7\/i=8 by omega)with rfl|rfl|rfl|rfl|rfl|rfl|rfl|rfl|rfl;.exact h
  .exact h
  .exact h
  .obtain⟨g,e,y1,y2,y3⟩:=h;exact⟨g,e,y1,Ad y2 hF.size,λk hk=>by obtain⟨i,y4,y5⟩:=y3 k hk;exact⟨i,(hF.cell (p:=⟨g,k,none⟩) y2 (λq=>by have q:g=R:=q;omega)).trans y4,y5⟩⟩
  .exact h
  .exact h
  .obtain⟨g,k,i,e,y1,y2,y3,y4⟩:=h;exact⟨g,k,i,e,⟨y1.1,Ad y1.2 hF.size⟩,(hF.cell (p:=⟨g,k,none⟩) y1.2 (λq=>by have q:g=R:=q;omega)).trans y2,y3,y4⟩
  .exact h
  .exact h
 .intro i hi t X K p' hb hp1 hp2 hrd hg hK;rcases(show i=0\/i=1\/i=2\/i=3\/i=4\/i=5\/i=6\/i=7\/i=8 by omega)with rfl|rfl|rfl|rfl|rfl|rfl|rfl|rfl|rfl;.have h:=hK (.p T 0) X p' AQ Za rfl (Ay.refl _ _) hrd;exact Ri
  .have eq0:t 0=.p T 0:=hg 0 (AZ rfl);have q:=(hb.cell (p:=⟨T,0,none⟩) H.lt H.ne).trans (H.row.cell 0 Zb);simp only[AW,Aa,]at q;have h:=hK (.i x.now) X p' AQ Za rfl (Ay.refl _ _) hrd;refine Ah rfl rfl ?_;clear hK hg;go_simp;simpa[AA,eq0]using h
  .have eq1:t 1=.i x.now:=hg 1 (AZ rfl);have eq1b:=H.bn;have hw:=AK (x.now+1) ⟨Za,Za⟩;have h:=hK (.i (x.now+1)) X p' AQ Za ⟨_,rfl,Za,Za⟩ (Ay.refl _ _) hrd;refine Ah rfl rfl ?_;clear hK hg;go_simp;simpa[AA,eq1,hw]using h
  .obtain⟨i2,eq2,eq21,eq22⟩:∃i:Int,t 2=.i i/\-1000001<=i/\i<=1000001:=hg 2 (AZ rfl);have h:=hK (.l (some ⟨X.1.size,0,none⟩) 3 3) (X.alloc (.cells #[.i (-1),.i i2,.i 1000001] 3)) p' AQ Za ⟨X.1.size,rfl,hb.size,Zc,λk hk=>by rw[Al X #[.i (-1),.i i2,.i 1000001] 3 k];rcases(show k=0\/k=1\/k=2 by omega)with rfl|rfl|rfl;all_goals exact⟨_,rfl,Za,Za⟩⟩ (Ar ET) (hrd.below ET);refine Ah rfl rfl ?_;clear hK hg;go_simp;simpa[AA,eq2]using h
  .have h:=hK (.p R 0) X p' AQ Za rfl (Ay.refl _ _) hrd;exact Ri
  .have eq4:t 4=.p R 0:=hg 4 (AZ rfl);refine Ah rfl rfl ?_;have HK:=Aj hK;have HR:=Aj hrd;clear hK hg hrd;go_simp;go_at_call 15;refine(Bj R ad nn cap p' 3 X HR Za Zb Zb).mono ?_;rintro r Z ⟨k,rfl,_,hv,hf,hr2⟩;have h:=HK (.i k) Z (p'+1) Za AQ ⟨k,by have:=hv Zb;omega,rfl⟩ hf hr2;simpa[AA,eq4]using h
  .obtain⟨g,eq3,y1,y2,y3⟩:∃g:Nat,t 3=.l (some ⟨g,0,none⟩) 3 3/\W.1.size<=g/\g<X.1.size/\∀k,k<3->∃i:Int,X.cell? ⟨g,k,none⟩=some (.i i)/\-1000001<=i/\i<=1000001:=hg 3 (AZ rfl);obtain⟨k,hk,eq5⟩:∃k:Nat,k<3/\t 5=.i k:=hg 5 (AZ rfl);obtain⟨i,y4,y5,y6⟩:=y3 k hk;have h:=hK (.pointer (some ⟨g,k,none⟩)) X p' AQ Za ⟨g,k,i,rfl,⟨y1,y2⟩,y4,trivial,y5,y6⟩ (Ay.refl _ _) hrd;refine Ah rfl rfl ?_;clear hK hg;go_simp;rw[if_pos Za,AM];go_simp;simpa[AA,eq3,eq5]using h
  .obtain⟨g,k,i,eq6,y1,y2,y3,y4⟩:∃(g k:Nat)(i:Int),t 6=.pointer (some ⟨g,k,none⟩)/\(W.1.size<=g/\g<X.1.size)/\X.cell? ⟨g,k,none⟩=some (.i i)/\True/\(-1000001<=i/\i<=1000001):=hg 6 (AZ rfl);have h:=hK (.i i) X p' AQ Za ⟨i,rfl,y4.1,y4.2⟩ (Ay.refl _ _) hrd;refine Ah rfl rfl ?_;clear hK hg;go_simp;simpa[AA,eq6]using h
  .have h:=hK (.p T 0) X p' AQ Za rfl (Ay.refl _ _) hrd;exact Ri
 .intro t X K p' hb hp1 hp2 hrd hg hK;have eq8:t 8=.p T 0:=hg 8 Za;obtain⟨i,eq7,y1,y2⟩:∃i:Int,t 7=.i i/\-1000001<=i/\i<=1000001:=hg 7 Za;have q:=(hb.cell (p:=⟨T,0,none⟩) H.lt H.ne).trans (H.row.cell 0 Zb);have q2:=(hb.frozen (p:=⟨T,0,none⟩) H.lt H.ne).trans (H.row.free _);simp only[AW,Aa,]at q;have h:=hK _ _ ⟨t,i,p',X,rfl,rfl,⟨y1,y2⟩,hb,hp1,Za,hrd⟩;have HK:=Aj h;clear hK hg h;refine Ah rfl rfl ?_;go_simp;simpa[eq8,eq7]using HK.out
 .rintro a X ⟨t,i,pz,X0,rfl,rfl,z2,z3,z4,z5,z6⟩;exact hQ t i pz X0 z2 z3 z4 z5 z6
end Go.Proofs.YtnnjcenacidceaaGreat
