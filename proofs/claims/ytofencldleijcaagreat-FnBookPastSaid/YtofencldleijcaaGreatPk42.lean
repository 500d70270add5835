import Derived.Test.YtofencldleijcaaGreatPk36
import Derived.Test.YtofencldleijcaaGreatPk41
import Derived.Test.YtofencldleijcaaGreatPk25
set_option maxRecDepth 100000
set_option maxHeartbeats 4000000
namespace Go.Proofs.YtofencldleijcaaGreat
open Go.RowKit Go.Maps Go.Proofs.Tryz
theorem MK{s:ByteArray}(h:By s=true):(s.size:Int)<=140737488355328:=by unfold By at h;rw[Ak]at h;have:=IT h.1;omega
theorem OH{x:Ob}{now:Int}(h:Bh x now=true)(hn:now<=1000000):DD x:=by simp only[Bh,DP,Ak,decide_eq_true_eq]at h;obtain⟨h1,h2,h3,h4,h5,h6,h7⟩:=h;have v:=IT h3;exact⟨MK h1,MK h2,Zb,Zb,λi hi=>MK (LV h7 i hi),J2 Zb Zb⟩
theorem S4{B:Bk}(h:VB B):Dm B:=by
 have ht:=h.ti;simp only[Gg,Ak,decide_eq_true_eq,AC]at ht;refine⟨by have:=h.on;omega,by have:=h.hn;omega,Zb,λi hi=>OH (h.fit i hi).1 h.n2,λi hi=>?_,λi hi=>?_⟩;.have:=h.chg i hi;simp only[E5,Ak]at this;exact OH this.2.1 h.n2
 .have:=ht.2.2 i hi;simp only[JK,Ak,decide_eq_true_eq]at this;exact⟨MK this.1,Zb⟩
theorem VC{x:Bk}{j:Nat}(h:VB (G6 x j))(hj:j<x.hn):G6 x (j+1)=D1 (G6 x j):=by
 have h0:0<(G6 x j).hn:=by show 0<x.hn-j;omega
 have hv:=h.ver 0 h0;have e1:(G6 x (j+1)).floor=(D1 (G6 x j)).floor:=by show x.floor+((j+1:Nat):Int)=((G6 x j).hs 0).ver;rw[hv];show _=x.floor+(j:Int)+1+((0:Nat):Int);omega
 have e2:(G6 x (j+1)).hn=(D1 (G6 x j)).hn:=by show x.hn-(j+1)=x.hn-j-1;omega
 have e3:(G6 x (j+1)).hs=(D1 (G6 x j)).hs:=by funext i;show x.hs (i+(j+1))=x.hs (i+1+j);congr 1;omega
 show(⟨x.now,(G6 x (j+1)).floor,x.on,x.os,(G6 x (j+1)).hn,(G6 x (j+1)).hs,x.tn,x.ts⟩:Bk)=⟨x.now,(D1 (G6 x j)).floor,x.on,x.os,(D1 (G6 x j)).hn,(D1 (G6 x j)).hs,x.tn,x.ts⟩;rw[e1,e2,e3]
theorem Ub{x:Bk}(h:VB x):∀j,j<=x.hn->VB (G6 x j)
 |0,_=>by
  have e:G6 x 0=x:=by unfold G6;simp
  rw[e];exact h
 |j+1,hj=>by have ih:=Ub h j Zb;rw[VC ih Zb];exact PO ih (by show 0<x.hn-j;omega)
theorem ZT{x:Bk}(h:VB x)(fl:Int):VB (Yq x fl):=by unfold Yq;rw[if_pos (I6 h)];refine Ub h _ ?_;unfold cN;have h1:=h.hnow;omega
def rG (w:World)(e:Ending)(w':World):Prop:=Below w.1.size w w'/\∃(Y:Bk)(b1 b2 b3:OA)(e1 e2 e3:Nat),e=.returned (.agg (vB Y b1 b2 b3 e1 e2 e3))/\EZ w' Y b1 b2 b3 e3
theorem aR (B:Bk)(a1 a2 a3:OA)(c1 c2 c3:Nat)(fl:Int)(w:World)(hb:EZ w B a1 a2 a3 c3):Calls prog 35 #[.agg (vB B a1 a2 a3 c1 c2 c3),.i fl] w λe w'=>rG w e w':=by have ht:B.tn<=50:=Uc (I6 hb.v);refine(UJ B a1 a2 a3 c1 c2 c3 fl _ rfl w 0 w.1.size Bg (by have:=hb.v.on;omega) (by have:=hb.v.hn;omega) Zb hb.f hb.i).mono ?_;rintro e w' ⟨b1,b2,b3,d1,d2,d3,rfl,hin,hc,hB⟩;have hv:=ZT hb.v fl;exact⟨hB,_,b1,b2,b3,d1,d2,d3,rfl,hv,S4 hv,hin.lo0,hc⟩
theorem Qq (B:Bk)(a1 a2 a3:OA)(c1 c2 c3:Nat)(w:World)(hb:EZ w B a1 a2 a3 c3):Calls prog 16 #[.agg (vB B a1 a2 a3 c1 c2 c3)] w λe w'=>Below w.1.size w w'/\∃(b1 b2 b3:OA)(e1 e2 e3:Nat),e=.returned (.agg (vB B b1 b2 b3 e1 e2 e3))/\B7 w' w.1.size w'.1.size B b1 b2 b3/\E4 w' B.tn b3 e3:=by have ht:B.tn<=50:=Uc (I6 hb.v);refine(NS B a1 a2 a3 c1 c2 c3 w 0 w.1.size Bg (by have:=hb.v.on;omega) (by have:=hb.v.hn;omega) Zb hb.f hb.i).mono ?_;rintro e w' ⟨b1,b2,b3,d1,d2,d3,rfl,hin,⟨_,hc⟩,hB⟩;exact⟨hB,b1,b2,b3,d1,d2,d3,rfl,hin,hc⟩
def rA (w:World)(e:Ending)(w':World):Prop:=Below w.1.size w w'/\∃(Y:Bk)(b1 b2 b3:OA)(e1 e2 e3:Nat)(u:Value),e=.returned (.tuple #[.agg (vB Y b1 b2 b3 e1 e2 e3),u])/\EZ w' Y b1 b2 b3 e3
theorem ZP (B:Bk)(c:Ca)(a1 a2 a3:OA)(c1 c2 c3:Nat)(u1 u2:OA)(d1 d2:Nat)(w:World)(hb:EZ w B a1 a2 a3 c3)(hn:(c.client.size:Int)<=140737488355328)(hu:RH c.bu)(hbu:Fl w 0 w.1.size c.bu u1 u2):Calls prog 36 #[.agg (vB B a1 a2 a3 c1 c2 c3),.agg (vC c u1 u2 d1 d2)] w λe w'=>rA w e w':=by refine(U5 B c a1 a2 a3 c1 c2 c3 u1 u2 d1 d2 w hb.f ⟨hn,hu.fit,hu.int⟩ hb.i hbu (I6 hb.v) hb.c).mono ?_;rintro e w' ⟨hB,b1,b2,b3,e1,e2,e3,rfl,hin,hc⟩;have hv:=fS (c:=c) hb.f hb.v hu.fit;exact⟨hB,_,b1,b2,b3,e1,e2,e3,_,rfl,hv,S4 hv,hin,hc⟩
end Go.Proofs.YtofencldleijcaaGreat
namespace Go.Proofs.YtofencldleijcaaGreat
open Go.RowKit Go.Proofs.Tryz
def Vn:List ByteArray:=[⟨#[97,110,110]⟩,⟨#[98,111,98]⟩,⟨#[99,121]⟩]
theorem fA{s:ByteArray}(h:s∈Vn):(s.size:Int)<=140737488355328:=by simp only[Vn,CD,List.not_mem_nil,or_false]at h;rcases h with rfl|rfl|rfl<;>decide
theorem nX (w:World):G7 (w.alloc (.cells #[.int .i64 0,.int .i64 0,.int .i64 0,.slice none 0 0,.slice none 0 0,.slice none 0 0,.int .i64 0] 33)) w.1.size:=λj s e=>by rw[Ao w #[.int .i64 0,.int .i64 0,.int .i64 0,.slice none 0 0,.slice none 0 0,.slice none 0 0,.int .i64 0] 33 j]at e;match j,e with
 |0,e=>cases e
 |1,e=>cases e
 |2,e=>cases e
 |3,e=>cases e
 |4,e=>cases e
 |5,e=>cases e
 |6,e=>cases e
 |n+7,e=>simp at e
theorem Fl.pick{X Y:World}{R:Nat}{x:Bu}{u1 u2:OA}(h:Fl X 0 X.1.size x u1 u2)(hf:AB (λq=>q=R) X Y)(hn:∀j s,¬X.cell? ⟨R,j,none⟩=some (.string s)):Fl Y 0 Y.1.size x u1 u2:=by
 refine⟨λi hi=>?_,λi hi=>?_⟩;.obtain⟨b,off,e1,e2,e3,e4⟩:=h.wt i hi;have e:∀j,Y.cell? ⟨b,j,none⟩=X.cell? ⟨b,j,none⟩:=λj=>hf.cell (p:=⟨b,j,none⟩) e3 (λq=>hn _ _ (show X.cell? ⟨R,off+i*3,none⟩=_ from(show b=R from q)▸e4.c0));exact⟨b,off,e1,e2,Ad e3 hf.size,⟨(e _).trans e4.c0,(e _).trans e4.c1,(e _).trans e4.c2⟩⟩
 .obtain⟨b,off,e1,e2,e3,e4⟩:=h.wr i hi;have e:∀j,Y.cell? ⟨b,j,none⟩=X.cell? ⟨b,j,none⟩:=λj=>hf.cell (p:=⟨b,j,none⟩) e3 (λq=>hn _ _ (show X.cell? ⟨R,off+i*6+1,none⟩=_ from(show b=R from q)▸e4.c1));exact⟨b,off,e1,e2,Ad e3 hf.size,⟨(e _).trans e4.c0,(e _).trans e4.c1,(e _).trans e4.c2,(e _).trans e4.c3,(e _).trans e4.c4,(e _).trans e4.c5⟩⟩
def aV (R:Nat)(_Bb:Nat)(Y:Bk)(b1 b2 b3:OA)(k1 k2 k3:Nat)(W:World)(i:Nat)(v:Value)(X:World):Prop:=match i with
 |0=>v=.agg #[.int .i64 Y.now,.int .i64 Y.floor,.slice b1 Y.on k1,.slice b2 Y.hn k2,.slice b3 Y.tn k3]
 |1=>v=.pointer (some ⟨R,0,none⟩)
 |2=>v=.agg #[.int .i64 Y.now,.int .i64 Y.floor,.slice b1 Y.on k1,.slice b2 Y.hn k2,.slice b3 Y.tn k3]
 |3=>∃y:Wr,v=.agg #[.int .i64 y.op,.string y.kind,.string y.name,.int .i64 y.seen,.string y.text,.string y.hold]/\OE y
 |4=>∃(cd:Int)(V:Bk)(f1 f2 f3:OA)(h1 h2 h3:Nat)(ve:Int),v=.agg #[.int .i64 cd,.int .i64 V.now,.int .i64 V.floor,.slice f1 V.on h1,.slice f2 V.hn h2,.slice f3 V.tn h3,.int .i64 ve]/\EZ X V f1 f2 f3 h3
 |5=>∃z:Nat,v=.pointer (some ⟨z,0,none⟩)/\W.1.size<=z/\AM X z 7 (A7 [.int .i64 0,.int .i64 0,.int .i64 0,.slice none 0 0,.slice none 0 0,.slice none 0 0,.int .i64 0])/\G7 X z
 |_=>True
theorem ND{P:Prop}(h:P:=by have q0:=(hb.cell (p:=⟨Bb,0,none⟩) hBb hBR).trans (hrow.cell 0 Za);have q1:=(hb.cell (p:=⟨Bb,1,none⟩) hBb hBR).trans (hrow.cell 1 Za);have q2:=(hb.cell (p:=⟨Bb,2,none⟩) hBb hBR).trans (hrow.cell 2 Za);have q3:=(hb.cell (p:=⟨Bb,3,none⟩) hBb hBR).trans (hrow.cell 3 Za);have q4:=(hb.cell (p:=⟨Bb,4,none⟩) hBb hBR).trans (hrow.cell 4 Za);simp only[A7,Ae,Af]at q0 q1 q2 q3 q4;have h:=hK (.agg #[.int .i64 Y.now,.int .i64 Y.floor,.slice b1 Y.on k1,.slice b2 Y.hn k2,.slice b3 Y.tn k3]) X p' Bg Zb rfl (AB.refl _ _) hrd;refine Ar rfl rfl ?_;clear hK hg;go_simp;simpa[AN]using h):P:=h
theorem LF{P:Prop}(h:P:=by have h:=hK (.pointer (some ⟨R,0,none⟩)) X p' Bg Zb rfl (AB.refl _ _) hrd;refine Ar rfl rfl ?_;clear hK hg;go_simp;simpa[AN]using h):P:=h
theorem eT{p1 p2 p4 p6 p7 p8 p9 DA Du DC Dx Da CY CV CX CW CR C6 Db C9 C7 Dj Dg Df Dk Dh De Dt Di Dy DB EF EI EK EL EJ EE Ej Ei EA EB Ew Ex EW FU FW FV FC FA Fz FT Fx Hl Hm Hn Hk Hj GL GN GX GT GY GP GZ GV GQ GS GR G4 IA It Iu GU GO G3 GM G5 Ic:Value}{mk:(Nat->Value)->Array Value}(t0:Nat->Value)(R:Nat)(ad:OA)(nn cap p:Nat)(Bb:Nat)(Y:Bk)(b1 b2 b3:OA)(k1 k2 k3:Nat)(W:World)(hr:Rd W R ad nn cap p)(hp:p<=600000)(hBb:Bb<W.1.size)(hBR:¬Bb=R)(hrow:AM W Bb 5 (A7 [.int .i64 Y.now,.int .i64 Y.floor,.slice b1 Y.on k1,.slice b2 Y.hn k2,.slice b3 Y.tn k3]))(hY:EZ W Y b1 b2 b3 k3)(hmk:mk=λt=>#[.pointer (some ⟨R,0,none⟩),p1,p2,.pointer (some ⟨Bb,0,none⟩),p4,t 5,p6,p7,p8,p9,DA,Du,DC,Dx,Da,CY,CV,CX,CW,CR,t 0,t 1,t 2,t 3,t 4,C6,Db,C9,C7,Dj,Dg,Df,Dk,Dh,De,Dt,Di,Dy,DB,EF,EI,EK,EL,EJ,EE,Ej,Ei,EA,EB,Ew,Ex,EW,FU,FW,FV,FC,FA,Fz,FT,Fx,Hl,Hm,Hn,Hk,Hj,GL,GN,GX,GT,GY,GP,GZ,GV,GQ,GS,GR,G4,IA,It,Iu,GU,GO,G3,GM,G5,Ic])(Q:Exit->Act->World->Prop)(hQ:∀(t:Nat->Value)(z:Nat)(cd:Int)(V:Bk)(f1 f2 f3:OA)(h1 h2 h3:Nat)(ve:Int)(pz:Nat) X,t 5=.pointer (some ⟨z,0,none⟩)->W.1.size<=z->AM X z 7 (A7 [.int .i64 cd,.int .i64 V.now,.int .i64 V.floor,.slice f1 V.on h1,.slice f2 V.hn h2,.slice f3 V.tn h3,.int .i64 ve])->EZ X V f1 f2 f3 h3->AB (λq=>q=R) W X->p<=pz->pz<=p+360->Rd X R ad nn cap pz->Q .normal ⟨mk t,[]⟩ X):Code.wp prog (rg Tryz.f11 6) Q ⟨mk t0,[]⟩ W:=by
 have hRW:=hr.lt;refine Nt Ze 6 11 60 mk t0 R ad nn cap p (aV R Bb Y b1 b2 b3 k1 k2 k3 W) (λa X=>∃(t:Nat->Value)(z:Nat)(cd:Int)(V:Bk)(f1 f2 f3:OA)(h1 h2 h3:Nat)(ve:Int)(pz:Nat),a=⟨mk t,[]⟩/\t 5=.pointer (some ⟨z,0,none⟩)/\W.1.size<=z/\AM X z 7 (A7 [.int .i64 cd,.int .i64 V.now,.int .i64 V.floor,.slice f1 V.on h1,.slice f2 V.hn h2,.slice f3 V.tn h3,.int .i64 ve])/\EZ X V f1 f2 f3 h3/\AB (λq=>q=R) W X/\p<=pz/\pz<=p+360/\Rd X R ad nn cap pz) Ze Ze Ze ?_ rfl hr ?_ ?_ ?_ ?_;all_goals subst hmk
 .intro i v X Z p' hi h hF hRd hR hX;rcases(show i=0\/i=1\/i=2\/i=3\/i=4\/i=5 by omega)with rfl|rfl|rfl|rfl|rfl|rfl;.exact h
  .exact h
  .exact h
  .exact h
  .obtain⟨cd,V,f1,f2,f3,h1,h2,h3,ve,e,hV⟩:=h;exact⟨cd,V,f1,f2,f3,h1,h2,h3,ve,e,hV.pick hF hRd.ns⟩
  .obtain⟨z,e,z1,z2,z3⟩:=h;exact⟨z,e,z1,z2.fr2 hF Zb,z3.fr hF z2.lt Zb⟩
 .intro i hi t X K p' hb hp1 hp2 hrd hg hK;rcases(show i=0\/i=1\/i=2\/i=3\/i=4\/i=5 by omega)with rfl|rfl|rfl|rfl|rfl|rfl;.exact ND
  .exact LF
  .exact ND
  .have g1:t 1=.pointer (some ⟨R,0,none⟩):=hg 1 (BB rfl);have g2:t 2=.agg #[.int .i64 Y.now,.int .i64 Y.floor,.slice b1 Y.on k1,.slice b2 Y.hn k2,.slice b3 Y.tn k3]:=hg 2 (BB rfl);have HY:=Ag (hY.pick hb hr.ns);refine Ar rfl rfl ?_;have HK:=Ag hK;have HR:=Ag hrd;clear hK hg hrd;go_simp;go_at_call 13;refine(Kw Y R ad nn cap p' b1 b2 b3 k1 k2 k3 X HR Zb HY.f (Nk HY.v).1 (Nk HY.v).2 HY.i).mono ?_;rintro r Z ⟨y,rfl,hy,hf,q3,z1,z2,hr2⟩;have h:=HK (.agg #[.int .i64 y.op,.string y.kind,.string y.name,.int .i64 y.seen,.string y.text,.string y.hold]) Z q3 z1 Zb ⟨y,rfl,hy⟩ hf hr2;simpa[AN,g1,g2]using h
  .have g0:t 0=.agg #[.int .i64 Y.now,.int .i64 Y.floor,.slice b1 Y.on k1,.slice b2 Y.hn k2,.slice b3 Y.tn k3]:=hg 0 (BB rfl);obtain⟨y,g3,hy⟩:∃y:Wr,t 3=.agg #[.int .i64 y.op,.string y.kind,.string y.name,.int .i64 y.seen,.string y.text,.string y.hold]/\OE y:=hg 3 (BB rfl);have HY:=Ag (hY.pick hb hr.ns);refine Ar rfl rfl ?_;have HK:=Ag hK;have HR:=Ag hrd;clear hK hg hrd;go_simp;go_at_call 14;refine(NF Y y b1 b2 b3 k1 k2 k3 X HY hy).mono ?_;rintro r Z ⟨hbZ,cd,V,f1,f2,f3,h1,h2,h3,ve,rfl,hV⟩;have h:=HK (.agg #[.int .i64 cd,.int .i64 V.now,.int .i64 V.floor,.slice f1 V.on h1,.slice f2 V.hn h2,.slice f3 V.tn h3,.int .i64 ve]) Z p' Bg Zb ⟨cd,V,f1,f2,f3,h1,h2,h3,ve,rfl,hV⟩ (Ap hbZ) (HR.below hbZ);simpa[AN,g0,g3]using h
  .have h:=hK (.pointer (some ⟨X.1.size,0,none⟩)) (X.alloc (.cells #[.int .i64 0,.int .i64 0,.int .i64 0,.slice none 0 0,.slice none 0 0,.slice none 0 0,.int .i64 0] 33)) p' Bg Zb ⟨X.1.size,rfl,hb.size,AM.new (l:=[.int .i64 0,.int .i64 0,.int .i64 0,.slice none 0 0,.slice none 0 0,.slice none 0 0,.int .i64 0]) (t:=33) Ck,nX X⟩ (Ap EC) (hrd.below EC);refine Ar rfl rfl ?_;clear hK hg;go_simp;simpa[AN]using h
 .intro t X K p' hb hp1 hp2 hrd hg hK;obtain⟨cd,V,f1,f2,f3,h1,h2,h3,ve,g4,hV⟩:∃(cd:Int)(V:Bk)(f1 f2 f3:OA)(h1 h2 h3:Nat)(ve:Int),t 4=.agg #[.int .i64 cd,.int .i64 V.now,.int .i64 V.floor,.slice f1 V.on h1,.slice f2 V.hn h2,.slice f3 V.tn h3,.int .i64 ve]/\EZ X V f1 f2 f3 h3:=hg 4 Zb Zb;obtain⟨z,g5,hz,hrow7,hnz⟩:∃z:Nat,t 5=.pointer (some ⟨z,0,none⟩)/\W.1.size<=z/\AM X z 7 (A7 [.int .i64 0,.int .i64 0,.int .i64 0,.slice none 0 0,.slice none 0 0,.slice none 0 0,.int .i64 0])/\G7 X z:=hg 5 Zb Zb;have rf:=hrow7.free;have rl:=hrow7.lt;obtain⟨r0,r1,r2,r3,r4,r5,r6⟩:=lN hrow7;have R6:=(((((((hrow7.set (o:=0) Zb (.int .i64 cd)).set (o:=1) Zb (.int .i64 V.now)).set (o:=2) Zb (.int .i64 V.floor)).set (o:=3) Zb (.slice f1 V.on h1)).set (o:=4) Zb (.slice f2 V.hn h2)).set (o:=5) Zb (.slice f3 V.tn h3)).set (o:=6) Zb (.int .i64 ve));have F6:=hb.far7 (z:=z) hz (.int .i64 cd) (.int .i64 V.now) (.int .i64 V.floor) (.slice f1 V.on h1) (.slice f2 V.hn h2) (.slice f3 V.tn h3) (.int .i64 ve);have D6:=hr.far7 hrd (z:=z) hz (.int .i64 cd) (.int .i64 V.now) (.int .i64 V.floor) (.slice f1 V.on h1) (.slice f2 V.hn h2) (.slice f3 V.tn h3) (.int .i64 ve);have B6:=hV.pick ((((((((AB.refl (λq=>q=z) X).setCell (p:=⟨z,0,none⟩) rfl (.int .i64 cd)).setCell (p:=⟨z,1,none⟩) rfl (.int .i64 V.now)).setCell (p:=⟨z,2,none⟩) rfl (.int .i64 V.floor)).setCell (p:=⟨z,3,none⟩) rfl (.slice f1 V.on h1)).setCell (p:=⟨z,4,none⟩) rfl (.slice f2 V.hn h2)).setCell (p:=⟨z,5,none⟩) rfl (.slice f3 V.tn h3)).setCell (p:=⟨z,6,none⟩) rfl (.int .i64 ve)) hnz;have h:=hK _ _ ⟨t,z,cd,V,f1,f2,f3,h1,h2,h3,ve,p',rfl,g5,hz,⟨R6.lt,R6.free,λj hj=>by rw[R6.cell j hj];rcases(show j=0\/j=1\/j=2\/j=3\/j=4\/j=5\/j=6 by omega)with rfl|rfl|rfl|rfl|rfl|rfl|rfl<;>rfl⟩,B6,F6,hp1,Zb,D6⟩;have HK:=Ag h;clear hK hg hrow7 h R6 F6 D6 B6;refine Ar rfl rfl ?_;go_simp;simpa[g4,g5]using HK.out
 .intro h;omega
 .rintro a X ⟨t,z,cd,V,f1,f2,f3,h1,h2,h3,ve,pz,rfl,z1,z2,z3,z4,z5,z6,z7,z8⟩;exact hQ t z cd V f1 f2 f3 h1 h2 h3 ve pz X z1 z2 z3 z4 z5 z6 z7 z8
def Z0 (R:Nat)(Bb:Nat)(Y:Bk)(b1 b2 b3:OA)(k1 k2 k3:Nat)(_W:World)(i:Nat)(v:Value)(X:World):Prop:=match i with
 |0=>v=.agg #[.int .i64 Y.now,.int .i64 Y.floor,.slice b1 Y.on k1,.slice b2 Y.hn k2,.slice b3 Y.tn k3]
 |1=>v=.pointer (some ⟨Bb,1,none⟩)
 |2=>v=.int .i64 Y.floor
 |3=>v=.pointer (some ⟨R,0,none⟩)
 |4=>∃k:Nat,k<4/\v=.int .i64 k
 |5=>∃fl:Int,v=.int .i64 fl
 |6=>∃(V:Bk)(f1 f2 f3:OA)(h1 h2 h3:Nat),v=.agg #[.int .i64 V.now,.int .i64 V.floor,.slice f1 V.on h1,.slice f2 V.hn h2,.slice f3 V.tn h3]/\EZ X V f1 f2 f3 h3
 |_=>True
theorem XN{P:Prop}(h:P:=by rintro r Z ⟨k,rfl,_,hv,hf,hr2⟩;have h:=HK (.int .i64 k) Z (p'+1) Zb Bg ⟨k,by have:=hv Za;omega,rfl⟩ hf hr2;simpa[AN,g3]using h):P:=h
theorem iJ{p1 p2 p4 p5 p6 p7 p8 p9 DA Du DC Dx Da CY CV CX CW CR C4 CU CS CQ Dl C6 Db C9 C7 Di Dy DB EF EI EK EL EJ EE Ej Ei EA EB Ew Ex EW FU FW FV FC FA Fz FT Fx Hl Hm Hn Hk Hj GL GN GX GT GY GP GZ GV GQ GS GR G4 IA It Iu GU GO G3 GM G5 Ic:Value}{mk:(Nat->Value)->Array Value}(t0:Nat->Value)(R:Nat)(ad:OA)(nn cap p:Nat)(Bb:Nat)(Y:Bk)(b1 b2 b3:OA)(k1 k2 k3:Nat)(W:World)(hr:Rd W R ad nn cap p)(hp:p<=600000)(hBb:Bb<W.1.size)(hBR:¬Bb=R)(hrow:AM W Bb 5 (A7 [.int .i64 Y.now,.int .i64 Y.floor,.slice b1 Y.on k1,.slice b2 Y.hn k2,.slice b3 Y.tn k3]))(hY:EZ W Y b1 b2 b3 k3)(hmk:mk=λt=>#[.pointer (some ⟨R,0,none⟩),p1,p2,.pointer (some ⟨Bb,0,none⟩),p4,p5,p6,p7,p8,p9,DA,Du,DC,Dx,Da,CY,CV,CX,CW,CR,C4,CU,CS,CQ,Dl,C6,Db,C9,C7,t 0,t 1,t 2,t 3,t 4,t 5,t 6,Di,Dy,DB,EF,EI,EK,EL,EJ,EE,Ej,Ei,EA,EB,Ew,Ex,EW,FU,FW,FV,FC,FA,Fz,FT,Fx,Hl,Hm,Hn,Hk,Hj,GL,GN,GX,GT,GY,GP,GZ,GV,GQ,GS,GR,G4,IA,It,Iu,GU,GO,G3,GM,G5,Ic])(Q:Exit->Act->World->Prop)(hQ:∀(t:Nat->Value)(V:Bk)(f1 f2 f3:OA)(h1 h2 h3:Nat)(pz:Nat)(X0 X:World),X=(((((X0.setCell ⟨Bb,0,none⟩ (.int .i64 V.now)).setCell ⟨Bb,1,none⟩ (.int .i64 V.floor)).setCell ⟨Bb,2,none⟩ (.slice f1 V.on h1)).setCell ⟨Bb,3,none⟩ (.slice f2 V.hn h2)).setCell ⟨Bb,4,none⟩ (.slice f3 V.tn h3))->EZ X0 V f1 f2 f3 h3->AB (λq=>q=R) W X0->p<=pz->pz<=p+7->Rd X0 R ad nn cap pz->Q .normal ⟨mk t,[]⟩ X):Code.wp prog (rg Tryz.f11 9) Q ⟨mk t0,[]⟩ W:=by
 have hRW:=hr.lt;refine Nt Ze 7 12 1 mk t0 R ad nn cap p (Z0 R Bb Y b1 b2 b3 k1 k2 k3 W) (λa X=>∃(t:Nat->Value)(V:Bk)(f1 f2 f3:OA)(h1 h2 h3:Nat)(pz:Nat)(X0:World),a=⟨mk t,[]⟩/\X=(((((X0.setCell ⟨Bb,0,none⟩ (.int .i64 V.now)).setCell ⟨Bb,1,none⟩ (.int .i64 V.floor)).setCell ⟨Bb,2,none⟩ (.slice f1 V.on h1)).setCell ⟨Bb,3,none⟩ (.slice f2 V.hn h2)).setCell ⟨Bb,4,none⟩ (.slice f3 V.tn h3))/\EZ X0 V f1 f2 f3 h3/\AB (λq=>q=R) W X0/\p<=pz/\pz<=p+7/\Rd X0 R ad nn cap pz) Ze Ze Ze ?_ rfl hr ?_ ?_ ?_ ?_;all_goals subst hmk
 .intro i v X Z p' hi h hF hRd hR hX;rcases(show i=0\/i=1\/i=2\/i=3\/i=4\/i=5\/i=6 by omega)with rfl|rfl|rfl|rfl|rfl|rfl|rfl;.exact h
  .exact h
  .exact h
  .exact h
  .exact h
  .exact h
  .obtain⟨V,f1,f2,f3,h1,h2,h3,e,hV⟩:=h;exact⟨V,f1,f2,f3,h1,h2,h3,e,hV.pick hF hRd.ns⟩
 .intro i hi t X K p' hb hp1 hp2 hrd hg hK;rcases(show i=0\/i=1\/i=2\/i=3\/i=4\/i=5\/i=6 by omega)with rfl|rfl|rfl|rfl|rfl|rfl|rfl;.exact ND
  .have h:=hK (.pointer (some ⟨Bb,1,none⟩)) X p' Bg Zb rfl (AB.refl _ _) hrd;refine Ar rfl rfl ?_;clear hK hg;go_simp;simpa[AN]using h
  .have g1:t 1=.pointer (some ⟨Bb,1,none⟩):=hg 1 (BB rfl);have q0:=(hb.cell (p:=⟨Bb,0,none⟩) hBb hBR).trans (hrow.cell 0 Za);have q1:=(hb.cell (p:=⟨Bb,1,none⟩) hBb hBR).trans (hrow.cell 1 Za);have q2:=(hb.cell (p:=⟨Bb,2,none⟩) hBb hBR).trans (hrow.cell 2 Za);have q3:=(hb.cell (p:=⟨Bb,3,none⟩) hBb hBR).trans (hrow.cell 3 Za);have q4:=(hb.cell (p:=⟨Bb,4,none⟩) hBb hBR).trans (hrow.cell 4 Za);simp only[A7,Ae,Af]at q0 q1 q2 q3 q4;have h:=hK (.int .i64 Y.floor) X p' Bg Zb rfl (AB.refl _ _) hrd;refine Ar rfl rfl ?_;clear hK hg;go_simp;simpa[AN,g1]using h
  .exact LF
  .have g3:t 3=.pointer (some ⟨R,0,none⟩):=hg 3 (BB rfl);refine Ar rfl rfl ?_;have HK:=Ag hK;have HR:=Ag hrd;clear hK hg hrd;go_simp;go_at_call 12;refine(BV R ad nn cap p' 4 X HR Zb Za Za).mono ?_;exact XN
  .have g2:t 2=.int .i64 Y.floor:=hg 2 (BB rfl);obtain⟨k,hk,g4⟩:∃k:Nat,k<4/\t 4=.int .i64 k:=hg 4 (BB rfl);have v0:=hY.v.n0;have v1:=hY.v.n1;have v2:=hY.v.n2;have hw:=AE (Y.floor+(k:Int)) ⟨Zb,Zb⟩;have h:=hK (.int .i64 (Y.floor+(k:Int))) X p' Bg Zb ⟨_,rfl⟩ (AB.refl _ _) hrd;refine Ar rfl rfl ?_;clear hK hg;go_simp;simpa[AN,g2,g4,hw]using h
  .have g0:t 0=.agg #[.int .i64 Y.now,.int .i64 Y.floor,.slice b1 Y.on k1,.slice b2 Y.hn k2,.slice b3 Y.tn k3]:=hg 0 (BB rfl);obtain⟨fl,g5⟩:∃fl:Int,t 5=.int .i64 fl:=hg 5 (BB rfl);have HY:=Ag (hY.pick hb hr.ns);refine Ar rfl rfl ?_;have HK:=Ag hK;have HR:=Ag hrd;clear hK hg hrd;go_simp;go_at_call 35;refine(aR Y b1 b2 b3 k1 k2 k3 fl X HY).mono ?_;rintro r Z ⟨hbZ,V,f1,f2,f3,h1,h2,h3,rfl,hV⟩;have h:=HK (.agg #[.int .i64 V.now,.int .i64 V.floor,.slice f1 V.on h1,.slice f2 V.hn h2,.slice f3 V.tn h3]) Z p' Bg Zb ⟨V,f1,f2,f3,h1,h2,h3,rfl,hV⟩ (Ap hbZ) (HR.below hbZ);simpa[AN,g0,g5]using h
 .intro t X K p' hb hp1 hp2 hrd hg hK;obtain⟨V,f1,f2,f3,h1,h2,h3,g6,hV⟩:∃(V:Bk)(f1 f2 f3:OA)(h1 h2 h3:Nat),t 6=.agg #[.int .i64 V.now,.int .i64 V.floor,.slice f1 V.on h1,.slice f2 V.hn h2,.slice f3 V.tn h3]/\EZ X V f1 f2 f3 h3:=hg 6 Zb Zb;have rw0:=hrow.fr hb (λe=>hBR e);have rf:=rw0.free;have rl:=rw0.lt;obtain⟨r0,r1,r2,r3,r4⟩:=VL rw0;have h:=hK _ _ ⟨t,V,f1,f2,f3,h1,h2,h3,p',X,rfl,rfl,hV,hb,hp1,Zb,hrd⟩;have HK:=Ag h;clear hK hg h rw0;refine Ar rfl rfl ?_;go_simp;simpa[g6]using HK.out
 .intro h;omega
 .rintro a X ⟨t,V,f1,f2,f3,h1,h2,h3,pz,X0,rfl,z1,z2,z3,z4,z5,z6⟩;exact hQ t V f1 f2 f3 h1 h2 h3 pz X0 X z1 z2 z3 z4 z5 z6
end Go.Proofs.YtofencldleijcaaGreat
namespace Go.Proofs.YtofencldleijcaaGreat
open Go.RowKit Go.Proofs.Tryz
def Xh (R:Nat)(_Bb:Nat)(Y:Bk)(b1 b2 b3:OA)(k1 k2 k3:Nat)(W:World)(i:Nat)(v:Value)(X:World):Prop:=match i with
 |0=>v=.agg #[.int .i64 Y.now,.int .i64 Y.floor,.slice b1 Y.on k1,.slice b2 Y.hn k2,.slice b3 Y.tn k3]
 |1=>SL X W.1.size v Vn
 |2=>v=.pointer (some ⟨R,0,none⟩)
 |3=>∃k:Nat,k<3/\v=.int .i64 k
 |4=>∃(g k:Nat)(s:ByteArray),v=.pointer (some ⟨g,k,none⟩)/\W.1.size<=g/\g<X.1.size/\s∈Vn/\X.cell? ⟨g,k,none⟩=some (.string s)
 |5=>∃s:ByteArray,s∈Vn/\v=.string s
 |6=>v=.pointer (some ⟨R,0,none⟩)
 |7=>∃k:Nat,k<6/\v=.int .i64 k
 |8=>∃k:Int,v=.int .i64 k
 |9=>v=.pointer (some ⟨R,0,none⟩)
 |10=>v=.agg #[.int .i64 Y.now,.int .i64 Y.floor,.slice b1 Y.on k1,.slice b2 Y.hn k2,.slice b3 Y.tn k3]
 |11=>∃(x:Bu)(u1 u2:OA)(d1 d2:Nat),v=.agg #[.slice u1 x.wn d1,.slice u2 x.rn d2]/\RH x/\Fl X 0 X.1.size x u1 u2
 |12=>∃(c:Ca)(u1 u2:OA)(d1 d2:Nat),v=.agg #[.string c.client,.int .i64 c.num,.slice u1 c.bu.wn d1,.slice u2 c.bu.rn d2]/\(c.client.size:Int)<=140737488355328/\RH c.bu/\Fl X 0 X.1.size c.bu u1 u2
 |13=>∃(V:Bk)(f1 f2 f3:OA)(h1 h2 h3:Nat)(u:Value),v=.tuple #[.agg #[.int .i64 V.now,.int .i64 V.floor,.slice f1 V.on h1,.slice f2 V.hn h2,.slice f3 V.tn h3],u]/\EZ X V f1 f2 f3 h3
 |14=>∃(V:Bk)(f1 f2 f3:OA)(h1 h2 h3:Nat)(u:Value),v=.tuple #[.agg #[.int .i64 V.now,.int .i64 V.floor,.slice f1 V.on h1,.slice f2 V.hn h2,.slice f3 V.tn h3],u]/\EZ X V f1 f2 f3 h3
 |15=>∃(V:Bk)(f1 f2 f3:OA)(h1 h2 h3:Nat),v=.agg #[.int .i64 V.now,.int .i64 V.floor,.slice f1 V.on h1,.slice f2 V.hn h2,.slice f3 V.tn h3]/\EZ X V f1 f2 f3 h3
 |16=>True
 |_=>True
theorem bJ{p1 p2 p4 p5 p6 p7 p8 p9 DA Du DC Dx Da CY CV CX CW CR C4 CU CS CQ Dl C6 Db C9 C7 Dj Dg Df Dk Dh De Dt Di Dy FC FA Fz FT Fx Hl Hm Hn Hk Hj GL GN GX GT GY GP GZ GV GQ GS GR G4 IA It Iu GU GO G3 GM G5 Ic:Value}{mk:(Nat->Value)->Array Value}(t0:Nat->Value)(R:Nat)(ad:OA)(nn cap p:Nat)(Bb:Nat)(Y:Bk)(b1 b2 b3:OA)(k1 k2 k3:Nat)(W:World)(hr:Rd W R ad nn cap p)(hp:p<=600000)(hBb:Bb<W.1.size)(hBR:¬Bb=R)(hrow:AM W Bb 5 (A7 [.int .i64 Y.now,.int .i64 Y.floor,.slice b1 Y.on k1,.slice b2 Y.hn k2,.slice b3 Y.tn k3]))(hY:EZ W Y b1 b2 b3 k3)(hmk:mk=λt=>#[.pointer (some ⟨R,0,none⟩),p1,p2,.pointer (some ⟨Bb,0,none⟩),p4,p5,p6,p7,p8,p9,DA,Du,DC,Dx,Da,CY,CV,CX,CW,CR,C4,CU,CS,CQ,Dl,C6,Db,C9,C7,Dj,Dg,Df,Dk,Dh,De,Dt,Di,Dy,t 14,t 0,t 1,t 2,t 3,t 4,t 5,t 6,t 7,t 8,t 9,t 10,t 11,t 12,t 13,t 15,t 16,FC,FA,Fz,FT,Fx,Hl,Hm,Hn,Hk,Hj,GL,GN,GX,GT,GY,GP,GZ,GV,GQ,GS,GR,G4,IA,It,Iu,GU,GO,G3,GM,G5,Ic])(Q:Exit->Act->World->Prop)(hQ:∀(t:Nat->Value)(V:Bk)(f1 f2 f3:OA)(h1 h2 h3:Nat)(pz:Nat)(X0 X:World),X=(((((X0.setCell ⟨Bb,0,none⟩ (.int .i64 V.now)).setCell ⟨Bb,1,none⟩ (.int .i64 V.floor)).setCell ⟨Bb,2,none⟩ (.slice f1 V.on h1)).setCell ⟨Bb,3,none⟩ (.slice f2 V.hn h2)).setCell ⟨Bb,4,none⟩ (.slice f3 V.tn h3))->EZ X0 V f1 f2 f3 h3->AB (λq=>q=R) W X0->p<=pz->pz<=p+6800->Rd X0 R ad nn cap pz->Q .normal ⟨mk t,[]⟩ X):Code.wp prog (rg Tryz.f11 11) Q ⟨mk t0,[]⟩ W:=by
 have hRW:=hr.lt;refine Nt Ze 17 16 400 mk t0 R ad nn cap p (Xh R Bb Y b1 b2 b3 k1 k2 k3 W) (λa X=>∃(t:Nat->Value)(V:Bk)(f1 f2 f3:OA)(h1 h2 h3:Nat)(pz:Nat)(X0:World),a=⟨mk t,[]⟩/\X=(((((X0.setCell ⟨Bb,0,none⟩ (.int .i64 V.now)).setCell ⟨Bb,1,none⟩ (.int .i64 V.floor)).setCell ⟨Bb,2,none⟩ (.slice f1 V.on h1)).setCell ⟨Bb,3,none⟩ (.slice f2 V.hn h2)).setCell ⟨Bb,4,none⟩ (.slice f3 V.tn h3))/\EZ X0 V f1 f2 f3 h3/\AB (λq=>q=R) W X0/\p<=pz/\pz<=p+6800/\Rd X0 R ad nn cap pz/\∃x0 u:Value,t 14=.tuple #[x0,u]) Ze Ze Ze ?_ rfl hr ?_ ?_ ?_ ?_;all_goals subst hmk
 .intro i v X Z p' hi h hF hRd hR hX;rcases(show i=0\/i=1\/i=2\/i=3\/i=4\/i=5\/i=6\/i=7\/i=8\/i=9\/i=10\/i=11\/i=12\/i=13\/i=14\/i=15\/i=16 by omega)with rfl|rfl|rfl|rfl|rfl|rfl|rfl|rfl|rfl|rfl|rfl|rfl|rfl|rfl|rfl|rfl|rfl;.exact h
  .exact h.fr hF Zb
  .exact h
  .exact h
  .obtain⟨g,k,s,e,y1,y2,y3,y4⟩:=h;exact⟨g,k,s,e,y1,Ad y2 hF.size,y3,(hF.cell (p:=⟨g,k,none⟩) y2 (λq=>by have q:g=R:=q;omega)).trans y4⟩
  .exact h
  .exact h
  .exact h
  .exact h
  .exact h
  .exact h
  .obtain⟨x,u1,u2,d1,d2,e,hx,hxi⟩:=h;exact⟨x,u1,u2,d1,d2,e,hx,hxi.pick hF hRd.ns⟩
  .obtain⟨c,u1,u2,d1,d2,e,hcl,hx,hxi⟩:=h;exact⟨c,u1,u2,d1,d2,e,hcl,hx,hxi.pick hF hRd.ns⟩
  .obtain⟨V,f1,f2,f3,h1,h2,h3,u,e,hV⟩:=h;exact⟨V,f1,f2,f3,h1,h2,h3,u,e,hV.pick hF hRd.ns⟩
  .obtain⟨V,f1,f2,f3,h1,h2,h3,u,e,hV⟩:=h;exact⟨V,f1,f2,f3,h1,h2,h3,u,e,hV.pick hF hRd.ns⟩
  .obtain⟨V,f1,f2,f3,h1,h2,h3,e,hV⟩:=h;exact⟨V,f1,f2,f3,h1,h2,h3,e,hV.pick hF hRd.ns⟩
  .exact h
 .intro i hi t X K p' hb hp1 hp2 hrd hg hK;rcases(show i=0\/i=1\/i=2\/i=3\/i=4\/i=5\/i=6\/i=7\/i=8\/i=9\/i=10\/i=11\/i=12\/i=13\/i=14\/i=15\/i=16 by omega)with rfl|rfl|rfl|rfl|rfl|rfl|rfl|rfl|rfl|rfl|rfl|rfl|rfl|rfl|rfl|rfl|rfl;.exact ND
  .have h:=hK (.slice (some ⟨X.1.size,0,none⟩) 3 3) (X.alloc (.cells (IQ Vn).toArray 9)) p' Bg Zb ((SL.new X Vn).mono2 hb.size) (Ap EC) (hrd.below EC);refine Ar rfl rfl ?_;clear hK hg;go_simp;simpa[AN,IQ,Vn]using h
  .exact LF
  .have g2:t 2=.pointer (some ⟨R,0,none⟩):=hg 2 (BB rfl);refine Ar rfl rfl ?_;have HK:=Ag hK;have HR:=Ag hrd;clear hK hg hrd;go_simp;go_at_call 12;refine(BV R ad nn cap p' 3 X HR Zb Za Za).mono ?_;rintro r Z ⟨k,rfl,_,hv,hf,hr2⟩;have h:=HK (.int .i64 k) Z (p'+1) Zb Zb ⟨k,by have:=hv Za;omega,rfl⟩ hf hr2;simpa[AN,g2]using h
  .obtain⟨g,cp,g1,y1,y2,y3,y4,y5⟩:SL X W.1.size (t 1) Vn:=hg 1 (BB rfl);obtain⟨k,hk,g3⟩:∃k:Nat,k<3/\t 3=.int .i64 k:=hg 3 (BB rfl);have hL:Vn.length=3:=rfl;rw[hL]at g1;have h:=hK (.pointer (some ⟨g,k,none⟩)) X p' Bg Zb ⟨g,k,Vn[k]'(by rw[hL];exact hk),rfl,y1,y2,GC _,y5 k (by rw[hL];exact hk)⟩ (AB.refl _ _) hrd;refine Ar rfl rfl ?_;clear hK hg;go_simp;rw[if_pos Zb,AZ];go_simp;simpa[AN,g1,g3]using h
  .obtain⟨g,k,s,g4,y1,y2,y3,y4⟩:∃(g k:Nat)(s:ByteArray),t 4=.pointer (some ⟨g,k,none⟩)/\W.1.size<=g/\g<X.1.size/\s∈Vn/\X.cell? ⟨g,k,none⟩=some (.string s):=hg 4 (BB rfl);have h:=hK (.string s) X p' Bg Zb ⟨s,y3,rfl⟩ (AB.refl _ _) hrd;refine Ar rfl rfl ?_;clear hK hg;go_simp;simpa[AN,g4]using h
  .exact LF
  .have g6:t 6=.pointer (some ⟨R,0,none⟩):=hg 6 (BB rfl);refine Ar rfl rfl ?_;have HK:=Ag hK;have HR:=Ag hrd;clear hK hg hrd;go_simp;go_at_call 12;refine(BV R ad nn cap p' 6 X HR Zb Za Za).mono ?_;rintro r Z ⟨k,rfl,_,hv,hf,hr2⟩;have h:=HK (.int .i64 k) Z (p'+1) Zb Zb ⟨k,by have:=hv Za;omega,rfl⟩ hf hr2;simpa[AN,g6]using h
  .obtain⟨k,hk,g7⟩:∃k:Nat,k<6/\t 7=.int .i64 k:=hg 7 (BB rfl);have hw:=AE (1+(k:Int)) ⟨Zb,Zb⟩;have h:=hK (.int .i64 (1+(k:Int))) X p' Bg Zb ⟨_,rfl⟩ (AB.refl _ _) hrd;refine Ar rfl rfl ?_;clear hK hg;go_simp;simpa[AN,g7,hw]using h
  .exact LF
  .exact ND
  .have g9:t 9=.pointer (some ⟨R,0,none⟩):=hg 9 (BB rfl);have g10:t 10=.agg #[.int .i64 Y.now,.int .i64 Y.floor,.slice b1 Y.on k1,.slice b2 Y.hn k2,.slice b3 Y.tn k3]:=hg 10 (BB rfl);have HY:=Ag (hY.pick hb hr.ns);refine Ar rfl rfl ?_;have HK:=Ag hK;have HR:=Ag hrd;clear hK hg hrd;go_simp;go_at_call 37;refine(Tf Y R ad nn cap p' b1 b2 b3 k1 k2 k3 X HR Zb HY).mono ?_;rintro r Z ⟨x,u1,u2,d1,d2,rfl,hx,hxi,hf,q3,z1,z2,hr2⟩;have h:=HK (.agg #[.slice u1 x.wn d1,.slice u2 x.rn d2]) Z q3 z1 Zb ⟨x,u1,u2,d1,d2,rfl,hx,hxi⟩ hf hr2;simpa[AN,g9,g10]using h
  .obtain⟨s,hs,g5⟩:∃s:ByteArray,s∈Vn/\t 5=.string s:=hg 5 (BB rfl);obtain⟨k,g8⟩:∃k:Int,t 8=.int .i64 k:=hg 8 (BB rfl);obtain⟨x,u1,u2,d1,d2,g11,hx,hxi⟩:∃(x:Bu)(u1 u2:OA)(d1 d2:Nat),t 11=.agg #[.slice u1 x.wn d1,.slice u2 x.rn d2]/\RH x/\Fl X 0 X.1.size x u1 u2:=hg 11 (BB rfl);have h:=hK (.agg #[.string s,.int .i64 k,.slice u1 x.wn d1,.slice u2 x.rn d2]) X p' Bg Zb ⟨⟨s,k,x⟩,u1,u2,d1,d2,rfl,fA hs,hx,hxi⟩ (AB.refl _ _) hrd;refine Ar rfl rfl ?_;clear hK hg;go_simp;simpa[AN,g5,g8,g11]using h
  .have g0:t 0=.agg #[.int .i64 Y.now,.int .i64 Y.floor,.slice b1 Y.on k1,.slice b2 Y.hn k2,.slice b3 Y.tn k3]:=hg 0 (BB rfl);obtain⟨c,u1,u2,d1,d2,g12,hcl,hx,hxi⟩:∃(c:Ca)(u1 u2:OA)(d1 d2:Nat),t 12=.agg #[.string c.client,.int .i64 c.num,.slice u1 c.bu.wn d1,.slice u2 c.bu.rn d2]/\(c.client.size:Int)<=140737488355328/\RH c.bu/\Fl X 0 X.1.size c.bu u1 u2:=hg 12 (BB rfl);have HY:=Ag (hY.pick hb hr.ns);refine Ar rfl rfl ?_;have HK:=Ag hK;have HR:=Ag hrd;clear hK hg hrd;go_simp;go_at_call 36;refine(ZP Y c b1 b2 b3 k1 k2 k3 u1 u2 d1 d2 X HY hcl hx hxi).mono ?_;rintro r Z ⟨hbZ,V,f1,f2,f3,h1,h2,h3,u,rfl,hV⟩;have h:=HK (.tuple #[.agg #[.int .i64 V.now,.int .i64 V.floor,.slice f1 V.on h1,.slice f2 V.hn h2,.slice f3 V.tn h3],u]) Z p' Bg Zb ⟨V,f1,f2,f3,h1,h2,h3,u,rfl,hV⟩ (Ap hbZ) (HR.below hbZ);simpa[AN,g0,g12]using h
  .obtain⟨V,f1,f2,f3,h1,h2,h3,u,g13,hV⟩:∃(V:Bk)(f1 f2 f3:OA)(h1 h2 h3:Nat)(u:Value),t 13=.tuple #[.agg #[.int .i64 V.now,.int .i64 V.floor,.slice f1 V.on h1,.slice f2 V.hn h2,.slice f3 V.tn h3],u]/\EZ X V f1 f2 f3 h3:=hg 13 (BB rfl);have h:=hK (.tuple #[.agg #[.int .i64 V.now,.int .i64 V.floor,.slice f1 V.on h1,.slice f2 V.hn h2,.slice f3 V.tn h3],u]) X p' Bg Zb ⟨V,f1,f2,f3,h1,h2,h3,u,rfl,hV⟩ (AB.refl _ _) hrd;refine Ar rfl rfl ?_;clear hK hg;go_simp;simpa[AN,g13]using h
  .obtain⟨V,f1,f2,f3,h1,h2,h3,u,g14,hV⟩:∃(V:Bk)(f1 f2 f3:OA)(h1 h2 h3:Nat)(u:Value),t 14=.tuple #[.agg #[.int .i64 V.now,.int .i64 V.floor,.slice f1 V.on h1,.slice f2 V.hn h2,.slice f3 V.tn h3],u]/\EZ X V f1 f2 f3 h3:=hg 14 (BB rfl);have h:=hK (.agg #[.int .i64 V.now,.int .i64 V.floor,.slice f1 V.on h1,.slice f2 V.hn h2,.slice f3 V.tn h3]) X p' Bg Zb ⟨V,f1,f2,f3,h1,h2,h3,rfl,hV⟩ (AB.refl _ _) hrd;refine Ar rfl rfl ?_;clear hK hg;go_simp;simpa[AN,g14]using h
  .obtain⟨V,f1,f2,f3,h1,h2,h3,u,g14,hV⟩:∃(V:Bk)(f1 f2 f3:OA)(h1 h2 h3:Nat)(u:Value),t 14=.tuple #[.agg #[.int .i64 V.now,.int .i64 V.floor,.slice f1 V.on h1,.slice f2 V.hn h2,.slice f3 V.tn h3],u]/\EZ X V f1 f2 f3 h3:=hg 14 (BB rfl);have h:=hK (u) X p' Bg Zb trivial (AB.refl _ _) hrd;refine Ar rfl rfl ?_;clear hK hg;go_simp;simpa[AN,g14]using h
 .intro t X K p' hb hp1 hp2 hrd hg hK;obtain⟨V,f1,f2,f3,h1,h2,h3,g15,hV⟩:∃(V:Bk)(f1 f2 f3:OA)(h1 h2 h3:Nat),t 15=.agg #[.int .i64 V.now,.int .i64 V.floor,.slice f1 V.on h1,.slice f2 V.hn h2,.slice f3 V.tn h3]/\EZ X V f1 f2 f3 h3:=hg 15 Zb Zb;obtain⟨V',f1',f2',f3',h1',h2',h3',u',g14,_⟩:∃(V:Bk)(f1 f2 f3:OA)(h1 h2 h3:Nat)(u:Value),t 14=.tuple #[.agg #[.int .i64 V.now,.int .i64 V.floor,.slice f1 V.on h1,.slice f2 V.hn h2,.slice f3 V.tn h3],u]/\EZ X V f1 f2 f3 h3:=hg 14 Zb Zb;have rw0:=hrow.fr hb (λe=>hBR e);have rf:=rw0.free;have rl:=rw0.lt;obtain⟨r0,r1,r2,r3,r4⟩:=VL rw0;have h:=hK _ _ ⟨t,V,f1,f2,f3,h1,h2,h3,p',X,rfl,rfl,hV,hb,hp1,Zb,hrd,_,_,g14⟩;have HK:=Ag h;clear hK hg h rw0;refine Ar rfl rfl ?_;go_simp;simpa[g14,g15]using HK.out
 .intro _ a X K hF hK;obtain⟨t,V,f1,f2,f3,h1,h2,h3,pz,X0,rfl,z1,z2,z3,z4,z5,z6,x0,u,g14⟩:=hF;have h:=hK _ ⟨AN t 16 u,V,f1,f2,f3,h1,h2,h3,pz,X0,rfl,z1,z2,z3,z4,z5,z6,x0,u,by rw[BO Za];exact g14⟩;refine Ar rfl rfl ?_;clear hK z1;go_simp;simpa[AN,g14]using h
 .rintro a X ⟨t,V,f1,f2,f3,h1,h2,h3,pz,X0,rfl,z1,z2,z3,z4,z5,z6,_⟩;exact hQ t V f1 f2 f3 h1 h2 h3 pz X0 X z1 z2 z3 z4 z5 z6
end Go.Proofs.YtofencldleijcaaGreat
namespace Go.Proofs.YtofencldleijcaaGreat
open Go.RowKit Go.Proofs.Tryz
def RA (n Kk:Nat)(mk:(Nat->Value)->Array Value)(W:World)(R:Nat)(ad:OA)(nn cap p:Nat)(G:Nat->Value->World->Prop)(l:Array Bool)(a:Act)(X:World):Prop:=l.size=n/\∃t:Nat->Value,a=⟨mk t,[]⟩/\AB (λq=>q=R) W X/\(∃p',p<=p'/\p'<=p+Kk*l.toList.count true/\Rd X R ad nn cap p')/\∀i,i<n->l.getD i false=true->G i (t i) X
theorem WM{P:Program}{id:Nat}{ops:Array Oper}{Q:Exit->Act->World->Prop}{a0:Act}{W:World}(hm:P.follows .mixedOrders=true)(n Kk:Nat)(mk:(Nat->Value)->Array Value)(t0:Nat->Value)(R:Nat)(ad:OA)(nn cap p:Nat)(G:Nat->Value->World->Prop)(hn:ops.size=n)(hord:((List.range ops.size).all λi=>match ops[i]? with|some o=>o.after.all (λe=>!(Region.binds .any e)||decide (e.on<i))|none=>true)=true)(st:∀i v X Y p',i<n->G i v X->AB (λq=>q=R) X Y->Rd X R ad nn cap p'->R<W.1.size->W.1.size<=X.1.size->G i v Y)(h0:a0=⟨mk t0,[]⟩)(hr:Rd W R ad nn cap p)(sg:∀i,i<n->∀(t:Nat->Value) X K p',AB (λq=>q=R) W X->p<=p'->p'<=p+Kk*n->Rd X R ad nn cap p'->(∀j,Cf ops i j->G j (t j) X)->(∀v Y p2,p'<=p2->p2<=p'+Kk->G i v Y->AB (λq=>q=R) X Y->Rd Y R ad nn cap p2->K ⟨mk (AN t i v),[]⟩ Y)->wpOp P ops Q i K ⟨mk t,[]⟩ X)(hfin:∀(t:Nat->Value) X p',AB (λq=>q=R) W X->p<=p'->p'<=p+Kk*n->Rd X R ad nn cap p'->(∀i,i<n->G i (t i) X)->Q .normal ⟨mk t,[]⟩ X):(Code.region id ops true).wp P Q a0 W:=by
 have hdep:∀i j,i<n->Cf ops i j->j<n:=by
  rintro i j hi ⟨o,ho,e,he,hb,rfl⟩;have h1:=Bt.1 hord i (Bc.2 Zb);rw[ho]at h1;have h2:=A9.1 h1 e he;rw[hb]at h2;have:e.on<i:=by simpa using h2
  omega
 have cle:∀l:Array Bool,l.size=n->Kk*l.toList.count true<=Kk*n:=λl hl=>by have:=List.count_le_length (a:=true) (l:=l.toList);exact Nat.mul_le_mul_left _ (by simpa[hl]using this)
 refine CA hm (RA n Kk mk W R ad nn cap p G) ?_ ?_ ?_ ?_
 .have hz:∀i,(Array.replicate ops.size false).getD i false=false:=λi=>by simp[Array.getD]
  refine⟨by simp[hn],t0,h0,Ap (Al _ _).drew,⟨p,Az _,Zb,hr.below (Al _ _).drew⟩,λi _ h=>?_⟩;rw[hz]at h;cases h
 .rintro l a X ⟨hs,_⟩;rw[hs,hn]
 .rintro l a X ⟨hs,t,rfl,hb,⟨p',q1,q2,hrd⟩,gg⟩ hr;have AL:=NC hord (by rw[hs,hn]) hr;have:=cle l hs;exact hfin t X p' hb q1 Zb hrd (λi hi=>gg i hi (AL i Zb))
 .rintro l a X i ⟨hs,t,rfl,hb,⟨p',q1,q2,hrd⟩,gg⟩ hr';obtain⟨hu,o,ho,hall⟩:=mem_ready.1 hr';have di:∀j,Cf ops i j->l.getD j false=true:=by
   rintro j ⟨o',ho',e,he,hb,rfl⟩;rw[ho]at ho';obtain rfl:o=o':=by simpa using ho'
   exact hall e he hb
  have hi7:i<n:=by
   rcases At i n with h|h;.exact h
   .rw[AP Zb]at ho;cases ho
  have hui:l.getD i false=false:=by have:l.getD i true=false:=hu;simpa[Array.getD,hs,hi7]using this
  have hc:=NG Zb hui;have hck:Kk*(l.setIfInBounds i true).toList.count true=Kk*l.toList.count true+Kk:=by rw[hc,Nat.mul_add,Nat.mul_one]
  have hcl:=cle l hs;have kp:∀j,¬j=i->(l.setIfInBounds i true).getD j false=l.getD j false:=λj hj=>by rw[BM Zb,if_neg hj]
  clear hr' hu ho;refine sg i hi7 t X _ p' hb q1 Zb hrd (λj hj=>gg j (hdep i j hi7 hj) (di j hj)) (λv Y p2 r1 r2 hv hY hrY=>⟨by simp[hs],AN t i v,rfl,hb.trans hY,⟨p2,Zb,Zb,hrY⟩,λj j1 h=>?_⟩);by_cases e:j=i;.subst e;rw[BE];exact hv
  .rw[kp j e]at h;rw[BO e];exact st _ _ _ _ _ j1 (gg j j1 h) hY hrd hr.lt hb.size
def XE (R:Nat)(Bb:Nat)(Y:Bk)(_b1 b2 _b3:OA)(_k1 k2 _k3:Nat)(i:Nat)(v:Value)(_X:World):Prop:=match i with
 |0=>v=.pointer (some ⟨Bb,3,none⟩)
 |1=>v=.slice b2 Y.hn k2
 |2=>v=.int .i64 (Y.hn:Nat)
 |3=>v=.pointer (some ⟨R,0,none⟩)
 |4=>∃k:Nat,k<2/\v=.int .i64 k
 |5=>∃m:Int,v=.int .i64 m/\m<=200
 |6=>∃b:Bool,v=.bool b/\(b=true->Y.hn<200)
 |_=>True
theorem cC{p1 p2 p4 p5 p6 p7 p8 p9 DA Du DC Dx Da CY CV CX CW CR C4 CU CS CQ Dl C6 Db C9 C7 Dj Dg Df Dk Dh De Dt Di Dy DB EF EI EK EL EJ EE Ej Ei EA EB Ew Ex EW FU FW FV FC FA Fz GL GN GX GT GY GP GZ GV GQ GS GR G4 IA It Iu GU GO G3 GM G5 Ic:Value}{mk:(Nat->Value)->Array Value}(t0:Nat->Value)(R:Nat)(ad:OA)(nn cap p:Nat)(Bb:Nat)(Y:Bk)(b1 b2 b3:OA)(k1 k2 k3:Nat)(W:World)(hr:Rd W R ad nn cap p)(hp:p<=600000)(hBb:Bb<W.1.size)(hBR:¬Bb=R)(hrow:AM W Bb 5 (A7 [.int .i64 Y.now,.int .i64 Y.floor,.slice b1 Y.on k1,.slice b2 Y.hn k2,.slice b3 Y.tn k3]))(hmk:mk=λt=>#[.pointer (some ⟨R,0,none⟩),p1,p2,.pointer (some ⟨Bb,0,none⟩),p4,p5,p6,p7,p8,p9,DA,Du,DC,Dx,Da,CY,CV,CX,CW,CR,C4,CU,CS,CQ,Dl,C6,Db,C9,C7,Dj,Dg,Df,Dk,Dh,De,Dt,Di,Dy,DB,EF,EI,EK,EL,EJ,EE,Ej,Ei,EA,EB,Ew,Ex,EW,FU,FW,FV,FC,FA,Fz,t 0,t 1,t 2,t 3,t 4,t 5,t 6,GL,GN,GX,GT,GY,GP,GZ,GV,GQ,GS,GR,G4,IA,It,Iu,GU,GO,G3,GM,G5,Ic])(Q:Exit->Act->World->Prop)(hQ:∀(t:Nat->Value)(b:Bool)(pz:Nat) X,t 6=.bool b->(b=true->Y.hn<200)->AB (λq=>q=R) W X->p<=pz->pz<=p+7->Rd X R ad nn cap pz->Q .normal ⟨mk t,[]⟩ X):Code.wp prog (rg Tryz.f11 14) Q ⟨mk t0,[]⟩ W:=by
 have hRW:=hr.lt;refine WM Ze 7 1 mk t0 R ad nn cap p (XE R Bb Y b1 b2 b3 k1 k2 k3) Ze Ze ?_ rfl hr ?_ ?_;all_goals subst hmk
 .intro i v X Z p' hi h hF hRd hR hX;exact h
 .intro i hi t X K p' hb hp1 hp2 hrd hg hK;rcases(show i=0\/i=1\/i=2\/i=3\/i=4\/i=5\/i=6 by omega)with rfl|rfl|rfl|rfl|rfl|rfl|rfl;.have h:=hK (.pointer (some ⟨Bb,3,none⟩)) X p' Bg Zb rfl (AB.refl _ _) hrd;refine Ar rfl rfl ?_;clear hK hg;go_simp;simpa[AN]using h
  .have g0:t 0=.pointer (some ⟨Bb,3,none⟩):=hg 0 (BB rfl);have q3:=(hb.cell (p:=⟨Bb,3,none⟩) hBb hBR).trans (hrow.cell 3 Za);simp only[A7,Ae,Af]at q3;have h:=hK (.slice b2 Y.hn k2) X p' Bg Zb rfl (AB.refl _ _) hrd;refine Ar rfl rfl ?_;clear hK hg;go_simp;simpa[AN,g0]using h
  .have g1:t 1=.slice b2 Y.hn k2:=hg 1 (BB rfl);have h:=hK (.int .i64 (Y.hn:Nat)) X p' Bg Zb rfl (AB.refl _ _) hrd;refine Ar rfl rfl ?_;clear hK hg;go_simp;simpa[AN,g1]using h
  .exact LF
  .have g3:t 3=.pointer (some ⟨R,0,none⟩):=hg 3 (BB rfl);refine Ar rfl rfl ?_;have HK:=Ag hK;have HR:=Ag hrd;clear hK hg hrd;go_simp;go_at_call 12;refine(BV R ad nn cap p' 2 X HR Zb Za Za).mono ?_;exact XN
  .obtain⟨k,hk,g4⟩:∃k:Nat,k<2/\t 4=.int .i64 k:=hg 4 (BB rfl);have hw:=AE (200-(k:Int)) ⟨Zb,Zb⟩;have h:=hK (.int .i64 (200-(k:Int))) X p' Bg Zb ⟨_,rfl,Zb⟩ (AB.refl _ _) hrd;refine Ar rfl rfl ?_;clear hK hg;go_simp;simpa[AN,g4,hw]using h
  .have g2:t 2=.int .i64 (Y.hn:Nat):=hg 2 (BB rfl);obtain⟨m,g5,hm⟩:∃m:Int,t 5=.int .i64 m/\m<=200:=hg 5 (BB rfl);by_cases hlt:((Y.hn:Nat):Int)<m;.have h:=hK (.bool true) X p' Bg Zb ⟨_,rfl,λ_=>by omega⟩ (AB.refl _ _) hrd;refine Ar rfl rfl ?_;clear hK hg;go_simp;simpa[AN,g2,g5,hlt]using h
   .have h:=hK (.bool false) X p' Bg Zb ⟨_,rfl,λh=>KW⟩ (AB.refl _ _) hrd;refine Ar rfl rfl ?_;clear hK hg;go_simp;simpa[AN,g2,g5,hlt]using h
 .intro t X pz hf h1 h2 hrd hg;obtain⟨b,g6,hb⟩:∃b:Bool,t 6=.bool b/\(b=true->Y.hn<200):=hg 6 Zb;exact hQ t b pz X g6 hb hf h1 Zb hrd
end Go.Proofs.YtofencldleijcaaGreat
