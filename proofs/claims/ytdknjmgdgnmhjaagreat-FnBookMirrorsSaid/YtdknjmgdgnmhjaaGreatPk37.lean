import Derived.Test.YtdknjmgdgnmhjaaGreatPk28
set_option maxRecDepth 100000
set_option maxHeartbeats 4000000
namespace Go.Proofs.YtdknjmgdgnmhjaaGreat
open Go.RowKit Go.Proofs.Tryz
variable {p1 p2 p4 p6 p7 p8 p9 Ea Ee Em D1 DW DN DU DX DO DP Ej El Ei Ed EH EI EV Er EB ER ES EQ EC ED Eo EW EU EK EL F9 FY F8 Ga FM Fz Fy FN Fv Gy Gx GO GI GQ Gw Gv Fu G9 Ha Hf Hd Hb Hc GL GK Hg In Ik Im Hj He G8 Hi Hh Ie:Value}{mk:(Nat→Value)→Array Value}
def jk:List ByteArray:=[⟨#[97,110,110]⟩,⟨#[98,111,98]⟩,⟨#[99,121]⟩]
theorem Ac8{s:ByteArray}(h:s∈jk):(s.size:Int)<=140737488355328:=by simp only[jk,CU,Lx,or_false]at h;rcases h with rfl|rfl|rfl<;>decide
theorem Ah8 (w:World):IC (w.alloc (.cells #[.i 0,.i 0,.i 0,.l none 0 0,.l none 0 0,.l none 0 0,.i 0] 73)) w.1.size:=λj s e=>by rw[Al w #[.i 0,.i 0,.i 0,.l none 0 0,.l none 0 0,.l none 0 0,.i 0] 73 j]at e;match j,e with
 |0,e=>cases e
 |1,e=>cases e
 |2,e=>cases e
 |3,e=>cases e
 |4,e=>cases e
 |5,e=>cases e
 |6,e=>cases e
 |n+7,e=>simp at e
theorem IX.pick{X Y:World}{R:Nat}{x:Bu}{u1 u2:OA}(h:IX X 0 X.1.size x u1 u2) (hf:AB (λq=>q=R) X Y) (hn:∀j s,¬X.cell? ⟨R,j,none⟩=some (.s s)):IX Y 0 Y.1.size x u1 u2:=by
 refine⟨λi hi=>?_,λi hi=>?_⟩;.obtain⟨b,off,e1,e2,e3,e4⟩:=h.wt i hi;have e:∀j,Y.cell? ⟨b,j,none⟩=X.cell? ⟨b,j,none⟩:=λj=>hf.cell (p:=⟨b,j,none⟩) e3 (λq=>hn _ _ (show X.cell? ⟨R,off+i*3,none⟩=_ from(show b=R from q)▸e4.c0));exact⟨b,off,e1,e2,Aa e3 hf.size,⟨(e _).trans e4.c0,(e _).trans e4.c1,(e _).trans e4.c2⟩⟩
 .obtain⟨b,off,e1,e2,e3,e4⟩:=h.wr i hi;have e:∀j,Y.cell? ⟨b,j,none⟩=X.cell? ⟨b,j,none⟩:=λj=>hf.cell (p:=⟨b,j,none⟩) e3 (λq=>hn _ _ (show X.cell? ⟨R,off+i*6+1,none⟩=_ from(show b=R from q)▸e4.c1));exact⟨b,off,e1,e2,Aa e3 hf.size,⟨(e _).trans e4.c0,(e _).trans e4.c1,(e _).trans e4.c2,(e _).trans e4.c3,(e _).trans e4.c4,(e _).trans e4.c5⟩⟩
def si (R:Nat) (_Bb:Nat) (Y:Bk) (b1 b2 b3:OA) (k1 k2 k3:Nat) (W:World) (i:Nat) (v:Value) (X:World):Prop:=match i with
 |0=>v=.agg #[.i Y.v,.i Y.f,.l b1 Y.on k1,.l b2 Y.hn k2,.l b3 Y.tn k3]
 |1=>v=.p R 0
 |2=>v=.agg #[.i Y.v,.i Y.f,.l b1 Y.on k1,.l b2 Y.hn k2,.l b3 Y.tn k3]
 |3=>∃y:Wr,v=.agg #[.i y.op,.s y.k,.s y.n,.i y.s,.s y.m,.s y.hold]/\aE y
 |4=>∃(cd:Int) (V:Bk) (f1 f2 f3:OA) (h1 h2 h3:Nat) (ve:Int),v=.agg #[.i cd,.i V.v,.i V.f,.l f1 V.on h1,.l f2 V.hn h2,.l f3 V.tn h3,.i ve]/\Ip X V f1 f2 f3 h3
 |5=>∃z:Nat,v=.p z 0/\W.1.size<=z/\AE X z 7 (AV [.i 0,.i 0,.i 0,.l none 0 0,.l none 0 0,.l none 0 0,.i 0])/\IC X z
 |_=>True
theorem Acg{Eh Ek Ey Ev Ew Ex EM:Value}(t0:Nat->Value) (R:Nat) (ad:OA) (nn cap p:Nat) (Bb:Nat) (Y:Bk) (b1 b2 b3:OA) (k1 k2 k3:Nat) (W:World) (hr:Rd W R ad nn cap p) (hp:p<=600000) (Uw:Bb<W.1.size) (Ol:¬Bb=R) (By:AE W Bb 5 (AV [.i Y.v,.i Y.f,.l b1 Y.on k1,.l b2 Y.hn k2,.l b3 Y.tn k3])) (hY:Ip W Y b1 b2 b3 k3) (Dg:mk=λt=>#[.pointer (some ⟨R,0,none⟩),p1,p2,.pointer (some ⟨Bb,0,none⟩),p4,t 5,p6,p7,p8,p9,Ea,Ee,Em,D1,DW,DN,DU,DX,DO,DP,t 0,t 1,t 2,t 3,t 4,Ej,El,Ei,Ed,Eh,Ek,Ey,Ev,Ew,Ex,EM,EH,EI,EV,Er,EB,ER,ES,EQ,EC,ED,Eo,EW,EU,EK,EL,F9,FY,F8,Ga,FM,Fz,Fy,FN,Fv,Gy,Gx,GO,GI,GQ,Gw,Gv,Fu,G9,Ha,Hf,Hd,Hb,Hc,GL,GK,Hg,In,Ik,Im,Hj,He,G8,Hi,Hh,Ie]) (Q:Exit->Act->World->Prop) (hQ:∀(t:Nat->Value) (z:Nat) (cd:Int) (V:Bk) (f1 f2 f3:OA) (h1 h2 h3:Nat) (ve:Int) (pz:Nat) X,t 5=.p z 0->W.1.size<=z->AE X z 7 (AV [.i cd,.i V.v,.i V.f,.l f1 V.on h1,.l f2 V.hn h2,.l f3 V.tn h3,.i ve])->Ip X V f1 f2 f3 h3->AB (λq=>q=R) W X->p<=pz->pz<=p+360->Rd X R ad nn cap pz->Q .normal ⟨mk t,[]⟩ X):Code.wp prog (rg Tryz.f29 6) Q ⟨mk t0,[]⟩ W:=by
 have Le:=hr.lt;refine Hz Zc 6 11 60 mk t0 R ad nn cap p (si R Bb Y b1 b2 b3 k1 k2 k3 W) (λa X=>∃(t:Nat->Value) (z:Nat) (cd:Int) (V:Bk) (f1 f2 f3:OA) (h1 h2 h3:Nat) (ve:Int) (pz:Nat),a=⟨mk t,[]⟩/\t 5=.p z 0/\W.1.size<=z/\AE X z 7 (AV [.i cd,.i V.v,.i V.f,.l f1 V.on h1,.l f2 V.hn h2,.l f3 V.tn h3,.i ve])/\Ip X V f1 f2 f3 h3/\AB (λq=>q=R) W X/\p<=pz/\pz<=p+360/\Rd X R ad nn cap pz) Zc Zc Zc ?_ rfl hr ?_ ?_ ?_ ?_;all_goals subst Dg
 .exact yv
 .intro i hi t X K p' hb CO Dj AW hg hK;rcases(ae i Za)with rfl|rfl|rfl|rfl|rfl|rfl;.exact jm
  .exact Di
  .exact jm
  .have AY:t 1=_:=hg 1 (AR rfl);have Ff:t 2=_:=hg 2 (AR rfl);have HY:=Ab (hY.pick hb hr.ns);refine Au rfl rfl ?_;have HK:=Ab hK;have HR:=Ab AW;clear hK hg AW;go_simp;go_at_call 31;refine(M8 Y R ad nn cap p' b1 b2 b3 k1 k2 k3 X HR Za HY.f (PM HY.v).1 (PM HY.v).2 HY.i).mono ?_;rintro r Z ⟨y,rfl,hy,hf,q3,z1,z2,Me⟩;have h:=HK (.agg #[.i y.op,.s y.k,.s y.n,.i y.s,.s y.m,.s y.hold]) Z q3 z1 Za ⟨y,rfl,hy⟩ hf Me;exact LN
  .exact Agh
  .exact xl
 .exact Agb
 .intro h;omega
 .exact U_
def rq (R:Nat) (Bb:Nat) (Y:Bk) (b1 b2 b3:OA) (k1 k2 k3:Nat) (_W:World) (i:Nat) (v:Value) (X:World):Prop:=match i with
 |0=>v=.agg #[.i Y.v,.i Y.f,.l b1 Y.on k1,.l b2 Y.hn k2,.l b3 Y.tn k3]
 |1=>v=.p Bb 1
 |2=>v=.i Y.f
 |3=>v=.p R 0
 |4=>∃k:Nat,k<4/\v=.i k
 |5=>∃fl:Int,v=.i fl
 |6=>∃(V:Bk) (f1 f2 f3:OA) (h1 h2 h3:Nat),v=.agg #[.i V.v,.i V.f,.l f1 V.on h1,.l f2 V.hn h2,.l f3 V.tn h3]/\Ip X V f1 f2 f3 h3
 |_=>True
theorem Ab0{p5 DV DT D9 Ef EJ:Value}(t0:Nat->Value) (R:Nat) (ad:OA) (nn cap p:Nat) (Bb:Nat) (Y:Bk) (b1 b2 b3:OA) (k1 k2 k3:Nat) (W:World) (hr:Rd W R ad nn cap p) (hp:p<=600000) (Uw:Bb<W.1.size) (Ol:¬Bb=R) (By:AE W Bb 5 (AV [.i Y.v,.i Y.f,.l b1 Y.on k1,.l b2 Y.hn k2,.l b3 Y.tn k3])) (hY:Ip W Y b1 b2 b3 k3) (Dg:mk=λt=>#[.pointer (some ⟨R,0,none⟩),p1,p2,.pointer (some ⟨Bb,0,none⟩),p4,p5,p6,p7,p8,p9,Ea,Ee,Em,D1,DW,DN,DU,DX,DO,DP,DV,DT,D9,Ef,EJ,Ej,El,Ei,Ed,t 0,t 1,t 2,t 3,t 4,t 5,t 6,EH,EI,EV,Er,EB,ER,ES,EQ,EC,ED,Eo,EW,EU,EK,EL,F9,FY,F8,Ga,FM,Fz,Fy,FN,Fv,Gy,Gx,GO,GI,GQ,Gw,Gv,Fu,G9,Ha,Hf,Hd,Hb,Hc,GL,GK,Hg,In,Ik,Im,Hj,He,G8,Hi,Hh,Ie]) (Q:Exit->Act->World->Prop) (hQ:∀(t:Nat->Value) (V:Bk) (f1 f2 f3:OA) (h1 h2 h3:Nat) (pz:Nat) (X0 X:World),X=(((((X0.setCell ⟨Bb,0,none⟩ (.i V.v)).setCell ⟨Bb,1,none⟩ (.i V.f)).setCell ⟨Bb,2,none⟩ (.l f1 V.on h1)).setCell ⟨Bb,3,none⟩ (.l f2 V.hn h2)).setCell ⟨Bb,4,none⟩ (.l f3 V.tn h3))->Ip X0 V f1 f2 f3 h3->AB (λq=>q=R) W X0->p<=pz->pz<=p+7->Rd X0 R ad nn cap pz->Q .normal ⟨mk t,[]⟩ X):Code.wp prog (rg Tryz.f29 9) Q ⟨mk t0,[]⟩ W:=by
 have Le:=hr.lt;refine Hz Zc 7 12 1 mk t0 R ad nn cap p (rq R Bb Y b1 b2 b3 k1 k2 k3 W) (λa X=>∃(t:Nat->Value) (V:Bk) (f1 f2 f3:OA) (h1 h2 h3:Nat) (pz:Nat) (X0:World),a=⟨mk t,[]⟩/\X=(((((X0.setCell ⟨Bb,0,none⟩ (.i V.v)).setCell ⟨Bb,1,none⟩ (.i V.f)).setCell ⟨Bb,2,none⟩ (.l f1 V.on h1)).setCell ⟨Bb,3,none⟩ (.l f2 V.hn h2)).setCell ⟨Bb,4,none⟩ (.l f3 V.tn h3))/\Ip X0 V f1 f2 f3 h3/\AB (λq=>q=R) W X0/\p<=pz/\pz<=p+7/\Rd X0 R ad nn cap pz) Zc Zc Zc ?_ rfl hr ?_ ?_ ?_ ?_;all_goals subst Dg
 .exact R'
 .intro i hi t X K p' hb CO Dj AW hg hK;rcases(YP i Za)with rfl|rfl|rfl|rfl|rfl|rfl|rfl;.exact jm
  .exact Di
  .exact Aga
  .exact Di
  .have AY:t 3=_:=hg 3 (AR rfl);exact O'
  .exact Agn
  .have AY:t 0=_:=hg 0 (AR rfl);obtain⟨fl,g5⟩:=hg 5 (AR rfl);have HY:=Ab (hY.pick hb hr.ns);refine Au rfl rfl ?_;have HK:=Ab hK;have HR:=Ab AW;clear hK hg AW;go_simp;go_at_call 32;refine(eB Y b1 b2 b3 k1 k2 k3 fl X HY).mono ?_;rintro r Z ⟨Nt,V,f1,f2,f3,h1,h2,h3,rfl,hV⟩;have h:=HK (.agg #[.i V.v,.i V.f,.l f1 V.on h1,.l f2 V.hn h2,.l f3 V.tn h3]) Z p' A9 Za ⟨V,f1,f2,f3,h1,h2,h3,rfl,hV⟩ (Aj Nt) (HR.below Nt);simpa[AX,AY,g5]using h
 .exact Af9
 .intro h;omega
 .exact wl
end Go.Proofs.YtdknjmgdgnmhjaaGreat
