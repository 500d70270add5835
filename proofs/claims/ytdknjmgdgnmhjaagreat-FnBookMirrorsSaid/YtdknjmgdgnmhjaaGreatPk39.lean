import Derived.Test.YtdknjmgdgnmhjaaGreatPk37
import Derived.Test.YtdknjmgdgnmhjaaGreatPk36
set_option maxRecDepth 100000
set_option maxHeartbeats 8000000
namespace Go.Proofs.YtdknjmgdgnmhjaaGreat
open Go.RowKit Go.Proofs.Tryz
variable {p1 p2 p4 p5 p6 p7 p8 p9 Ea Ee Em D1 DW DN DU DX DO DP DV DT D9 Ef EJ Ej El Ei Ed Eh Ek Ey Ev Ew Ex EM EH EI FM Fz Fy Gw Gv Fu G9 Ha Hf Hd Hb Hc GL GK Hg In Ik Im Hj He G8 Hi Hh Ie:Value}{mk:(Nat→Value)→Array Value}{w X X':World}{R nn cap p k1 k2 k3:Nat}{ad b1 b2 b3:OA}{Y:Bk}
def xN (R:Nat)(_Bb:Nat)(Y:Bk)(b1 b2 b3:OA)(k1 k2 k3:Nat)(W:World)(i:Nat)(v:Value)(X:World):Prop:=match i with
 |0=>v=.agg #[.i Y.v,.i Y.f,.l b1 Y.on k1,.l b2 Y.hn k2,.l b3 Y.tn k3]
 |1=>SL X W.1.size v jk
 |2=>v=.p R 0
 |3=>∃k:Nat,k<3/\v=.i k
 |4=>∃(g k:Nat)(s:ByteArray),v=.pointer (some ⟨g,k,none⟩)/\W.1.size<=g/\g<X.1.size/\s∈jk/\X.cell? ⟨g,k,none⟩=some (.s s)
 |5=>∃s:ByteArray,s∈jk/\v=.s s
 |6=>v=.p R 0
 |7=>∃k:Nat,k<6/\v=.i k
 |8=>∃k:Int,v=.i k
 |9=>v=.p R 0
 |10=>v=.agg #[.i Y.v,.i Y.f,.l b1 Y.on k1,.l b2 Y.hn k2,.l b3 Y.tn k3]
 |11=>∃(x:Bu)(u1 u2:OA)(d1 d2:Nat),v=.agg #[.l u1 x.wn d1,.l u2 x.rn d2]/\aA x/\IX X 0 X.1.size x u1 u2
 |12=>∃(c:Ca)(u1 u2:OA)(d1 d2:Nat),v=.agg #[.s c.c,.i c.num,.l u1 c.bu.wn d1,.l u2 c.bu.rn d2]/\(c.c.size:Int)<=140737488355328/\aA c.bu/\IX X 0 X.1.size c.bu u1 u2
 |13=>∃(V:Bk)(f1 f2 f3:OA)(h1 h2 h3:Nat)(u:Value),v=.tuple #[.agg #[.i V.v,.i V.f,.l f1 V.on h1,.l f2 V.hn h2,.l f3 V.tn h3],u]/\Ip X V f1 f2 f3 h3
 |14=>∃(V:Bk)(f1 f2 f3:OA)(h1 h2 h3:Nat)(u:Value),v=.tuple #[.agg #[.i V.v,.i V.f,.l f1 V.on h1,.l f2 V.hn h2,.l f3 V.tn h3],u]/\Ip X V f1 f2 f3 h3
 |15=>∃(V:Bk)(f1 f2 f3:OA)(h1 h2 h3:Nat),v=.agg #[.i V.v,.i V.f,.l f1 V.on h1,.l f2 V.hn h2,.l f3 V.tn h3]/\Ip X V f1 f2 f3 h3
 |16=>True
 |_=>True
theorem qm{FN Fv Gy Gx GO GI GQ:Value}(t0:Nat->Value)(R:Nat)(ad:OA)(nn cap p:Nat)(Bb:Nat)(Y:Bk)(b1 b2 b3:OA)(k1 k2 k3:Nat)(W:World)(hr:Rd W R ad nn cap p)(hp:p<=600000)(Uw:Bb<W.1.size)(Ol:¬Bb=R)(By:AE W Bb 5 (AV [.i Y.v,.i Y.f,.l b1 Y.on k1,.l b2 Y.hn k2,.l b3 Y.tn k3]))(hY:Ip W Y b1 b2 b3 k3)(Dg:mk=λt=>#[.pointer (some ⟨R,0,none⟩),p1,p2,.pointer (some ⟨Bb,0,none⟩),p4,p5,p6,p7,p8,p9,Ea,Ee,Em,D1,DW,DN,DU,DX,DO,DP,DV,DT,D9,Ef,EJ,Ej,El,Ei,Ed,Eh,Ek,Ey,Ev,Ew,Ex,EM,EH,EI,t 14,t 0,t 1,t 2,t 3,t 4,t 5,t 6,t 7,t 8,t 9,t 10,t 11,t 12,t 13,t 15,t 16,FM,Fz,Fy,FN,Fv,Gy,Gx,GO,GI,GQ,Gw,Gv,Fu,G9,Ha,Hf,Hd,Hb,Hc,GL,GK,Hg,In,Ik,Im,Hj,He,G8,Hi,Hh,Ie])(Q:Exit->Act->World->Prop)(hQ:∀(t:Nat->Value)(V:Bk)(f1 f2 f3:OA)(h1 h2 h3:Nat)(pz:Nat)(X0 X:World),X=(((((X0.setCell ⟨Bb,0,none⟩ (.i V.v)).setCell ⟨Bb,1,none⟩ (.i V.f)).setCell ⟨Bb,2,none⟩ (.l f1 V.on h1)).setCell ⟨Bb,3,none⟩ (.l f2 V.hn h2)).setCell ⟨Bb,4,none⟩ (.l f3 V.tn h3))->Ip X0 V f1 f2 f3 h3->AB (λq=>q=R) W X0->p<=pz->pz<=p+6800->Rd X0 R ad nn cap pz->Q .normal ⟨mk t,[]⟩ X):Code.wp prog (rg Tryz.f29 11) Q ⟨mk t0,[]⟩ W:=by
 have Le:=hr.lt;refine Hz Zc 17 16 400 mk t0 R ad nn cap p (xN R Bb Y b1 b2 b3 k1 k2 k3 W) (λa X=>∃(t:Nat->Value)(V:Bk)(f1 f2 f3:OA)(h1 h2 h3:Nat)(pz:Nat)(X0:World),a=⟨mk t,[]⟩/\X=(((((X0.setCell ⟨Bb,0,none⟩ (.i V.v)).setCell ⟨Bb,1,none⟩ (.i V.f)).setCell ⟨Bb,2,none⟩ (.l f1 V.on h1)).setCell ⟨Bb,3,none⟩ (.l f2 V.hn h2)).setCell ⟨Bb,4,none⟩ (.l f3 V.tn h3))/\Ip X0 V f1 f2 f3 h3/\AB (λq=>q=R) W X0/\p<=pz/\pz<=p+6800/\Rd X0 R ad nn cap pz/\∃x0 u:Value,t 14=.tuple #[x0,u]) Zc Zc Zc ?_ rfl hr ?_ ?_ ?_ ?_;all_goals subst Dg
 .intro i v X Z p' hi h hF Lb hR hX;rcases(Ac7 i Za)with rfl|rfl|rfl|rfl|rfl|rfl|rfl|rfl|rfl|rfl|rfl|rfl|rfl|rfl|rfl|rfl|rfl;.exact h
  .exact h.fr hF Za
  .exact h
  .exact h
  .obtain⟨g,k,s,e,y1,y2,y3,y4⟩:=h;exact⟨g,k,s,e,y1,Aa y2 hF.size,y3,(hF.cell (p:=⟨g,k,none⟩) y2 (λq=>by have q:g=R:=q;omega)).trans y4⟩
  .exact h
  .exact h
  .exact h
  .exact h
  .exact h
  .exact h
  .obtain⟨x,u1,u2,d1,d2,e,hx,kr⟩:=h;exact⟨x,u1,u2,d1,d2,e,hx,kr.pick hF Lb.ns⟩
  .obtain⟨c,u1,u2,d1,d2,e,Li,hx,kr⟩:=h;exact⟨c,u1,u2,d1,d2,e,Li,hx,kr.pick hF Lb.ns⟩
  .exact t_
  .exact t_
  .obtain⟨V,f1,f2,f3,h1,h2,h3,e,hV⟩:=h;exact⟨V,f1,f2,f3,h1,h2,h3,e,hV.pick hF Lb.ns⟩
  .exact h
 .intro i hi t X K p' hb CO Dj AW hg hK;rcases(Ac7 i Za)with rfl|rfl|rfl|rfl|rfl|rfl|rfl|rfl|rfl|rfl|rfl|rfl|rfl|rfl|rfl|rfl|rfl;.exact jm
  .have h:=hK (.l (some ⟨X.1.size,0,none⟩) 3 3) (X.alloc (.cells (Hw jk).toArray 9)) p' A9 Za ((SL.new X jk).mono2 hb.size) (Aj Do) (AW.below Do);refine Au rfl rfl ?_;clear hK hg;go_simp;simpa[AX,Hw,jk]using h
  .exact Di
  .have AY:t 2=_:=hg 2 (AR rfl);exact Abk
  .obtain⟨g,cp,g1,y1,y2,y3,y4,y5⟩:=hg 1 (AR rfl);obtain⟨k,hk,g3⟩:=hg 3 (AR rfl);have hL:jk.length=3:=rfl;rw[hL]at g1;have h:=hK (.pointer (some ⟨g,k,none⟩)) X p' A9 Za ⟨g,k,jk[k]'Zbd,rfl,y1,y2,Fd _,y5 k Zbd⟩ (AB.refl _ _) AW;exact et
  .obtain⟨g,k,s,g4,y1,y2,y3,y4⟩:=hg 4 (AR rfl);exact wE
  .exact Di
  .have AY:t 6=_:=hg 6 (AR rfl);exact vt
  .obtain⟨k,hk,g7⟩:=hg 7 (AR rfl);have hw:=AQ (1+(k:Int)) ⟨Za,Za⟩;have h:=hK (.i (1+(k:Int))) X p' A9 Za ⟨_,rfl⟩ (AB.refl _ _) AW;refine Au rfl rfl ?_;clear hK hg;go_simp;simpa[AX,g7,hw]using h
  .exact Di
  .exact jm
  .have AY:t 9=_:=hg 9 (AR rfl);have Ff:t 10=_:=hg 10 (AR rfl);have HY:=Ab (hY.pick hb hr.ns);refine Au rfl rfl ?_;have HK:=Ab hK;have HR:=Ab AW;clear hK hg AW;go_simp;go_at_call 56;refine(Z9 Y R ad nn cap p' b1 b2 b3 k1 k2 k3 X HR Za HY).mono ?_;rintro r Z ⟨x,u1,u2,d1,d2,rfl,hx,kr,hf,q3,z1,z2,Me⟩;have h:=HK (.agg #[.l u1 x.wn d1,.l u2 x.rn d2]) Z q3 z1 Za ⟨x,u1,u2,d1,d2,rfl,hx,kr⟩ hf Me;exact LN
  .obtain⟨s,hs,g5⟩:=hg 5 (AR rfl);obtain⟨k,g8⟩:=hg 8 (AR rfl);obtain⟨x,u1,u2,d1,d2,g11,hx,kr⟩:=hg 11 (AR rfl);have h:=hK (.agg #[.s s,.i k,.l u1 x.wn d1,.l u2 x.rn d2]) X p' A9 Za ⟨⟨s,k,x⟩,u1,u2,d1,d2,rfl,Ac8 hs,hx,kr⟩ (AB.refl _ _) AW;refine Au rfl rfl ?_;clear hK hg;go_simp;simpa[AX,g5,g8,g11]using h
  .have AY:t 0=_:=hg 0 (AR rfl);obtain⟨c,u1,u2,d1,d2,g12,Li,hx,kr⟩:=hg 12 (AR rfl);have HY:=Ab (hY.pick hb hr.ns);refine Au rfl rfl ?_;have HK:=Ab hK;have HR:=Ab AW;clear hK hg AW;go_simp;go_at_call 55;refine(rx Y c b1 b2 b3 k1 k2 k3 u1 u2 d1 d2 X HY Li hx kr).mono ?_;rintro r Z ⟨Nt,V,f1,f2,f3,h1,h2,h3,u,rfl,hV⟩;have h:=HK (.tuple #[.agg #[.i V.v,.i V.f,.l f1 V.on h1,.l f2 V.hn h2,.l f3 V.tn h3],u]) Z p' A9 Za ⟨V,f1,f2,f3,h1,h2,h3,u,rfl,hV⟩ (Aj Nt) (HR.below Nt);simpa[AX,AY,g12]using h
  .obtain⟨V,f1,f2,f3,h1,h2,h3,u,g13,hV⟩:=hg 13 (AR rfl);have h:=hK (.tuple #[.agg #[.i V.v,.i V.f,.l f1 V.on h1,.l f2 V.hn h2,.l f3 V.tn h3],u]) X p' A9 Za ⟨V,f1,f2,f3,h1,h2,h3,u,rfl,hV⟩ (AB.refl _ _) AW;refine Au rfl rfl ?_;clear hK hg;go_simp;simpa[AX,g13]using h
  .obtain⟨V,f1,f2,f3,h1,h2,h3,u,fZ,hV⟩:=hg 14 (AR rfl);have h:=hK (.agg #[.i V.v,.i V.f,.l f1 V.on h1,.l f2 V.hn h2,.l f3 V.tn h3]) X p' A9 Za ⟨V,f1,f2,f3,h1,h2,h3,rfl,hV⟩ (AB.refl _ _) AW;refine Au rfl rfl ?_;clear hK hg;go_simp;simpa[AX,fZ]using h
  .obtain⟨V,f1,f2,f3,h1,h2,h3,u,fZ,hV⟩:=hg 14 (AR rfl);have h:=hK (u) X p' A9 Za trivial (AB.refl _ _) AW;refine Au rfl rfl ?_;clear hK hg;go_simp;simpa[AX,fZ]using h
 .intro t X K p' hb CO Dj AW hg hK;obtain⟨V,f1,f2,f3,h1,h2,h3,g15,hV⟩:=hg 15 Za Za;obtain⟨V',f1',f2',f3',gt,h2',h3',u',fZ,_⟩:=hg 14 Za Za;have bT:=By.fr hb (λe=>Ol e);have rf:=bT.free;have rl:=bT.lt;obtain⟨r0,r1,r2,r3,r4⟩:=JQ bT;have h:=hK _ _ ⟨t,V,f1,f2,f3,h1,h2,h3,p',X,rfl,rfl,hV,hb,CO,Za,AW,_,_,fZ⟩;have HK:=Ab h;clear hK hg h bT;refine Au rfl rfl ?_;go_simp;simpa[fZ,g15]using HK.out
 .intro _ a X K hF hK;obtain⟨t,V,f1,f2,f3,h1,h2,h3,pz,X0,rfl,z1,z2,z3,z4,z5,z6,x0,u,fZ⟩:=hF;have h:=hK _ ⟨AX t 16 u,V,f1,f2,f3,h1,h2,h3,pz,X0,rfl,z1,z2,z3,z4,z5,z6,x0,u,by rw[BP Zb];exact fZ⟩;refine Au rfl rfl ?_;clear hK z1;go_simp;simpa[AX,fZ]using h
 .rintro a X ⟨t,V,f1,f2,f3,h1,h2,h3,pz,X0,rfl,z1,z2,z3,z4,z5,z6,_⟩;exact hQ t V f1 f2 f3 h1 h2 h3 pz X0 X z1 z2 z3 z4 z5 z6
theorem Rs (k:Nat):∀n,jI (λ_=>k) n=k*n
 |0=>rfl
 |n+1=>by rw[jI,Rs k n,Nat.mul_succ]
theorem NL{P:Program}{id:Nat}{ops:Array Oper}{Q:Exit->Act->World->Prop}{a0:Act}{W:World}(hm:P.follows .mixedOrders=true)(n Kk:Nat)(mk:(Nat->Value)->Array Value)(t0:Nat->Value)(R:Nat)(ad:OA)(nn cap p:Nat)(G:Nat->Value->World->Prop)(hn:ops.size=n)(Fj:((List.range ops.size).all λi=>match ops[i]? with|some o=>o.after.all (λe=>!(Region.binds .any e)||decide (e.on<i))|none=>true)=true)(st:∀i v X Y p',i<n->G i v X->AB (λq=>q=R) X Y->Rd X R ad nn cap p'->R<W.1.size->W.1.size<=X.1.size->G i v Y)(h0:a0=⟨mk t0,[]⟩)(hr:Rd W R ad nn cap p)(sg:∀i,i<n->∀(t:Nat->Value) X K p',AB (λq=>q=R) W X->p<=p'->p'<=p+Kk*n->Rd X R ad nn cap p'->(∀j,Ci ops i j->G j (t j) X)->(∀v Y p2,p'<=p2->p2<=p'+Kk->G i v Y->AB (λq=>q=R) X Y->Rd Y R ad nn cap p2->K ⟨mk (AX t i v),[]⟩ Y)->wpOp P ops Q i K ⟨mk t,[]⟩ X)(G7:∀(t:Nat->Value) X p',AB (λq=>q=R) W X->p<=p'->p'<=p+Kk*n->Rd X R ad nn cap p'->(∀i,i<n->G i (t i) X)->Q .normal ⟨mk t,[]⟩ X):(Code.region id ops true).wp P Q a0 W:=by
 refine KW hm n (Kk*n) (λ_=>Kk) mk t0 R ad nn cap p (λq=>q=R) (λ_ q=>q=R) n (λ_=>True) G (λ_ _=>False) hn Fj ?_ ?_ (λ_ _ h=>h) (λi j v X Y p' hi _ _ _ h _ hf hx hs=>st i v X Y p' hi h hf hx hr.lt hs) h0 hr trivial (λi hi t X K p' hf h1 h2 hx _ hg hK=>sg i hi t X K p' hf h1 Za hx hg (λv Y p2 a b c d e=>hK v Y p2 a b c d e (AA ⟨Za,trivial⟩))) (λt X p' hf h1 h2 hx h=>?_);.rw[Bz];intro j hj;rw[DK Za];simp
 .exact Rs Kk n
 .rcases h with h|h;.omega
  .exact G7 t X p' hf h1 h2 hx h.2.2
def ef (R:Nat)(Bb:Nat)(Y:Bk)(_b1 b2 _b3:OA)(_k1 k2 _k3:Nat)(i:Nat)(v:Value)(_X:World):Prop:=match i with
 |0=>v=.p Bb 3
 |1=>v=.l b2 Y.hn k2
 |2=>v=.i (Y.hn:Nat)
 |3=>v=.p R 0
 |4=>∃k:Nat,k<2/\v=.i k
 |5=>∃m:Int,v=.i m/\m<=200
 |6=>∃b:Bool,v=.bool b/\(b=true->Y.hn<200)
 |_=>True
theorem qr{EV Er EB ER ES EQ EC ED Eo EW EU EK EL F9 FY F8 Ga:Value}(t0:Nat->Value)(R:Nat)(ad:OA)(nn cap p:Nat)(Bb:Nat)(Y:Bk)(b1 b2 b3:OA)(k1 k2 k3:Nat)(W:World)(hr:Rd W R ad nn cap p)(hp:p<=600000)(Uw:Bb<W.1.size)(Ol:¬Bb=R)(By:AE W Bb 5 (AV [.i Y.v,.i Y.f,.l b1 Y.on k1,.l b2 Y.hn k2,.l b3 Y.tn k3]))(Dg:mk=λt=>#[.pointer (some ⟨R,0,none⟩),p1,p2,.pointer (some ⟨Bb,0,none⟩),p4,p5,p6,p7,p8,p9,Ea,Ee,Em,D1,DW,DN,DU,DX,DO,DP,DV,DT,D9,Ef,EJ,Ej,El,Ei,Ed,Eh,Ek,Ey,Ev,Ew,Ex,EM,EH,EI,EV,Er,EB,ER,ES,EQ,EC,ED,Eo,EW,EU,EK,EL,F9,FY,F8,Ga,FM,Fz,Fy,t 0,t 1,t 2,t 3,t 4,t 5,t 6,Gw,Gv,Fu,G9,Ha,Hf,Hd,Hb,Hc,GL,GK,Hg,In,Ik,Im,Hj,He,G8,Hi,Hh,Ie])(Q:Exit->Act->World->Prop)(hQ:∀(t:Nat->Value)(b:Bool)(pz:Nat) X,t 6=.bool b->(b=true->Y.hn<200)->AB (λq=>q=R) W X->p<=pz->pz<=p+7->Rd X R ad nn cap pz->Q .normal ⟨mk t,[]⟩ X):Code.wp prog (rg Tryz.f29 14) Q ⟨mk t0,[]⟩ W:=by
 have Le:=hr.lt;refine NL Zc 7 1 mk t0 R ad nn cap p (ef R Bb Y b1 b2 b3 k1 k2 k3) Zc Zc ?_ rfl hr ?_ ?_;all_goals subst Dg
 .exact dM
 .intro i hi t X K p' hb CO Dj AW hg hK;rcases(YP i Za)with rfl|rfl|rfl|rfl|rfl|rfl|rfl;.exact Di
  .have AY:t 0=_:=hg 0 (AR rfl);have q3:=(hb.cell (p:=⟨Bb,3,none⟩) Uw Ol).trans (By.cell 3 Zb);simp only[AV,Ac,Ad]at q3;exact MJ
  .have AY:t 1=_:=hg 1 (AR rfl);exact MJ
  .exact Di
  .have AY:t 3=_:=hg 3 (AR rfl);exact sj
  .obtain⟨k,hk,g4⟩:=hg 4 (AR rfl);have hw:=AQ (200-(k:Int)) ⟨Za,Za⟩;have h:=hK (.i (200-(k:Int))) X p' A9 Za ⟨_,rfl,Za⟩ (AB.refl _ _) AW;refine Au rfl rfl ?_;clear hK hg;go_simp;simpa[AX,g4,hw]using h
  .have AY:t 2=_:=hg 2 (AR rfl);obtain⟨m,g5,hm⟩:=hg 5 (AR rfl);by_cases hlt:((Y.hn:Nat):Int)<m;.have h:=hK (.bool true) X p' A9 Za ⟨_,rfl,λ_=>by omega⟩ (AB.refl _ _) AW;refine Au rfl rfl ?_;clear hK hg;go_simp;simpa[AX,AY,g5,hlt]using h
   .have h:=hK (.bool false) X p' A9 Za ⟨_,rfl,λh=>Ns⟩ (AB.refl _ _) AW;refine Au rfl rfl ?_;clear hK hg;go_simp;simpa[AX,AY,g5,hlt]using h
 .intro t X pz hf h1 h2 AW hg;obtain⟨b,g6,hb⟩:=hg 6 Za;exact hQ t b pz X g6 hb hf h1 Za AW
def DoH (B:Bk)(w:World)(e:Ending)(w':World):Prop:=Below w.1.size w w'/\∃(cd:Int)(Y:Bk)(b1 b2 b3:OA)(e1 e2 e3:Nat)(ve:Int),e=.returned (.agg #[.i cd,.i Y.v,.i Y.f,.l b1 Y.on e1,.l b2 Y.hn e2,.l b3 Y.tn e3,.i ve])/\Ip w' Y b1 b2 b3 e3/\(cd=0->B.hn<200->Y.hn=B.hn+1)
theorem iA (B:Bk)(v:Wr)(a1 a2 a3:OA)(c1 c2 c3:Nat)(w:World)(hb:Ip w B a1 a2 a3 c3)(hv:aE v):Calls prog 30 #[.agg #[.i B.v,.i B.f,.l a1 B.on c1,.l a2 B.hn c2,.l a3 B.tn c3],.agg #[.i v.op,.s v.k,.s v.n,.i v.s,.s v.m,.s v.hold]] w λe w'=>DoH B w e w':=by cases hw:N7 v with
 |false=>refine(XN B v a1 a2 a3 c1 c2 c3 w hw hv.fit).mono ?_;exact xq
 |true=>
  have Cj:=ZF hb.f (PD hb.v) hw hv.fit;by_cases h0:B8 B v=0;.refine(UW B v a1 a2 a3 c1 c2 c3 w Cj hb.i h0).mono ?_;rintro e w' ⟨h,x1,x2,x3,y1,y2,y3,rfl,Cs,rfl,rfl⟩;refine⟨h,_,Jd B v,x1,x2,x3,y1,y2,y3,_,rfl,⟨Rq hb.v Cj h0,(UL Cj).1,Cs,hb.c.grow h.size⟩,λ_ hl=>?_⟩;show B.hn-JH B+1=B.hn+1;unfold JH;rw[if_neg Za];omega
  .by_cases h4:B8 B v=4;.refine(aJ B v a1 a2 a3 c1 c2 c3 w Cj hb.i h4).mono ?_;exact xq
   .refine(Si B v a1 a2 a3 c1 c2 c3 w Cj hb.i h0 h4).mono ?_;rintro e w' ⟨rfl,h⟩;exact⟨h,_,B,a1,a2,a3,c1,c2,c3,_,rfl,hb.below h,λh=>absurd h h0⟩
def Dr1 (R:Nat)(ad:OA)(nn cap p:Nat)(w:World)(e:Ending)(w':World):Prop:=∃(Y:Bk)(b1 b2 b3:OA)(k1 k2 k3:Nat),e=.returned (.agg #[.i Y.v,.i Y.f,.l b1 Y.on k1,.l b2 Y.hn k2,.l b3 Y.tn k3])/\Ip w' Y b1 b2 b3 k3/\Dn R ad nn cap p 200000 w w'
structure gU (w:World)(R:Nat)(ad:OA)(nn cap p:Nat)(Y:Bk)(b1 b2 b3:OA)(k1 k2 k3:Nat)(X:World):Prop where
 f:AB (λq=>q=R) w X
 r:Rd X R ad nn cap p
 a:AE X w.1.size 5 (AV [.i 0,.i 0,.l none 0 0,.l none 0 0,.l none 0 0])an:IC X w.1.size
 b:AE X (w.1.size+1) 5 (AV [.i Y.v,.i Y.f,.l b1 Y.on k1,.l b2 Y.hn k2,.l b3 Y.tn k3])bn:IC X (w.1.size+1)y:Ip X Y b1 b2 b3 k3
theorem gU.pick{p':Nat}(h:gU w R ad nn cap p Y b1 b2 b3 k1 k2 k3 X)(hR:R<w.1.size)(hf:AB (λq=>q=R) X X')(hr:Rd X' R ad nn cap p'):gU w R ad nn cap p' Y b1 b2 b3 k1 k2 k3 X':=⟨h.f.trans hf,hr,h.a.fr2 hf Za,h.an.fr hf h.a.lt Za,h.b.fr2 hf Za,h.bn.fr hf h.b.lt Za,h.y.pick hf h.r.ns⟩
theorem gU.below (h:gU w R ad nn cap p Y b1 b2 b3 k1 k2 k3 X)(hR:R<w.1.size)(hb:Below X.1.size X X'):gU w R ad nn cap p Y b1 b2 b3 k1 k2 k3 X':=h.pick hR (Aj hb) (h.r.below hb)
theorem gU.put{p0:Nat}{V:Bk}{f1 f2 f3:OA}{h1 h2 h3:Nat}(h:gU w R ad nn cap p Y b1 b2 b3 k1 k2 k3 X)(hw:Rd w R ad nn cap p0)(hV:Ip X V f1 f2 f3 h3):gU w R ad nn cap p V f1 f2 f3 h1 h2 h3 (((((X.setCell ⟨w.1.size+1,0,none⟩ (.i V.v)).setCell ⟨w.1.size+1,1,none⟩ (.i V.f)).setCell ⟨w.1.size+1,2,none⟩ (.l f1 V.on h1)).setCell ⟨w.1.size+1,3,none⟩ (.l f2 V.hn h2)).setCell ⟨w.1.size+1,4,none⟩ (.l f3 V.tn h3)):=by have hR:=hw.lt;have F:=((((((AB.refl (λq=>q=w.1.size+1) X).setCell (p:=⟨w.1.size+1,0,none⟩) rfl (.i V.v)).setCell (p:=⟨w.1.size+1,1,none⟩) rfl (.i V.f)).setCell (p:=⟨w.1.size+1,2,none⟩) rfl (.l f1 V.on h1)).setCell (p:=⟨w.1.size+1,3,none⟩) rfl (.l f2 V.hn h2)).setCell (p:=⟨w.1.size+1,4,none⟩) rfl (.l f3 V.tn h3));have f2':=((((h.f.far (z:=w.1.size+1) Za 0 (.i V.v)).far (z:=w.1.size+1) Za 1 (.i V.f)).far (z:=w.1.size+1) Za 2 (.l f1 V.on h1)).far (z:=w.1.size+1) Za 3 (.l f2 V.hn h2)).far (z:=w.1.size+1) Za 4 (.l f3 V.tn h3);have M:=(((((h.b.set (o:=0) Zb (.i V.v)).set (o:=1) Zb (.i V.f)).set (o:=2) Zb (.l f1 V.on h1)).set (o:=3) Zb (.l f2 V.hn h2)).set (o:=4) Zb (.l f3 V.tn h3));refine⟨f2',hw.keep h.r f2' (F.mono (λk hk e=>by omega)),h.a.fr F Za,h.an.fr F h.a.lt Za,M.congr (λj hj=>?_),Ye h.bn h.b V f1 f2 f3 h1 h2 h3,hV.pick F h.bn⟩;exact Ui
def L1C (w:World)(R:Nat)(ad:OA)(nn cap p k:Nat)(X:World):Prop:=∃Y b1 b2 b3 k1 k2 k3 p',p<=p'/\p'<=p+k/\gU w R ad nn cap p' Y b1 b2 b3 k1 k2 k3 X
def Afw:Bk:=⟨0,0,0,λ_=>⟨⟨#[]⟩,⟨#[]⟩,0,0,⟨#[]⟩,false,0,λ_=>⟨#[]⟩⟩,0,λ_=>⟨0,false,⟨⟨#[]⟩,⟨#[]⟩,0,0,⟨#[]⟩,false,0,λ_=>⟨#[]⟩⟩⟩,0,λ_=>⟨⟨#[]⟩,0,⟨#[]⟩,0,0⟩⟩
theorem yp:VB Afw:=Agp Zb
theorem Ys (w:World):IC (w.alloc (.cells #[.i 0,.i 0,.l none 0 0,.l none 0 0,.l none 0 0] 36)) w.1.size:=λj s e=>by rw[Al w #[.i 0,.i 0,.l none 0 0,.l none 0 0,.l none 0 0] 36 j]at e;match j,e with
 |0,e=>cases e
 |1,e=>cases e
 |2,e=>cases e
 |3,e=>cases e
 |4,e=>cases e
 |n+5,e=>simp at e
theorem Ack (w:World)(R:Nat)(ad:OA)(nn cap p:Nat)(hr:Rd w R ad nn cap p):gU w R ad nn cap p Afw none none none 0 0 0 ((w.alloc (.cells #[.i 0,.i 0,.l none 0 0,.l none 0 0,.l none 0 0] 36)).alloc (.cells #[.i 0,.i 0,.l none 0 0,.l none 0 0,.l none 0 0] 36)):=by have hb:Below w.1.size w ((w.alloc (.cells #[.i 0,.i 0,.l none 0 0,.l none 0 0,.l none 0 0] 36)).alloc (.cells #[.i 0,.i 0,.l none 0 0,.l none 0 0,.l none 0 0] 36)):=((Ap _ _).alloc A9 _).alloc Ze _;have h1:=AE.new (w:=w.alloc (.cells #[.i 0,.i 0,.l none 0 0,.l none 0 0,.l none 0 0] 36)) (l:=[.i 0,.i 0,.l none 0 0,.l none 0 0,.l none 0 0]) (t:=36) Dx;have n1:=Ys (w.alloc (.cells #[.i 0,.i 0,.l none 0 0,.l none 0 0,.l none 0 0] 36));rw[Av]at h1 n1;exact⟨Aj hb,hr.below hb,AE.new (l:=[.i 0,.i 0,.l none 0 0,.l none 0 0,.l none 0 0]) Do,(Ys w).below Do Ze,h1,n1,⟨yp,aH yp,⟨λi hi=>absurd hi (Ae _),λi hi=>absurd hi (Ae _),λi hi=>absurd hi (Ae _)⟩,⟨AG _,AA ⟨rfl,rfl,rfl⟩⟩⟩⟩
def Yo (Bb:Nat)(w:World):Nat:=match w.cell? ⟨Bb,3,none⟩with
 |some (.slice _ n _)=>200-n
 |_=>0
theorem ZR (R:Nat)(ad:OA)(nn cap p:Nat)(w:World)(hr:Rd w R ad nn cap p)(hp:p<=100):Calls prog 29 #[.pointer (some ⟨R,0,none⟩)] w λe w'=>Dr1 R ad nn cap p w e w':=by
 have HS:=Ab (Ack w R ad nn cap p hr);have HR:=Ab hr;have Ic:=hr.lt;clear hr;go_enter func29,ntmps29;go_upto_region 2 with fail;generalize(w.alloc (.cells #[.int .i64 0,.int .i64 0,.slice none 0 0,.slice none 0 0,.slice none 0 0] 36)).alloc (.cells #[.int .i64 0,.int .i64 0,.slice none 0 0,.slice none 0 0,.slice none 0 0] 36)=X0 at HS⊢;go_upto_block 0 with(go_at_call 16;go_must(refine(Bt R ad nn cap _ 24 _ HS.r Za Zb Zb).mono ?_;rintro e w3 ⟨y,rfl,_,hy,FP,Gi⟩;have j6:=hy Zb;clear hy));have cG:=Ab (HS.pick Ic FP Gi);clear HS FP Gi;go_cut[](λwx=>L1C w R ad nn cap p 160000 wx);case first=>
  --<l1
  go_wp2_with fail;go_loopw[4](λs wr=>∃n:Nat,s=.int .i64 n/\n<=23/\Hid (L1C w R ad nn cap p (1+6900*(23-n)) wr))(λs _=>(intOf s).toNat);case atStart=>exact⟨y,rfl,Za,Ab ⟨_,_,_,_,_,_,_,_,Nat.le_succ _,Za,cG⟩⟩
  case round=>
   clear cG;obtain⟨n,rfl,fT,HL⟩:=hrel;by_cases LU:n=0;.subst LU;go_wp2_with fail;go_meet;case rel=>obtain⟨Y,b1,b2,b3,k1,k2,k3,p',GM,Lz,hL⟩:=HL.out;exact⟨Y,b1,b2,b3,k1,k2,k3,p',GM,Za,hL⟩
   .go_upto_block 1 with fail;go_cut[](λwx=>L1C w R ad nn cap p (6901+6900*(23-n)) wx);case first=>
     --<b1
     obtain⟨Y,b1,b2,b3,k1,k2,k3,p',GM,Lz,hL⟩:=HL.out;have EG:=Ab hL;clear HL hL;go_upto_block 2 with(go_at_call 16;go_must(refine(Bt R ad nn cap _ 10 _ EG.r Za Zb Zb).mono ?_;rintro e w3 ⟨y,rfl,_,hy,FP,Gi⟩;have j6:=hy Zb;clear hy));have I5:=Ab (EG.pick Ic FP Gi);clear EG FP Gi;have YY:=I5.b.lt;by_cases y0:y=0;.subst y0;go_wp2_with fail;refine Ab0 (AV [_,_,_,_,_,_,_]) R ad nn cap (p'+1) (w.1.size+1) Y b1 b2 b3 k1 k2 k3 _ I5.r Za YY Za I5.b I5.y rfl _ ?_;exact i_
     .by_cases y1:y=1;.subst y1;go_wp2_with fail;refine qm (AV [_,_,_,_,_,_,_,_,_,_,_,_,_,_,_,_,_]) R ad nn cap (p'+1) (w.1.size+1) Y b1 b2 b3 k1 k2 k3 _ I5.r Za YY Za I5.b I5.y rfl _ ?_;exact i_
      .go_wp2_with fail;refine Acg (AV [_,_,_,_,_,_]) R ad nn cap (p'+1) (w.1.size+1) Y b1 b2 b3 k1 k2 k3 _ I5.r Za YY Za I5.b I5.y rfl _ ?_;intro t z cd V f1 f2 f3 h1 h2 h3 ve pz X ht hz By hV hf CO Dj AW;rw[ht];have MI:=Ab (I5.pick Ic hf AW);have r1:=By.cell 1 Zb;have r2:=By.cell 2 Zb;have r3:=By.cell 3 Zb;have r4:=By.cell 4 Zb;have r5:=By.cell 5 Zb;have rl:=By.lt;obtain⟨m0,m1,m2,m3,m4⟩:=JQ MI.b;have mf:=MI.b.free;have ml:=MI.b.lt;simp only[AV,Ac,Ad]at r1 r2 r3 r4 r5;have HV:=Ab hV;clear By hV hf AW ht I5;go_wp2_with fail;go_meet;case rel=>exact⟨V,f1,f2,f3,h1,h2,h3,pz,Za,Za,MI.put HR HV⟩
     --b1>
    case rest=>
     have MI:=Ab hcut;clear hcut HL;have Lg:IntKind.i64.wrap ((n:Int)-1)=((n-1:Nat):Int):=by rw[AQ _ ⟨Za,Za⟩];omega
     go_wp2;refine⟨⟨n-1,rfl,Za,Ab ?_⟩,?_⟩;.obtain⟨Y,b1,b2,b3,k1,k2,k3,p',GM,Lz,hL⟩:=MI.out;exact⟨Y,b1,b2,b3,k1,k2,k3,p',GM,Za,hL⟩
     .show(((n-1:Nat):Int)).toNat<((n:Int)).toNat;omega
  --l1>
 case rest=>
  have HL:=Ab hcut;clear hcut cG;obtain⟨Y,b1,b2,b3,k1,k2,k3,p',GM,Lz,hL⟩:=HL.out;have EG:=Ab hL;clear HL hL;go_upto_if 57 with(go_at_call 16;go_must(refine(Bt R ad nn cap _ 24 _ EG.r Za Zb Zb).mono ?_;rintro e w3 ⟨y,rfl,_,hy,FP,Gi⟩;have j6:=hy Zb;clear hy));have I5:=Ab (EG.pick Ic FP Gi);clear EG FP Gi;go_cut[](λwx=>L1C w R ad nn cap p 170000 wx);case first=>
   --<f2
   by_cases y0:y=0
   .subst y0;go_wp2_with fail;go_loopw[6](λs wr=>∃i:Int,s=.int .i64 i/\Hid (∃Y b1 b2 b3 k1 k2 k3 p',p<=p'/\p'<=p+160001+7*Y.hn/\gU w R ad nn cap p' Y b1 b2 b3 k1 k2 k3 wr))(λ_ wr=>Yo (w.1.size+1) wr);case atStart=>exact⟨0,rfl,Ab ⟨Y,b1,b2,b3,k1,k2,k3,p'+1,Za,Za,I5⟩⟩
    case round=>
     clear I5 GM Lz Y b1 b2 b3 k1 k2 k3 p';obtain⟨i,rfl,HL⟩:=hrel;obtain⟨Y,b1,b2,b3,k1,k2,k3,p',GM,Lz,hL⟩:=HL.out;have EG:=Ab hL;clear HL hL;have hhn:=EG.y.v.hn;have YY:=EG.b.lt;go_upto_region 14 with fail;refine qr (AV [_,_,_,_,_,_,_]) R ad nn cap p' (w.1.size+1) Y b1 b2 b3 k1 k2 k3 _ EG.r Za YY Za EG.b rfl _ ?_;intro t b pz X ht Yv hf CO Dj AW;rw[ht];have I5:=Ab (EG.pick Ic hf AW);have jv:Yo (w.1.size+1) wr=200-Y.hn:=by unfold Yo;rw[show wr.cell? ⟨w.1.size+1,3,none⟩=some (.slice b2 Y.hn k2)from EG.b.cell 3 Zb]
     have HMS:=Ab jv;clear EG hf AW ht jv;cases b with
     |false=>go_wp2_with fail;go_meet;case rel=>exact⟨Y,b1,b2,b3,k1,k2,k3,pz,Za,Za,I5⟩
     |true=>
      have hlt:=Yv rfl;clear Yv;go_upto_region 17 with fail;have MI:=Ab (I5.below Ic (Ak X (.cells #[.int .i64 2,.string ⟨#[98,101,114,116,104]⟩,.string ⟨#[120]⟩,.int .i64 0,.string ⟨#[118]⟩,.string ⟨#[]⟩] 76)));have HM:=Ab (show AE (X.alloc (.cells #[.int .i64 2,.string ⟨#[98,101,114,116,104]⟩,.string ⟨#[120]⟩,.int .i64 0,.string ⟨#[118]⟩,.string ⟨#[]⟩] 76)) X.1.size 6 (AV (wv ⟨2,⟨#[98,101,114,116,104]⟩,⟨#[120]⟩,0,⟨#[118]⟩,⟨#[]⟩⟩))from AE.new (l:=[.int .i64 2,.string ⟨#[98,101,114,116,104]⟩,.string ⟨#[120]⟩,.int .i64 0,.string ⟨#[118]⟩,.string ⟨#[]⟩]) (t:=76) Dx);have hMb:w.1.size+1<X.1.size:=I5.b.lt;have hMl:X.1.size<(X.alloc (.cells #[.int .i64 2,.string ⟨#[98,101,114,116,104]⟩,.string ⟨#[120]⟩,.int .i64 0,.string ⟨#[118]⟩,.string ⟨#[]⟩] 76)).1.size:=Ze;have OB:=Ab (Ak X (.cells #[.int .i64 2,.string ⟨#[98,101,114,116,104]⟩,.string ⟨#[120]⟩,.int .i64 0,.string ⟨#[118]⟩,.string ⟨#[]⟩] 76));generalize X.alloc (.cells #[.int .i64 2,.string ⟨#[98,101,114,116,104]⟩,.string ⟨#[120]⟩,.int .i64 0,.string ⟨#[118]⟩,.string ⟨#[]⟩] 76)=X3 at MI HM hMl OB⊢;obtain⟨M,hM⟩:∃M,X.1.size=M:=⟨_,rfl⟩;rw[hM]at HM hMb hMl⊢;have HMX:=Ab hM;clear hM;obtain⟨m0,m1,m2,m3,m4⟩:=JQ MI.b;have ml:=MI.b.lt;go_upto_if 74 with(go_at_call 57;go_must(refine(Ce Y.v Y.f Y.on Y.os b1 b2 b3 k1 Y.hn k2 Y.tn k3 ⟨#[98,101,114,116,104]⟩ ⟨#[120]⟩ _ 0 X3.1.size A9 (by have:=MI.y.v.on;omega) MI.y.f.os MI.y.i.o).mono ?_;rintro e w5 ⟨tq,cp5,rfl,hs5,_,sE⟩));have hB5:∀o,Below X3.1.size X3 (w5.alloc o):=λo=>sE.alloc sE.size _;have Y7:=Ab (HM.below sE hMl);have jt:=Y7.cell 0 Zb;have h5f:=Y7.free 0;have h5l:=Y7.lt;simp only[wv,AV,Ac]at jt;have SG:=Ab hB5;have Adl:=Ab sE;clear hB5 hs5 sE m0 m1 m2 m3 m4 ml;go_cut[9](λ_ wx=>∃v:Wr,aE v/\AE wx M 6 (AV (wv v))/\gU w R ad nn cap pz Y b1 b2 b3 k1 k2 k3 wx);case first=>have wi:∀o:Int,1<=o->o<=5->aE ⟨o,⟨#[98,101,114,116,104]⟩,⟨#[120]⟩,0,⟨#[118]⟩,⟨#[]⟩⟩:=λo h1 h2=>⟨⟨by show((⟨#[98,101,114,116,104]⟩:ByteArray).size:Int)<=_;decide,by show((⟨#[120]⟩:ByteArray).size:Int)<=_;decide,by show((⟨#[118]⟩:ByteArray).size:Int)<=_;decide,by show((⟨#[]⟩:ByteArray).size:Int)<=_;decide⟩,h1,h2,by show(0:Int)<=_;decide⟩;have HWI:=Ab wi;clear wi;cases hfi:CC Y.os ⟨#[98,101,114,116,104]⟩ ⟨#[120]⟩ Y.on with
       |true=>go_wp2_with fail;go_meet;case rel=>exact⟨_,HWI 2 Zb Zb,Y7.below Do h5l,MI.below Ic (SG _)⟩
       |false=>go_wp2_with fail;go_meet;case rel=>have bA:Below X.1.size X w5:=OB.trans (Adl.mono OB.size);have bB:Below X.1.size w5 (w5.setCell ⟨M,0,none⟩ (.int .i64 1)):=((AB.refl (λq=>q=M) w5).setCell (p:=⟨M,0,none⟩) rfl _).below (λq hq e=>by have:=HMX.out;have e':q=M:=e;omega) bA.size;exact⟨⟨1,⟨#[98,101,114,116,104]⟩,⟨#[120]⟩,0,⟨#[118]⟩,⟨#[]⟩⟩,HWI 1 Zb Zb,((Y7.set (o:=0) Zb _).congr (λj hj=>by rcases six hj with rfl|rfl|rfl|rfl|rfl|rfl<;>rfl)).below Do (by rw[Be];exact h5l),I5.below Ic ((bA.trans bB).trans ((Ak _ _).mono (by rw[Be];exact bA.size)))⟩
      case rest=>
       obtain⟨v,hv,bS,hL⟩:=hcut;have kd:=Ab hL;have tr:=Ab bS;clear hL bS MI HM Y7 jt h5f h5l SG Adl I5 OB HMX;have m0:=kd.b.cell 0 Zb;have m1:=kd.b.cell 1 Zb;have m2:=kd.b.cell 2 Zb;have m3:=kd.b.cell 3 Zb;have m4:=kd.b.cell 4 Zb;have ml:=kd.b.lt;have v0:=tr.cell 0 Zb;have v1:=tr.cell 1 Zb;have v2:=tr.cell 2 Zb;have v3:=tr.cell 3 Zb;have v4:=tr.cell 4 Zb;have v5:=tr.cell 5 Zb;have vl:=tr.lt;simp only[wv,AV,Ac,Ad]at m0 m1 m2 m3 m4 v0 v1 v2 v3 v4 v5;go_upto_region 21 with(go_at_call 30;go_must(refine(iA Y v b1 b2 b3 k1 k2 k3 _ kd.y hv).mono ?_;rintro e w6 ⟨Qs,cd,V,f1,f2,f3,h1,h2,h3,ve,rfl,hV,Y5⟩));have HL6:=Ab ((kd.below Ic Qs).below Ic (Ak w6 (.cells #[.int .i64 cd,.int .i64 V.v,.int .i64 V.f,.slice f1 V.on h1,.slice f2 V.hn h2,.slice f3 V.tn h3,.int .i64 ve] 73)));have HD:=Ab (AE.new (w:=w6) (l:=[.int .i64 cd,.int .i64 V.v,.int .i64 V.f,.slice f1 V.on h1,.slice f2 V.hn h2,.slice f3 V.tn h3,.int .i64 ve]) (t:=73) Dx);have HV:=Ab (hV.below (Ak w6 (.cells #[.int .i64 cd,.int .i64 V.v,.int .i64 V.f,.slice f1 V.on h1,.slice f2 V.hn h2,.slice f3 V.tn h3,.int .i64 ve] 73)));generalize w6.alloc (.cells #[.int .i64 cd,.int .i64 V.v,.int .i64 V.f,.slice f1 V.on h1,.slice f2 V.hn h2,.slice f3 V.tn h3,.int .i64 ve] 73)=X6 at HL6 HD HV⊢;generalize w6.1.size=Dd at HD⊢;clear kd tr m0 m1 m2 m3 m4 ml v0 v1 v2 v3 v4 v5 vl Qs hV;have d0:=HD.cell 0 Ze;have d1:=HD.cell 1 Ze;have d2:=HD.cell 2 Ze;have d3:=HD.cell 3 Ze;have d4:=HD.cell 4 Ze;have d5:=HD.cell 5 Ze;have dl:=HD.lt;obtain⟨m0,m1,m2,m3,m4⟩:=JQ HL6.b;have mf:=HL6.b.free;have ml:=HL6.b.lt;simp only[AV,Ac,Ad]at d0 d1 d2 d3 d4 d5;have HCD:=Ab Y5;clear Y5;by_cases c0:cd=0
       .have hVn:=HCD c0 hlt;have HVN:=Ab hVn;clear hVn HCD;subst c0;go_wp2;have HP:=HL6.put (h1:=h1) (h2:=h2) HR HV;refine⟨⟨_,rfl,Ab ⟨V,f1,f2,f3,h1,h2,h3,pz,Za,by have:=HVN.out;omega,HP⟩⟩,?_⟩;have Agw:Yo (w.1.size+1) (((((X6.setCell ⟨w.1.size+1,0,none⟩ (.int .i64 V.v)).setCell ⟨w.1.size+1,1,none⟩ (.int .i64 V.f)).setCell ⟨w.1.size+1,2,none⟩ (.slice f1 V.on h1)).setCell ⟨w.1.size+1,3,none⟩ (.slice f2 V.hn h2)).setCell ⟨w.1.size+1,4,none⟩ (.slice f3 V.tn h3))=200-V.hn:=by unfold Yo;rw[show World.cell? (((((X6.setCell ⟨w.1.size+1,0,none⟩ (.int .i64 V.v)).setCell ⟨w.1.size+1,1,none⟩ (.int .i64 V.f)).setCell ⟨w.1.size+1,2,none⟩ (.slice f1 V.on h1)).setCell ⟨w.1.size+1,3,none⟩ (.slice f2 V.hn h2)).setCell ⟨w.1.size+1,4,none⟩ (.slice f3 V.tn h3)) ⟨w.1.size+1,3,none⟩=some (.slice f2 V.hn h2)from HP.b.cell 3 Zb]
        rw[Agw,HMS.out,HVN.out];omega
       .go_wp2_with fail;go_meet;case rel=>exact⟨Y,b1,b2,b3,k1,k2,k3,pz,Za,Za,HL6⟩
      --b4>
   .go_wp2_with fail;go_meet;case rel=>exact⟨Y,b1,b2,b3,k1,k2,k3,p'+1,Za,Za,I5⟩
   --f2>
  case rest=>
   have HL:=Ab hcut;clear hcut I5;obtain⟨Y,b1,b2,b3,k1,k2,k3,p',GM,Lz,hL⟩:=HL.out;have EG:=Ab hL;clear HL hL;obtain⟨m0,m1,m2,m3,m4⟩:=JQ EG.b;have ml:=EG.b.lt;go_wp2_with (go_at_call 33;go_must(refine(WX Y b1 b2 b3 k1 k2 k3 _ EG.y).mono ?_;rintro e w4 ⟨E1,f1,f2,f3,h1,h2,h3,rfl,Cs,Mx⟩;have sB:=Ab (EG.below Ic E1);have A0:=sB.a.cell 0 Zb;have A1:=sB.a.cell 1 Zb;have A2:=sB.a.cell 2 Zb;have A3:=sB.a.cell 3 Zb;have A4:=sB.a.cell 4 Zb;have AF:=sB.a.free;have AL:=sB.a.lt;simp only[AV,Ac,Ad]at A0 A1 A2 A3 A4));have V0:=Ab (show Ip w4 Y f1 f2 f3 h3 from⟨EG.y.v,EG.y.f,Cs.lo0,Mx⟩);have F:=((((((AB.refl (λq=>q=w.1.size) w4).setCell (p:=⟨w.1.size,0,none⟩) rfl (.int .i64 Y.v)).setCell (p:=⟨w.1.size,1,none⟩) rfl (.int .i64 Y.f)).setCell (p:=⟨w.1.size,2,none⟩) rfl (.slice f1 Y.on h1)).setCell (p:=⟨w.1.size,3,none⟩) rfl (.slice f2 Y.hn h2)).setCell (p:=⟨w.1.size,4,none⟩) rfl (.slice f3 Y.tn h3));have Z:=(((((sB.a.set (o:=0) Zb (.int .i64 Y.v)).set (o:=1) Zb (.int .i64 Y.f)).set (o:=2) Zb (.slice f1 Y.on h1)).set (o:=3) Zb (.slice f2 Y.hn h2)).set (o:=4) Zb (.slice f3 Y.tn h3));have z0:=Z.cell 0 Zb;have z1:=Z.cell 1 Zb;have z2:=Z.cell 2 Zb;have z3:=Z.cell 3 Zb;have z4:=Z.cell 4 Zb;simp[GR]at z0 z1 z2 z3 z4;refine bodyPost_ret (v:=.agg #[.int .i64 Y.v,.int .i64 Y.f,.slice f1 Y.on h1,.slice f2 Y.hn h2,.slice f3 Y.tn h3]) (by simp[results,results29,go_sem,z0,z1,z2,z3,z4]) rfl ⟨Y,f1,f2,f3,h1,h2,h3,rfl,V0.pick F sB.an,?_,p',Za,Za,?_⟩;.exact((((sB.f.far A9 _ _).far A9 _ _).far A9 _ _).far A9 _ _).far A9 _ _
   .exact HR.far (HR.far (HR.far (HR.far (HR.far sB.r A9 _ _) A9 _ _) A9 _ _) A9 _ _) A9 _ _
   --fin>
  --l2>
end Go.Proofs.YtdknjmgdgnmhjaaGreat
