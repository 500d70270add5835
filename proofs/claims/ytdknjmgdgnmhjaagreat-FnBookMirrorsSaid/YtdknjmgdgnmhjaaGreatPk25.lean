import Derived.Test.YtdknjmgdgnmhjaaGreatPk20
set_option maxRecDepth 100000
set_option maxHeartbeats 4000000
namespace Go.Proofs.YtdknjmgdgnmhjaaGreat
open Go.RowKit Go.Proofs.Tryz
variable {p0 p1 p2 p4 p6 p8 p9 Ea Ee Em D1 DW DN DU DX DO DP DV DT D9 Ef Er EB ER ES EQ EC ED Eo EW EU EK EL Hj He G8 Hi Hh Ie J8 Jr Jp Lj Lh Lf J9 Kc KL KJ KM KN KI LJ FE Gb Fi EX E0 EZ EY Fg Fh:Value}{mk:(Nat→Value)→Array Value}{x:Wt}{u:Bu}
theorem dV (x:Wt):(NI x).size=8+x.k.size+x.n.size+(DZ x.t).size:=by have h:=congrArg List.length (JI [⟨#[119,97,110,116]⟩,x.k,x.n,DZ x.t]);have e:(NI x).size=(NI x).data.toList.length:=Ze;rw[e];unfold NI;rw[h];simp[NT,Lib.join];omega
theorem eT (x:Wr):(NO x).size=12+(DZ x.op).size+x.k.size+x.n.size+(DZ x.s).size+(YM x.m).length+x.hold.size:=by have h:=congrArg List.length (JI [⟨#[119,114,105,116,101]⟩,DZ x.op,x.k,x.n,DZ x.s,⟨(YM x.m).toArray⟩,x.hold]);have e:(NO x).size=(NO x).data.toList.length:=Ze;rw[e];unfold NO;rw[h];simp[NT,Lib.join];omega
theorem Se (n:Int)(h0:0<=n)(h1:n<=9223372036854775807)(w:World):Calls prog 85 #[.i n] w λe w'=>e=.returned (.s (DZ n))/\Below w.1.size w w':=by have h:=eG n.toNat Za w;rw[show((n.toNat:Nat):Int)=n by omega]at h;exact h
def qh (b:Nat)(s:ByteArray)(x:Wt)(_W:World)(i:Nat)(v:Value)(_X:World):Prop:=match i with
 |0=>v=.s s
 |1=>v=.s (s++(⟨#[119,97,110,116,32]⟩:ByteArray))
 |2=>v=.p b 0
 |3=>v=.s x.k
 |4=>v=.s ((s++(⟨#[119,97,110,116,32]⟩:ByteArray))++x.k)
 |5=>v=.s (((s++(⟨#[119,97,110,116,32]⟩:ByteArray))++x.k)++(⟨#[32]⟩:ByteArray))
 |6=>v=.p b 1
 |7=>v=.s x.n
 |8=>v=.s ((((s++(⟨#[119,97,110,116,32]⟩:ByteArray))++x.k)++(⟨#[32]⟩:ByteArray))++x.n)
 |9=>v=.s (((((s++(⟨#[119,97,110,116,32]⟩:ByteArray))++x.k)++(⟨#[32]⟩:ByteArray))++x.n)++(⟨#[32]⟩:ByteArray))
 |10=>v=.p b 2
 |11=>v=.i x.t
 |12=>v=.s (DZ x.t)
 |13=>v=.s ((((((s++(⟨#[119,97,110,116,32]⟩:ByteArray))++x.k)++(⟨#[32]⟩:ByteArray))++x.n)++(⟨#[32]⟩:ByteArray))++DZ x.t)
 |14=>v=.s (((((((s++(⟨#[119,97,110,116,32]⟩:ByteArray))++x.k)++(⟨#[32]⟩:ByteArray))++x.n)++(⟨#[32]⟩:ByteArray))++DZ x.t)++(⟨#[10]⟩:ByteArray))
 |_=>True
theorem Ac4{p7 F9 FY F8 Ga FM Fz Fy FN Fv Gy Gx GO GI GQ Gw Gv Fu G9 Ha Hf Hd Hb Hc GL GK Hg In Ik Im:Value}(t0:Nat->Value)(b:Nat)(s:ByteArray)(x:Wt)(W:World)(FV:b<W.1.size)(Nr:W.cell? ⟨b,0,none⟩=some (.s x.k))(hc1:W.cell? ⟨b,1,none⟩=some (.s x.n))(MQ:W.cell? ⟨b,2,none⟩=some (.i x.t))(ju:0<=x.t)(hv1:x.t<=9223372036854775807)(hs:(s.size:Int)<=1099511627776)(hk:(x.k.size:Int)<=1048576)(hn:(x.n.size:Int)<=1048576)(hz:((DZ x.t).size:Int)<=1099511627776)(Dg:mk=λt=>#[p0,p1,p2,.s s,p4,.p b 0,p6,p7,p8,p9,Ea,Ee,Em,D1,DW,DN,DU,DX,DO,DP,DV,DT,D9,Ef,t 0,t 1,t 2,t 3,t 4,t 5,t 6,t 7,t 8,t 9,t 10,t 11,t 12,t 13,t 14,Er,EB,ER,ES,EQ,EC,ED,Eo,EW,EU,EK,EL,F9,FY,F8,Ga,FM,Fz,Fy,FN,Fv,Gy,Gx,GO,GI,GQ,Gw,Gv,Fu,G9,Ha,Hf,Hd,Hb,Hc,GL,GK,Hg,In,Ik,Im,Hj,He,G8,Hi,Hh,Ie,J8,Jr,Jp,Lj,Lh,Lf,J9,Kc,KL,KJ,KM,KN,KI,LJ,FE,Gb,Fi,EX,E0,EZ,EY,Fg,Fh])(Q:Exit->Act->World->Prop)(hQ:∀(t:Nat->Value) X,Below W.1.size W X->Q .normal ⟨#[p0,p1,p2,.s (s++NI x),p4,.p b 0,p6,p7,p8,p9,Ea,Ee,Em,D1,DW,DN,DU,DX,DO,DP,DV,DT,D9,Ef,t 0,t 1,t 2,t 3,t 4,t 5,t 6,t 7,t 8,t 9,t 10,t 11,t 12,t 13,t 14,Er,EB,ER,ES,EQ,EC,ED,Eo,EW,EU,EK,EL,F9,FY,F8,Ga,FM,Fz,Fy,FN,Fv,Gy,Gx,GO,GI,GQ,Gw,Gv,Fu,G9,Ha,Hf,Hd,Hb,Hc,GL,GK,Hg,In,Ik,Im,Hj,He,G8,Hi,Hh,Ie,J8,Jr,Jp,Lj,Lh,Lf,J9,Kc,KL,KJ,KM,KN,KI,LJ,FE,Gb,Fi,EX,E0,EZ,EY,Fg,Fh],[]⟩ X):Code.wp prog (rg Tryz.f82 6) Q ⟨mk t0,[]⟩ W:=by
 refine NK Zc 15 mk t0 (qh b s x W) (λa X=>∃(t:Nat->Value),a=⟨#[p0,p1,p2,.s (s++NI x),p4,.p b 0,p6,p7,p8,p9,Ea,Ee,Em,D1,DW,DN,DU,DX,DO,DP,DV,DT,D9,Ef,t 0,t 1,t 2,t 3,t 4,t 5,t 6,t 7,t 8,t 9,t 10,t 11,t 12,t 13,t 14,Er,EB,ER,ES,EQ,EC,ED,Eo,EW,EU,EK,EL,F9,FY,F8,Ga,FM,Fz,Fy,FN,Fv,Gy,Gx,GO,GI,GQ,Gw,Gv,Fu,G9,Ha,Hf,Hd,Hb,Hc,GL,GK,Hg,In,Ik,Im,Hj,He,G8,Hi,Hh,Ie,J8,Jr,Jp,Lj,Lh,Lf,J9,Kc,KL,KJ,KM,KN,KI,LJ,FE,Gb,Fi,EX,E0,EZ,EY,Fg,Fh],[]⟩/\Below W.1.size W X) Zc Zc Zc ?_ rfl ?_ ?_ ?_;all_goals subst Dg
 .intro i v X Y hi h hb;iterate 15 (rcases i with _|i;.first|exact h)
  omega
 .intro i hi t X K hb hg hK;rcases(dk i Za)with rfl|rfl|rfl|rfl|rfl|rfl|rfl|rfl|rfl|rfl|rfl|rfl|rfl|rfl|rfl;.exact sg
  .have AY:t 0=_:=hg 0 (AR rfl);exact RI
  .exact sg
  .exact a_
  .have AY:t 1=_:=hg 1 (AR rfl);have Ff:t 3=_:=hg 3 (AR rfl);exact U4
  .have AY:t 4=_:=hg 4 (AR rfl);exact RI
  .exact sg
  .have AY:t 6=_:=hg 6 (AR rfl);have c1:=(hb.cell (p:=⟨b,1,none⟩) FV).trans hc1;exact L7
  .have AY:t 5=_:=hg 5 (AR rfl);have Ff:t 7=_:=hg 7 (AR rfl);exact U4
  .have AY:t 8=_:=hg 8 (AR rfl);exact RI
  .exact sg
  .have AY:t 10=_:=hg 10 (AR rfl);have c2:=(hb.cell (p:=⟨b,2,none⟩) FV).trans MQ;exact L7
  .have AY:t 11=_:=hg 11 (AR rfl);refine Au rfl rfl ?_;have HK:=Ab hK;clear hK hg;go_simp;go_at_call 85;refine(Se x.t ju hv1 X).mono ?_;exact eK
  .have AY:t 9=_:=hg 9 (AR rfl);have Ff:t 12=_:=hg 12 (AR rfl);exact U4
  .have AY:t 13=_:=hg 13 (AR rfl);exact RI
 .intro t X K hb hg hK;have AY:t 14=_:=hg 14 Za;have h:=hK ⟨#[p0,p1,p2,.s (s++NI x),p4,.p b 0,p6,p7,p8,p9,Ea,Ee,Em,D1,DW,DN,DU,DX,DO,DP,DV,DT,D9,Ef,t 0,t 1,t 2,t 3,t 4,t 5,t 6,t 7,t 8,t 9,t 10,t 11,t 12,t 13,t 14,Er,EB,ER,ES,EQ,EC,ED,Eo,EW,EU,EK,EL,F9,FY,F8,Ga,FM,Fz,Fy,FN,Fv,Gy,Gx,GO,GI,GQ,Gw,Gv,Fu,G9,Ha,Hf,Hd,Hb,Hc,GL,GK,Hg,In,Ik,Im,Hj,He,G8,Hi,Hh,Ie,J8,Jr,Jp,Lj,Lh,Lf,J9,Kc,KL,KJ,KM,KN,KI,LJ,FE,Gb,Fi,EX,E0,EZ,EY,Fg,Fh],[]⟩ X ⟨t,rfl,hb⟩;rw[NI,<-jN]at h;exact fI
 .exact dY
def dz (b:Nat)(s:ByteArray)(x:Wr)(_W:World)(i:Nat)(v:Value)(_X:World):Prop:=match i with
 |0=>v=.s s
 |1=>v=.s (s++(⟨#[119,114,105,116,101,32]⟩:ByteArray))
 |2=>v=.p b 0
 |3=>v=.i x.op
 |4=>v=.s (DZ x.op)
 |5=>v=.s ((s++(⟨#[119,114,105,116,101,32]⟩:ByteArray))++DZ x.op)
 |6=>v=.s (((s++(⟨#[119,114,105,116,101,32]⟩:ByteArray))++DZ x.op)++(⟨#[32]⟩:ByteArray))
 |7=>v=.p b 1
 |8=>v=.s x.k
 |9=>v=.s ((((s++(⟨#[119,114,105,116,101,32]⟩:ByteArray))++DZ x.op)++(⟨#[32]⟩:ByteArray))++x.k)
 |10=>v=.s (((((s++(⟨#[119,114,105,116,101,32]⟩:ByteArray))++DZ x.op)++(⟨#[32]⟩:ByteArray))++x.k)++(⟨#[32]⟩:ByteArray))
 |11=>v=.p b 2
 |12=>v=.s x.n
 |13=>v=.s ((((((s++(⟨#[119,114,105,116,101,32]⟩:ByteArray))++DZ x.op)++(⟨#[32]⟩:ByteArray))++x.k)++(⟨#[32]⟩:ByteArray))++x.n)
 |14=>v=.s (((((((s++(⟨#[119,114,105,116,101,32]⟩:ByteArray))++DZ x.op)++(⟨#[32]⟩:ByteArray))++x.k)++(⟨#[32]⟩:ByteArray))++x.n)++(⟨#[32]⟩:ByteArray))
 |15=>v=.p b 3
 |16=>v=.i x.s
 |17=>v=.s (DZ x.s)
 |18=>v=.s ((((((((s++(⟨#[119,114,105,116,101,32]⟩:ByteArray))++DZ x.op)++(⟨#[32]⟩:ByteArray))++x.k)++(⟨#[32]⟩:ByteArray))++x.n)++(⟨#[32]⟩:ByteArray))++DZ x.s)
 |19=>v=.s (((((((((s++(⟨#[119,114,105,116,101,32]⟩:ByteArray))++DZ x.op)++(⟨#[32]⟩:ByteArray))++x.k)++(⟨#[32]⟩:ByteArray))++x.n)++(⟨#[32]⟩:ByteArray))++DZ x.s)++(⟨#[32]⟩:ByteArray))
 |20=>v=.p b 4
 |21=>v=.s x.m
 |22=>v=.s (⟨(YM x.m).toArray⟩:ByteArray)
 |23=>v=.s ((((((((((s++(⟨#[119,114,105,116,101,32]⟩:ByteArray))++DZ x.op)++(⟨#[32]⟩:ByteArray))++x.k)++(⟨#[32]⟩:ByteArray))++x.n)++(⟨#[32]⟩:ByteArray))++DZ x.s)++(⟨#[32]⟩:ByteArray))++(⟨(YM x.m).toArray⟩:ByteArray))
 |24=>v=.s (((((((((((s++(⟨#[119,114,105,116,101,32]⟩:ByteArray))++DZ x.op)++(⟨#[32]⟩:ByteArray))++x.k)++(⟨#[32]⟩:ByteArray))++x.n)++(⟨#[32]⟩:ByteArray))++DZ x.s)++(⟨#[32]⟩:ByteArray))++(⟨(YM x.m).toArray⟩:ByteArray))++(⟨#[32]⟩:ByteArray))
 |25=>v=.p b 5
 |26=>v=.s x.hold
 |27=>v=.s ((((((((((((s++(⟨#[119,114,105,116,101,32]⟩:ByteArray))++DZ x.op)++(⟨#[32]⟩:ByteArray))++x.k)++(⟨#[32]⟩:ByteArray))++x.n)++(⟨#[32]⟩:ByteArray))++DZ x.s)++(⟨#[32]⟩:ByteArray))++(⟨(YM x.m).toArray⟩:ByteArray))++(⟨#[32]⟩:ByteArray))++x.hold)
 |28=>v=.s (((((((((((((s++(⟨#[119,114,105,116,101,32]⟩:ByteArray))++DZ x.op)++(⟨#[32]⟩:ByteArray))++x.k)++(⟨#[32]⟩:ByteArray))++x.n)++(⟨#[32]⟩:ByteArray))++DZ x.s)++(⟨#[32]⟩:ByteArray))++(⟨(YM x.m).toArray⟩:ByteArray))++(⟨#[32]⟩:ByteArray))++x.hold)++(⟨#[10]⟩:ByteArray))
 |_=>True
theorem qg{p5 EJ Ej El Ei Ed Eh Ek Ey Ev Ew Ex EM EH EI EV:Value}(t0:Nat->Value)(b:Nat)(s:ByteArray)(x:Wr)(W:World)(FV:b<W.1.size)(Nr:W.cell? ⟨b,0,none⟩=some (.i x.op))(hc1:W.cell? ⟨b,1,none⟩=some (.s x.k))(MQ:W.cell? ⟨b,2,none⟩=some (.s x.n))(hc3:W.cell? ⟨b,3,none⟩=some (.i x.s))(hc4:W.cell? ⟨b,4,none⟩=some (.s x.m))(hc5:W.cell? ⟨b,5,none⟩=some (.s x.hold))(ho0:0<=x.op)(La:x.op<=9223372036854775807)(ju:0<=x.s)(hv1:x.s<=9223372036854775807)(hx:(x.m.size:Int)<=1099511627776)(hs:(s.size:Int)<=1099511627776)(C7:((DZ x.op).size:Int)<=1099511627776)(Fk:(x.k.size:Int)<=1099511627776)(YG:(x.n.size:Int)<=1099511627776)(hz4:((DZ x.s).size:Int)<=1099511627776)(hz5:((YM x.m).length:Int)<=1099511627776)(hz6:(x.hold.size:Int)<=1099511627776)(Dg:mk=λt=>#[p0,p1,p2,.s s,p4,p5,p6,.p b 0,p8,p9,Ea,Ee,Em,D1,DW,DN,DU,DX,DO,DP,DV,DT,D9,Ef,EJ,Ej,El,Ei,Ed,Eh,Ek,Ey,Ev,Ew,Ex,EM,EH,EI,EV,Er,EB,ER,ES,EQ,EC,ED,Eo,EW,EU,EK,EL,t 0,t 1,t 2,t 3,t 4,t 5,t 6,t 7,t 8,t 9,t 10,t 11,t 12,t 13,t 14,t 15,t 16,t 17,t 18,t 19,t 20,t 21,t 22,t 23,t 24,t 25,t 26,t 27,t 28,Hj,He,G8,Hi,Hh,Ie,J8,Jr,Jp,Lj,Lh,Lf,J9,Kc,KL,KJ,KM,KN,KI,LJ,FE,Gb,Fi,EX,E0,EZ,EY,Fg,Fh])(Q:Exit->Act->World->Prop)(hQ:∀(t:Nat->Value) X,Below W.1.size W X->Q .normal ⟨#[p0,p1,p2,.s (s++NO x),p4,p5,p6,.p b 0,p8,p9,Ea,Ee,Em,D1,DW,DN,DU,DX,DO,DP,DV,DT,D9,Ef,EJ,Ej,El,Ei,Ed,Eh,Ek,Ey,Ev,Ew,Ex,EM,EH,EI,EV,Er,EB,ER,ES,EQ,EC,ED,Eo,EW,EU,EK,EL,t 0,t 1,t 2,t 3,t 4,t 5,t 6,t 7,t 8,t 9,t 10,t 11,t 12,t 13,t 14,t 15,t 16,t 17,t 18,t 19,t 20,t 21,t 22,t 23,t 24,t 25,t 26,t 27,t 28,Hj,He,G8,Hi,Hh,Ie,J8,Jr,Jp,Lj,Lh,Lf,J9,Kc,KL,KJ,KM,KN,KI,LJ,FE,Gb,Fi,EX,E0,EZ,EY,Fg,Fh],[]⟩ X):Code.wp prog (rg Tryz.f82 11) Q ⟨mk t0,[]⟩ W:=by
 refine NK Zc 29 mk t0 (dz b s x W) (λa X=>∃(t:Nat->Value),a=⟨#[p0,p1,p2,.s (s++NO x),p4,p5,p6,.p b 0,p8,p9,Ea,Ee,Em,D1,DW,DN,DU,DX,DO,DP,DV,DT,D9,Ef,EJ,Ej,El,Ei,Ed,Eh,Ek,Ey,Ev,Ew,Ex,EM,EH,EI,EV,Er,EB,ER,ES,EQ,EC,ED,Eo,EW,EU,EK,EL,t 0,t 1,t 2,t 3,t 4,t 5,t 6,t 7,t 8,t 9,t 10,t 11,t 12,t 13,t 14,t 15,t 16,t 17,t 18,t 19,t 20,t 21,t 22,t 23,t 24,t 25,t 26,t 27,t 28,Hj,He,G8,Hi,Hh,Ie,J8,Jr,Jp,Lj,Lh,Lf,J9,Kc,KL,KJ,KM,KN,KI,LJ,FE,Gb,Fi,EX,E0,EZ,EY,Fg,Fh],[]⟩/\Below W.1.size W X) Zc Zc Zc ?_ rfl ?_ ?_ ?_;all_goals subst Dg
 .intro i v X Y hi h hb;iterate 29 (rcases i with _|i;.first|exact h)
  omega
 .intro i hi t X K hb hg hK;rcases(show i=0\/i=1\/i=2\/i=3\/i=4\/i=5\/i=6\/i=7\/i=8\/i=9\/i=10\/i=11\/i=12\/i=13\/i=14\/i=15\/i=16\/i=17\/i=18\/i=19\/i=20\/i=21\/i=22\/i=23\/i=24\/i=25\/i=26\/i=27\/i=28 by omega)with rfl|rfl|rfl|rfl|rfl|rfl|rfl|rfl|rfl|rfl|rfl|rfl|rfl|rfl|rfl|rfl|rfl|rfl|rfl|rfl|rfl|rfl|rfl|rfl|rfl|rfl|rfl|rfl|rfl;.exact sg
  .have AY:t 0=_:=hg 0 (AR rfl);exact RI
  .exact sg
  .exact a_
  .have AY:t 3=_:=hg 3 (AR rfl);refine Au rfl rfl ?_;have HK:=Ab hK;clear hK hg;go_simp;go_at_call 85;refine(Se x.op ho0 La X).mono ?_;exact eK
  .have AY:t 1=_:=hg 1 (AR rfl);have Ff:t 4=_:=hg 4 (AR rfl);exact U4
  .have AY:t 5=_:=hg 5 (AR rfl);exact RI
  .exact sg
  .have AY:t 7=_:=hg 7 (AR rfl);have c1:=(hb.cell (p:=⟨b,1,none⟩) FV).trans hc1;exact L7
  .have AY:t 6=_:=hg 6 (AR rfl);have Ff:t 8=_:=hg 8 (AR rfl);exact U4
  .have AY:t 9=_:=hg 9 (AR rfl);exact RI
  .exact sg
  .have AY:t 11=_:=hg 11 (AR rfl);have c2:=(hb.cell (p:=⟨b,2,none⟩) FV).trans MQ;exact L7
  .have AY:t 10=_:=hg 10 (AR rfl);have Ff:t 12=_:=hg 12 (AR rfl);exact U4
  .have AY:t 13=_:=hg 13 (AR rfl);exact RI
  .exact sg
  .have AY:t 15=_:=hg 15 (AR rfl);have c3:=(hb.cell (p:=⟨b,3,none⟩) FV).trans hc3;exact L7
  .have AY:t 16=_:=hg 16 (AR rfl);refine Au rfl rfl ?_;have HK:=Ab hK;clear hK hg;go_simp;go_at_call 85;refine(Se x.s ju hv1 X).mono ?_;exact eK
  .have AY:t 14=_:=hg 14 (AR rfl);have Ff:t 17=_:=hg 17 (AR rfl);exact U4
  .have AY:t 18=_:=hg 18 (AR rfl);exact RI
  .exact sg
  .have AY:t 20=_:=hg 20 (AR rfl);have c4:=(hb.cell (p:=⟨b,4,none⟩) FV).trans hc4;exact L7
  .have AY:t 21=_:=hg 21 (AR rfl);refine Au rfl rfl ?_;have HK:=Ab hK;clear hK hg;go_simp;go_at_call 104;refine(i4 x.m X hx).mono ?_;exact eK
  .have AY:t 19=_:=hg 19 (AR rfl);have Ff:t 22=_:=hg 22 (AR rfl);exact U4
  .have AY:t 23=_:=hg 23 (AR rfl);exact RI
  .exact sg
  .have AY:t 25=_:=hg 25 (AR rfl);have c5:=(hb.cell (p:=⟨b,5,none⟩) FV).trans hc5;exact L7
  .have AY:t 24=_:=hg 24 (AR rfl);have Ff:t 26=_:=hg 26 (AR rfl);exact U4
  .have AY:t 27=_:=hg 27 (AR rfl);exact RI
 .intro t X K hb hg hK;have AY:t 28=_:=hg 28 Za;have h:=hK ⟨#[p0,p1,p2,.s (s++NO x),p4,p5,p6,.p b 0,p8,p9,Ea,Ee,Em,D1,DW,DN,DU,DX,DO,DP,DV,DT,D9,Ef,EJ,Ej,El,Ei,Ed,Eh,Ek,Ey,Ev,Ew,Ex,EM,EH,EI,EV,Er,EB,ER,ES,EQ,EC,ED,Eo,EW,EU,EK,EL,t 0,t 1,t 2,t 3,t 4,t 5,t 6,t 7,t 8,t 9,t 10,t 11,t 12,t 13,t 14,t 15,t 16,t 17,t 18,t 19,t 20,t 21,t 22,t 23,t 24,t 25,t 26,t 27,t 28,Hj,He,G8,Hi,Hh,Ie,J8,Jr,Jp,Lj,Lh,Lf,J9,Kc,KL,KJ,KM,KN,KI,LJ,FE,Gb,Fi,EX,E0,EZ,EY,Fg,Fh],[]⟩ X ⟨t,rfl,hb⟩;rw[NO,<-aU]at h;exact fI
 .exact dY
structure yS (u:Bu):Prop where
 w:∀i,i<u.wn->((u.ws i).k.size:Int)<=1048576/\((u.ws i).n.size:Int)<=1048576/\0<=(u.ws i).t/\(u.ws i).t<=9223372036854775807/\((NT [⟨#[119,97,110,116]⟩,(u.ws i).k,(u.ws i).n,DZ (u.ws i).t]).length:Int)<=1000000000000/\((NI (u.ws i)).size:Int)<=1099511627776
 r:∀i,i<u.rn->0<=(u.rs i).op/\(u.rs i).op<=9223372036854775807/\0<=(u.rs i).s/\(u.rs i).s<=9223372036854775807/\((u.rs i).m.size:Int)<=1099511627776/\((NT [⟨#[119,114,105,116,101]⟩,DZ (u.rs i).op,(u.rs i).k,(u.rs i).n,DZ (u.rs i).s,⟨(YM (u.rs i).m).toArray⟩,(u.rs i).hold]).length:Int)<=1000000000000/\((NO (u.rs i)).size:Int)<=1099511627776
def Aba (x:Bu):Prop:=(∀k,k<=x.wn->((cU x k).size:Int)<=1099511627776)/\(∀k,k<=x.rn->((iG x k).size:Int)<=1099511627776)
theorem Mb (x:Bu)(ua ub:OA)(d1 d2:Nat)(w:World)(lo hi:Nat)(CD:hi<=w.1.size)(hu:MM x)(hp:yS x)(hx:Aba x)(hc:IX w lo hi x ua ub):Calls prog 82 #[.agg (vU x ua ub d1 d2)] w λe w'=>e=.returned (.s (M6 x))/\Below w.1.size w w':=by
 obtain⟨i0,Fq,GH,C7,Fk⟩:=info_parts Ng;have hw:=hu.w;have hr:=hu.r;have HP:=Ab hp;have HC:=Ab hc;have HX:=Ab hx;clear hu hc hp hx;have hq:GB (w.alloc (.cells (vU x ua ub d1 d2) 118)) w.1.size (vUl x ua ub d1 d2):=λj hj=>by rw[Al];rcases(show j=0\/j=1 by simp at hj;omega)with rfl|rfl<;>rfl
 have hb:=Ak w (.cells (vU x ua ub d1 d2) 118);have hz:w.1.size<(w.alloc (.cells (vU x ua ub d1 d2) 118)).1.size:=Ze;go_enter func82,ntmps82;go_upto_region 1 with fail;generalize(w.alloc (.cells (vU x ua ub d1 d2) 118))=W1 at hq hb hz⊢;have HQ:=Ab hq;have HB:=Ab hb;clear hq hb;go_wp2;go_loopw[3,4](λv i wr=>∃k:Nat,k<=x.wn/\i=.i k/\v=.s (cU x k)/\w.1.size<wr.1.size/\Hid (GB wr w.1.size (vUl x ua ub d1 d2))/\Hid (Below w.1.size w wr))(λ_ i _=>x.wn-(intOf i).toNat);case atStart=>exact⟨0,Ar _,rfl,rfl,hz,HQ,HB⟩
 case round=>
  clear HQ HB hz;obtain⟨k,hk,rfl,rfl,hz,HQ,HB⟩:=hrel;have q0:=HQ.out 0 Ze;simp only[AV,Ac]at q0;by_cases B7:k<x.wn;.obtain⟨b,off,Un,Gc,Ja,Dh⟩:=HC.wt k B7;subst Un;obtain⟨e0,e1,e2⟩:=Dh.below HB Za;clear Dh;have zb:=HB.size;obtain⟨f0,f1,f2,f3,f4,f5⟩:=HP.w k B7;have fs:=HX.out.1 k hk;have fz:=dV (x.ws k);go_wp2;refine Ac4 (λi=>[u24,u25,u26,u27,u28,u29,u30,u31,u32,u33,u34,u35,u36,u37,u38].getD i undef) wr.1.size (cU x k) (x.ws k) (wr.alloc (.cells #[.s (x.ws k).k,.s (x.ws k).n,.i (x.ws k).t] 146)) Ze pf pf pf f2 f3 fs f0 f1 Za rfl _ ?_;intro t X Jc;have zX:=Jc.size;have HQ2:=Ab ((HQ.below Do hz).below Jc Zd);have YS:=Ab ((HB.trans ((Ak wr (.cells #[.s (x.ws k).k,.s (x.ws k).n,.i (x.ws k).t] 146)).mono zb)).trans (Jc.mono Zd));clear q0;exact yh
  .have hkw:k=x.wn:=Za;subst hkw;go_wp2;clear q0;go_loopw[3,6](λv i wr=>∃k:Nat,k<=x.rn/\i=.i k/\v=.s (iG x k)/\w.1.size<wr.1.size/\Hid (GB wr w.1.size (vUl x ua ub d1 d2))/\Hid (Below w.1.size w wr))(λ_ i _=>x.rn-(intOf i).toNat);case atStart=>exact⟨0,Ar _,rfl,rfl,hz,HQ,HB⟩
   case round=>
    clear HQ HB hz;obtain⟨k,hk,rfl,rfl,hz,HQ,HB⟩:=hrel;have q1:=HQ.out 1 Ze;simp only[AV,Ac,Ad]at q1;by_cases B7:k<x.rn;.obtain⟨b,off,Un,Gc,Ja,Dh⟩:=HC.wr k B7;subst Un;obtain⟨e0,e1,e2,e3,e4,e5⟩:=Dh.below HB Za;clear Dh;have zb:=HB.size;obtain⟨f0,f1,f2,f3,f4,f5,f6⟩:=HP.r k B7;have fs:=HX.out.2 k hk;have fz:=eT (x.rs k);go_wp2;refine qg (λi=>[u51,u52,u53,u54,u55,u56,u57,u58,u59,u60,u61,u62,u63,u64,u65,u66,u67,u68,u69,u70,u71,u72,u73,u74,u75,u76,u77,u78,u79].getD i undef) wr.1.size (iG x k) (x.rs k) (wr.alloc (.cells (vW (x.rs k)) 76)) Ze pf pf pf pf pf pf f0 f1 f2 f3 f4 fs Za Za Za Za Za Za rfl _ ?_;intro t X Jc;have zX:=Jc.size;have HQ2:=Ab ((HQ.below Do hz).below Jc Zd);have YS:=Ab ((HB.trans ((Ak wr (.cells (vW (x.rs k)) 76)).mono zb)).trans (Jc.mono Zd));clear q1;exact yh
    .have hkw:k=x.rn:=Za;subst hkw;have bd:=Abq x x.rn;have HV:=Ab (show M6 x=⟨(LF (smR x x.rn)).toArray⟩from rfl);have HS:=Ab (wS x x.rn);have fs:=HX.out.2 _ hk;clear hw hr;generalize iG x x.rn=s at HS fs⊢;generalize smR x x.rn=y at HS HV bd;go_wp2;clear q1;go_loopw[8,9](λv i wr'=>∃k:Nat,k<=s.size/\i=.i k/\v=.int .u64 (OP 14695981039346656037 (s.data.toList.take k))/\wr'=wr)(λ_ i _=>s.size-(intOf i).toNat);case atStart=>exact⟨0,Ar _,rfl,rfl,rfl⟩
     case round=>
      obtain⟨k,hk,rfl,rfl,rfl⟩:=hrel;by_cases B7:k<s.size;.have STEP:=Ab (jE 14695981039346656037 s k B7);go_wp2;exact⟨⟨k+1,Za,by go_num,by rw[STEP.out];rfl,trivial⟩,by simp[intOf];omega⟩
      .have hks:k=s.size:=Za;subst hks;have HT:=Ab (show OP 14695981039346656037 (s.data.toList.take s.size)=y by rw[HS.out,List.take_of_length_le Ze]);rw[HT.out];clear HS HT bd fs;go_wp2;go_loopw[10,11](λv i wr'=>∃m:Nat,m<=8/\i=.i (7-(m:Int))/\Hid (Gl wr' w.1.size v ((LF y).take m))/\Hid (Below w.1.size w wr'))(λ_ i _=>(intOf i+1).toNat);case atStart=>exact⟨0,Ar _,rfl,Ab (World.ownsRow_lit wr #[] 0 HB.size Zl rfl),Ab (HB.alloc HB.size _)⟩
       case round=>
        clear HB HQ hz;obtain⟨m,hm,rfl,Pi,HB⟩:=hrel;by_cases ll:m<8
        .have zb:=HB.size;rcases(jh m Za)with rfl|rfl|rfl|rfl|rfl|rfl|rfl|rfl
         .have hβ:y/72057594037927936%256=((Mq y 7).toNat:Int):=by rw[Ki];unfold kM;simp
          have STEP:=Ab (show(LF y).take 1=(LF y).take 0++[Mq y 7]from rfl);have hl:((LF y).take 0).length=0:=rfl;obtain⟨L,hL⟩:∃L,(LF y).take 0=L:=⟨_,rfl⟩;rw[hL]at Pi hl STEP;generalize Mq y 7=β at hβ STEP;have HO:=Ab (Pi.alloc (.cells #[.int .u8 (β.toNat:Int)] 5));clear Pi hL HV;go_wp2_with (at_builtin;go_must(refine wpList_append_own _ rfl _ _ 22 rfl w.1.size 5 i0 (.int .u8 0) 1 1 underlying22 Fq GH C7 Fk rfl Zb _ _ _ rfl HO ⟨wr.1.size,0,none⟩ 1 1 (Lib.byteCells [β]) rfl rfl (D2 wr _ 5) Zr Zl Za Zq ?_;intro v2 w2 BH Bm _));have B2:=Ab (E6 (HB.alloc HB.size _) A9 Zq HO Bm);have O2:Gl w2 w.1.size v2 (L++[β]):=Gl.app BH;go_roundw;case rel=>exact⟨1,Za,by go_num,Ab yx,B2⟩
          case measure=>simp[intOf]
         .have hβ:y/281474976710656%256=((Mq y 6).toNat:Int):=by rw[Ki];unfold kM;simp
          have STEP:=Ab (show(LF y).take 2=(LF y).take 1++[Mq y 6]from rfl);have hl:((LF y).take 1).length=1:=rfl;obtain⟨L,hL⟩:∃L,(LF y).take 1=L:=⟨_,rfl⟩;rw[hL]at Pi hl STEP;generalize Mq y 6=β at hβ STEP;have HO:=Ab (Pi.alloc (.cells #[.int .u8 (β.toNat:Int)] 5));clear Pi hL HV;go_wp2_with (at_builtin;go_must(refine wpList_append_own _ rfl _ _ 22 rfl w.1.size 5 i0 (.int .u8 0) 1 1 underlying22 Fq GH C7 Fk rfl Zb _ _ _ rfl HO ⟨wr.1.size,0,none⟩ 1 1 (Lib.byteCells [β]) rfl rfl (D2 wr _ 5) Zr Zl Za Zq ?_;intro v2 w2 BH Bm _));have B2:=Ab (E6 (HB.alloc HB.size _) A9 Zq HO Bm);have O2:Gl w2 w.1.size v2 (L++[β]):=Gl.app BH;go_roundw;case rel=>exact⟨2,Za,by go_num,Ab yx,B2⟩
          case measure=>simp[intOf]
         .have hβ:y/1099511627776%256=((Mq y 5).toNat:Int):=by rw[Ki];unfold kM;simp
          have STEP:=Ab (show(LF y).take 3=(LF y).take 2++[Mq y 5]from rfl);have hl:((LF y).take 2).length=2:=rfl;obtain⟨L,hL⟩:∃L,(LF y).take 2=L:=⟨_,rfl⟩;rw[hL]at Pi hl STEP;generalize Mq y 5=β at hβ STEP;have HO:=Ab (Pi.alloc (.cells #[.int .u8 (β.toNat:Int)] 5));clear Pi hL HV;go_wp2_with (at_builtin;go_must(refine wpList_append_own _ rfl _ _ 22 rfl w.1.size 5 i0 (.int .u8 0) 1 1 underlying22 Fq GH C7 Fk rfl Zb _ _ _ rfl HO ⟨wr.1.size,0,none⟩ 1 1 (Lib.byteCells [β]) rfl rfl (D2 wr _ 5) Zr Zl Za Zq ?_;intro v2 w2 BH Bm _));have B2:=Ab (E6 (HB.alloc HB.size _) A9 Zq HO Bm);have O2:Gl w2 w.1.size v2 (L++[β]):=Gl.app BH;go_roundw;case rel=>exact⟨3,Za,by go_num,Ab yx,B2⟩
          case measure=>simp[intOf]
         .have hβ:y/4294967296%256=((Mq y 4).toNat:Int):=by rw[Ki];unfold kM;simp
          have STEP:=Ab (show(LF y).take 4=(LF y).take 3++[Mq y 4]from rfl);have hl:((LF y).take 3).length=3:=rfl;obtain⟨L,hL⟩:∃L,(LF y).take 3=L:=⟨_,rfl⟩;rw[hL]at Pi hl STEP;generalize Mq y 4=β at hβ STEP;have HO:=Ab (Pi.alloc (.cells #[.int .u8 (β.toNat:Int)] 5));clear Pi hL HV;go_wp2_with (at_builtin;go_must(refine wpList_append_own _ rfl _ _ 22 rfl w.1.size 5 i0 (.int .u8 0) 1 1 underlying22 Fq GH C7 Fk rfl Zb _ _ _ rfl HO ⟨wr.1.size,0,none⟩ 1 1 (Lib.byteCells [β]) rfl rfl (D2 wr _ 5) Zr Zl Za Zq ?_;intro v2 w2 BH Bm _));have B2:=Ab (E6 (HB.alloc HB.size _) A9 Zq HO Bm);have O2:Gl w2 w.1.size v2 (L++[β]):=Gl.app BH;go_roundw;case rel=>exact⟨4,Za,by go_num,Ab yx,B2⟩
          case measure=>simp[intOf]
         .have hβ:y/16777216%256=((Mq y 3).toNat:Int):=by rw[Ki];unfold kM;simp
          have STEP:=Ab (show(LF y).take 5=(LF y).take 4++[Mq y 3]from rfl);have hl:((LF y).take 4).length=4:=rfl;obtain⟨L,hL⟩:∃L,(LF y).take 4=L:=⟨_,rfl⟩;rw[hL]at Pi hl STEP;generalize Mq y 3=β at hβ STEP;have HO:=Ab (Pi.alloc (.cells #[.int .u8 (β.toNat:Int)] 5));clear Pi hL HV;go_wp2_with (at_builtin;go_must(refine wpList_append_own _ rfl _ _ 22 rfl w.1.size 5 i0 (.int .u8 0) 1 1 underlying22 Fq GH C7 Fk rfl Zb _ _ _ rfl HO ⟨wr.1.size,0,none⟩ 1 1 (Lib.byteCells [β]) rfl rfl (D2 wr _ 5) Zr Zl Za Zq ?_;intro v2 w2 BH Bm _));have B2:=Ab (E6 (HB.alloc HB.size _) A9 Zq HO Bm);have O2:Gl w2 w.1.size v2 (L++[β]):=Gl.app BH;go_roundw;case rel=>exact⟨5,Za,by go_num,Ab yx,B2⟩
          case measure=>simp[intOf]
         .have hβ:y/65536%256=((Mq y 2).toNat:Int):=by rw[Ki];unfold kM;simp
          have STEP:=Ab (show(LF y).take 6=(LF y).take 5++[Mq y 2]from rfl);have hl:((LF y).take 5).length=5:=rfl;obtain⟨L,hL⟩:∃L,(LF y).take 5=L:=⟨_,rfl⟩;rw[hL]at Pi hl STEP;generalize Mq y 2=β at hβ STEP;have HO:=Ab (Pi.alloc (.cells #[.int .u8 (β.toNat:Int)] 5));clear Pi hL HV;go_wp2_with (at_builtin;go_must(refine wpList_append_own _ rfl _ _ 22 rfl w.1.size 5 i0 (.int .u8 0) 1 1 underlying22 Fq GH C7 Fk rfl Zb _ _ _ rfl HO ⟨wr.1.size,0,none⟩ 1 1 (Lib.byteCells [β]) rfl rfl (D2 wr _ 5) Zr Zl Za Zq ?_;intro v2 w2 BH Bm _));have B2:=Ab (E6 (HB.alloc HB.size _) A9 Zq HO Bm);have O2:Gl w2 w.1.size v2 (L++[β]):=Gl.app BH;go_roundw;case rel=>exact⟨6,Za,by go_num,Ab yx,B2⟩
          case measure=>simp[intOf]
         .have hβ:y/256%256=((Mq y 1).toNat:Int):=by rw[Ki];unfold kM;simp
          have STEP:=Ab (show(LF y).take 7=(LF y).take 6++[Mq y 1]from rfl);have hl:((LF y).take 6).length=6:=rfl;obtain⟨L,hL⟩:∃L,(LF y).take 6=L:=⟨_,rfl⟩;rw[hL]at Pi hl STEP;generalize Mq y 1=β at hβ STEP;have HO:=Ab (Pi.alloc (.cells #[.int .u8 (β.toNat:Int)] 5));clear Pi hL HV;go_wp2_with (at_builtin;go_must(refine wpList_append_own _ rfl _ _ 22 rfl w.1.size 5 i0 (.int .u8 0) 1 1 underlying22 Fq GH C7 Fk rfl Zb _ _ _ rfl HO ⟨wr.1.size,0,none⟩ 1 1 (Lib.byteCells [β]) rfl rfl (D2 wr _ 5) Zr Zl Za Zq ?_;intro v2 w2 BH Bm _));have B2:=Ab (E6 (HB.alloc HB.size _) A9 Zq HO Bm);have O2:Gl w2 w.1.size v2 (L++[β]):=Gl.app BH;go_roundw;case rel=>exact⟨7,Za,by go_num,Ab yx,B2⟩
          case measure=>simp[intOf]
         .have hβ:y%256=((Mq y 0).toNat:Int):=by rw[Ki];unfold kM;simp
          have STEP:=Ab (show(LF y).take 8=(LF y).take 7++[Mq y 0]from rfl);have hl:((LF y).take 7).length=7:=rfl;obtain⟨L,hL⟩:∃L,(LF y).take 7=L:=⟨_,rfl⟩;rw[hL]at Pi hl STEP;generalize Mq y 0=β at hβ STEP;have HO:=Ab (Pi.alloc (.cells #[.int .u8 (β.toNat:Int)] 5));clear Pi hL HV;go_wp2_with (at_builtin;go_must(refine wpList_append_own _ rfl _ _ 22 rfl w.1.size 5 i0 (.int .u8 0) 1 1 underlying22 Fq GH C7 Fk rfl Zb _ _ _ rfl HO ⟨wr.1.size,0,none⟩ 1 1 (Lib.byteCells [β]) rfl rfl (D2 wr _ 5) Zr Zl Za Zq ?_;intro v2 w2 BH Bm _));have B2:=Ab (E6 (HB.alloc HB.size _) A9 Zq HO Bm);have O2:Gl w2 w.1.size v2 (L++[β]):=Gl.app BH;go_roundw;case rel=>exact⟨8,Za,by go_num,Ab yx,B2⟩
          case measure=>simp[intOf]
        .have hm8:m=8:=Za;subst hm8;have Qv:=Uk Pi (by simp[LF]);rw[show(LF y).take 8=LF y from rfl]at Qv;clear Pi;go_wp2;go_ret;exact⟨by rw[HV.out];rfl,HB⟩
theorem dG:∀(k u:Nat),u<10^(k+1)->Lib.nDigits u<=k+1
 |0,u,h=>by rw[Lib.nDigits_small (by simpa using h)];exact AG _
 |k+1,u,h=>by
  by_cases h0:u<10;.rw[Lib.nDigits_small h0];omega
  .rw[Lib.nDigits_big h0];have h2:10^(k+1+1)=10^(k+1)*10:=Nat.pow_succ 10 (k+1);have:=dG k (u/10) Za;omega
theorem ON{n:Int}(h:n<=9223372036854775807):(DZ n).size<=20:=by
 have e:(DZ n).size=(Lib.decDigits n.toNat).length:=by simp[DZ,ByteArray.size]
 rw[e,Lib.decDigits_length];exact dG 19 _ Za
theorem mw (s:ByteArray):(YM s).length<=3*s.size+2:=by have:=NF s s.size;unfold YM;simp;omega
theorem z' (h:ZY x=true):x.k.size<=20/\x.n.size<=20/\0<=x.t:=by unfold ZY at h;simp only[As,decide_eq_true_eq]at h;exact⟨JE h.1,JE h.2.1,h.2.2⟩
theorem wo{x:Wr}(h:N7 x=true):x.k.size<=20/\x.n.size<=20/\0<=x.s/\x.m.size<=300/\x.hold.size<=20/\0<=x.op/\x.op<=5:=by
 unfold N7 WY at h;simp only[As,decide_eq_true_eq,Jo]at h;obtain⟨⟨h1,h2,h3,h4,h5⟩,h6⟩:=h;refine⟨JE h1,JE h2,h3,h4,?_,?_⟩
 .rcases h5 with q|q
  .have:x.hold=⟨#[]⟩:=of_decide_eq_true q;rw[this];decide
  .exact JE q
 .unfold QT at h6;by_cases e1:x.op=1;.omega
  by_cases e2:x.op=2;.omega
  by_cases e3:x.op=3;.omega
  by_cases e4:x.op=4;.omega
  by_cases e5:x.op=5;.omega
  rw[if_neg e1,if_neg e2,if_neg e3,if_neg e4,if_neg e5]at h6;cases h6
theorem XC (h:ZY x=true)(hv:x.t<=9223372036854775807):(NI x).size<=100:=by obtain⟨h1,h2,h3⟩:=z' h;have h4:=ON hv;rw[dV];omega
theorem Xz{x:Wr}(h:N7 x=true)(hv:x.s<=9223372036854775807):(NO x).size<=1200:=by obtain⟨h1,h2,h3,h4,h5,h6,h7⟩:=wo h;have h8:=ON hv;have h9:=ON (n:=x.op) Za;have h10:=mw x.m;rw[eT];omega
theorem XT (xs:List ByteArray):(NT xs).length+1=(LY xs).size:=by have h:=congrArg List.length (JI xs);have e:(LY xs).size=(LY xs).data.toList.length:=Ze;rw[e,h];simp
theorem yO (hb:Xm u)(hi:TF u):yS u:=by
 refine⟨λi h=>?_,λi h=>?_⟩;.obtain⟨h1,h2,h3⟩:=z' (hb.ws i h);have h4:=XC (hb.ws i h) (hi.w i h);have h5:=XT [⟨#[119,97,110,116]⟩,(u.ws i).k,(u.ws i).n,DZ (u.ws i).t];have h6:(LY [⟨#[119,97,110,116]⟩,(u.ws i).k,(u.ws i).n,DZ (u.ws i).t]).size<=100:=h4;exact⟨Za,Za,h3,hi.w i h,Za,Za⟩
 .obtain⟨h1,h2,h3,h4,h5,h6,h7⟩:=wo (hb.rs i h);have h8:=Xz (hb.rs i h) (hi.r i h);have h9:=XT [⟨#[119,114,105,116,101]⟩,DZ (u.rs i).op,(u.rs i).k,(u.rs i).n,DZ (u.rs i).s,⟨(YM (u.rs i).m).toArray⟩,(u.rs i).hold];have h10:(LY [⟨#[119,114,105,116,101]⟩,DZ (u.rs i).op,(u.rs i).k,(u.rs i).n,DZ (u.rs i).s,⟨(YM (u.rs i).m).toArray⟩,(u.rs i).hold]).size<=1200:=h8;exact⟨h6,Za,h3,hi.r i h,Za,Za,Za⟩
theorem aM{u:Bu}(hb:Xm u)(hi:TF u):∀k,k<=u.wn->(cU u k).size<=100*k
 |0,_=>AG _
 |k+1,h=>by
  have h1:=aM hb hi k Za;have h2:=XC (hb.ws k Za) (hi.w k Za);have e:(cU u (k+1)).size=(cU u k).size+(NI (u.ws k)).size:=by simp[cU]
  omega
theorem ai{u:Bu}(hb:Xm u)(hi:TF u):∀k,k<=u.rn->(iG u k).size<=1000+1200*k
 |0,_=>by have h1:=aM hb hi u.wn A9;have:=hb.wn;show(cU u u.wn).size<=_;omega
 |k+1,h=>by
  have h1:=ai hb hi k Za;have h2:=Xz (hb.rs k Za) (hi.r k Za);have e:(iG u (k+1)).size=(iG u k).size+(NO (u.rs k)).size:=by simp[iG]
  omega
theorem mp (hb:Xm u)(hi:TF u):Aba u:=by have h1:=hb.wn;have h2:=hb.rn;exact⟨λk h=>by have:=aM hb hi k h;omega,λk h=>by have:=ai hb hi k h;omega⟩
end Go.Proofs.YtdknjmgdgnmhjaaGreat
